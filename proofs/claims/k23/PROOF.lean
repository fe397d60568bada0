import PyProof.Rows.All
import Wide.All
import OpenK.AllK
import Wide.FinOn
import Lean
import PyProof.EqAt
import PyProof.EqKinds
import PyProof.TupleCall
import PyProof.NeKinds
import PyProof.IsRules
import PyProof.CompFree
import KE.LcSums
import PyProof.FactsAll.range_1
import PyProof.SeqRoads2
import KE.KRevSl
import PyProof.ZipIter
import PyProof.TupleIter
import PyProof.FitsBits
import PyProof.NoPylong
import KE.IntBitsLaws
import PyProof.CompMap
import PyProof.AutoSeq1
import PyProof.SeqInW
import KE.KDictList
import PyProof.Rows.TupDisplay
import KE.KSortTup
import PyProof.ListMulRoad
import PyProof.Rows.SumAny
import PyProof.StrLawsOcc
import PyProof.FitsReplace
import PyProof.CollectIter
import PyProof.Rows.CountFlat
import PySem.Challenge.RW_arcmill_k23_sixty_rows
set_option Elab.async false
set_option linter.all false
set_option bootstrap.genMatcherCode false
set_option maxRecDepth 100000
open List (range mem_cons_self mem_cons_of_mem mem_append_left mem_append_right append_nil replicate length_take getElem?_append_right getElem?_append_left getElem?_map mem_of_getElem? length_append length_map size_toArray length_singleton map_nil map_cons length_cons take_zero length_set getElem?_set all_cons all_map drop_zero take_of_length_le lookup_cons cons_append nil_append mem_cons not_mem_nil length_nil append_assoc range' range'_succ map sum_cons mem_map_of_mem foldl_cons take_length any_cons map_append all_eq_true sum_append nodup_append any_nil Nodup dropLast_concat foldl_nil foldl_append foldl nodup_cons map_map)
open PySem.W (instObj methodObj Frag lookIn findIn mroIn kitOne kia_one kitx_list keepIn callWith_K fnOf codeIn excIn exmOne kitAny KeysLit nsIn mapOf_K find_K mg_of typeIn clsIn mg_none_of)
namespace L2
open PySem PySem.Spec PyProof.Rows
noncomputable abbrev Key:=Sum Int Str
noncomputable def aI6:Key->Value->Bool
 | .inl k,v=>Value.isInt k v
 | .inr x,v=>Value.isStrOf x v
noncomputable def aOH (w:World):Key->Int
 | .inl k=>hashInt k
 | .inr x=>hashStr w x
theorem eL:∀ {k:Key} {v:Value},aI6 k v = true->(∃ i t,k = Sum.inl i/\v = Value.int i t) ∨ (∃ x t,k = Sum.inr x/\v = Value.str x t)
 | .inl i,v,h=>by
  obtain ⟨t,e⟩:=Value.isInt_shape (k:=i) (v:=v) h
  exact .inl ⟨i,t,rfl,e⟩
 | .inr x,v,h=>by
  obtain ⟨t,e⟩:=Value.isStrOf_shape (x:=x) (v:=v) h
  exact .inr ⟨x,t,rfl,e⟩
theorem aKs (a b:Int):decide ((Sum.inl a:Key) = Sum.inl b) = (a == b):=by
 by_cases e:a = b
 ·subst e;simp
 ·have h:¬ (Sum.inl a:Key) = Sum.inl b:=fun q=>e (Sum.inl.inj q)
  rw [decide_eq_false h]
  exact (beq_eq_false_iff_ne.mpr e).symm
theorem aL9 (a b:Str):decide ((Sum.inr a:Key) = Sum.inr b) = decide (a = b):=by
 by_cases e:a = b
 ·subst e;simp
 ·have h:¬ (Sum.inr a:Key) = Sum.inr b:=fun q=>e (Sum.inr.inj q)
  rw [decide_eq_false h,decide_eq_false e]
theorem aLv (a:Int) (b:Str):decide ((Sum.inl a:Key) = Sum.inr b) = false:=decide_eq_false (fun q=>nomatch q)
theorem aK0 (a:Str) (b:Int):decide ((Sum.inr a:Key) = Sum.inl b) = false:=decide_eq_false (fun q=>nomatch q)
noncomputable def aDn (prog:Program) (w:World):PySem.KeyKind prog w Key where
 is:=aI6
 hash:=aOH w
 inj:=fun v a b ha hb=>by
  rcases eL ha with ⟨i,t,rfl,rfl⟩ | ⟨x,t,rfl,rfl⟩
  ·rcases eL hb with ⟨j,u,rfl,e⟩ | ⟨y,u,rfl,e⟩
   ·injection e with e1 _;rw [e1]
   ·exact nomatch e
  ·rcases eL hb with ⟨j,u,rfl,e⟩ | ⟨y,u,rfl,e⟩
   ·exact nomatch e
   ·injection e with e1 _;rw [e1]
 byValue:=fun k v h=>by
  rcases eL h with ⟨i,t,rfl,rfl⟩ | ⟨x,t,rfl,rfl⟩<;>rfl
 pyHash:=fun hv h=>by
  rcases eL hv with ⟨i,t,rfl,rfl⟩ | ⟨x,t,rfl,rfl⟩
  ·exact wpAny_pyHash_int h
  ·exact wpAny_pyHash_str h
 eqBool:=fun hu hv h=>by
  rcases eL hu with ⟨i,t,rfl,rfl⟩ | ⟨x,t,rfl,rfl⟩
  ·rcases eL hv with ⟨j,u,rfl,rfl⟩ | ⟨y,u,rfl,rfl⟩
   ·rw [aKs] at h;exact wpAny_eqBool_int h
   ·rw [aLv] at h;exact SeqAt.EqAt.int_str i t y u _ _ _ _ h
  ·rcases eL hv with ⟨j,u,rfl,rfl⟩ | ⟨y,u,rfl,rfl⟩
   ·rw [aK0] at h;exact SeqAt.EqAt.str_int x t j u _ _ _ _ h
   ·rw [aL9] at h;exact wpAny_eqBool_str h
 «strs»:=fun k x t v h=>by
  rcases eL h with ⟨i,u,rfl,e⟩ | ⟨y,u,rfl,e⟩
  ·exact nomatch e
  ·injection e with e1 _
   subst e1
   cases v<;>rfl
inductive V where
 | non | bl (b:Bool) | int (i:Int) | str (x:Str) | byt (b:Array UInt8) | flt (b:UInt64) | ref (a:Addr) | ty (n:String)
 deriving DecidableEq
def cF:V->Value->Prop
 | .non,u=>u = Value.none
 | .bl b,u=>u = Value.bool b
 | .int i,u=>∃ t,u = Value.int i t
 | .str x,u=>∃ t,u = Value.str x t
 | .byt b,u=>∃ t,u = Value.bytes b t
 | .flt b,u=>∃ t,u = Value.float b t
 | .ref a,u=>u = Value.ref a
 | .ty n,u=>u = Value.type n
abbrev bS:List V->List Value->Prop:=Paired cF
theorem bS.length {xs:List V} {us:List Value} (r:bS xs us):xs.length = us.length:=Paired.length r
theorem bS.get:∀ {xs:List V} {us:List Value} {i:Nat} {x:V},bS xs us->xs[i]? = some x->∃ u,us[i]? = some u/\cF x u
 | _,_,_,_,.nil,e=>by simp at e
 | _,_,0,_,.cons r _,e=>by simp at e;subst e;exact ⟨_,rfl,r⟩
 | _,_,i + 1,x,.cons _ t,e=>by
  obtain ⟨u,h1,h2⟩:=bS.get (i:=i) (x:=x) t (by simpa using e)
  exact ⟨u,by simpa using h1,h2⟩
theorem bS.append:∀ {xs ys:List V} {us ws:List Value},bS xs us->bS ys ws->bS (xs ++ ys) (us ++ ws)
 | _,_,_,_,.nil,s=>s
 | _,_,_,_,.cons r t,s=>.cons r (bS.append t s)
theorem bS.take:∀ {xs:List V} {us:List Value} (n:Nat),bS xs us->bS (xs.take n) (us.take n)
 | _,_,0,_=>.nil
 | _,_,_ + 1,.nil=>.nil
 | _,_,n + 1,.cons r t=>.cons r (bS.take n t)
theorem bS.drop:∀ {xs:List V} {us:List Value} (n:Nat),bS xs us->bS (xs.drop n) (us.drop n)
 | _,_,0,r=>r
 | _,_,_ + 1,.nil=>.nil
 | _,_,n + 1,.cons _ t=>bS.drop n t
def aH5:Option V->Option Value->Prop
 | some v,some u=>cF v u
 | none,none=>True
 | _,_=>False
def KV {κ:Type}:List (κ × V)->List (κ × Value)->Prop:=Paired fun (p:κ × V) (q:κ × Value)=>p.1 = q.1/\cF p.2 q.2
noncomputable def kV:Key->V
 | .inl i=>.int i
 | .inr x=>.str x
inductive HO where
  | lst (xs:List V)
  | tup (xs:List V)
  | dK (kvs:List (Key × V)) | dT (kvs:List (List Key × V))
  | set (S:Int->Bool) (n:Nat)
  | ins (C dx:Addr) (fs:List (Str × V))
  | own (x:Addr)
  | xd (fs:List (Str × V))
  | met (f x:Addr)
  | rng (lo hi:Int)
  | frz (o:Obj) (u:HO)
  | tbl (ps:Array Value)
  | ext (φ:Heap->Prop)
noncomputable abbrev Hp:=Addr->Option HO
noncomputable def upd (H:Hp) (a:Addr) (o:HO):Hp:=fun b=>if b = a then some o else H b
theorem dB {H:Hp} {a:Addr} {o:HO}:upd H a o a = some o:=by unfold upd;rw [if_pos rfl]
theorem bR {H:Hp} {a b:Addr} {o:HO} (h:b ≠ a):upd H a o b = H b:=by unfold upd;rw [if_neg h]
theorem xK {H:Hp} {a b:Addr} {o u:HO} (h:H a = some o) (h':H b = some u) (d:o ≠ u):a ≠ b:=by
 intro e;subst e;rw [h] at h';exact d (Option.some.inj h')
theorem bU {H:Hp} {a b:Addr} {o:HO} (h:H a = some o) (h':H b = none):a ≠ b:=by
 intro e;subst e;rw [h] at h';cases h'
section
variable (P:Program) (w:World)
def gB (H:Hp) (h:Heap) (a:Addr):HO->Prop
 | .lst xs=>xs.length<=sizeLine/\∃ (its:List Value) (n:Nat),bS xs its/\h.get? a = some { cls:=.type "list",data:=.seq its.toArray n }
 | .tup xs=>xs.length<=sizeLine/\∃ its:List Value,bS xs its/\IsTup h a its.toArray
 | .dK kvs=>kvs.length<=sizeLine/\(a == sysModules) = false/\∃ vs,KV kvs vs/\h.DictOf (aDn P w) a vs
 | .dT kvs=>kvs.length<=sizeLine/\(a == sysModules) = false/\∃ xs:List (List Key × Addr × Value),
   Paired (fun (p:List Key × V) (q:List Key × Addr × Value)=>p.1 = q.1/\H q.2.1 = some (.tup (p.1.map kV))/\cF p.2 q.2.2) kvs xs /\
   ∃ o es ep,h.get? a = some o/\o.ExactDict/\o.data = .dict es ep/\es.toList = xs.map (entryOfKey (tupleKind (aDn P w)))/\(xs.map (·.1)).Nodup
 | .set S n=>h.SetOf (intKind P w) a S n
 | .ins C dx fs=>H dx = some (.own a)/\fs.length<=1000/\dx ≠ a/\h.get? a = some (instObj C dx) /\
   ∃ mA,h.Ns1 dx mA/\(∀ f,aH5 (fs.lookup f) (mA f))/\PySem.Within mA (fs.map (·.1))
 | .own _=>∃ o,h.get? a = some o
 | .xd fs=>∃ mA,h.Ns1 a mA/\∀ f,aH5 (fs.lookup f) (mA f)
 | .rng lo hi=>∃ t u v,h.get? a = some { cls:=.type "range",data:=.fields #[.int lo t,.int hi u,.int 1 v] }
 | .frz o u=>h.get? a = some o/\gB H h a u
 | .tbl ps=>h.get? a = some { cls:=.none,data:=.fields ps }
 | .met f x=>h.get? a = some (methodObj (.ref f) (.ref x))
 | .ext φ=>φ h/\(∃ o,h.get? a = some o)/\∀ h1 h2:Heap,φ h1->(∀ o,h1.get? a = some o->h2.get? a = some o)->φ h2
def HOk (H:Hp) (h:Heap):Prop:=∀ a o,H a = some o->gB P w H h a o
end
section
variable {P:Program} {w:World} {H H':Hp} {h h':Heap} {a:Addr} {o:HO}
theorem gB.lt (x:gB P w H h a o):a < h.objs.size:=by
 cases o with
 | lst xs=>obtain ⟨_,_,_,_,e⟩:=x;exact Heap.lt_size e
 | tup xs=>obtain ⟨_,_,_,p⟩:=x;exact p.lt
 | dK kvs=>obtain ⟨_,_,_,_,o,_,_,e,_⟩:=x;exact Heap.lt_size e
 | dT kvs=>obtain ⟨_,_,_,_,o,_,_,e,_⟩:=x;exact Heap.lt_size e
 | set S n=>obtain ⟨o,_,_,_,e,_⟩:=x;exact Heap.lt_size e
 | ins C dx fs=>obtain ⟨_,_,_,e,_⟩:=x;exact Heap.lt_size e
 | own y=>obtain ⟨_,e⟩:=x;exact Heap.lt_size e
 | xd fs=>obtain ⟨_,⟨_,_,_,e,_⟩,_⟩:=x;exact Heap.lt_size e
 | rng lo hi=>obtain ⟨_,_,_,e⟩:=x;exact Heap.lt_size e
 | frz ob u=>obtain ⟨e,_⟩:=x;exact Heap.lt_size e
 | tbl ps=>exact Heap.lt_size (show h.get? a = some _ from x)
 | met f y=>exact Heap.lt_size (show h.get? a = some _ from x)
 | ext φ=>obtain ⟨_,⟨_,e⟩,_⟩:=x;exact Heap.lt_size e
theorem Paired.mapP {α β:Type} {F G:α->β->Prop}:∀ {l₁:List α} {l₂:List β},Paired F l₁ l₂->(∀ a b,F a b->G a b)->Paired G l₁ l₂
 | _,_,.nil,_=>.nil
 | _,_,.cons r t,f=>.cons (f _ _ r) (Paired.mapP t f)
theorem gB.stay (x:gB P w H h a o) (k:∀ b u,(b = a ∨ H b = some (.own a))->h.get? b = some u->h'.get? b = some u)
  (ho:∀ b,H b = some (.own a)->H' b = some (.own a)) (ht:∀ b xs,H b = some (.tup xs)->H' b = some (.tup xs)):gB P w H' h' a o:=by
 induction o with
 | lst xs=>obtain ⟨z,its,n,r,e⟩:=x;exact ⟨z,its,n,r,k _ _ (.inl rfl) e⟩
 | tup xs=>obtain ⟨z,its,r,ob,e,c⟩:=x;exact ⟨z,its,r,ob,k _ _ (.inl rfl) e,c⟩
 | dK kvs=>obtain ⟨z,y,vs,r,ob,es,ep,e,c⟩:=x;exact ⟨z,y,vs,r,ob,es,ep,k _ _ (.inl rfl) e,c⟩
 | dT kvs =>
  obtain ⟨z,y,xs,r,ob,es,ep,e,c⟩:=x
  exact ⟨z,y,xs,Paired.mapP r fun p q z=>⟨z.1,ht _ _ z.2.1,z.2.2⟩,ob,es,ep,k _ _ (.inl rfl) e,c⟩
 | set S n=>obtain ⟨ob,es,ep,t,e,c⟩:=x;exact ⟨ob,es,ep,t,k _ _ (.inl rfl) e,c⟩
 | ins C dx fs =>
  obtain ⟨d,z,ne,e,mA,⟨od,es,ep,e2,c⟩,r⟩:=x
  exact ⟨ho _ d,z,ne,k _ _ (.inl rfl) e,mA,⟨od,es,ep,k _ _ (.inr d) e2,c⟩,r⟩
 | own y=>obtain ⟨ob,e⟩:=x;exact ⟨ob,k _ _ (.inl rfl) e⟩
 | xd fs=>obtain ⟨mA,⟨od,es,ep,e,c⟩,r⟩:=x;exact ⟨mA,⟨od,es,ep,k _ _ (.inl rfl) e,c⟩,r⟩
 | rng lo hi=>obtain ⟨t,u,v,e⟩:=x;exact ⟨t,u,v,k _ _ (.inl rfl) e⟩
 | frz ob u ih=>obtain ⟨e,q⟩:=x;exact ⟨k _ _ (.inl rfl) e,ih q⟩
 | tbl ps =>
  have e:h.get? a = some { cls:=.none,data:=.fields ps }:=x
  show h'.get? a = some { cls:=.none,data:=.fields ps }
  exact k a _ (.inl rfl) e
 | met f y =>
  have e:h.get? a = some (methodObj (.ref f) (.ref y)):=x
  show h'.get? a = some (methodObj (.ref f) (.ref y))
  exact k a _ (.inl rfl) e
 | ext φ=>obtain ⟨p,⟨o,e⟩,st⟩:=x;exact ⟨st _ _ p fun o q=>k _ _ (.inl rfl) q,⟨o,k _ _ (.inl rfl) e⟩,st⟩
theorem HOk.lt (x:HOk P w H h) (e:H a = some o):a < h.objs.size:=(x a o e).lt
theorem HOk.fresh (x:HOk P w H h) (e:h.objs.size<=a):H a = none:=by
 cases q:H a with
 | none=>rfl
 | some u=>exact absurd (Nat.lt_of_lt_of_le (x.lt q) e) (Nat.lt_irrefl _)
theorem HOk.kept (x:HOk P w H h) (k:∀ b u,h.get? b = some u->h'.get? b = some u):HOk P w H h':=fun a o e =>
 (x a o e).stay (fun b u _ q=>k b u q) (fun _ q=>q) fun _ _ q=>q
theorem HOk.laid (x:HOk P w H h) (k:∀ b u,h.get? b = some u->h'.get? b = some u) (hp:h.objs.size<=a) (new:gB P w (upd H a o) h' a o):HOk P w (upd H a o) h':=fun b u e=>by
 have hn:=x.fresh hp
 by_cases hb:b = a
 ·subst hb;rw [dB] at e;cases e;exact new
 ·rw [bR hb] at e
  exact (x b u e).stay (fun c v _ q=>k c v q) (fun c q=>by rw [bR (bU q hn)];exact q) fun c xs q=>by rw [bR (bU q hn)];exact q
end
def Rd (H:Hp) (a:Addr) (u:HO):Prop:=H a = some u ∨ ∃ o,H a = some (.frz o u)
theorem Rd.ok {P:Program} {w:World} {H:Hp} {h:Heap} {a:Addr} {u:HO} (r:Rd H a u) (x:HOk P w H h):gB P w H h a u:=by
 rcases r with r | ⟨o,r⟩
 ·exact x a u r
 ·obtain ⟨_,q⟩:=x a _ r
  exact q
def Mut:Option HO->Prop
 | some (.lst _)=>True
 | some (.dK _)=>True
 | some (.dT _)=>True
 | some (.set _ _)=>True
 | some (.ins _ _ _)=>True
 | some (.ext _)=>True
 | _=>False
section
variable {P:Program} {w:World} {H:Hp} {h h':Heap} {x e:Addr} {o':HO}
theorem HOk.write (ok:HOk P w H h) (mu:Mut (H x)) (he:e = x ∨ H e = some (.own x)) (k:∀ b u,b ≠ e->h.get? b = some u->h'.get? b = some u) (heo:∃ u,h'.get? e = some u)
  (new:gB P w (upd H x o') h' x o'):HOk P w (upd H x o') h':=fun b u q=>by
 have nown:∀ c y,H c = some (.own y)->c ≠ x:=fun c y r z=>by subst z;rw [r] at mu;exact mu
 have ntup:∀ c xs,H c = some (.tup xs)->c ≠ x:=fun c xs r z=>by subst z;rw [r] at mu;exact mu
 by_cases hb:b = x
 ·subst hb;rw [dB] at q;cases q;exact new
 ·rw [bR hb] at q
  by_cases hbe:b = e
  ·have q':H b = some (.own x):=by
    rcases he with z | z
    ·exact absurd (hbe.trans z) hb
    ·rw [hbe];exact z
   rw [q] at q';cases q'
   obtain ⟨v,hv⟩:=heo
   exact ⟨v,by rw [hbe];exact hv⟩
  ·refine (ok b u q).stay (fun c v hc r=>k c v ?_ r) (fun c r=>by rw [bR (nown c b r)];exact r) fun c xs r=>by rw [bR (ntup c xs r)];exact r
   rcases hc with rfl | hc
   ·exact hbe
   ·rintro rfl
    rcases he with z | z
    ·exact nown c b hc z
    ·rw [hc] at z;cases z;exact hb rfl
end
structure Un (fs ex:List Addr) (H H':Hp) (h h':Heap):Prop where
 keep:∀ b o,h.get? b = some o->H b = none->b ∉ fs->b ∉ ex->h'.get? b = some o
 slot:∀ b o,h.get? b = some o->H b = none->b ∈ fs->b ∉ ex->∃ sl,h'.get? b = some { o with slots:=sl }
 free:∀ b o,h.get? b = some o->H b = none->b ∉ ex->H' b = none
 there:∀ b o,h.get? b = some o->b ∉ ex->∃ o',h'.get? b = some o'
 tups:∀ b xs,H b = some (.tup xs)->H' b = some (.tup xs)
 frzs:∀ b o u,H b = some (.frz o u)->H' b = some (.frz o u)
 tbls:∀ b ps,H b = some (.tbl ps)->∃ more,H' b = some (.tbl (ps ++ more))
section
variable {fs fs' ex ex':List Addr} {H H1 H2:Hp} {h h1 h2 h':Heap} {a x e:Addr} {o:HO}
theorem Un.any (u:Un fs ex H H1 h h1) {b:Addr} {ob:Obj} (q:h.get? b = some ob) (n:H b = none) (hx:b ∉ ex):∃ sl,h1.get? b = some { ob with slots:=sl }:=by
 by_cases hb:b ∈ fs
 ·exact u.slot b ob q n hb hx
 ·exact ⟨ob.slots,u.keep b ob q n hb hx⟩
theorem Un.trans (a:Un fs ex H H1 h h1) (b:Un fs ex H1 H2 h1 h2):Un fs ex H H2 h h2 where
 keep:=fun c ob q n hc hx=>b.keep c ob (a.keep c ob q n hc hx) (a.free c ob q n hx) hc hx
 slot:=fun c ob q n hc hx=>by
  obtain ⟨sl,e1⟩:=a.slot c ob q n hc hx
  obtain ⟨sl',e2⟩:=b.slot c _ e1 (a.free c ob q n hx) hc hx
  exact ⟨sl',e2⟩
 free:=fun c ob q n hx=>by
  obtain ⟨o',e1⟩:=a.there c ob q hx
  exact b.free c o' e1 (a.free c ob q n hx) hx
 there:=fun c ob q hx=>by
  obtain ⟨o',e1⟩:=a.there c ob q hx
  exact b.there c o' e1 hx
 tups:=fun c xs q=>b.tups c xs (a.tups c xs q)
 frzs:=fun c ob xs q=>b.frzs c ob xs (a.frzs c ob xs q)
 tbls:=fun c ps q=>by
  obtain ⟨m1,e1⟩:=a.tbls c ps q
  obtain ⟨m2,e2⟩:=b.tbls c _ e1
  exact ⟨m1 ++ m2,by rw [e2,Array.append_assoc]⟩
theorem Un.kept (k:∀ b u,h.get? b = some u->h'.get? b = some u):Un fs ex H H h h' :=
 ⟨fun b ob q _ _ _=>k b ob q,fun b ob q _ _ _=>⟨ob.slots,k b ob q⟩,fun _ _ _ n _=>n,fun b ob q _=>⟨ob,k b ob q⟩,fun _ _ q=>q,fun _ _ _ q=>q,fun _ ps q=>⟨#[],by rw [q];simp⟩⟩
theorem Un.refl:Un fs ex H H h h:=Un.kept fun _ _ q=>q
theorem Un.laid (k:∀ b u,h.get? b = some u->h'.get? b = some u) (hp:h.objs.size<=a) (hn:H a = none):Un fs ex H (upd H a o) h h' where
 keep:=fun b u q _ _ _=>k b u q
 slot:=fun b u q _ _ _=>⟨u.slots,k b u q⟩
 free:=fun b u q n _=>by rw [bR (Nat.ne_of_lt (Nat.lt_of_lt_of_le (Heap.lt_size q) hp))];exact n
 there:=fun b u q _=>⟨u,k b u q⟩
 tups:=fun b xs q=>by rw [bR (bU q hn)];exact q
 frzs:=fun b u xs q=>by rw [bR (bU q hn)];exact q
 tbls:=fun b ps q=>⟨#[],by rw [bR (bU q hn),q];simp⟩
theorem Un.write (mu:Mut (H x)) (he:e = x ∨ H e = some (.own x)) (k:∀ b u,b ≠ e->h.get? b = some u->h'.get? b = some u) (heo:∃ u,h'.get? e = some u):Un fs ex H (upd H x o) h h':=by
 have hx:∀ b,H b = none->b ≠ x:=fun b n z=>by subst z;rw [n] at mu;exact mu
 have hb:∀ b,H b = none->b ≠ e:=fun b n z=>by
  subst z
  rcases he with r | r
  ·exact hx b n r
  ·rw [n] at r;cases r
 have hm:∀ b u,H b = some u->¬ Mut (some u)->b ≠ x:=fun b u q nm z=>by subst z;rw [q] at mu;exact nm mu
 refine ⟨fun b u q n _ _=>k b u (hb b n) q,fun b u q n _ _=>⟨u.slots,k b u (hb b n) q⟩,fun b u q n _=>by rw [bR (hx b n)];exact n,fun b u q _=>?_,
  fun b xs q=>by rw [bR (hm b _ q fun z=>z)];exact q,fun b u xs q=>by rw [bR (hm b _ q fun z=>z)];exact q,fun b ps q=>⟨#[],by rw [bR (hm b _ q fun z=>z),q];simp⟩⟩
 by_cases hbe:b = e
 ·subst hbe;exact heo
 ·exact ⟨u,k b u hbe q⟩
end
noncomputable def trk (h:Heap) (H:Hp):List Addr:=(range h.objs.size).filter fun a=>(H a).isSome
noncomputable def aAQ (h:Heap) (H:Hp):Heap:=PySem.W.hideAll h (trk h H)
theorem aEq (h:Heap) (H:Hp):(aAQ h H).objs.size = h.objs.size:=PySem.W.hideAll_size _ _
theorem aFR {h:Heap} {H:Hp} {b:Addr} {o:Obj} (e:h.get? b = some o) (n:H b = none):(aAQ h H).get? b = some o :=
 PySem.W.hideAll_get _ e fun hm=>by
  have q:(H b).isSome = true:=(List.mem_filter.mp hm).2
  rw [n] at q;simp at q
theorem aHu {h:Heap} {H:Hp} {b:Addr} {o:Obj} (e:(aAQ h H).get? b = some o):h.get? b = some o/\H b = none:=by
 have e':h.get? b = some o:=PySem.W.of_hideAll (trk h H) e
 refine ⟨e',?_⟩
 cases q:H b with
 | none=>rfl
 | some x =>
  have hm:b ∈ trk h H:=List.mem_filter.mpr ⟨List.mem_range.mpr (Heap.lt_size e'),by simp [q]⟩
  have z:(aAQ h H).get? b = none:=PySem.W.hideAll_none (trk h H) hm
  rw [z] at e;cases e
noncomputable def aHY (g h:Heap) (L:Addr):List (Addr × Obj):=(range h.objs.size).filterMap fun a=>if a = L ∨ (g.get? a).isSome = true then none else (h.get? a).map fun o=>(a,o)
noncomputable def dD (g h:Heap) (L d:Addr):List (Addr × Obj):=(aHY g h L).filter fun p=>decide (p.1 ≠ d)
structure Mod (K:Frag) (mg:Str->Option Value) (base:Heap):Prop where
 kin:K.In base
 glob:base.Ns mainGlobals mg
 blt:∃ mb,base.Ns builtinsNs mb/\∀ x:Str,x ≠ "__name__"->mb x = bootBuiltins x
 nolimit:base.NoLimit
structure Cx where
 prog:Program
 w:World
 K:Frag
 mg:Str->Option Value
 base:Heap
 A:Around
 N:List Str
 s₀:Shared
 H₀:Hp
 env:Env
 outer:List Env
 stack:List Env
 ex:List Addr
 fn:Str->Bool
 calm:Bool
 pn:List (Addr × Obj)
 xe:Value->Shared->Prop
noncomputable def frs (l:List Env):List Addr:=l.filterMap (·.frame)
noncomputable abbrev Cx.fs (X:Cx):List Addr:=frs X.outer
def Vis (sc:Scope) (x:Str):Prop:=sc.names.lookup x = some .local ∨ sc.names.lookup x = some .cell ∨ sc.names.lookup x = some .free
def Loc (sc:Scope) (x:Str):Prop:=sc.names.lookup x = some .local ∨ sc.names.lookup x = some .cell
def aN2 (env:Env) (h:Heap) (m:Str->Option Value) (x:Str) (u:Value):Prop :=
 (env.kindOf x = some .local/\m x = some u) ∨ ((env.kindOf x = some .cell ∨ env.kindOf x = some .free)/\∃ c,env.cells.lookup x = some c/\h.IsCell c (some u))
structure Cx.Ok (X:Cx):Prop where
 mod:Mod X.K X.mg X.base
 kind:X.env.scope.kind = .function
 glob:X.env.globals = mainGlobals
 blt:X.env.builtins = builtinsNs
 above:X.s₀.heap.objs.size<=X.env.locals
 inj:∀ x y c,X.env.cells.lookup x = some c->X.env.cells.lookup y = some c->x = y
 has:∀ x,(X.env.kindOf x = some .cell ∨ X.env.kindOf x = some .free)->∃ c,X.env.cells.lookup x = some c
 cab:∀ x c,X.fn x = true->X.env.cells.lookup x = some c->X.s₀.heap.objs.size<=c
 hd:X.calm = true->X.A.handled = none
 frames:X.A.frames = some X.stack
 stk:X.stack = X.outer ∨ (X.stack = X.env :: X.outer/\X.env.frame = some X.env.locals)
 exf:∀ b ∈ X.ex,b ≠ X.env.locals/\∀ x c,X.env.cells.lookup x = some c->c ≠ b
 bs:∀ b o,X.base.get? b = some o->X.s₀.heap.get? b = some o/\X.H₀ b = none
 bsz:X.base.objs.size<=X.s₀.heap.objs.size
 noex:∀ b o,X.base.get? b = some o->b ∉ X.ex
 exfs:∀ b ∈ X.ex,b ∉ X.fs
 funs:X.s₀.heap.FunFrames X.base X.outer
 frf:∀ b ∈ X.fs,X.H₀ b = none
structure Inv (X:Cx) (pins:List (Addr × Obj)) (σ:List (Option V)) (H:Hp) (s:Shared):Prop where
 ok:X.Ok
 os:s.os = X.s₀.os
 bare:AllBare s.gens
 base:Un X.fs X.ex X.H₀ H X.s₀.heap s.heap
 loc:∃ m,s.heap.Ns X.env.locals m/\∀ (i:Nat) (x:Str) (v:V),X.N[i]? = some x->σ[i]? = some (some v)->Vis X.env.scope x->∃ u,cF v u/\aN2 X.env s.heap m x u
 cell:∀ x c,X.env.cells.lookup x = some c->∃ v,s.heap.IsCell c v
 free:H X.env.locals = none
 freeC:∀ x c,X.env.cells.lookup x = some c->H c = none
 pin:∀ p ∈ X.pn ++ pins,s.heap.get? p.1 = some p.2/\H p.1 = none/\p.1 ≠ X.env.locals/\p.1 ∉ X.fs/\∀ v,p.2.data ≠ .cell v
 hok:HOk X.prog X.w H s.heap
 len:σ.length = X.N.length
section
variable {X:Cx} {pins:List (Addr × Obj)} {σ:List (Option V)} {H H':Hp} {s:Shared} {h':Heap}
theorem Cx.Ok.nofr (ok:X.Ok) {b:Addr} {o:Obj} (e:X.base.get? b = some o):b ∉ X.fs:=fun hb=>by
 have:=(ok.funs.mem hb).1
 rw [e] at this;cases this
theorem Inv.bs (I:Inv X pins σ H s):∀ b o,X.base.get? b = some o->s.heap.get? b = some o/\H b = none:=fun b o e =>
 ⟨I.base.keep b o (I.ok.bs b o e).1 (I.ok.bs b o e).2 (I.ok.nofr e) (I.ok.noex b o e),I.base.free b o (I.ok.bs b o e).1 (I.ok.bs b o e).2 (I.ok.noex b o e)⟩
theorem Inv.bk (I:Inv X pins σ H s):∀ b o,X.base.get? b = some o->s.heap.get? b = some o:=fun b o e=>(I.bs b o e).1
theorem Inv.mod (I:Inv X pins σ H s):Mod X.K X.mg X.base:=I.ok.mod
theorem Inv.kIn (I:Inv X pins σ H s):X.K.In s.heap:=I.ok.mod.kin.keeps I.bk
theorem Inv.lt (I:Inv X pins σ H s):X.env.locals < s.heap.objs.size:=let ⟨_,hn,_⟩:=I.loc;hn.lt
theorem Inv.sz (I:Inv X pins σ H s):X.s₀.heap.objs.size<=s.heap.objs.size:=Nat.le_trans I.ok.above (Nat.le_of_lt I.lt)
theorem Inv.nofs (I:Inv X pins σ H s) {a:Addr} (h:s.heap.objs.size<=a):a ∉ X.fs:=fun hb=>by
 obtain ⟨_,o,ho,_⟩:=I.ok.funs.mem hb
 exact absurd (Nat.lt_of_lt_of_le (Heap.lt_size ho) (Nat.le_trans I.sz h)) (Nat.lt_irrefl _)
theorem Inv.cne (I:Inv X pins σ H s):∀ x c,X.env.cells.lookup x = some c->c ≠ X.env.locals:=fun x c e z=>by
 obtain ⟨v,o,ho,hd⟩:=I.cell x c e
 obtain ⟨m,⟨o',es,ep,ho',hd',_⟩,_⟩:=I.loc
 rw [z,ho'] at ho;cases ho;rw [hd'] at hd;cases hd
theorem Inv.funs (I:Inv X pins σ H s):s.heap.FunFrames X.base X.outer:=by
 have all:∀ (l:List Env),(∀ b ∈ frs l,b ∈ X.fs)->X.s₀.heap.FunFrames X.base l->s.heap.FunFrames X.base l:=by
  intro l
  induction l with
  | nil=>intro _ _;trivial
  | cons env r ih =>
   intro hs hl
   obtain ⟨hk,⟨L,o,hf,hn,ho,hd⟩,hr⟩:=hl
   have hL:L ∈ X.fs:=hs L (by unfold frs;rw [List.filterMap_cons,hf];exact mem_cons_self)
   obtain ⟨sl,e⟩:=I.base.slot L o ho (I.ok.frf L hL) hL fun z=>I.ok.exfs L z hL
   exact ⟨hk,⟨L,_,hf,hn,e,hd⟩,ih (fun b hb=>hs b (by unfold frs;rw [List.filterMap_cons,hf];exact mem_cons_of_mem _ hb)) hr⟩
 exact all X.outer (fun _ hb=>hb) I.ok.funs
theorem Inv.stack (I:Inv X pins σ H s):s.heap.FunFrames X.base X.stack:=by
 rcases I.ok.stk with e | ⟨e,hf⟩
 ·rw [e];exact I.funs
 ·rw [e]
  obtain ⟨m,hn,_⟩:=I.loc
  refine .cons (by rw [I.ok.kind];decide) hf hn ?_ I.funs
  exact Heap.get?_none_of_le (Nat.le_trans I.ok.bsz I.ok.above)
theorem Inv.stkSub (I:Inv X pins σ H s):∀ b ∈ frs X.stack,b ∈ X.env.locals :: X.fs:=fun b hb=>by
 rcases I.ok.stk with e | ⟨e,hf⟩
 ·rw [e] at hb;exact mem_cons_of_mem _ hb
 ·rw [e] at hb
  unfold frs at hb
  rw [List.filterMap_cons,hf] at hb
  exact hb
theorem Inv.stkFree (I:Inv X pins σ H s):∀ b ∈ frs X.stack,H b = none:=fun b hb=>by
 rcases List.mem_cons.mp (I.stkSub b hb) with e | hb
 ·rw [e];exact I.free
 ·obtain ⟨_,o,ho,_⟩:=I.ok.funs.mem hb
  exact I.base.free b o ho (I.ok.frf b hb) fun z=>I.ok.exfs b z hb
theorem Inv.step {g':Array GenState} {t':Nat} {d':Drawn} {ch:List Addr} (I:Inv X pins σ H s)
  (hch:∀ b ∈ ch,(b ∈ X.ex ∨ X.s₀.heap.objs.size<=b)/\b ≠ X.env.locals/\(∀ x c,X.env.cells.lookup x = some c->c ≠ b)/\∀ p ∈ X.pn ++ pins,p.1 ≠ b)
  (keep:∀ b o,b ≠ X.env.locals->b ∉ X.fs->b ∉ ch->s.heap.get? b = some o->H b = none->h'.get? b = some o)
  (slot:∀ b o,b ≠ X.env.locals->b ∈ X.fs->b ∉ ch->s.heap.get? b = some o->H b = none->∃ sl,h'.get? b = some { o with slots:=sl }) (free:∀ b o,b ∉ ch->s.heap.get? b = some o->H b = none->H' b = none)
  (there:∀ b o,b ∉ ch->s.heap.get? b = some o->∃ o',h'.get? b = some o')
  (tups:∀ b xs,H b = some (.tup xs)->H' b = some (.tup xs)) (frzs:∀ b o u,H b = some (.frz o u)->H' b = some (.frz o u)) (tbls:∀ b ps,H b = some (.tbl ps)->∃ more,H' b = some (.tbl (ps ++ more)))
  (ns:∀ m,s.heap.Ns X.env.locals m->h'.Ns X.env.locals m) (hok:HOk X.prog X.w H' h') (hg:AllBare g') :
  Inv X pins σ H' { s with heap:=h',gens:=g',drawn:=d',toks:=t' }:=by
 have neL:∀ b o,X.s₀.heap.get? b = some o->b ≠ X.env.locals:=fun b o e=>Nat.ne_of_lt (Nat.lt_of_lt_of_le (Heap.lt_size e) I.ok.above)
 have neC:∀ b o,X.s₀.heap.get? b = some o->b ∉ X.ex->b ∉ ch:=fun b o e hx hb=>by
  rcases (hch b hb).1 with z | z
  ·exact hx z
  ·exact absurd (Nat.lt_of_lt_of_le (Heap.lt_size e) z) (Nat.lt_irrefl _)
 have cellK:∀ x c,X.env.cells.lookup x = some c->∀ v,s.heap.IsCell c v->h'.IsCell c v:=fun x c e v ⟨o,ho,hd⟩=>by
  have nch:c ∉ ch:=fun z=>(hch c z).2.2.1 x c e rfl
  by_cases hc:c ∈ X.fs
  ·obtain ⟨sl,q⟩:=slot c o (I.cne x c e) hc nch ho (I.freeC x c e)
   exact ⟨_,q,hd⟩
  ·exact ⟨o,keep c o (I.cne x c e) hc nch ho (I.freeC x c e),hd⟩
 refine ⟨I.ok,I.os,hg,⟨fun b o e n hb hx=>?_,fun b o e n hb hx=>?_,fun b o e n hx=>?_,fun b o e hx=>?_,fun b xs e=>tups b xs (I.base.tups b xs e),fun b o xs e=>frzs b o xs (I.base.frzs b o xs e),fun b ps e=>?_⟩,?_,fun x c e=>?_,?_,fun x c e=>?_,fun p hp=>?_,hok,I.len⟩
 ·exact keep b o (neL b o e) hb (neC b o e hx) (I.base.keep b o e n hb hx) (I.base.free b o e n hx)
 ·obtain ⟨sl,e1⟩:=I.base.slot b o e n hb hx
  obtain ⟨sl',e2⟩:=slot b _ (neL b o e) hb (neC b o e hx) e1 (I.base.free b o e n hx)
  exact ⟨sl',e2⟩
 ·obtain ⟨o',e1⟩:=I.base.there b o e hx
  exact free b o' (neC b o e hx) e1 (I.base.free b o e n hx)
 ·obtain ⟨o',e1⟩:=I.base.there b o e hx
  exact there b o' (neC b o e hx) e1
 ·obtain ⟨m1,e1⟩:=I.base.tbls b ps e
  obtain ⟨m2,e2⟩:=tbls b _ e1
  exact ⟨m1 ++ m2,by rw [e2,Array.append_assoc]⟩
 ·obtain ⟨m,hn,hl⟩:=I.loc
  refine ⟨m,ns m hn,fun i x v e1 e2 e3=>?_⟩
  obtain ⟨u,r,l⟩:=hl i x v e1 e2 e3
  refine ⟨u,r,?_⟩
  rcases l with l | ⟨k,c,e,z⟩
  ·exact .inl l
  ·exact .inr ⟨k,c,e,cellK x c e _ z⟩
 ·obtain ⟨v,z⟩:=I.cell x c e
  exact ⟨v,cellK x c e v z⟩
 ·obtain ⟨m,⟨o,_,_,ho,_⟩,_⟩:=I.loc
  exact free _ o (fun z=>(hch _ z).2.1 rfl) ho I.free
 ·obtain ⟨v,o,ho,hd⟩:=I.cell x c e
  exact free c o (fun z=>(hch c z).2.2.1 x c e rfl) ho (I.freeC x c e)
 ·obtain ⟨e,n,ne,nf,d⟩:=I.pin p hp
  have nch:p.1 ∉ ch:=fun z=>(hch p.1 z).2.2.2 p hp rfl
  exact ⟨keep p.1 p.2 ne nf nch e n,free p.1 p.2 nch e n,ne,nf,d⟩
theorem Inv.un {t':Nat} (I:Inv X pins σ H s) (u:Un X.fs [] H H' s.heap h') (hok:HOk X.prog X.w H' h'):Inv X pins σ H' { s with heap:=h',toks:=t' }:=by
 obtain ⟨m,⟨o,es,ep,ho,r⟩,_⟩:=id I.loc
 obtain ⟨sl,hL⟩:=u.any ho I.free (by simp)
 exact I.step (g':=s.gens) (d':=s.drawn) (ch:=[]) (fun _ z=>nomatch z) (fun b o _ hb _ e n=>u.keep b o e n hb (by simp)) (fun b o _ hb _ e n=>u.slot b o e n hb (by simp)) (fun b o _ e n=>u.free b o e n (by simp)) (fun b o _ e=>u.there b o e (by simp)) u.tups u.frzs u.tbls (fun m' hm=>by
  obtain ⟨o',es',ep',ho',r'⟩:=hm
  rw [ho] at ho';cases ho'
  exact ⟨_,es',ep',hL,r'⟩) hok I.bare
theorem Inv.call {g':Array GenState} {t':Nat} {d':Drawn} {ch:List Addr} (I:Inv X pins σ H s) (u:Un (frs X.stack) ch H H' s.heap h') (hok:HOk X.prog X.w H' h') (hg:AllBare g')
  (hch:∀ b ∈ ch,(b ∈ X.ex ∨ X.s₀.heap.objs.size<=b)/\b ≠ X.env.locals/\(∀ x c,X.env.cells.lookup x = some c->c ≠ b)/\∀ p ∈ X.pn ++ pins,p.1 ≠ b) :
  Inv X pins σ H' { s with heap:=h',gens:=g',drawn:=d',toks:=t' }:=by
 obtain ⟨m,⟨o,es,ep,ho,r⟩,_⟩:=id I.loc
 obtain ⟨sl,hL⟩:=u.any ho I.free fun z=>(hch _ z).2.1 rfl
 exact I.step (ch:=ch) hch (fun b o hL hb hc e n=>u.keep b o e n (fun z=>(List.mem_cons.mp (I.stkSub b z)).elim hL hb) hc) (fun b o _ _ hc e n=>u.any e n hc) (fun b o hc e n=>u.free b o e n hc) (fun b o hc e=>u.there b o e hc) u.tups u.frzs u.tbls (fun m' hm=>by
  obtain ⟨o',es',ep',ho',r'⟩:=hm
  rw [ho] at ho';cases ho'
  exact ⟨_,es',ep',hL,r'⟩) hok hg
theorem Inv.turned {t':Nat} {it:Addr} (I:Inv X pins σ H s) (k:∀ b o,b ≠ it->s.heap.get? b = some o->h'.get? b = some o) (hn:H it = none) (hL:it ≠ X.env.locals)
  (h1:it ∈ X.ex ∨ X.s₀.heap.objs.size<=it) (h2:∀ x c,X.env.cells.lookup x = some c->c ≠ it) (h3:∀ p ∈ X.pn ++ pins,p.1 ≠ it):Inv X pins σ H { s with heap:=h',toks:=t' }:=by
 have nit:∀ b u,H b = some u->b ≠ it:=fun b u e z=>by rw [z,hn] at e;cases e
 refine I.step (g':=s.gens) (d':=s.drawn) (ch:=[it]) (fun b hb=>?_) (fun b o _ _ hc e _=>k b o (fun z=>hc (by simp [z])) e) (fun b o _ _ hc e _=>⟨o.slots,k b o (fun z=>hc (by simp [z])) e⟩) (fun _ _ _ _ n=>n)
  (fun b o hc e=>⟨o,k b o (fun z=>hc (by simp [z])) e⟩) (fun _ _ e=>e) (fun _ _ _ e=>e) (fun b ps e=>⟨#[],by rw [e];simp⟩) (fun m hm=>?_) (fun b u e=>?_) I.bare
 ·have e:b = it:=by simpa using hb
  subst e
  exact ⟨h1,hL,h2,h3⟩
 ·obtain ⟨o,es,ep,ho,r⟩:=hm
  exact ⟨o,es,ep,k _ o (Ne.symm hL) ho,r⟩
 ·refine (I.hok b u e).stay (fun c v hc q=>k c v ?_ q) (fun _ q=>q) fun _ _ q=>q
  rcases hc with z | z
  ·rw [z];exact nit b u e
  ·exact nit c _ z
theorem Inv.tok (I:Inv X pins σ H s) (t:Nat):Inv X pins σ H { s with toks:=t }:=I.un (h':=s.heap) (t':=t) Un.refl I.hok
theorem Inv.kept {t':Nat} (I:Inv X pins σ H s) (k:∀ b u,s.heap.get? b = some u->h'.get? b = some u):Inv X pins σ H { s with heap:=h',toks:=t' }:=I.un (Un.kept k) (I.hok.kept k)
theorem Inv.laid {a:Addr} {o:HO} {t':Nat} (I:Inv X pins σ H s) (k:∀ b u,s.heap.get? b = some u->h'.get? b = some u) (hp:s.heap.objs.size<=a) (new:gB X.prog X.w (upd H a o) h' a o) :
  Inv X pins σ (upd H a o) { s with heap:=h',toks:=t' }:=I.un (Un.laid k hp (I.hok.fresh hp)) (I.hok.laid k hp new)
theorem Inv.write {x e:Addr} {o:HO} {t':Nat} (I:Inv X pins σ H s) (mu:Mut (H x)) (he:e = x ∨ H e = some (.own x)) (k:∀ b u,b ≠ e->s.heap.get? b = some u->h'.get? b = some u) (heo:∃ u,h'.get? e = some u)
  (new:gB X.prog X.w (upd H x o) h' x o):Inv X pins σ (upd H x o) { s with heap:=h',toks:=t' }:=I.un (Un.write mu he k heo) (I.hok.write mu he k heo new)
theorem Inv.pins_of {pins':List (Addr × Obj)} (I:Inv X pins σ H s) (h:∀ p ∈ pins',s.heap.get? p.1 = some p.2/\H p.1 = none/\p.1 ≠ X.env.locals/\p.1 ∉ X.fs/\∀ v,p.2.data ≠ .cell v):Inv X pins' σ H s :=
 ⟨I.ok,I.os,I.bare,I.base,I.loc,I.cell,I.free,I.freeC,fun p hp=>(List.mem_append.mp hp).elim (fun z=>I.pin p (mem_append_left _ z)) (h p),I.hok,I.len⟩
theorem xS {N:List Str} (hN:N.Nodup) {i j:Nat} {x:Str} (a:N[i]? = some x) (b:N[j]? = some x):i = j:=by
 obtain ⟨h1,e1⟩:=List.getElem?_eq_some_iff.mp a
 obtain ⟨h2,e2⟩:=List.getElem?_eq_some_iff.mp b
 exact (List.getElem_inj hN).mp (e1.trans e2.symm)
theorem qJ {M:Model} {A:Around} {E:Value->Shared->Prop} {i:Nat} {x:Str} {v:V} {u:Value} {Q:Unit->Shared->Prop} (I:Inv X pins σ H s) (hN:X.N.Nodup) (hi:X.N[i]? = some x) (hx:Loc X.env.scope x) (r:cF v u)
  (h:∀ s',Inv X pins (σ.set i (some v)) H s'->(∃ a,Heap.SameBut a s.heap s'.heap/\(a = X.env.locals ∨ X.env.cells.lookup x = some a))->Q () s') (hf:X.fn x = true ∨ X.env.scope.names.lookup x = some .local:=by first | exact .inl rfl | exact .inr rfl | assumption):wpAny M A (storeName X.env x u) Q E s:=by
 obtain ⟨m,hn,hl⟩:=id I.loc
 have hcls:(X.env.scope.kind == .class || (X.env.scope.kind == .module && X.env.locals != X.env.globals)) = false:=by rw [I.ok.kind];rfl
 have hiσ:i < σ.length:=by rw [I.len];exact (List.getElem?_eq_some_iff.mp hi).1
 have cne:=I.cne
 have tracked:∀ {a:Addr} {h':Heap},(∃ o,s.heap.get? a = some o/\H a = none)->Heap.SameBut a s.heap h'->HOk X.prog X.w H h':=fun {a h'} ha hs b ob e=>by
  obtain ⟨_,_,hfree⟩:=ha
  refine (I.hok b ob e).stay (fun c w' hc q=>(hs.2 c ?_).trans q) (fun _ q=>q) fun _ _ q=>q
  rintro rfl
  rcases hc with rfl | hc
  ·rw [hfree] at e;cases e
  ·rw [hfree] at hc;cases hc
 rcases hx with hk | hk
 ·refine wpAny_storeName_local hk hn (fun h' hn' hs=>?_) hcls
  obtain ⟨oL,_,_,hoL,_⟩:=id hn
  refine h _ ⟨I.ok,I.os,I.bare,⟨fun b o e n hb hx=>?_,fun b o e n hb hx=>?_,I.base.free,fun b o e hx=>?_,I.base.tups,I.base.frzs,I.base.tbls⟩,⟨_,hn',fun j y v' e1 e2 e3=>?_⟩,fun y c e=>?_,I.free,I.freeC,fun p hp=>?_,tracked ⟨oL,hoL,I.free⟩ hs,by simpa using I.len⟩ ⟨_,hs,.inl rfl⟩
  ·exact (hs.2 b (Nat.ne_of_lt (Nat.lt_of_lt_of_le (Heap.lt_size e) I.ok.above))).trans (I.base.keep b o e n hb hx)
  ·obtain ⟨sl,e1⟩:=I.base.slot b o e n hb hx
   exact ⟨sl,(hs.2 b (Nat.ne_of_lt (Nat.lt_of_lt_of_le (Heap.lt_size e) I.ok.above))).trans e1⟩
  ·obtain ⟨o',e1⟩:=I.base.there b o e hx
   exact ⟨o',(hs.2 b (Nat.ne_of_lt (Nat.lt_of_lt_of_le (Heap.lt_size e) I.ok.above))).trans e1⟩
  ·by_cases hj:j = i
   ·subst hj
    rw [hi] at e1;cases e1
    rw [List.getElem?_set_self hiσ] at e2
    cases e2
    exact ⟨u,r,.inl ⟨hk,by simp⟩⟩
   ·rw [List.getElem?_set_ne (Ne.symm hj)] at e2
    obtain ⟨u',r',q⟩:=hl j y v' e1 e2 e3
    refine ⟨u',r',?_⟩
    rcases q with ⟨k,e⟩ | ⟨k,c,e,z⟩
    ·refine .inl ⟨k,?_⟩
     have:y ≠ x:=fun e=>hj (xS hN e1 (e ▸ hi))
     simp [this,e]
    ·exact .inr ⟨k,c,e,z.sameBut hs (cne y c e)⟩
  ·obtain ⟨w',z⟩:=I.cell y c e
   exact ⟨w',z.sameBut hs (cne y c e)⟩
  ·obtain ⟨e,n,ne,nf,d⟩:=I.pin p hp
   exact ⟨(hs.2 p.1 ne).trans e,n,ne,nf,d⟩
 ·have hfn:X.fn x = true:=by
   rcases hf with z | z
   ·exact z
   ·rw [z] at hk;cases hk
  obtain ⟨c,hc⟩:=I.ok.has x (.inl hk)
  obtain ⟨w',z⟩:=I.cell x c hc
  refine wpAny_storeName_cell I.ok.kind hk hc z (fun h' hc' hs=>?_)
  obtain ⟨oc,hoc,hocd⟩:=id z
  refine h { s with heap:=h' } ⟨I.ok,I.os,I.bare,⟨fun b o e n hb hx=>?_,fun b o e n hb hx=>?_,I.base.free,fun b o e hx=>?_,I.base.tups,I.base.frzs,I.base.tbls⟩,⟨m,hn.sameBut hs (Ne.symm (cne x c hc)),fun j y v' e1 e2 e3=>?_⟩,fun y c' e=>?_,I.free,I.freeC,fun p hp=>?_,tracked ⟨oc,hoc,I.freeC x c hc⟩ hs,by simpa using I.len⟩ ⟨c,hs,.inr hc⟩
  ·exact (hs.2 b (Nat.ne_of_lt (Nat.lt_of_lt_of_le (Heap.lt_size e) (I.ok.cab x c hfn hc)))).trans (I.base.keep b o e n hb hx)
  ·obtain ⟨sl,e1⟩:=I.base.slot b o e n hb hx
   exact ⟨sl,(hs.2 b (Nat.ne_of_lt (Nat.lt_of_lt_of_le (Heap.lt_size e) (I.ok.cab x c hfn hc)))).trans e1⟩
  ·obtain ⟨o',e1⟩:=I.base.there b o e hx
   exact ⟨o',(hs.2 b (Nat.ne_of_lt (Nat.lt_of_lt_of_le (Heap.lt_size e) (I.ok.cab x c hfn hc)))).trans e1⟩
  ·by_cases hj:j = i
   ·subst hj
    rw [hi] at e1;cases e1
    rw [List.getElem?_set_self hiσ] at e2
    cases e2
    exact ⟨u,r,.inr ⟨.inl hk,c,hc,hc'⟩⟩
   ·rw [List.getElem?_set_ne (Ne.symm hj)] at e2
    obtain ⟨u',r',q⟩:=hl j y v' e1 e2 e3
    refine ⟨u',r',?_⟩
    rcases q with q | ⟨k,c',e,z'⟩
    ·exact .inl q
    ·refine .inr ⟨k,c',e,z'.sameBut hs ?_⟩
     rintro rfl
     exact hj (xS hN e1 (I.ok.inj _ _ _ e hc ▸ hi))
  ·by_cases hcc:c' = c
   ·subst hcc;exact ⟨_,hc'⟩
   ·obtain ⟨w2,z2⟩:=I.cell y c' e
    exact ⟨w2,z2.sameBut hs hcc⟩
  ·obtain ⟨e,n,ne,nf,d⟩:=I.pin p hp
   refine ⟨(hs.2 p.1 ?_).trans e,n,ne,nf,d⟩
   intro q
   rw [q,hoc] at e
   have q':oc = p.2:=Option.some.inj e
   exact d w' (by rw [<- q'];exact hocd)
theorem mU {M:Model} {A:Around} {E:Value->Shared->Prop} {i:Nat} {x:Str} {v:V} {u:Value} {Q:Unit->Shared->Prop} (I:Inv X pins σ H s) (hN:X.N.Nodup) (hi:X.N[i]? = some x) (hx:Loc X.env.scope x) (r:cF v u)
  (h:∀ s',Inv X pins (σ.set i (some v)) H s'->Q () s') (hf:X.fn x = true ∨ X.env.scope.names.lookup x = some .local:=by first | exact .inl rfl | exact .inr rfl | assumption):wpAny M A (storeName X.env x u) Q E s :=
 qJ I hN hi hx r (fun s' I' _=>h s' I') hf
theorem Inv.call' {s':Shared} {ch:List Addr} (I:Inv X pins σ H s) (ho:s'.os = s.os) (u:Un (frs X.stack) ch H H' s.heap s'.heap) (hok:HOk X.prog X.w H' s'.heap) (hg:AllBare s'.gens)
  (hch:∀ b ∈ ch,(b ∈ X.ex ∨ X.s₀.heap.objs.size<=b)/\b ≠ X.env.locals/\(∀ x c,X.env.cells.lookup x = some c->c ≠ b)/\∀ p ∈ X.pn ++ pins,p.1 ≠ b):Inv X pins σ H' s':=by
 obtain ⟨h',g',d',t',o'⟩:=s'
 have e:o' = s.os:=ho
 subst e
 exact I.call (g':=g') (t':=t') (d':=d') u hok hg hch
end
abbrev XK:=Value->Option Addr->Hp->Prop
noncomputable abbrev St:=List (Option V)
abbrev VK:=V->Hp->Prop
abbrev TE:=St->Hp->VK->Prop
abbrev TT:=St->Hp->(Bool->Hp->Prop)->Prop
abbrev TA:=St->Hp->(List V->Hp->Prop)->Prop
structure pN where
 nx:St->Hp->Prop
 rt:VK
 bk:St->Hp->Prop:=fun _ _=>False
 ct:St->Hp->Prop:=fun _ _=>False
abbrev TS:=pN->St->Hp->Prop
def EP (X:Cx) (pins:List (Addr × Obj)) (σ:St) (Q:VK) (u:Value) (s':Shared):Prop:=∃ v H',Inv X pins σ H' s'/\cF v u/\Q v H'
def TP (X:Cx) (pins:List (Addr × Obj)) (σ:St) (Q:Bool->Hp->Prop) (b:Bool) (s':Shared):Prop:=∃ H',Inv X pins σ H' s'/\Q b H'
def AP (X:Cx) (pins:List (Addr × Obj)) (σ:St) (Q:List V->Hp->Prop) (us:List Value) (s':Shared):Prop:=∃ vs H',Inv X pins σ H' s'/\bS vs us/\Q vs H'
def SP (X:Cx) (pins:List (Addr × Obj)) (D:pN) (f:Flow) (s':Shared):Prop :=
 match f with
 | .next=>∃ σ' H',Inv X pins σ' H' s'/\D.nx σ' H'
 | .brk=>∃ σ' H',Inv X pins σ' H' s'/\D.bk σ' H'
 | .cont=>∃ σ' H',Inv X pins σ' H' s'/\D.ct σ' H'
 | .ret u=>∃ v σ' H',Inv X pins σ' H' s'/\cF v u/\D.rt v H'
def PE (X:Cx) (e:Expr) (t:TE):Prop :=
 ∀ (pins:List (Addr × Obj)) (s:Shared) (σ:St) (H:Hp) (Q:VK),Inv X pins σ H s->t σ H Q->wpAny (model X.prog X.w) X.A (eval e X.env) (EP X pins σ Q) X.xe s
def PT (X:Cx) (e:Expr) (t:TT):Prop :=
 ∀ (pins:List (Addr × Obj)) (s:Shared) (σ:St) (H:Hp) (Q:Bool->Hp->Prop),Inv X pins σ H s->t σ H Q->wpAny (model X.prog X.w) X.A (isTrue e X.env (eval e X.env)) (TP X pins σ Q) X.xe s
def PW (X:Cx) (e:Expr) (t:TT):Prop :=
 ∀ (whole:Sem Value) (pins:List (Addr × Obj)) (s:Shared) (σ:St) (H:Hp) (Q:Bool->Hp->Prop),Inv X pins σ H s->t σ H Q->wpAny (model X.prog X.w) X.A (isTrue e X.env whole) (TP X pins σ Q) X.xe s
theorem PW.pt {X:Cx} {e:Expr} {t:TT} (h:PW X e t):PT X e t:=h _
def PA (X:Cx) (es:List Expr) (t:TA):Prop :=
 ∀ (pos:Pos) (pins:List (Addr × Obj)) (s:Shared) (σ:St) (H:Hp) (Q:List V->Hp->Prop),Inv X pins σ H s->t σ H Q->wpAny (model X.prog X.w) X.A (spliced (backTo pos (starEach es X.env))) (AP X pins σ Q) X.xe s
def PS (X:Cx) (st:Stmt) (t:TS):Prop :=
 ∀ (pins:List (Addr × Obj)) (s:Shared) (σ:St) (H:Hp) (D:pN),Inv X pins σ H s->t D σ H->wpAny (model X.prog X.w) X.A (exec st X.env) (SP X pins D) X.xe s
def PSs (X:Cx) (st:List Stmt) (t:TS):Prop :=
 ∀ (pins:List (Addr × Obj)) (s:Shared) (σ:St) (H:Hp) (D:pN),Inv X pins σ H s->t D σ H->wpAny (model X.prog X.w) X.A (execs st X.env) (SP X pins D) X.xe s
theorem thn {α:Type} {t:Sem α} {Q Q':α->Shared->Prop} {M:Model} {A:Around} {E:Value->Shared->Prop} {s:Shared} (h:wpAny M A t Q E s) (hQ:∀ a s,Q a s->Q' a s):wpAny M A t Q' E s:=wpAny_mono h hQ fun _ _ x=>x
section
variable {X:Cx}
def aMG (i:Nat):TE:=fun σ H Q=>∃ v,σ[i]? = some (some v)/\Q v H
def tC (v:V):TE:=fun _ H Q=>Q v H
theorem nW {i:Nat} {x:Str} {pos:Pos} (hN:X.N[i]? = some x) (hv:Vis X.env.scope x) (hd:(x == ("__debug__":Str)) = false:=by decide) (hcd:(x == ("__classdict__":Str)) = false:=by decide):PE X (.Name x pos) (aMG i):=by
 intro pins s σ H Q I h
 obtain ⟨v,e,h⟩:=h
 obtain ⟨m,hn,hl⟩:=I.loc
 obtain ⟨u,r,l⟩:=hl i x v hN e hv
 have fin:EP X pins σ Q u s:=⟨v,H,I,r,h⟩
 rcases l with ⟨hk,hm⟩ | ⟨hk,c,hc,hcell⟩
 ·exact wpAny_Name (wpAny_loadName_local I.ok.kind hk hn hm fin) hd
 ·rcases hk with hk | hk
  ·exact wpAny_Name (wpAny_loadName_cell I.ok.kind hk hc hcell fin) hd
  ·exact wpAny_Name (wpAny_loadName_free I.ok.kind hk hc hcell fin hcd) hd
theorem aJA {i j pos}:PE X (.Constant (.int i) j pos) (tC (.int i)):=fun _ _ _ H _ I h=>wpAny_Constant_int ⟨.int i,H,I.tok _,⟨_,rfl⟩,h⟩
theorem aNg {b j pos}:PE X (.Constant (.bool b) j pos) (tC (.bl b)):=fun _ _ _ H _ I h=>Constant_bool ⟨.bl b,H,I,rfl,h⟩
theorem aJ9 {j pos}:PE X (.Constant .none j pos) (tC .non):=fun _ _ _ H _ I h=>Constant_none ⟨.non,H,I,rfl,h⟩
theorem aKA {x j pos}:PE X (.Constant (.str x) j pos) (tC (.str x)):=fun _ _ _ H _ I h=>Calls.Constant_str ⟨.str x,H,I.tok _,⟨_,rfl⟩,h⟩
def Gl (X:Cx) (x:Str):Prop:=X.env.kindOf x = some .globalImplicit
theorem hJ {E:Value->Shared->Prop} {pins:List (Addr × Obj)} {s:Shared} {σ:St} {H:Hp} {x:Str} {u:Value} {pos:Pos} {Q:Value->Shared->Prop} (I:Inv X pins σ H s) (hg:Gl X x) (hm:X.mg x = some u) (h:Q u s)
  (hd:(x == ("__debug__":Str)) = false:=by decide):wpAny (model X.prog X.w) X.A (eval (.Name x pos) X.env) Q E s :=
 Calls.Name_function_global I.ok.kind hg (Calls.loadGlobal_global (by rw [I.ok.glob];exact I.mod.glob.keeps I.bk) hm h) hd
theorem uX {E:Value->Shared->Prop} {pins:List (Addr × Obj)} {s:Shared} {σ:St} {H:Hp} {x:Str} {u:Value} {pos:Pos} {Q:Value->Shared->Prop} (I:Inv X pins σ H s) (hg:Gl X x) (hm:X.mg x = none) (hv:bootBuiltins x = some u) (h:Q u s)
  (hn:x ≠ "__name__":=by decide) (hd:(x == ("__debug__":Str)) = false:=by decide):wpAny (model X.prog X.w) X.A (eval (.Name x pos) X.env) Q E s:=by
 obtain ⟨mb,h1,h2⟩:=I.mod.blt
 exact Calls.Name_function_global I.ok.kind hg (Calls.loadGlobal_builtin (by rw [I.ok.glob];exact I.mod.glob.keeps I.bk) hm (by rw [I.ok.blt];exact h1.keeps I.bk) ((h2 x hn).trans hv) h) hd
theorem aA1 {x:Str} {v:V} {u:Value} {pos:Pos} (hg:Gl X x) (hm:X.mg x = some u) (r:cF v u) (hd:(x == ("__debug__":Str)) = false:=by decide):PE X (.Name x pos) (tC v) :=
 fun _ _ _ H _ I h=>hJ I hg hm ⟨v,H,I,r,h⟩ hd
theorem aAJ {x:Str} {v:V} {u:Value} {pos:Pos} (hg:Gl X x) (hm:X.mg x = none) (hv:bootBuiltins x = some u) (r:cF v u) (hn:x ≠ "__name__":=by decide) (hd:(x == ("__debug__":Str)) = false:=by decide):PE X (.Name x pos) (tC v) :=
 fun _ _ _ H _ I h=>uX I hg hm hv ⟨v,H,I,r,h⟩ hn hd
variable {a b:Expr} {ta tb:TE} {pos:Pos}
def tB (t:TE):TT:=fun σ H Q=>t σ H fun x H1=>∃ c,x = .bl c/\Q c H1
theorem aJG {e:Expr} {t:TE} (h:PE X e t) (he:∀ whole,isTrue e X.env whole = (do let v <- whole;standAt e.pos;holding [v] (truthy v)):=by intro _;rfl):PT X e (tB t):=by
 intro pins s σ H Q I hw
 refine isTrue_plain (thn (h pins s σ H _ I hw) fun v s1 ⟨x,H1,I1,r1,q1⟩=>?_) (he _)
 obtain ⟨d,rfl,q⟩:=q1
 cases r1
 exact wpAny_truthy_bool ⟨H1,I1,q⟩
variable {tA tB':TT} {dD:List Expr}
def aOK (t u:TT):TT:=fun σ H Q=>t σ H fun c H1=>if c = true then u σ H1 Q else Q false H1
def tOr (t u:TT):TT:=fun σ H Q=>t σ H fun c H1=>if c = true then Q true H1 else u σ H1 Q
def aOA (t:TT):TT:=fun σ H Q=>t σ H fun c H1=>Q (!c) H1
theorem aHU (ha:PT X a tA):PW X (.BoolOp .And [a] pos) tA:=by
 intro wh pins s σ H Q I h
 refine isTrue_and (thn (ha pins s σ H Q I h) fun c s1 e=>?_)
 cases c with
 | true=>exact isTrue_and_nil e
 | false=>exact e
theorem aKv (ha:PT X a tA):PW X (.BoolOp .Or [a] pos) tA:=by
 intro wh pins s σ H Q I h
 refine isTrue_or (thn (ha pins s σ H Q I h) fun c s1 e=>?_)
 cases c with
 | false=>exact isTrue_or_nil e
 | true=>exact e
theorem aLq (ha:PT X a tA) (hb:PW X (.BoolOp .And (b :: dD) pos) tB'):PW X (.BoolOp .And (a :: b :: dD) pos) (aOK tA tB'):=by
 intro wh pins s σ H Q I h
 refine isTrue_and (thn (ha pins s σ H _ I h) fun c s1 ⟨H1,I1,q1⟩=>?_)
 cases c with
 | true=>exact hb wh pins s1 σ H1 Q I1 q1
 | false=>exact ⟨H1,I1,q1⟩
theorem aNk (ha:PT X a tA) (hb:PW X (.BoolOp .Or (b :: dD) pos) tB'):PW X (.BoolOp .Or (a :: b :: dD) pos) (tOr tA tB'):=by
 intro wh pins s σ H Q I h
 refine isTrue_or (thn (ha pins s σ H _ I h) fun c s1 ⟨H1,I1,q1⟩=>?_)
 cases c with
 | true=>exact ⟨H1,I1,q1⟩
 | false=>exact hb wh pins s1 σ H1 Q I1 q1
theorem aL2 (ha:PT X a tA):PT X (.UnaryOp .Not a pos) (aOA tA):=by
 intro pins s σ H Q I h
 exact isTrue_not (ha pins s σ H (fun c H1=>Q (!c) H1) I h)
def aNE (ta tb:TE):TE:=fun σ H Q=>ta σ H fun x H1=>∃ c,x = .bl c/\if c = true then tb σ H1 Q else Q (.bl false) H1
def aOD (ta tb:TE):TE:=fun σ H Q=>ta σ H fun x H1=>∃ c,x = .bl c/\if c = true then Q (.bl true) H1 else tb σ H1 Q
def aMJ (ta:TE):TE:=fun σ H Q=>ta σ H fun x H1=>∃ c,x = .bl c/\Q (.bl (!c)) H1
theorem aLS {op} {t:TE} (h:PE X a t):PE X (.BoolOp op [a] pos) t:=fun pins s σ H Q I hw=>BoolOp_one (h pins s σ H Q I hw)
theorem aLB (ha:PE X a ta) (hb:PE X (.BoolOp .And (b :: dD) pos) tb):PE X (.BoolOp .And (a :: b :: dD) pos) (aNE ta tb):=by
 intro pins s σ H Q I h
 refine BoolOp_and (thn (ha pins s σ H _ I h) fun v s1 ⟨x,H1,I1,r1,q1⟩=>?_)
 obtain ⟨c,rfl,q1⟩:=q1
 cases r1
 refine wpAny_truthy_bool ?_
 cases c with
 | true=>exact hb pins s1 σ H1 Q I1 q1
 | false=>exact ⟨.bl false,H1,I1,rfl,q1⟩
theorem aM4 (ha:PE X a ta) (hb:PE X (.BoolOp .Or (b :: dD) pos) tb):PE X (.BoolOp .Or (a :: b :: dD) pos) (aOD ta tb):=by
 intro pins s σ H Q I h
 refine BoolOp_or (thn (ha pins s σ H _ I h) fun v s1 ⟨x,H1,I1,r1,q1⟩=>?_)
 obtain ⟨c,rfl,q1⟩:=q1
 cases r1
 refine wpAny_truthy_bool ?_
 cases c with
 | false=>exact hb pins s1 σ H1 Q I1 q1
 | true=>exact ⟨.bl true,H1,I1,rfl,q1⟩
theorem aKV (ha:PE X a ta):PE X (.UnaryOp .Not a pos) (aMJ ta):=by
 intro pins s σ H Q I h
 refine UnaryOp_ (thn (ha pins s σ H _ I h) fun v s1 ⟨x,H1,I1,r1,q1⟩=>?_)
 obtain ⟨c,rfl,q1⟩:=q1
 cases r1
 exact not_of (wpAny_truthy_bool ⟨.bl (!c),H1,I1,rfl,q1⟩)
def tIf (t:TT) (ta tb:TE):TE:=fun σ H Q=>t σ H fun c H1=>if c = true then ta σ H1 Q else tb σ H1 Q
theorem aGC {c:Expr} (hc:PT X c tA) (ha:PE X a ta) (hb:PE X b tb):PE X (.IfExp c a b pos) (tIf tA ta tb):=by
 intro pins s σ H Q I h
 refine wpAny_IfExp (thn (hc pins s σ H _ I h) fun d s1 ⟨H1,I1,q1⟩=>?_)
 cases d with
 | true=>exact ha pins s1 σ H1 Q I1 q1
 | false=>exact hb pins s1 σ H1 Q I1 q1
end
def SqL (K:Frag) (H:Hp) (a:Addr) (xs:List V):Prop :=
 Rd H a (.lst xs) ∨
  ∃ (o:Obj) (its:Array Value) (n:Nat),K.lookup a = some o/\o.cls = .type "list"/\o.dict = none/\o.data = .seq its n/\its.size<=sizeLine/\bS xs its.toList
def SqT (K:Frag) (H:Hp) (a:Addr) (xs:List V):Prop :=
 Rd H a (.tup xs) ∨
  ∃ (o:Obj) (its:Array Value) (n:Nat),K.lookup a = some o/\o.cls = .type "tuple"/\o.data = .seq its n/\its.size<=sizeLine/\bS xs its.toList
noncomputable def aN9:Value->Option V
 | .none=>some .non
 | .bool b=>some (.bl b)
 | .int i _=>some (.int i)
 | .str x _=>some (.str x)
 | .bytes b _=>some (.byt b)
 | .float b _=>some (.flt b)
 | .ref a=>some (.ref a)
 | .type n=>some (.ty n)
 | _=>none
theorem cF.abs {x:V} {u:Value} (r:cF x u):aN9 u = some x:=by
 cases x with
 | non=>cases r;rfl
 | bl _=>cases r;rfl
 | int _=>obtain ⟨t,rfl⟩:=r;rfl
 | str _=>obtain ⟨t,rfl⟩:=r;rfl
 | byt _=>obtain ⟨t,rfl⟩:=r;rfl
 | flt _=>obtain ⟨t,rfl⟩:=r;rfl
 | ref _=>cases r;rfl
 | ty _=>cases r;rfl
theorem cF.inj {x y:V} {u:Value} (r:cF x u) (q:cF y u):x = y:=Option.some.inj (r.abs.symm.trans q.abs)
theorem bS.inj:∀ {xs ys:List V} {us:List Value},bS xs us->bS ys us->xs = ys
 | _,_,_,.nil,.nil=>rfl
 | _,_,_,.cons r t,.cons r' t'=>by rw [r.inj r',bS.inj t t']
section
variable {X:Cx} {pins:List (Addr × Obj)} {σ:St} {H:Hp} {s:Shared} {a:Addr} {xs ys:List V}
theorem SqL.of {K:Frag} (h:H a = some (.lst xs)):SqL K H a xs:=.inl (.inl h)
theorem SqT.of {K:Frag} (h:H a = some (.tup xs)):SqT K H a xs:=.inl (.inl h)
theorem Inv.list (I:Inv X pins σ H s) (h:SqL X.K H a xs):∃ its:List Value,bS xs its/\PlainL s.heap a its.toArray/\xs.length<=sizeLine:=by
 rcases h with h | ⟨o,its,n,hk,hc,hd,hs,hz,r⟩
 ·obtain ⟨z,its,n,r,e⟩:=h.ok I.hok
  exact ⟨its,r,⟨_,n,e,rfl,rfl,rfl⟩,z⟩
 ·refine ⟨its.toList,r,⟨o,n,I.kIn a o hk,hc,hd,by simpa using hs⟩,?_⟩
  have e:=r.length
  simp only [Array.length_toList] at e
  omega
theorem Inv.tuple (I:Inv X pins σ H s) (h:SqT X.K H a xs):∃ its:List Value,bS xs its/\IsTup s.heap a its.toArray/\xs.length<=sizeLine:=by
 rcases h with h | ⟨o,its,n,hk,hc,hs,hz,r⟩
 ·obtain ⟨z,its,r,p⟩:=h.ok I.hok
  exact ⟨its,r,p,z⟩
 ·refine ⟨its.toList,r,⟨o,I.kIn a o hk,hc,n,by simpa using hs⟩,?_⟩
  have e:=r.length
  simp only [Array.length_toList] at e
  omega
theorem Inv.list_inj (I:Inv X pins σ H s) (h:SqL X.K H a xs) (h':SqL X.K H a ys):xs = ys:=by
 obtain ⟨its,r,⟨o,n,e,_,_,d⟩,_⟩:=I.list h
 obtain ⟨its',r',⟨o',n',e',_,_,d'⟩,_⟩:=I.list h'
 rw [e] at e';cases e'
 rw [d] at d'
 injection d' with d1 _
 have:its = its':=by simpa using congrArg Array.toList d1
 subst this
 exact r.inj r'
theorem Inv.tuple_inj (I:Inv X pins σ H s) (h:SqT X.K H a xs) (h':SqT X.K H a ys):xs = ys:=by
 obtain ⟨its,r,⟨o,e,_,n,d⟩,_⟩:=I.tuple h
 obtain ⟨its',r',⟨o',e',_,n',d'⟩,_⟩:=I.tuple h'
 rw [e] at e';cases e'
 rw [d] at d'
 injection d' with d1 _
 have:its = its':=by simpa using congrArg Array.toList d1
 subst this
 exact r.inj r'
end
noncomputable abbrev Cx.wish (X:Cx) (E:Value->Shared->Prop):Cx:={ X with xe:=E }
noncomputable abbrev Cx.nox (X:Cx):Cx:=X.wish fun _ _=>False
theorem Cx.Ok.wish {X:Cx} (ok:X.Ok) (E:Value->Shared->Prop):(X.wish E).Ok :=
 ⟨ok.mod,ok.kind,ok.glob,ok.blt,ok.above,ok.inj,ok.has,ok.cab,ok.hd,ok.frames,ok.stk,ok.exf,ok.bs,ok.bsz,ok.noex,ok.exfs,ok.funs,ok.frf⟩
theorem Cx.Ok.unwish {X:Cx} {E:Value->Shared->Prop} (ok:(X.wish E).Ok):X.Ok :=
 ⟨ok.mod,ok.kind,ok.glob,ok.blt,ok.above,ok.inj,ok.has,ok.cab,ok.hd,ok.frames,ok.stk,ok.exf,ok.bs,ok.bsz,ok.noex,ok.exfs,ok.funs,ok.frf⟩
section
variable {X:Cx} {pins:List (Addr × Obj)} {σ:St} {H:Hp} {s:Shared} {E:Value->Shared->Prop}
theorem Inv.wish (I:Inv X pins σ H s) (E:Value->Shared->Prop):Inv (X.wish E) pins σ H s:=⟨I.ok.wish E,I.os,I.bare,I.base,I.loc,I.cell,I.free,I.freeC,I.pin,I.hok,I.len⟩
theorem Inv.unwish (I:Inv (X.wish E) pins σ H s):Inv X pins σ H s:=⟨I.ok.unwish,I.os,I.bare,I.base,I.loc,I.cell,I.free,I.freeC,I.pin,I.hok,I.len⟩
theorem SP.unwish {D:pN} {f:Flow} {s':Shared} (h:SP (X.wish E) pins D f s'):SP X pins D f s':=by
 cases f with
 | next=>obtain ⟨σ',H',I,q⟩:=h;exact ⟨σ',H',I.unwish,q⟩
 | brk=>obtain ⟨σ',H',I,q⟩:=h;exact ⟨σ',H',I.unwish,q⟩
 | cont=>obtain ⟨σ',H',I,q⟩:=h;exact ⟨σ',H',I.unwish,q⟩
 | ret u=>obtain ⟨v,σ',H',I,r,q⟩:=h;exact ⟨v,σ',H',I.unwish,r,q⟩
theorem PSs.nox {st:List Stmt} {t:TS} (h:PSs X.nox st t):PSs X st t:=fun pins s σ H D I hw =>
 wpAny_mono (h pins s σ H D (I.wish _) hw) (fun _ _ q=>q.unwish) fun _ _ z=>False.elim z
end
section
variable {X:Cx} {st:Stmt} {dD:List Stmt} {t u:TS} {e:Expr} {te:TE} {pos:Pos}
def aM5:TS:=fun D σ H=>D.nx σ H
def aOa (t u:TS):TS:=fun D σ H=>t { D with nx:=u D } σ H
theorem aIR:PSs X [] aM5:=fun _ _ σ H _ I h=>wpAny_execs_nil ⟨σ,H,I,h⟩
theorem aBT (h1:PS X st t) (h2:PSs X dD u):PSs X (st :: dD) (aOa t u):=by
 intro pins s σ H D I h
 refine wpAny_execs_cons (thn (h1 pins s σ H { D with nx:=u D } I h) fun f s1 q=>?_)
 cases f with
 | next =>
  obtain ⟨σ',H',I',q⟩:=q
  exact h2 pins s1 σ' H' D I' q
 | ret v=>exact q
 | brk=>exact q
 | cont=>exact q
theorem aDk (h1:PS X st t):PSs X [st] t:=by
 intro pins s σ H D I h
 refine wpAny_execs_cons (thn (h1 pins s σ H D I h) fun f s1 q=>?_)
 cases f with
 | next=>exact wpAny_execs_nil q
 | ret v=>exact q
 | brk=>exact q
 | cont=>exact q
theorem Inv.quiet {pins:List (Addr × Obj)} {σ:St} {H:Hp} {s:Shared} (I:Inv X pins σ H s):interactive X.env = false:=by simp [interactive,I.ok.kind]
def aMy (te:TE):TS:=fun D σ H=>te σ H fun _ H1=>D.nx σ H1
theorem aHK (he:PE X e te) (hs:swapsWith e none pos.line X.env = pure false:=by rfl):PS X (.Expr e pos) (aMy te):=by
 intro pins s σ H D I h
 exact wpAny_Expr_any (thn (he pins s σ H _ I h) fun v s1 ⟨x,H1,I1,r1,q1⟩=>⟨σ,H1,I1,q1⟩) I.quiet hs
def aOt (te:TE):TS:=fun D σ H=>te σ H D.rt
theorem aMb (he:PE X e te):PS X (.Return (some e) pos) (aOt te):=by
 intro pins s σ H D I h
 exact wpAny_Return_some (thn (he pins s σ H _ I h) fun v s1 ⟨x,H1,I1,r1,q1⟩=>⟨x,σ,H1,I1,r1,q1⟩)
def aOE (c:TT) (t u:TS):TS:=fun D σ H=>c σ H fun b H1=>if b = true then t D σ H1 else u D σ H1
theorem aMx {c:Expr} {a b:List Stmt} {tc:TT} (hc:PT X c tc) (ha:PSs X a t) (hb:PSs X b u):PS X (.If c a b pos) (aOE tc t u):=by
 intro pins s σ H D I h
 refine wpAny_If (thn (hc pins s σ H _ I h) fun d s1 ⟨H1,I1,q1⟩=>?_)
 cases d with
 | true=>exact ha pins s1 σ H1 D I1 q1
 | false=>exact hb pins s1 σ H1 D I1 q1
end
abbrev TG:=V->St->Hp->(St->Hp->Prop)->Prop
abbrev TGs:=List V->St->Hp->(St->Hp->Prop)->Prop
def PG (X:Cx) (target:Expr) (t:TG):Prop :=
 ∀ (pins:List (Addr × Obj)) (s:Shared) (σ:St) (H:Hp) (v:V) (u:Value) (Q:St->Hp->Prop),Inv X pins σ H s->cF v u->t v σ H Q ->
  wpAny (model X.prog X.w) X.A (assign target X.env u) (fun _ s'=>∃ σ' H',Inv X pins σ' H' s'/\Q σ' H') X.xe s
def PGs (X:Cx) (ts:List Expr) (t:TGs):Prop :=
 ∀ (pins:List (Addr × Obj)) (s:Shared) (σ:St) (H:Hp) (vs:List V) (us:List Value) (Q:St->Hp->Prop),Inv X pins σ H s->bS vs us->t vs σ H Q ->
  wpAny (model X.prog X.w) X.A (assignInOrder ((assignEach ts X.env).map (·.2)) us) (fun _ s'=>∃ σ' H',Inv X pins σ' H' s'/\Q σ' H') X.xe s
abbrev TIp:=V->V->Hp->VK->Prop
def PIp (X:Cx) (op:Operator) (t:TIp):Prop :=
 ∀ (pins:List (Addr × Obj)) (s:Shared) (σ:St) (H:Hp) (x y:V) (v u:Value) (Q:VK),Inv X pins σ H s->cF x v->cF y u->t x y H Q ->
  wpAny (model X.prog X.w) X.A (inplaceOp op v u) (EP X pins σ Q) X.xe s
section
variable {X:Cx} {pos:Pos}
def aJc (i:Nat):TG:=fun v σ H Q=>Q (σ.set i (some v)) H
theorem aHv {i:Nat} {x:Str} (hN:X.N.Nodup) (hi:X.N[i]? = some x) (hx:Loc X.env.scope x) (hf:X.fn x = true ∨ X.env.scope.names.lookup x = some .local:=by first | exact .inl rfl | exact .inr rfl | assumption):PG X (.Name x pos) (aJc i):=by
 intro pins s σ H v u Q I r h
 exact wpAny_assign_Name (mU I hN hi hx r (fun s' I'=>⟨_,H,I',h⟩) hf)
def aOh:TGs:=fun vs σ H Q=>vs = []/\Q σ H
def aNU (t:TG) (u:TGs):TGs:=fun vs σ H Q=>∃ v r,vs = v :: r/\t v σ H fun σ' H'=>u r σ' H' Q
theorem aIq:PGs X [] aOh:=by
 intro pins s σ H vs us Q I r h
 obtain ⟨e,h⟩:=h
 subst e
 cases r
 exact assignInOrder_nil ⟨σ,H,I,h⟩
theorem aGM {e:Expr} {es:List Expr} {t:TG} {u:TGs} (h1:PG X e t) (h2:PGs X es u)
  (hs:(assignEach (e :: es) X.env).map (·.2) = assign e X.env :: (assignEach es X.env).map (·.2):=by rfl):PGs X (e :: es) (aNU t u):=by
 intro pins s σ H vs us Q I r h
 obtain ⟨v,vr,e1,h⟩:=h
 subst e1
 cases r with
 | cons r rr =>
  rw [hs]
  refine assignInOrder_cons (thn (h1 pins s σ H _ _ _ I r h) fun _ s1 ⟨σ1,H1,I1,q1⟩=>?_)
  exact h2 pins s1 σ1 H1 _ _ Q I1 rr q1
def aOu (K:Frag) (n:Nat) (t:TGs):TG:=fun v σ H Q=>∃ a xs,v = .ref a/\SqT K H a xs/\xs.length = n/\t xs σ H Q
theorem aMe {es:List Expr} {k:Nat} {t:TGs} {n:Nat} (hc:X.calm = true) (h:PGs X es t)
  (hn:(assignEach es X.env).length = n:=by rfl) (hst:(assignEach es X.env).findIdx? (·.1) = none:=by rfl):PG X (.Tuple es k pos) (aOu X.K n t):=by
 intro pins s σ H v u Q I r hw
 obtain ⟨a,xs,e1,hq,hl,hw⟩:=hw
 subst e1
 cases r
 obtain ⟨its,rv,ht,hz⟩:=I.tuple hq
 refine assign_Tuple_tuple (I.ok.hd hc) ht (by simp [hn,<- hl,rv.length]) hst fun h' hx=>?_
 have I1:Inv X pins σ H { s with heap:=h' }:=I.kept (t':=s.toks) fun b o e=>hx b o (Nat.ne_of_lt (Heap.lt_size e)) e
 exact h pins _ σ H xs _ Q I1 (by simpa using rv) hw
def aNq (te:TE) (g:TG):TS:=fun D σ H=>te σ H fun x H1=>g x σ H1 D.nx
theorem aLY {tg e:Expr} {te:TE} {g:TG} (he:PE X e te) (hg:PG X tg g) (hs:swapsWithSole [tg] e pos.line X.env = pure false:=by rfl) (hw:swappedStores [tg] e X.env = pure none:=by rfl)
  (h1:(assignEach [tg] X.env).map (·.2) = [assign tg X.env]:=by rfl):PS X (.Assign [tg] e pos) (aNq te g):=by
 intro pins s σ H D I h
 refine wpAny_Assign_stores (thn (he pins s σ H _ I h) fun v s1 ⟨x,H1,I1,r1,q1⟩=>?_) hs hw
 rw [h1]
 exact thn (hg pins s1 σ H1 x v _ I1 r1 q1) fun _ s2 q=>q
theorem aLl {i:Nat} {x:Str} {e:Expr} {te:TE} {pos':Pos} (hN:X.N.Nodup) (hi:X.N[i]? = some x) (hx:Loc X.env.scope x) (he:PE X e te) (hs:swapsWith e (some (.Name x pos')) pos.line X.env = pure false:=by rfl) (hf:X.fn x = true ∨ X.env.scope.names.lookup x = some .local:=by first | exact .inl rfl | exact .inr rfl | assumption) :
  PS X (.Assign [.Name x pos'] e pos) (aNq te (aJc i)):=by
 intro pins s σ H D I h
 refine wpAny_Assign_Name (thn (he pins s σ H _ I h) fun v s1 ⟨y,H1,I1,r1,q1⟩=>?_) hs
 exact mU I1 hN hi hx r1 (fun s2 I2=>⟨_,H1,I2,q1⟩) hf
def aOk (i j:Nat) (ta:TA):TS:=fun D σ H=>ta σ H fun vs H1=>∃ v w,vs = [v,w]/\D.nx ((σ.set i (some v)).set j (some w)) H1
theorem aLL {i j:Nat} {x y:Str} {a b:Expr} {ta:TA} {px py pt:Pos} {kt k2 pt2} (hc:X.calm = true) (hN:X.N.Nodup) (hi:X.N[i]? = some x) (hj:X.N[j]? = some y) (hij:i ≠ j)
  (hx:X.env.scope.names.lookup x = some .local) (hy:X.env.scope.names.lookup y = some .local) (ha:PA X [a,b] ta)
  (hw:swappedStores [.Tuple [.Name x px,.Name y py] kt pt] (.Tuple [a,b] k2 pt2) X.env = pure (some [x,y]))
  (hs:swapsWithSole [.Tuple [.Name x px,.Name y py] kt pt] (.Tuple [a,b] k2 pt2) pos.line X.env = pure false:=by rfl) :
  PS X (.Assign [.Tuple [.Name x px,.Name y py] kt pt] (.Tuple [a,b] k2 pt2) pos) (aOk i j ta):=by
 intro pins s σ H D I h
 rw [exec_Assign_arm]
 refine wpAny_bind (wpAny_standAt ?_)
 rw [hs]
 refine wpAny_bind (wpAny_pure ?_)
 rw [if_neg (by decide)]
 refine wpAny_bind (Tuple_ (thn (ha _ pins s σ H _ I h) fun us s1 ⟨vs,H1,I1,r1,q1⟩=>?_))
 obtain ⟨v,w,e1,q1⟩:=q1
 subst e1
 obtain ⟨u1,u2,rfl,rv,rw'⟩:∃ u1 u2,us = [u1,u2]/\cF v u1/\cF w u2:=by
  cases r1 with
  | cons p q =>
   cases q with
   | cons p' q' =>
    cases q'
    exact ⟨_,_,rfl,p,p'⟩
 refine wpAny_newObj_type ?_ (by show 2<=sizeLine;decide)
 have I2:Inv X pins σ H1 { s1 with heap:=s1.heap.push { cls:=.type "tuple",data:=.seq [u1,u2].toArray } }:=I1.kept (t':=s1.toks) fun b o e=>Heap.get?_push_of_some _ e
 rw [hw]
 refine wpAny_bind (wpAny_pure ?_)
 show wpAny (model X.prog X.w) X.A (do rule "assign.swapped-stores";let items <- unpackItems (.ref s1.heap.objs.size) 2 none;assignInOrder [fun v=>bindName X.env y v,fun v=>bindName X.env x v] items.reverse;pure Flow.next) _ _ _
 refine wpAny_bind (wpAny_rule (wpAny_bind (unpackItems_tuple (items:=#[u1,u2]) (I.ok.hd hc) (IsTup.new s1.heap _) fun h' hx'=>?_)))
 have I3:=I2.kept (h':=h') (t':=s1.toks) fun b o e=>hx' b o (Nat.ne_of_lt (Heap.lt_size e)) e
 show wpAny _ _ (assignInOrder [fun v=>bindName X.env y v,fun v=>bindName X.env x v] [u2,u1] >>= fun _=>pure Flow.next) _ _ _
 refine wpAny_bind (assignInOrder_cons (wpAny_bindName (mU I3 hN hj (.inl hy) rw' (fun s2 I4=>?_) (.inr hy))))
 refine assignInOrder_cons (wpAny_bindName (mU I4 hN hi (.inl hx) rv (fun s3 I5=>assignInOrder_nil (wpAny_pure ?_)) (.inr hx)))
 rw [List.set_comm _ _ (Ne.symm hij)] at I5
 exact ⟨_,H1,I5,q1⟩
def aOd (i:Nat) (te:TE) (ti:TIp):TS:=fun D σ H=>∃ x,σ[i]? = some (some x)/\te σ H fun y H1=>ti x y H1 fun z H2=>D.nx (σ.set i (some z)) H2
theorem aLK {i:Nat} {x:Str} {e:Expr} {te:TE} {op:Operator} {ti:TIp} {pos':Pos} (hN:X.N.Nodup) (hi:X.N[i]? = some x) (hx:Loc X.env.scope x) (he:PE X e te) (ho:PIp X op ti) (hf:X.fn x = true ∨ X.env.scope.names.lookup x = some .local:=by first | exact .inl rfl | exact .inr rfl | assumption) :
  PS X (.AugAssign (.Name x pos') op e pos) (aOd i te ti):=by
 intro pins s σ H D I h
 obtain ⟨v,e1,h⟩:=h
 obtain ⟨m,hn,hl⟩:=I.loc
 have vis:Vis X.env.scope x:=by rcases hx with k | k;exact .inl k;exact .inr (.inl k)
 obtain ⟨u,r,l⟩:=hl i x v hi e1 vis
 refine wpAny_AugAssign_Name ?_
 have go:wpAny (model X.prog X.w) X.A (eval e X.env) (fun w s₂=>wpAny (model X.prog X.w) X.A (inplaceOp op u w) (fun r s₃=>wpAny (model X.prog X.w) X.A (storeName X.env x r) (fun _=>SP X pins D .next) X.xe s₃) X.xe s₂) X.xe s:=by
  refine thn (he pins s σ H _ I h) fun w s1 ⟨y,H1,I1,r1,q1⟩=>?_
  refine thn (ho pins s1 σ H1 v y u w _ I1 r r1 q1) fun z s2 ⟨zv,H2,I2,r2,q2⟩=>?_
  exact mU I2 hN hi hx r2 (fun s3 I3=>⟨_,H2,I3,q2⟩) hf
 rcases l with ⟨hk,hm⟩ | ⟨hk,c,hc,hcell⟩
 ·exact wpAny_loadName_local I.ok.kind hk hn hm go
 ·rcases hk with hk | hk
  ·exact wpAny_loadName_cell I.ok.kind hk hc hcell go
  ·rcases hx with k | k
   ·have:X.env.scope.names.lookup x = some .free:=hk
    rw [k] at this;cases this
   ·have:X.env.scope.names.lookup x = some .free:=hk
    rw [k] at this;cases this
noncomputable def ipI (f:Int->Int->Int):TIp:=fun x y H Q=>∃ i j,x = .int i/\y = .int j/\Q (.int (f i j)) H
theorem yP:PIp X .Add (ipI fun i j=>i + j):=by
 intro pins s σ H x y v u Q I r1 r2 h
 obtain ⟨i,j,e1,e2,q⟩:=h
 subst e1;subst e2
 obtain ⟨t,rfl⟩:=r1
 obtain ⟨t',rfl⟩:=r2
 exact iadd_int ⟨.int _,H,I.tok _,⟨_,rfl⟩,q⟩
end
section
variable {X:Cx} {pos:Pos}
def aLf (c:TT) (tb:TS):TS:=fun D σ H=>∃ W:Nat->St->Hp->Prop,(∃ m,W m σ H)/\∀ m σ H,W m σ H ->
 c σ H fun b H1=>if b = true then ∃ N:St->Hp->Prop,(∀ σ' H',N σ' H'->∃ m',m' < m/\W m' σ' H')/\tb { D with nx:=N,ct:=N,bk:=D.nx } σ H1 else D.nx σ H1
theorem aHb {c:Expr} {body:List Stmt} {tc:TT} {tb:TS} (hp:PassesOwn (model X.prog X.w) X.A X.env X.xe) (hc:PT X c tc) (hb:PSs X body tb):PS X (.While c body [] pos) (aLf tc tb):=by
 intro pins s σ H D I h
 obtain ⟨W,⟨m0,w0⟩,turn⟩:=h
 refine wpAny_While (codeAny_whileLoop (fun n s'=>∃ σ' H',Inv X pins σ' H' s'/\W n σ' H') ?_ m0 ⟨σ,H,I,w0⟩)
 rintro n s1 ⟨σ1,H1,I1,w1⟩
 refine wpAny_passesOwn hp (thn (hc pins s1 σ1 H1 _ I1 (turn n σ1 H1 w1)) fun b s2 ⟨H2,I2,q2⟩=>?_)
 cases b with
 | true =>
  obtain ⟨N,hN,q2⟩:=q2
  rw [if_pos rfl]
  refine wpAny_passesOwn hp (thn (hb pins s2 σ1 H2 _ I2 q2) fun f s3 q3=>?_)
  cases f with
  | next =>
   obtain ⟨σ3,H3,I3,n3⟩:=q3
   obtain ⟨m',hm,w3⟩:=hN σ3 H3 n3
   exact ⟨m',hm,σ3,H3,I3,w3⟩
  | cont =>
   obtain ⟨σ3,H3,I3,n3⟩:=q3
   obtain ⟨m',hm,w3⟩:=hN σ3 H3 n3
   exact ⟨m',hm,σ3,H3,I3,w3⟩
  | brk=>exact q3
  | ret v=>exact q3
 | false =>
  rw [if_neg Bool.false_ne_true]
  exact wpAny_execs_nil ⟨σ1,H2,I2,q2⟩
end
structure It where
 go:Nat->Hp->Prop
 yld:Nat->Hp->V->Hp->Prop
 stop:Nat->Hp->Prop
def yH (X:Cx) (pins:List (Addr × Obj)) (H:Hp) (b:Addr):Prop :=
 H b = none/\b ≠ X.env.locals/\b ∉ X.fs/\(b ∈ X.ex ∨ X.s₀.heap.objs.size<=b)/\(∀ x c,X.env.cells.lookup x = some c->c ≠ b)/\∀ p ∈ X.pn ++ pins,p.1 ≠ b
theorem Inv.fpOk {X:Cx} {pins:List (Addr × Obj)} {σ:St} {H H':Hp} {s:Shared} {b:Addr} (I:Inv X pins σ H s) (hb:s.heap.objs.size<=b) (hn:H' b = none):yH X pins H' b:=by
 refine ⟨hn,Nat.ne_of_gt (Nat.lt_of_lt_of_le I.lt hb),I.nofs hb,.inr (Nat.le_trans I.sz hb),fun x c e z=>?_,fun p hp z=>?_⟩
 ·obtain ⟨v,q⟩:=I.cell x c e
  exact absurd (Nat.lt_of_lt_of_le q.lt (by rw [z];exact hb)) (Nat.lt_irrefl _)
 ·exact absurd (Nat.lt_of_lt_of_le (Heap.lt_size (I.pin p hp).1) (by rw [z];exact hb)) (Nat.lt_irrefl _)
structure aFc (P:Program) (w:World) (K:Frag) (tg:Expr) (J:It) (fp:List Addr) (it:Addr) (tn:Nat->Heap->Prop):Prop where
 mem:it ∈ fp
 obj:∀ i h,tn i h->∀ b ∈ fp,∃ o,h.get? b = some o/\∀ v,o.data ≠ .cell v
 keep:∀ i h h',tn i h->(∀ b ∈ fp,∀ o,h.get? b = some o->h'.get? b = some o)->tn i h'
 item:∀ (X:Cx),X.prog = P->X.w = w->X.K = K->X.calm = true->∀ (i:Nat) (pins:List (Addr × Obj)) (s:Shared) (σ:St) (H:Hp) (E:Value->Shared->Prop),Inv X pins σ H s->(∀ b ∈ fp,yH X pins H b)->tn i s.heap->J.go i H ->
  wpAny (model P w) X.A (pyNext (.ref it)) (fun r s1=>∃ u,r = some u /\
   wpAny (model P w) X.A (letOwnedTupleGo tg (.ref it) u) (fun _ s2=>∃ x H',Inv X pins σ H' s2/\cF x u/\J.yld i H x H'/\tn (i + 1) s2.heap/\∀ b ∈ fp,H' b = none) E s1) E s
 done:∀ (X:Cx),X.prog = P->X.w = w->X.K = K->X.calm = true->∀ (i:Nat) (pins:List (Addr × Obj)) (s:Shared) (σ:St) (H:Hp) (E:Value->Shared->Prop),Inv X pins σ H s->(∀ b ∈ fp,yH X pins H b)->tn i s.heap->J.stop i H ->
  wpAny (model P w) X.A (pyNext (.ref it)) (fun r s1=>r = none/\Inv X pins σ H s1) E s
 self:∀ (A:Around) (i:Nat) (s:Shared) (Q:Value->Shared->Prop) (E:Value->Shared->Prop),tn i s.heap->Q (.ref it) s->wpAny (model P w) A (pyIter (.ref it)) Q E s
abbrev TI:=St->Hp->(It->Hp->Prop)->Prop
def PIE (X:Cx) (pins:List (Addr × Obj)) (σ:St) (tg:Expr) (R:It->Hp->Prop) (itv:Value) (s2:Shared):Prop :=
 ∃ (it:Addr) (fp:List Addr) (tn:Nat->Heap->Prop) (J:It) (H':Hp),itv = .ref it/\Inv X pins σ H' s2/\aFc X.prog X.w X.K tg J fp it tn/\tn 0 s2.heap/\(∀ b ∈ fp,yH X pins H' b)/\R J H'
def PI (X:Cx) (tg iter:Expr) (wi:TI):Prop :=
 ∀ (pins:List (Addr × Obj)) (s:Shared) (σ:St) (H:Hp) (R:It->Hp->Prop),Inv X pins σ H s->wi σ H R ->
  wpAny (model X.prog X.w) X.A (eval iter X.env) (fun v s1=>wpAny (model X.prog X.w) X.A (pyIter v) (PIE X pins σ tg R) X.xe s1) X.xe s
theorem aGD {M:Model} {A:Around} {E:Value->Shared->Prop} {s:Shared} {tg:Expr} {it:Addr} {u:Value} {o:Obj} {n:String} {vs:Array Value} {Q:Unit->Shared->Prop} (ho:s.heap.get? it = some o) (hc:o.cls = .type n) (hd:o.data = .fields vs)
  (hn:["enumerate","zip","dict_itemiterator","dict_reverseitemiterator","odict_iterator","itertools.zip_longest","itertools.pairwise"].contains n = false) (hQ:Q () s):wpAny M A (letOwnedTupleGo tg (.ref it) u) Q E s:=by
 unfold letOwnedTupleGo
 cases tg<;>first
  | exact wpAny_pure hQ
  | (cases u<;>first
    | exact wpAny_pure hQ
    | (
      refine wpAny_bind (wpAny_load ho ?_)
      rw [hc,hd]
      show wpAny M A (if (["enumerate","zip","dict_itemiterator","dict_reverseitemiterator","odict_iterator","itertools.zip_longest","itertools.pairwise"].contains n && vs[0]? == some (rawInt _)) = true then _ else _) Q E s
      rw [if_neg (by intro h;rw [hn,Bool.false_and] at h;cases h)]
      exact wpAny_pure hQ))
noncomputable def Itl (K:Frag) (a:Addr):It :=
 ⟨fun i H=>∃ xs x,SqL K H a xs/\xs[i]? = some x,fun i H x H'=>H' = H/\∀ xs,SqL K H a xs->xs[i]? = some x,fun i H=>∃ xs,SqL K H a xs/\xs.length<=i⟩
noncomputable def Itt (K:Frag) (a:Addr):It :=
 ⟨fun i H=>∃ xs x,SqT K H a xs/\xs[i]? = some x,fun i H x H'=>H' = H/\∀ xs,SqT K H a xs->xs[i]? = some x,fun i H=>∃ xs,SqT K H a xs/\xs.length<=i⟩
noncomputable def Itr (lo:Int) (n:Nat):It:=⟨fun i _=>i < n,fun i H x H'=>H' = H/\x = .int (lo + i),fun i _=>n<=i⟩
theorem aD7 {P:Program} {w:World} {K:Frag} {tg:Expr} (a it:Addr):aFc P w K tg (Itl K a) [it] it (fun i h=>h.IsListIter it a i) where
 mem:=by simp
 obj:=fun i h st b hb=>by
  have e:b = it:=by simpa using hb
  subst e
  obtain ⟨o,e,c,d⟩:=st
  exact ⟨o,e,fun v z=>by rw [d] at z;cases z⟩
 keep:=fun i h h' st k=>st.at fun o e=>k it (by simp) o e
 item:=by
  intro X hP hw hK hc i pins s σ H E I hf st hg
  subst hP hw hK
  obtain ⟨xs,x,hq,hx⟩:=hg
  obtain ⟨its,rv,p,hz⟩:=I.list hq
  obtain ⟨u,hu,ru⟩:=rv.get hx
  obtain ⟨f0,f1,f2,f3,f4,f5⟩:=hf it (by simp)
  refine wpAny_pyNext_list_item st p.isList (x:=u) (by simpa using hu) fun h' st' sb=>?_
  have I1:Inv X pins σ H { s with heap:=h' }:=I.turned (t':=s.toks) (fun b o hb e=>(sb.2 b hb).trans e) f0 f1 f3 f4 f5
  obtain ⟨o,e,c,d⟩:=id st'
  exact ⟨u,rfl,aGD (s:={ s with heap:=h' }) e c d (by decide) ⟨x,H,I1,ru,⟨rfl,fun ys hy=>by rw [I.list_inj hy hq];exact hx⟩,st',fun b hb=>(hf b hb).1⟩⟩
 done:=by
  intro X hP hw hK hc i pins s σ H E I hf st hg
  subst hP hw hK
  obtain ⟨xs,hq,hx⟩:=hg
  obtain ⟨its,rv,p,hz⟩:=I.list hq
  obtain ⟨f0,f1,f2,f3,f4,f5⟩:=hf it (by simp)
  have hl:=rv.length
  exact wpAny_pyNext_list_end (I.ok.hd hc) st p.isList (by simp;omega) fun h' eb=>⟨rfl,I.turned (t':=s.toks) (fun b o hb e=>eb b o hb e) f0 f1 f3 f4 f5⟩
 self:=fun _ _ _ _ _ st h=>wpAny_pyIter_listiter st h
theorem aDa {P:Program} {w:World} {K:Frag} {tg:Expr} (a it:Addr):aFc P w K tg (Itt K a) [it] it (fun i h=>h.IsTupleIter it a i) where
 mem:=by simp
 obj:=fun i h st b hb=>by
  have e:b = it:=by simpa using hb
  subst e
  obtain ⟨o,e,c,d⟩:=st
  exact ⟨o,e,fun v z=>by rw [d] at z;cases z⟩
 keep:=fun i h h' st k=>st.at fun o e=>k it (by simp) o e
 item:=by
  intro X hP hw hK hc i pins s σ H E I hf st hg
  subst hP hw hK
  obtain ⟨xs,x,hq,hx⟩:=hg
  obtain ⟨its,rv,p,hz⟩:=I.tuple hq
  obtain ⟨u,hu,ru⟩:=rv.get hx
  obtain ⟨f0,f1,f2,f3,f4,f5⟩:=hf it (by simp)
  refine wpAny_pyNext_tuple_item st (show s.heap.IsTuple a its.toArray from p) (x:=u) (by simpa using hu) fun h' st' sb=>?_
  have I1:Inv X pins σ H { s with heap:=h' }:=I.turned (t':=s.toks) (fun b o hb e=>(sb.2 b hb).trans e) f0 f1 f3 f4 f5
  obtain ⟨o,e,c,d⟩:=id st'
  exact ⟨u,rfl,aGD (s:={ s with heap:=h' }) e c d (by decide) ⟨x,H,I1,ru,⟨rfl,fun ys hy=>by rw [I.tuple_inj hy hq];exact hx⟩,st',fun b hb=>(hf b hb).1⟩⟩
 done:=by
  intro X hP hw hK hc i pins s σ H E I hf st hg
  subst hP hw hK
  obtain ⟨xs,hq,hx⟩:=hg
  obtain ⟨its,rv,p,hz⟩:=I.tuple hq
  obtain ⟨f0,f1,f2,f3,f4,f5⟩:=hf it (by simp)
  have hl:=rv.length
  exact wpAny_pyNext_tuple_end (I.ok.hd hc) st (show s.heap.IsTuple a its.toArray from p) (by simp;omega) fun h' eb=>⟨rfl,I.turned (t':=s.toks) (fun b o hb e=>eb b o hb e) f0 f1 f3 f4 f5⟩
 self:=fun _ _ _ _ _ st h=>wpAny_pyIter_tupleiter st h
theorem aCW {P:Program} {w:World} {K:Frag} {tg:Expr} (it:Addr) (lo:Int) (n:Nat):aFc P w K tg (Itr lo n) [it] it (fun i h=>IsRangeIter h it (lo + (i:Nat) * 1) ((n:Int) - (i:Nat)) 1) where
 mem:=by simp
 obj:=fun i h st b hb=>by
  have e:b = it:=by simpa using hb
  subst e
  exact ⟨_,st,fun v z=>by
   have z':Data.fields _ = Data.cell v:=z
   cases z'⟩
 keep:=fun i h h' st k=>k it (by simp) _ st
 item:=by
  intro X hP hw hK hc i pins s σ H E I hf st hg
  subst hP hw hK
  obtain ⟨f0,f1,f2,f3,f4,f5⟩:=hf it (by simp)
  have W:=Walks.range (prog:=X.prog) (w:=X.w) (I.ok.hd hc) it lo 1 n
  refine W.item i s _ _ hg st fun v h' tk hv st' kk=>?_
  obtain ⟨t,rfl⟩:=hv
  have I1:Inv X pins σ H { s with heap:=h',toks:=tk }:=I.turned (fun b o hb e=>kk b o (by simpa using hb) e) f0 f1 f3 f4 f5
  refine ⟨_,rfl,aGD (s:={ s with heap:=h',toks:=tk }) (n:="range_iterator") st' rfl rfl (by decide) ⟨.int (lo + i),H,I1,⟨t,?_⟩,⟨rfl,rfl⟩,st',fun b hb=>(hf b hb).1⟩⟩
  rw [Int.mul_one]
 done:=by
  intro X hP hw hK hc i pins s σ H E I hf st hg
  subst hP hw hK
  obtain ⟨f0,f1,f2,f3,f4,f5⟩:=hf it (by simp)
  exact wpAny_pyNext_range_end (I.ok.hd hc) st (by have:n<=i:=hg;omega) fun h' eb=>⟨rfl,I.turned (t':=s.toks) (fun b o hb e=>eb b o hb e) f0 f1 f3 f4 f5⟩
 self:=fun _ _ _ _ _ st h=>wpAny_pyIter_rangeiter st h
section
variable {X:Cx} {tg:Expr}
noncomputable def aNV (K:Frag) (tl:TE):TI:=fun σ H R=>tl σ H fun x H1=>∃ a,x = .ref a/\(∃ xs,SqL K H1 a xs)/\R (Itl K a) H1
noncomputable def aOj (K:Frag) (tl:TE):TI:=fun σ H R=>tl σ H fun x H1=>∃ a,x = .ref a/\(∃ xs,SqT K H1 a xs)/\R (Itt K a) H1
theorem aDl {l:Expr} {tl:TE} (hl:PE X l tl):PI X tg l (aNV X.K tl):=by
 intro pins s σ H R I h
 refine thn (hl pins s σ H _ I h) fun v s1 ⟨x,H1,I1,r1,q1⟩=>?_
 obtain ⟨a,e,⟨xs,hq⟩,q⟩:=q1
 subst e
 cases r1
 obtain ⟨its,rv,p,hz⟩:=I1.list hq
 refine wpAny_pyIter_list p.isList ?_
 refine ⟨s1.heap.objs.size,[s1.heap.objs.size],_,_,H1,rfl,I1.kept (t':=s1.toks) fun b o e=>Heap.get?_push_of_some _ e,aD7 a _,⟨_,Heap.get?_push_size _ rfl,rfl,rfl⟩,fun b hb=>?_,q⟩
 have e:b = s1.heap.objs.size:=by simpa using hb
 subst e
 exact I1.fpOk (Nat.le_refl _) (I1.hok.fresh (Nat.le_refl _))
theorem aCF {l:Expr} {tl:TE} (hl:PE X l tl):PI X tg l (aOj X.K tl):=by
 intro pins s σ H R I h
 refine thn (hl pins s σ H _ I h) fun v s1 ⟨x,H1,I1,r1,q1⟩=>?_
 obtain ⟨a,e,⟨xs,hq⟩,q⟩:=q1
 subst e
 cases r1
 obtain ⟨its,rv,p,hz⟩:=I1.tuple hq
 refine wpAny_pyIter_tuple (show s1.heap.IsTuple a its.toArray from p) ?_
 refine ⟨s1.heap.objs.size,[s1.heap.objs.size],_,_,H1,rfl,I1.kept (t':=s1.toks) fun b o e=>Heap.get?_push_of_some _ e,aDa a _,⟨_,Heap.get?_push_size _ rfl,rfl,rfl⟩,fun b hb=>?_,q⟩
 have e:b = s1.heap.objs.size:=by simpa using hb
 subst e
 exact I1.fpOk (Nat.le_refl _) (I1.hok.fresh (Nat.le_refl _))
theorem aGv {pins:List (Addr × Obj)} {σ:St} {H:Hp} {s:Shared} {R:It->Hp->Prop} {E:Value->Shared->Prop} {lo hi:Int} {t u v:Tok} {tk:Nat} (I:Inv X pins σ H s) (h1:-(2 ^ 62)<=lo) (h2:lo < 2 ^ 62) (h3:-(2 ^ 62)<=hi) (h4:hi < 2 ^ 62)
  (q:R (Itr lo (hi - lo).toNat) H):wpAny (model X.prog X.w) X.A (pyIter (.ref s.heap.objs.size)) (PIE X pins σ tg R) E { s with heap:=s.heap.push { cls:=.type "range",data:=.fields #[.int lo t,.int hi u,.int 1 v] },toks:=tk }:=by
 refine wpAny_pyIter_range (IsRange.new ..) (small_one h1 h2 h3 h4) ?_
 have I1:Inv X pins σ H { s with heap:=s.heap.push { cls:=.type "range",data:=.fields #[.int lo t,.int hi u,.int 1 v] },toks:=tk }:=I.kept fun b o e=>Heap.get?_push_of_some _ e
 refine ⟨(s.heap.push { cls:=.type "range",data:=.fields #[.int lo t,.int hi u,.int 1 v] }).objs.size,[(s.heap.push { cls:=.type "range",data:=.fields #[.int lo t,.int hi u,.int 1 v] }).objs.size],_,_,H,rfl,
  I1.kept (t':=tk) fun b o e=>Heap.get?_push_of_some _ e,aCW _ lo (hi - lo).toNat,?_,fun b hb=>?_,q⟩
 ·have e1:lo + ((0:Nat):Int) * 1 = lo:=by simp
  have e2:(((hi - lo).toNat:Nat):Int) - ((0:Nat):Int) = Builtin.Range.rangeSize lo hi 1:=by rw [rangeSize_one];split<;>omega
  show IsRangeIter _ _ (lo + ((0:Nat):Int) * 1) ((((hi - lo).toNat:Nat):Int) - ((0:Nat):Int)) 1
  rw [e1,e2]
  exact Heap.get?_push_size _ rfl
 ·have e:b = (s.heap.push { cls:=.type "range",data:=.fields #[.int lo t,.int hi u,.int 1 v] }).objs.size:=by simpa using hb
  subst e
  exact I1.fpOk (Nat.le_refl _) (I1.hok.fresh (Nat.le_refl _))
noncomputable def aMU (ta:TA):TI:=fun σ H R=>ta σ H fun vs H1=>∃ j:Int,vs = [.int j]/\-(2 ^ 62)<=j/\j < 2 ^ 62/\R (Itr 0 j.toNat) H1
theorem aAb {a:Expr} {ta:TA} {p pos:Pos} (hg:Gl X "range") (hm:X.mg "range" = none) (ha:PA X [a] ta) (hs:starEach [a] X.env = [(false,eval a X.env)]:=by rfl):PI X tg (.Call (.Name "range" p) [a] [] pos) (aMU ta):=by
 intro pins s σ H R I h
 refine Call_ (uX I hg hm boot_range (PyProof.Rows.callWith_type1 (thn (ha pos pins s σ H _ I h) fun us s1 ⟨vs,H1,I1,r1,q1⟩=>?_) hs rfl))
 obtain ⟨j,e,q1,q2,q⟩:=q1
 subst e
 cases r1 with
 | cons r rr =>
  cases rr
  obtain ⟨t,rfl⟩:=r
  exact call_range_1 (aGv I1 (by omega) (by omega) q1 q2 (by simpa using q))
def aN7 (wi:TI) (g:TG) (tb:TS):TS:=fun D σ H=>wi σ H fun J H1=>∃ W:Nat->Nat->St->Hp->Prop,(∃ m,W 0 m σ H1)/\∀ i m σ H,W i m σ H ->
 (J.stop i H/\D.nx σ H) ∨ (J.go i H/\∃ N:St->Hp->Prop,(∀ σ' H',N σ' H'->∃ m',m' < m/\W (i + 1) m' σ' H')/\∀ x H',J.yld i H x H'->g x σ H' fun σ2 H2=>tb { D with nx:=N,ct:=N,bk:=D.nx } σ2 H2)
noncomputable def aAW (fp:List Addr) (h:Heap):List (Addr × Obj):=fp.filterMap fun b=>(h.get? b).map fun o=>(b,o)
theorem gF {fp:List Addr} {h:Heap} {b:Addr} {o:Obj} (hb:b ∈ fp) (e:h.get? b = some o):(b,o) ∈ aAW fp h:=List.mem_filterMap.mpr ⟨b,hb,by rw [e];rfl⟩
theorem aD0 {fp:List Addr} {h:Heap} {p:Addr × Obj} (hp:p ∈ aAW fp h):p.1 ∈ fp/\h.get? p.1 = some p.2:=by
 obtain ⟨b,hb,e⟩:=List.mem_filterMap.mp hp
 cases q:h.get? b with
 | none=>rw [q] at e;cases e
 | some o =>
  rw [q] at e
  have e':(b,o) = p:=Option.some.inj e
  subst e'
  exact ⟨hb,q⟩
theorem Inv.pinned {pins:List (Addr × Obj)} {σ:St} {H:Hp} {s:Shared} {fp:List Addr} (I:Inv X pins σ H s) (hf:∀ b ∈ fp,yH X pins H b) (ho:∀ b ∈ fp,∃ o,s.heap.get? b = some o/\∀ v,o.data ≠ .cell v):Inv X (pins ++ aAW fp s.heap) σ H s :=
 I.pins_of fun p hp=>(List.mem_append.mp hp).elim (fun z=>I.pin p (mem_append_right _ z)) fun z=>by
  obtain ⟨hb,e⟩:=aD0 z
  obtain ⟨f0,f1,f2,_⟩:=hf p.1 hb
  obtain ⟨o,e',d⟩:=ho p.1 hb
  rw [e] at e';cases e'
  exact ⟨e,f0,f1,f2,d⟩
theorem Inv.unpinned {pins pl:List (Addr × Obj)} {σ:St} {H:Hp} {s:Shared} (I:Inv X (pins ++ pl) σ H s):Inv X pins σ H s:=I.pins_of fun p hp=>I.pin p (mem_append_right _ (mem_append_left _ hp))
theorem aA6 {iter:Expr} {body:List Stmt} {wi:TI} {g:TG} {tb:TS} {pos:Pos} (hp:PassesOwn (model X.prog X.w) X.A X.env X.xe) (hc:X.calm = true) (hi:PI X tg iter wi) (hg:PG X tg g) (hb:PSs X body tb)
  (hs:∀ x,foldedSetIterable iter X.env x = pure x:=by intro _;rfl):PS X (.For tg iter body [] pos) (aN7 wi g tb):=by
 intro pins s σ H D I h
 refine wpAny_For (thn (hi pins s σ H _ I h) fun v s1 h1=>thn h1 fun itv s2 h2=>?_) hs
 obtain ⟨it,fp,tn,J,H2,e,I2,T,st2,f2,W,⟨m0,w0⟩,turn⟩:=h2
 subst e
 have stat:∀ {H':Hp},(∀ b ∈ fp,H' b = none)->∀ b ∈ fp,yH X pins H' b:=fun hn b hb=>⟨hn b hb,(f2 b hb).2⟩
 refine codeAny_forLoop_any (fun n s'=>∃ i σ' H',Inv X pins σ' H' s'/\tn i s'.heap/\(∀ b ∈ fp,H' b = none)/\W i n σ' H') ?_ m0 ⟨0,σ,H2,I2,st2,fun b hb=>(f2 b hb).1,w0⟩
 rintro n s3 ⟨i,σ3,H3,I3,st3,fr3,w3⟩
 rcases turn i n σ3 H3 w3 with ⟨stop,qn⟩ | ⟨go,N,hN,step⟩
 ·refine wpAny_passesOwn hp (thn (T.done X rfl rfl rfl hc i pins s3 σ3 H3 X.xe I3 (stat fr3) st3 stop) fun r s4 ⟨hr,I4⟩=>?_)
  subst hr
  exact wpAny_execs_nil ⟨σ3,H3,I4,qn⟩
 ·refine wpAny_passesOwn hp (thn (T.item X rfl rfl rfl hc i pins s3 σ3 H3 X.xe I3 (stat fr3) st3 go) fun r s4 ⟨u,hr,h4⟩=>?_)
  subst hr
  refine wpAny_passesOwn hp (thn h4 fun _ s5 ⟨x,H5,I5,r5,y5,st5,fr5⟩=>?_)
  have I5':=I5.pinned (stat fr5) (T.obj _ _ st5)
  refine wpAny_passesOwn hp (thn (hg _ s5 σ3 H5 x u _ I5' r5 (step x H5 y5)) fun _ s6 ⟨σ6,H6,I6,q6⟩=>?_)
  refine wpAny_passesOwn hp (thn (hb _ s6 σ6 H6 _ I6 q6) fun f s7 q7=>?_)
  have again:∀ {σ7:St} {H7:Hp},Inv X (pins ++ aAW fp s5.heap) σ7 H7 s7->N σ7 H7->∃ m,m < n/\∃ i σ' H',Inv X pins σ' H' s7/\tn i s7.heap/\(∀ b ∈ fp,H' b = none)/\W i m σ' H':=fun {σ7 H7} I7 n7=>by
   obtain ⟨m',hm,w7⟩:=hN σ7 H7 n7
   refine ⟨m',hm,i + 1,σ7,H7,I7.unpinned,T.keep _ _ _ st5 fun b hb o e=>(I7.pin (b,o) (mem_append_right _ (mem_append_right _ (gF hb e)))).1,fun b hb=>?_,w7⟩
   obtain ⟨o,e,d⟩:=T.obj _ _ st5 b hb
   exact (I7.pin (b,o) (mem_append_right _ (mem_append_right _ (gF hb e)))).2.1
  cases f with
  | next=>obtain ⟨σ7,H7,I7,n7⟩:=q7;exact again I7 n7
  | cont=>obtain ⟨σ7,H7,I7,n7⟩:=q7;exact again I7 n7
  | brk=>obtain ⟨σ7,H7,I7,q7⟩:=q7;exact ⟨σ7,H7,I7.unpinned,q7⟩
  | ret v=>obtain ⟨x7,σ7,H7,I7,r7,q7⟩:=q7;exact ⟨x7,σ7,H7,I7.unpinned,r7,q7⟩
end
abbrev R2:=V->V->Hp->VK->Prop
def OpR (X:Cx) (f:Value->Value->Sem Value) (r:R2):Prop :=
 ∀ (pins:List (Addr × Obj)) (s:Shared) (σ:St) (H:Hp) (x y:V) (v u:Value) (Q:VK),Inv X pins σ H s->cF x v->cF y u->r x y H Q ->
  wpAny (model X.prog X.w) X.A (f v u) (EP X pins σ Q) X.xe s
def UnR (X:Cx) (f:Value->Sem Value) (r:V->Hp->VK->Prop):Prop :=
 ∀ (pins:List (Addr × Obj)) (s:Shared) (σ:St) (H:Hp) (x:V) (v:Value) (Q:VK),Inv X pins σ H s->cF x v->r x H Q ->
  wpAny (model X.prog X.w) X.A (f v) (EP X pins σ Q) X.xe s
def jO (X:Cx) (f:Value) (r:List V->Hp->VK->Prop):Prop :=
 ∀ (pins:List (Addr × Obj)) (s:Shared) (σ:St) (H:Hp) (xs:List V) (us:List Value) (Q:VK),Inv X pins σ H s->bS xs us->r xs H Q ->
  wpAny (model X.prog X.w) X.A (call f us) (EP X pins σ Q) X.xe s
def tOp (r:R2) (ta tb:TE):TE:=fun σ H Q=>ta σ H fun x H1=>tb σ H1 fun y H2=>r x y H2 Q
def tUn (r:V->Hp->VK->Prop) (ta:TE):TE:=fun σ H Q=>ta σ H fun x H1=>r x H1 Q
def rI (C:Int->Int->Prop) (g:Int->Int->V):R2:=fun x y H Q=>∃ i j,x = .int i/\y = .int j/\C i j/\Q (g i j) H
def rI0 (g:Int->Int->V):R2:=fun x y H Q=>∃ i j,x = .int i/\y = .int j/\Q (g i j) H
def rU (g:Int->V):V->Hp->VK->Prop:=fun x H Q=>∃ i,x = .int i/\Q (g i) H
section
variable {X:Cx} {a b c:Expr} {ta tb tc:TE} {pos:Pos}
theorem aJS (ha:PE X a ta) (hb:PE X b tb) {pins:List (Addr × Obj)} {s:Shared} {σ:St} {H:Hp} {R:V->V->Hp->Prop} (I:Inv X pins σ H s)
  (h:ta σ H fun x H1=>tb σ H1 fun y H2=>R x y H2) {Q:Value->Shared->Prop} {f:Value->Value->Sem Value}
  (hf:∀ v u s2 x y H2,Inv X pins σ H2 s2->cF x v->cF y u->R x y H2->wpAny (model X.prog X.w) X.A (f v u) Q X.xe s2) :
  wpAny (model X.prog X.w) X.A (eval a X.env) (fun v s₁=>wpAny (model X.prog X.w) X.A (eval b X.env) (fun u s₂=>wpAny (model X.prog X.w) X.A (f v u) Q X.xe s₂) X.xe s₁) X.xe s:=by
 refine thn (ha pins s σ H _ I h) fun v s1 ⟨x,H1,I1,r1,q1⟩=>?_
 refine thn (hb pins s1 σ H1 _ I1 q1) fun u s2 ⟨y,H2,I2,r2,q2⟩=>?_
 exact hf v u s2 x y H2 I2 r1 r2 q2
theorem aNz {op:Operator} {r:R2} (ho:OpR X (binaryOp op) r) (ha:PE X a ta) (hb:PE X b tb):PE X (.BinOp a op b pos) (tOp r ta tb):=by
 intro pins s σ H Q I h
 exact wpAny_BinOp (aJS ha hb I h fun v u s2 x y H2 I2 rx ry q=>ho pins s2 σ H2 x y v u Q I2 rx ry q)
theorem aNS {op:UnaryOp} {r:V->Hp->VK->Prop} (ho:UnR X (unaryOp op) r) (ha:PE X a ta):PE X (.UnaryOp op a pos) (tUn r ta):=by
 intro pins s σ H Q I h
 exact UnaryOp_ (thn (ha pins s σ H _ I h) fun v s1 ⟨x,H1,I1,r1,q1⟩=>ho pins s1 σ H1 x v Q I1 r1 q1)
theorem opI {f:Value->Value->Sem Value} {C:Int->Int->Prop} {g:Int->Int->Int}
  (rule:∀ (i j:Int) (t u:Tok) (s:Shared) (Q:Value->Shared->Prop) (E:Value->Shared->Prop),C i j->Q (.int (g i j) s.toks) { s with toks:=s.toks + 1 }->wpAny (model X.prog X.w) X.A (f (.int i t) (.int j u)) Q E s) :
  OpR X f (rI C fun i j=>.int (g i j)):=by
 intro pins s σ H x y v u Q I rx ry h
 obtain ⟨i,j,rfl,rfl,hc,q⟩:=h
 obtain ⟨t,rfl⟩:=rx
 obtain ⟨t',rfl⟩:=ry
 exact rule i j t t' s _ _ hc ⟨.int (g i j),H,I.tok _,⟨_,rfl⟩,q⟩
theorem aM6 {f:Value->Value->Sem Value} {g:Int->Int->Int}
  (rule:∀ (i j:Int) (t u:Tok) (s:Shared) (Q:Value->Shared->Prop) (E:Value->Shared->Prop),Q (.int (g i j) s.toks) { s with toks:=s.toks + 1 }->wpAny (model X.prog X.w) X.A (f (.int i t) (.int j u)) Q E s) :
  OpR X f (rI0 fun i j=>.int (g i j)):=by
 intro pins s σ H x y v u Q I rx ry h
 obtain ⟨i,j,rfl,rfl,q⟩:=h
 obtain ⟨t,rfl⟩:=rx
 obtain ⟨t',rfl⟩:=ry
 exact rule i j t t' s _ _ ⟨.int (g i j),H,I.tok _,⟨_,rfl⟩,q⟩
theorem aIy {f:Value->Value->Sem Value} {g:Int->Int->Bool}
  (rule:∀ (i j:Int) (t u:Tok) (s:Shared) (Q:Value->Shared->Prop) (E:Value->Shared->Prop),Q (.bool (g i j)) s->wpAny (model X.prog X.w) X.A (f (.int i t) (.int j u)) Q E s) :
  OpR X f (rI0 fun i j=>.bl (g i j)):=by
 intro pins s σ H x y v u Q I rx ry h
 obtain ⟨i,j,rfl,rfl,q⟩:=h
 obtain ⟨t,rfl⟩:=rx
 obtain ⟨t',rfl⟩:=ry
 exact rule i j t t' s _ _ ⟨.bl (g i j),H,I,rfl,q⟩
def aMW (i j:Int):Prop:=0<=j/\j<=1000000/\i.natAbs < 2 ^ 64
theorem aKe:OpR X (binaryOp .Add) (rI0 fun i j=>.int (i + j)):=aM6 fun _ _ _ _ _ _ _ q=>add_int q
theorem aJY:OpR X (binaryOp .Sub) (rI0 fun i j=>.int (i - j)):=aM6 fun _ _ _ _ _ _ _ q=>sub_int q
theorem aH1:OpR X (binaryOp .Mod) (rI (fun _ j=>j ≠ 0) fun i j=>.int (i.fmod j)):=opI fun _ _ _ _ _ _ _ hc q=>mod_int' hc q
theorem aLa:OpR X (binaryOp .Pow) (rI aMW fun i j=>.int (i ^ j.toNat)):=opI fun _ _ _ _ _ _ _ hc q=>pow_int_small hc.1 hc.2.1 hc.2.2 q
theorem unI {f:Value->Sem Value} {g:Int->Int}
  (rule:∀ (i:Int) (t:Tok) (s:Shared) (Q:Value->Shared->Prop) (E:Value->Shared->Prop),Q (.int (g i) s.toks) { s with toks:=s.toks + 1 }->wpAny (model X.prog X.w) X.A (f (.int i t)) Q E s) :
  UnR X f (rU fun i=>.int (g i)):=by
 intro pins s σ H x v Q I rx h
 obtain ⟨i,rfl,q⟩:=h
 obtain ⟨t,rfl⟩:=rx
 exact rule i t s _ _ ⟨.int (g i),H,I.tok _,⟨_,rfl⟩,q⟩
theorem aJI:UnR X (unaryOp .USub) (rU fun i=>.int (-i)):=unI fun _ _ _ _ _ q=>neg_int q
end
section
variable {X:Cx} {a b c:Expr} {ta tb tc:TE} {pos:Pos}
theorem aNm:OpR X (compareOp .Lt) (rI0 fun i j=>.bl (decide (i < j))):=aIy fun _ _ _ _ _ _ _ q=>lt_int q
theorem aNZ:OpR X (compareOp .LtE) (rI0 fun i j=>.bl (decide (i<=j))):=aIy fun _ _ _ _ _ _ _ q=>le_int q
theorem aNu:OpR X (compareOp .Gt) (rI0 fun i j=>.bl (decide (j < i))):=aIy fun _ _ _ _ _ _ _ q=>gt_int q
theorem aMK:OpR X (compareOp .GtE) (rI0 fun i j=>.bl (decide (j<=i))):=aIy fun _ _ _ _ _ _ _ q=>ge_int q
theorem aBd (b:Expr) {op:CmpOp} (h:op ≠ .In:=by decide) (h2:op ≠ .NotIn:=by decide):behindInMarks op b = false:=by
 have e1:(op == CmpOp.In) = false:=by cases op<;>first | rfl | exact absurd rfl h
 have e2:(op == CmpOp.NotIn) = false:=by cases op<;>first | rfl | exact absurd rfl h2
 cases b<;>simp [behindInMarks,e1,e2]
theorem aHy {op:CmpOp} {r:R2} (ho:OpR X (compareOp op) r) (ha:PE X a ta) (hb:PE X b tb) (hm:behindInMarks op b = false):PE X (.Compare a [op] [b] pos) (tOp r ta tb):=by
 intro pins s σ H Q I h
 exact wpAny_Compare1 (aJS ha hb I h fun v u s2 x y H2 I2 rx ry q=>ho pins s2 σ H2 x y v u Q I2 rx ry q) hm
def aMp (t:TE):TT:=fun σ H Q=>t σ H fun x H'=>∃ k,x = .bl k/\Q k H'
theorem aIM {op:CmpOp} {r:R2} (ho:OpR X (compareOp op) r) (ha:PE X a ta) (hb:PE X b tb) (hm:behindInMarks op b = false):PT X (.Compare a [op] [b] pos) (aMp (tOp r ta tb)):=by
 intro pins s σ H Q I h
 refine wpAny_isTrue_Compare1 (thn (ha pins s σ H _ I h) fun v s1 ⟨x,H1,I1,r1,q1⟩=>thn (hb pins s1 σ H1 _ I1 q1) fun u s2 ⟨y,H2,I2,r2,q2⟩ =>
  thn (ho pins s2 σ H2 x y v u _ I2 r1 r2 q2) fun c s3 ⟨z,H3,I3,r3,k,e,q3⟩=>?_) hm
 subst e
 cases r3
 exact wpAny_truthy_bool ⟨H3,I3,q3⟩
def aFd (r r':R2) (ta tb tc:TE):TE:=fun σ H Q=>ta σ H fun x H1=>tb σ H1 fun y H2=>r x y H2 fun z H3=>∃ k,z = .bl k /\
 (if k = true then tc σ H3 fun w' H4=>r' y w' H4 Q else Q (.bl false) H3)
theorem aF1 {op op':CmpOp} {r r':R2} (ho:OpR X (compareOp op) r) (ho':OpR X (compareOp op') r') (ha:PE X a ta) (hb:PE X b tb) (hc:PE X c tc)
  (hm:lastMarks [op,op'] [b,c] = false:=by with_unfolding_all rfl):PE X (.Compare a [op,op'] [b,c] pos) (aFd r r' ta tb tc):=by
 intro pins s σ H Q I h
 refine Compare_chain (thn (ha pins s σ H _ I h) fun v s1 ⟨x,H1,I1,r1,q1⟩=>chain_link (thn (hb pins s1 σ H1 _ I1 q1) fun u s2 ⟨y,H2,I2,r2,q2⟩ =>
  thn (ho pins s2 σ H2 x y v u _ I2 r1 r2 q2) fun d s3 ⟨z,H3,I3,r3,k,e,q3⟩=>?_)) hm
 subst e
 cases r3
 refine wpAny_truthy_bool ?_
 cases k with
 | false=>exact ite_ff ⟨.bl false,H3,I3,rfl,q3⟩
 | true=>exact ite_tt (chain_last (thn (hc pins s3 σ H3 _ I3 q3) fun w' s4 ⟨z',H4,I4,r4,q4⟩=>ho' pins s4 σ H4 y z' u w' Q I4 r2 r4 q4))
theorem aCK:(sizeLine:Nat) < 2 ^ 63:=by rw [sizeLine_eq];decide
theorem pS {x:V} {us:List Value} (r:bS [x] us):∃ u,us = [u]/\cF x u:=by
 cases r with
 | cons r1 r2=>cases r2;exact ⟨_,rfl,r1⟩
theorem aJk {x y:V} {us:List Value} (r:bS [x,y] us):∃ u w',us = [u,w']/\cF x u/\cF y w':=by
 cases r with
 | cons r1 r2 =>
  cases r2 with
  | cons r3 r4=>cases r4;exact ⟨_,_,rfl,r1,r3⟩
theorem aGl:jO X (.builtin "abs") (fun xs H Q=>∃ i,xs = [.int i]/\Q (.int (if i < 0 then -i else i)) H):=by
 intro pins s σ H xs us Q I r h
 obtain ⟨i,rfl,q⟩:=h
 obtain ⟨u,rfl,t,rfl⟩:=pS r
 exact call_abs_int fun u tk=>⟨.int (if i < 0 then -i else i),H,I.tok _,⟨_,rfl⟩,q⟩
theorem aEh (hc:X.calm = true):jO X (.builtin "min") (fun xs H Q=>∃ i j,xs = [.int i,.int j]/\Q (.int (if j < i then j else i)) H):=by
 intro pins s σ H xs us Q I r h
 obtain ⟨i,j,rfl,q⟩:=h
 obtain ⟨u,w',rfl,⟨t,rfl⟩,⟨t',rfl⟩⟩:=aJk r
 refine min_two_ints (I.ok.hd hc) fun h' tk k=>⟨_,H,I.kept k,?_,q⟩
 by_cases hj:j < i
 ·rw [if_pos hj,if_pos hj];exact ⟨_,rfl⟩
 ·rw [if_neg hj,if_neg hj];exact ⟨_,rfl⟩
theorem aEw:jO X (.type "int") (fun xs H Q=>(∃ i,xs = [.int i]/\Q (.int i) H) ∨ ∃ k,xs = [.bl k]/\Q (.int (if k then 1 else 0)) H):=by
 intro pins s σ H xs us Q I r h
 rcases h with ⟨i,rfl,q⟩ | ⟨k,rfl,q⟩
 ·obtain ⟨u,rfl,t,rfl⟩:=pS r
  exact call_int_int ⟨.int i,H,I,⟨_,rfl⟩,q⟩
 ·obtain ⟨u,rfl,r1⟩:=pS r
  cases r1
  exact call_int_bool ⟨.int (if k then 1 else 0),H,I.tok _,⟨_,rfl⟩,q⟩
theorem aAH:jO X (.type "str") (fun xs H Q=>∃ i,xs = [.int i]/\i.natAbs.log2 < 1920/\Q (.str (toString i)) H):=by
 intro pins s σ H xs us Q I r h
 obtain ⟨i,rfl,hz,q⟩:=h
 obtain ⟨u,rfl,t,rfl⟩:=pS r
 exact PySem.P.str_of_int hz ⟨.str _,H,I.tok _,⟨_,rfl⟩,q⟩
end
structure aKx (h:Heap) (x dx C:Addr) (mA:Str->Option Value):Prop where
 obj:h.get? x = some (instObj C dx)
 ns:h.Ns1 dx mA
 ne:dx ≠ x
theorem aAj {h:Heap} {dx:Addr} {mA:Str->Option Value} (n:h.Ns1 dx mA):∃ od,h.get? dx = some od/\∀ name,lookIn name od = some (mA name):=by
 obtain ⟨o,es,ep,ho,hd,hk,_,hm⟩:=n
 refine ⟨o,ho,fun name=>?_⟩
 have e:=hm name
 unfold nsFind findBy at e
 rw [<- Array.find?_toList] at e
 unfold lookIn
 rw [hd]
 dsimp only
 split
 ·rename_i y q
  rw [q] at e
  exact congrArg some e
 ·rename_i q
  rw [q] at e
  have a:es.toList.any (·.refKey) = false:=by
   rw [List.any_eq_false]
   intro y hy
   obtain ⟨z,t,hkey⟩:=hk y (Array.mem_toList_iff.mp hy)
   simp [DictEntry.refKey,hkey]
  have a':¬ es.toList.any (·.refKey) = true:=by rw [a];exact Bool.false_ne_true
  rw [if_neg a']
  exact congrArg some e
theorem aKx.look {h:Heap} {x dx C:Addr} {mA:Str->Option Value} (I:aKx h x dx C mA):∃ od,PySem.W.InstAt h x (instObj C dx) C (some od)/\∀ name,lookIn name od = some (mA name) :=
 let ⟨od,ho,hl⟩:=aAj I.ns
 ⟨od,⟨I.obj,rfl,rfl,ho⟩,hl⟩
section
variable {prog:Program} {w:World} {A:Around} {E:Value->Shared->Prop} {s:Shared} {K:Frag} {x dx C f:Addr} {mA:Str->Option Value} {name:Str} {v:Value}
end
section
variable {P:Program} {w:World} {H H':Hp} {h h':Heap} {a C dx:Addr} {fs fs':List (Str × V)}
theorem aIL (hok:HOk P w H h) (e:H a = some (.ins C dx fs)):∃ mA,aKx h a dx C mA/\(∀ f,aH5 (fs.lookup f) (mA f))/\PySem.Within mA (fs.map (·.1))/\fs.length<=1000/\H dx = some (.own a):=by
 obtain ⟨d,z,ne,ob,mA,n,r,q⟩:=(show gB P w H h a (.ins C dx fs) from hok a _ e)
 exact ⟨mA,⟨ob,n,ne⟩,r,q,z,d⟩
end
structure Cls (K:Frag) (C:Addr):Prop where
 pg:PySem.W.plainGet K C Str.empty = true
 hd:PySem.W.hasDictIn K C = true
 po:PySem.W.plainOver K C = true
 sa:findIn K (.ref C) "__setattr__" = some (some (.builtin "object.__setattr__"))
theorem Cls.get {K:Frag} {C:Addr} (c:Cls K C) (f:Str):PySem.W.plainGet K C f = true:=c.pg
section
variable {X:Cx} {pins:List (Addr × Obj)} {σ:St} {H:Hp} {s:Shared} {a C dx:Addr} {fs:List (Str × V)} {f:Str} {v:V} {A:Around} {E:Value->Shared->Prop}
theorem aIp {prog:Program} {w:World} {env:Env} {e:Expr} {f:Str} {pos:Pos} {s:Shared} {Q:Value->Shared->Prop} (hb:attributeBase e f env (eval e env) = eval e env)
  (h:wpAny (model prog w) A (eval e env) (fun o s₁=>wpAny (model prog w) A (getAttr o f true) Q E s₁) E s):wpAny (model prog w) A (eval (.Attribute e f pos) env) Q E s :=
 Attribute_any_ h (by rw [arm_eval_Attribute,hb])
end
section
variable {X:Cx} {o e value:Expr} {f:Str} {pos pos' tpos:Pos} {ta tv:TE}
end
section
variable {X:Cx} {pins:List (Addr × Obj)} {σ:St} {H:Hp} {s:Shared} {A:Around} {E:Value->Shared->Prop} {Q:Value->Shared->Prop} {c:Value} {b:Bool}
inductive vU (K:Frag) (H:Hp):V->Value->Prop where
 | non:vU K H .non (.type "NoneType")
 | bl (x:Bool):vU K H (.bl x) (.type "bool")
 | int (i:Int):vU K H (.int i) (.type "int")
 | str (x:Str):vU K H (.str x) (.type "str")
 | flt (x:UInt64):vU K H (.flt x) (.type "float")
 | lst {a:Addr} {xs:List V} (e:H a = some (.lst xs)):vU K H (.ref a) (.type "list")
 | frz {a:Addr} {o:Obj} {xs:List V} (e:H a = some (.frz o (.lst xs))):vU K H (.ref a) (.type "list")
 | tup {a:Addr} {xs:List V} (e:H a = some (.tup xs)):vU K H (.ref a) (.type "tuple")
 | dK {a:Addr} {kvs:List (Key × V)} (e:H a = some (.dK kvs)):vU K H (.ref a) (.type "dict")
 | dT {a:Addr} {kvs:List (List Key × V)} (e:H a = some (.dT kvs)):vU K H (.ref a) (.type "dict")
 | ins {a C dx:Addr} {fs:List (Str × V)} (e:H a = some (.ins C dx fs)) (cl:Cls K C) (ha:findIn K (.ref C) "__class__" = some (some (.builtin "object.__class__")))
   (hn:PySem.W.specialIn K (.builtin "object.__class__") "__get__" = some (some (.builtin "getset_descriptor.__get__"))) (htk:PySem.W.takesIn K (.builtin "object.__class__") = some true)
   (hm:mroIn K C (.type "object") = some true):vU K H (.ref a) (.ref C)
theorem mV {x:V} {u t:Value} (I:Inv X pins σ H s) (rx:cF x u) (ty:vU X.K H x t) (e:kitOne X.K t c = some b) (h:∀ tk,Q (.bool b) { s with toks:=tk }) :
  wpAny (model X.prog X.w) A (call (.builtin "isinstance") [u,c]) Q E s:=by
 cases ty with
 | non=>cases (show u = Value.none from rx);exact kia_one PySem.W.kitx_none I.kIn True.intro e (fun z=>nomatch z) h
 | bl y=>cases (show u = Value.bool y from rx);exact kia_one PySem.W.kitx_bool I.kIn True.intro e (fun z=>nomatch z) h
 | int i=>obtain ⟨t,q⟩:=(show ∃ t,u = Value.int i t from rx);cases q;exact kia_one PySem.W.kitx_int I.kIn True.intro e (fun z=>nomatch z) h
 | str y=>obtain ⟨t,q⟩:=(show ∃ t,u = Value.str y t from rx);cases q;exact kia_one PySem.W.kitx_str I.kIn True.intro e (fun z=>nomatch z) h
 | flt y=>obtain ⟨t,q⟩:=(show ∃ t,u = Value.float y t from rx);cases q;exact kia_one PySem.W.kitx_float I.kIn True.intro e (fun z=>nomatch z) h
 | @lst a xs ea =>
  cases (show u = Value.ref a from rx)
  obtain ⟨_,_,n,_,h1⟩:=(show gB X.prog X.w H s.heap a (.lst xs) from I.hok a _ ea)
  exact kia_one kitx_list I.kIn ⟨_,h1,rfl⟩ e (fun z=>nomatch z) h
 | @frz a ob xs ea =>
  cases (show u = Value.ref a from rx)
  obtain ⟨_,_,_,n,_,h1⟩:=(show gB X.prog X.w H s.heap a (.frz ob (.lst xs)) from I.hok a _ ea)
  exact kia_one kitx_list I.kIn ⟨_,h1,rfl⟩ e (fun z=>nomatch z) h
 | @tup a xs ea =>
  cases (show u = Value.ref a from rx)
  obtain ⟨_,_,_,p⟩:=(show gB X.prog X.w H s.heap a (.tup xs) from I.hok a _ ea)
  obtain ⟨o,h1,h2,_⟩:=p
  exact kia_one PySem.W.kitx_tuple I.kIn ⟨o,h1,h2⟩ e (fun z=>nomatch z) h
 | @dK a kvs ea =>
  cases (show u = Value.ref a from rx)
  obtain ⟨_,_,vs,_,p⟩:=(show gB X.prog X.w H s.heap a (.dK kvs) from I.hok a _ ea)
  obtain ⟨o,es,ep,h1,h2,_⟩:=p
  exact kia_one PySem.W.kitx_dict I.kIn ⟨o,h1,h2.1⟩ e (fun z=>nomatch z) h
 | @dT a kvs ea =>
  cases (show u = Value.ref a from rx)
  obtain ⟨_,_,xs,_,o,es,ep,h1,h2,_⟩:=(show gB X.prog X.w H s.heap a (.dT kvs) from I.hok a _ ea)
  exact kia_one PySem.W.kitx_dict I.kIn ⟨o,h1,h2.1⟩ e (fun z=>nomatch z) h
 | @ins a C dx fs ea cl ha hn htk hm =>
  cases (show u = Value.ref a from rx)
  obtain ⟨mA,O,_⟩:=aIL I.hok ea
  obtain ⟨od,J,_⟩:=O.look
  exact kia_one (PySem.W.kitx_own (cl.get _) cl.hd ha hn htk hm) I.kIn J e (fun z=>nomatch z) h
end
structure cZ (k:Nat) (A:Around):Prop where
 hd:A.handled = none
 dp:A.depth + 3 * k + 5 < recursionLimit
 un:A.units + 16 * k + 200 < cLine
theorem cZ.mono {j k:Nat} {A:Around} (r:cZ k A) (h:j<=k):cZ j A:=⟨r.hd,by have:=r.dp;omega,by have:=r.un;omega⟩
theorem cZ.deeper {k:Nat} {A:Around} (r:cZ (k + 1) A) (env:Env):cZ k (A.deeper env) :=
 ⟨r.hd,by have:=r.dp;show A.depth + 1 + 3 * k + 5 < _;omega,by have:=r.un;show A.units + 3 + 16 * k + 200 < _;omega⟩
theorem aCx {A:Around} {C:Addr} {us:List Value} {kw:List (Str × Value)}:(A.under (.builtin "type.__call__" ⟨.ref C :: us,kw⟩)).depth = A.depth + 1:=by
 first | rfl | simp [Around.under,Code.weight,Code.isCreation,Code.isGuard,Code.isCaller,Code.frames,Code.isFrame,guardIds]
theorem aC6 {A:Around} {C:Addr} {us:List Value} {kw:List (Str × Value)}:(A.under (.builtin "type.__call__" ⟨.ref C :: us,kw⟩)).units = A.units + 1:=by
 first | rfl | simp [Around.under,Code.cUnits,Code.frames,Code.isFrame]
theorem cZ.make {k:Nat} {A:Around} (r:cZ (k + 1) A) (C:Addr) (us:List Value) (kw:List (Str × Value)):cZ k (A.under (.builtin "type.__call__" ⟨.ref C :: us,kw⟩)) :=
 ⟨r.hd,by have:=r.dp;rw [aCx];omega,by have:=r.un;rw [aC6];omega⟩
theorem cZ.depth {k:Nat} {A:Around} (r:cZ k A):A.depth < recursionLimit:=by have:=r.dp;omega
def aN3:TA:=fun _ H Q=>Q [] H
def aNl (ta:TE) (tr:TA):TA:=fun σ H Q=>ta σ H fun x H1=>tr σ H1 fun xs H2=>Q (x :: xs) H2
section
variable {X:Cx} {e:Expr} {es:List Expr} {te:TE} {t:TA} {pos:Pos}
theorem uD:PA X [] aN3:=fun _ _ _ _ H Q I h=>Calls.spliced_nil ⟨[],H,I,.nil,h⟩
theorem jA (ha:PE X e te) (hr:PA X es t) (hs:starEach (e :: es) X.env = (false,eval e X.env) :: starEach es X.env:=by rfl):PA X (e :: es) (aNl te t):=by
 intro pos pins s σ H Q I h
 rw [hs]
 show wpAny _ _ (spliced ((false,eval e X.env) :: backTo pos (starEach es X.env))) _ _ s
 refine Calls.spliced_cons (thn (ha pins s σ H _ I h) fun u s1 ⟨x,H1,I1,r1,q1⟩=>?_)
 exact thn (hr pos pins s1 σ H1 _ I1 q1) fun us s2 ⟨xs,H2,I2,r2,q2⟩=>⟨x :: xs,H2,I2,.cons r1 r2,q2⟩
def aOy (t:TA):TE:=fun σ H Q=>t σ H fun xs H1=>xs.length<=sizeLine/\∀ p,H1 p = none->Q (.ref p) (upd H1 p (.tup xs))
def aOe (t:TA):TE:=fun σ H Q=>t σ H fun xs H1=>xs.length<=sizeLine/\∀ p,H1 p = none->Q (.ref p) (upd H1 p (.lst xs))
theorem aJT {x1} (h:PA X es t):PE X (.Tuple es x1 pos) (aOy t):=by
 intro pins s σ H Q I hq
 refine wpAny_Tuple_spliced (thn (h pos pins s σ H _ I hq) fun us s1 ⟨xs,H1,I1,r,z,q⟩=>⟨by rw [<- r.length];exact z,?_⟩)
 have hf:H1 s1.heap.objs.size = none:=I1.hok.fresh (Nat.le_refl _)
 refine ⟨.ref s1.heap.objs.size,upd H1 s1.heap.objs.size (.tup xs),I1.laid (t':=s1.toks) (fun b u e=>Heap.get?_push_of_some _ e) (Nat.le_refl _) ?_,rfl,q _ hf⟩
 exact ⟨z,us,r,⟨_,Heap.get?_push_size _ rfl,rfl,_,rfl⟩⟩
theorem aLh (h:PA X es t):PE X (.List es pos) (aOe t):=by
 intro pins s σ H Q I hq
 refine wpAny_List_spliced (thn (h pos pins s σ H _ I hq) fun us s1 ⟨xs,H1,I1,r,z,q⟩=>⟨by rw [<- r.length];exact z,?_⟩)
 have hf:H1 s1.heap.objs.size = none:=I1.hok.fresh (Nat.le_refl _)
 refine ⟨.ref s1.heap.objs.size,upd H1 s1.heap.objs.size (.lst xs),I1.laid (t':=s1.toks) (fun b u e=>Heap.get?_push_of_some _ e) (Nat.le_refl _) ?_,rfl,q _ hf⟩
 exact ⟨z,us,0,r,Heap.get?_push_size _ rfl⟩
end
abbrev Sp:=List V->Hp->VK->XK->Prop
abbrev CXT:=List Env->Hp->Shared->XK->Value->Shared->Prop
structure aC0 (P:Program) (w:World) (K:Frag) (mg:Str->Option Value) (base:Heap) (A:Around) (outer:List Env) (s:Shared) (H:Hp):Prop where
 frames:A.frames = some outer
 mod:Mod K mg base
 bs:∀ b o,base.get? b = some o->s.heap.get? b = some o/\H b = none
 bsz:base.objs.size<=s.heap.objs.size
 funs:s.heap.FunFrames base outer
 frf:∀ b ∈ frs outer,H b = none
 hok:HOk P w H s.heap
 bare:AllBare s.gens
def CE (outer:List Env) (P:Program) (w:World) (H:Hp) (s:Shared) (Q:VK) (u:Value) (s':Shared):Prop :=
 ∃ v H',s'.os = s.os/\AllBare s'.gens/\Un (frs outer) [] H H' s.heap s'.heap/\HOk P w H' s'.heap/\cF v u/\Q v H'
def CR (CX:CXT) (outer:List Env) (P:Program) (w:World) (H:Hp) (s:Shared) (Q:VK) (E:XK) (r:Result) (s':Shared):Prop :=
 match r with
 | .ok (.ret u)=>CE outer P w H s Q u s'
 | .ok _=>False
 | .error e=>CX outer H s E e s'
structure jV (P:Program) (w:World) (K:Frag) (mg:Str->Option Value) (base:Heap) (CX:CXT) (k:Nat) (f:Addr) (fd:FuncData) (ps:List Str) (sp:Sp):Prop where
 len:∀ vs H Q E,sp vs H Q E->vs.length = ps.length
 run:∀ (A:Around) (outer:List Env) (s:Shared) (H:Hp) (args:Args) (us:List Value) (vs:List V) (Q:VK) (E:XK),cZ k A->aC0 P w K mg base A outer s H->BindsTo s fd args (ps.zip us)->bS vs us->sp vs H Q E ->
  codeAny (model P w) A (.call (.ref f) args) (CR CX outer P w H s Q E) s
theorem jV.mono {P:Program} {w:World} {K:Frag} {mg:Str->Option Value} {base:Heap} {CX:CXT} {j k:Nat} {f:Addr} {fd:FuncData} {ps:List Str} {sp:Sp} (F:jV P w K mg base CX j f fd ps sp) (h:j<=k) :
  jV P w K mg base CX k f fd ps sp:=⟨F.len,fun A outer s H args us vs Q E hr=>F.run A outer s H args us vs Q E (hr.mono h)⟩
theorem jV.imp {P:Program} {w:World} {K:Frag} {mg:Str->Option Value} {base:Heap} {CX:CXT} {k:Nat} {f:Addr} {fd:FuncData} {ps:List Str} {sp sp':Sp} (F:jV P w K mg base CX k f fd ps sp)
  (h:∀ vs H Q E,sp' vs H Q E->sp vs H Q E):jV P w K mg base CX k f fd ps sp' :=
 ⟨fun vs H Q E q=>F.len vs H Q E (h _ _ _ _ q),fun A outer s H args us vs Q E hr he hb hv hs=>F.run A outer s H args us vs Q E hr he hb hv (h _ _ _ _ hs)⟩
theorem aC0.make {P:Program} {w:World} {K:Frag} {mg:Str->Option Value} {base:Heap} {A:Around} {outer:List Env} {s:Shared} {H:Hp} (e:aC0 P w K mg base A outer s H) (C:Addr) (us:List Value) (kw:List (Str × Value)) :
  aC0 P w K mg base (A.under (.builtin "type.__call__" ⟨.ref C :: us,kw⟩)) outer s H:=⟨by first | exact e.frames | (simpa [Around.under,Code.envs,Code.isFrame,pushEnvs] using e.frames),e.mod,e.bs,e.bsz,e.funs,e.frf,e.hok,e.bare⟩
section
variable {X:Cx} {pins:List (Addr × Obj)} {σ:St} {H:Hp} {s s':Shared}
theorem Inv.env0 (I:Inv X pins σ H s):aC0 X.prog X.w X.K X.mg X.base X.A X.stack s H :=
 ⟨I.ok.frames,I.ok.mod,I.bs,Nat.le_trans I.ok.bsz I.sz,I.stack,I.stkFree,I.hok,I.bare⟩
theorem Inv.after {Q:VK} {u:Value} (I:Inv X pins σ H s) (h:CE X.stack X.prog X.w H s Q u s'):EP X pins σ Q u s':=by
 obtain ⟨v,H',os,bare,un,hok,r,q⟩:=h
 obtain ⟨hh,g,d,t,os'⟩:=s'
 obtain rfl:os' = s.os:=os
 exact ⟨v,H',I.call (h':=hh) (g':=g) (d':=d) (t':=t) (ch:=[]) un hok bare (fun b z=>absurd z (by simp)),r,q⟩
end
def aJh (sp:Sp) (dvs:List V) (E:XK) (t:TA):TE:=fun σ H Q=>t σ H fun vs H1=>sp (vs ++ dvs) H1 Q E
def mO (K:Frag) (fd:FuncData) (ps:List Str) (ds:List Value):Prop :=
 ∀ (s:Shared) (us:List Value),K.In s.heap->(us ++ ds).length = ps.length->BindsTo s fd ⟨us,[]⟩ (ps.zip (us ++ ds))
theorem mO.all {K:Frag} {fd:FuncData} {ps:List Str} (h:∀ us:List Value,us.length = ps.length->bindArgs fd ⟨us,[]⟩ = pure (ps.zip us)):mO K fd ps []:=fun s us _ hl=>by
 rw [append_nil] at hl ⊢
 exact .of_eq (h us hl)
def tU (CX:CXT) (X:Cx) (E:XK):Prop:=∀ (pins:List (Addr × Obj)) (σ:St) (H:Hp) (s:Shared) (e:Value) (s':Shared),Inv X pins σ H s->CX X.stack H s E e s'->X.xe e s'
section
variable {X:Cx} {CX:CXT} {k:Nat} {f C:Addr} {fd:FuncData} {ps:List Str} {sp:Sp} {dvs:List V} {ds:List Value} {E:XK} {x m:Str} {p pos apos:Pos} {e o:Expr} {es:List Expr} {ta:TE} {t:TA}
theorem aCM {pins:List (Addr × Obj)} {σ:St} {H:Hp} {s:Shared} {Q:VK} {us:List Value} {vs:List V} (F:jV X.prog X.w X.K X.mg X.base CX k f fd ps sp) (hr:cZ k X.A) (hb:mO X.K fd ps ds) (hd:bS dvs ds) (hx:tU CX X E)
  (I:Inv X pins σ H s) (r:bS vs us) (h:sp (vs ++ dvs) H Q E):wpAny (model X.prog X.w) X.A (call (.ref f) us) (EP X pins σ Q) X.xe s:=by
 have r2:bS (vs ++ dvs) (us ++ ds):=r.append hd
 have hl:(us ++ ds).length = ps.length:=by rw [<- r2.length];exact F.len _ _ _ _ h
 refine wpAny_call (codeAny_mono (F.run X.A X.stack s H ⟨us,[]⟩ (us ++ ds) (vs ++ dvs) Q E hr I.env0 (hb s us I.kIn hl) r2 h) fun r s' hq=>?_)
 cases r with
 | error e=>exact hx pins σ H s e s' I hq
 | ok fl =>
  cases fl with
  | ret u=>exact I.after hq
  | next=>exact False.elim hq
  | brk=>exact False.elim hq
  | cont=>exact False.elim hq
theorem aIx (F:jV X.prog X.w X.K X.mg X.base CX k f fd ps sp) (hr:cZ k X.A) (hg:Gl X x) (hm:X.mg x = some (.ref f)) (hk:keepIn X.K (.ref f) = true) (hb:mO X.K fd ps ds) (hd:bS dvs ds) (hx:tU CX X E)
  (ha:PA X (e :: es) t) (hdb:(x == ("__debug__":Str)) = false:=by decide) (he:starEach (e :: es) X.env = (false,eval e X.env) :: starEach es X.env:=by rfl) (hpl:(backTo pos (starEach es X.env)).any (·.1) = false:=by rfl) :
  PE X (.Call (.Name x p) (e :: es) [] pos) (aJh sp dvs E t):=by
 intro pins s σ H Q I h
 refine wpAny_Call_Name_kw (hJ I hg hm ?_ hdb)
 refine callWith_K (h₀:=X.base) I.ok.mod.kin hk (thn (ha pos pins s σ H _ I h) fun us s1 ⟨vs,H1,I1,r,q⟩=>⟨I1.kIn,?_⟩) he hpl
 exact aCM F hr hb hd hx I1 r q
theorem aFE (F:jV X.prog X.w X.K X.mg X.base CX k f fd ps sp) (hr:cZ k X.A) (hg:Gl X x) (hm:X.mg x = some (.ref f)) (hk:keepIn X.K (.ref f) = true) (hb:mO X.K fd ps ds) (hd:bS dvs ds) (hx:tU CX X E)
  (hdb:(x == ("__debug__":Str)) = false:=by decide):PE X (.Call (.Name x p) [] [] pos) (aJh sp dvs E aN3):=by
 intro pins s σ H Q I h
 refine wpAny_Call_Name_kw (hJ I hg hm ?_ hdb)
 exact PySem.W.callWith_K0 I.kIn hk (aCM (us:=[]) F hr hb hd hx I .nil h)
end
section
variable {X:Cx} {CX:CXT} {k:Nat} {f C:Addr} {fd:FuncData} {ps ks:List Str} {sp:Sp} {E:XK} {x m:Str} {p pos apos kpos:Pos} {e o:Expr} {es:List Expr} {kws:List Keyword} {te ta:TE} {t tk:TA} {nm:Option Str}
variable {g:List Value->List Value->List Value} {gV:List V->List V->List V}
end
structure aS (N P:List Str) (sc:Scope):Prop where
 kind:sc.kind = .function
 co:sc.isCoroutine = false
 gen:sc.isGenerator = false
 nd:N.Nodup
 pre:N.take P.length = P
 par:∀ x ∈ P,sc.names.lookup x = some .local ∨ sc.names.lookup x = some .cell
 nofree:∀ y ∈ sc.names,y.2 ≠ .free
theorem zT {kindOf:Str->Option NameKind} {x:Str}:∀ {binds:List (Str × Value)} {m:Str->Option Value},(∀ v,(x,v) ∉ binds)->bindL kindOf binds m x = m x
 | [],_,_=>rfl
 | (n,v) :: r,m,h=>by
  unfold bindL
  rw [zT fun w hw=>h w (mem_cons_of_mem _ hw)]
  split
  ·have:x ≠ n:=by rintro rfl;exact h v mem_cons_self
   simp [this]
  ·rfl
theorem aAn {kindOf:Str->Option NameKind} {x:Str}:∀ {binds:List (Str × Value)} {m:Str->Option Value},(∀ v,(x,v) ∉ binds)->bindC kindOf binds m x = m x
 | [],_,_=>rfl
 | (n,v) :: r,m,h=>by
  unfold bindC
  rw [aAn fun w hw=>h w (mem_cons_of_mem _ hw)]
  split
  ·rfl
  ·have:x ≠ n:=by rintro rfl;exact h v mem_cons_self
   simp [this]
theorem aAa {kindOf:Str->Option NameKind} {x:Str} {v:Value}:∀ {P:List Str} {vs:List Value} {i:Nat} {m:Str->Option Value},P.Nodup->P[i]? = some x->vs[i]? = some v->kindOf x = some .local ->
  bindL kindOf (P.zip vs) m x = some v
 | [],_,_,_,_,h,_,_=>by simp at h
 | _ :: _,[],_,_,_,_,h,_=>by simp at h
 | p :: P,w :: vs,0,m,nd,h1,h2,hk=>by
  simp at h1 h2;subst h1;subst h2
  show bindL kindOf ((p,w) :: P.zip vs) m p = _
  unfold bindL
  rw [zT fun v hv=>(List.nodup_cons.mp nd).1 (List.of_mem_zip hv).1,if_pos hk]
  simp
 | p :: P,w :: vs,i + 1,m,nd,h1,h2,hk=>by
  show bindL kindOf ((p,w) :: P.zip vs) m x = _
  unfold bindL
  exact aAa (i:=i) (List.nodup_cons.mp nd).2 (by simpa using h1) (by simpa using h2) hk
theorem zY {kindOf:Str->Option NameKind} {x:Str} {v:Value}:∀ {P:List Str} {vs:List Value} {i:Nat} {m:Str->Option Value},P.Nodup->P[i]? = some x->vs[i]? = some v->kindOf x ≠ some .local ->
  bindC kindOf (P.zip vs) m x = some v
 | [],_,_,_,_,h,_,_=>by simp at h
 | _ :: _,[],_,_,_,_,h,_=>by simp at h
 | p :: P,w :: vs,0,m,nd,h1,h2,hk=>by
  simp at h1 h2;subst h1;subst h2
  show bindC kindOf ((p,w) :: P.zip vs) m p = _
  unfold bindC
  rw [aAn fun v hv=>(List.nodup_cons.mp nd).1 (List.of_mem_zip hv).1,if_neg hk]
  simp
 | p :: P,w :: vs,i + 1,m,nd,h1,h2,hk=>by
  show bindC kindOf ((p,w) :: P.zip vs) m x = _
  unfold bindC
  exact zY (i:=i) (List.nodup_cons.mp nd).2 (by simpa using h1) (by simpa using h2) hk
noncomputable def start (N:List Str) (vs:List V):St:=vs.map some ++ replicate (N.length - vs.length) none
noncomputable def jC (CX:CXT) (P:Program) (w:World) (K:Frag) (mg:Str->Option Value) (base:Heap) (N:List Str) (qual:Str) (scope:Scope) (f:Addr) (cd:Value) (A:Around) (outer:List Env) (s:Shared) (H:Hp) (E:XK):Cx where
 prog:=P
 w:=w
 K:=K
 mg:=mg
 base:=base
 A:=A.deeper (envOfC qual scope s.heap.objs.size f cd)
 N:=N
 s₀:=s
 H₀:=H
 env:=envOfC qual scope s.heap.objs.size f cd
 outer:=outer
 stack:=envOfC qual scope s.heap.objs.size f cd :: outer
 ex:=[]
 calm:=true
 fn:=fun _=>true
 pn:=[]
 xe:=fun e s'=>wpAny (model P w) (A.deeper (envOfC qual scope s.heap.objs.size f cd)) (leaving (envOfC qual scope s.heap.objs.size f cd) e) (fun _ s''=>CX outer H s E e s'') (fun e' s''=>CX outer H s E e' s'') s'
theorem aBA {sc:Scope} {n:Nat} {x:Str} (h:sc.names.lookup x = some .cell):∃ c,(cellsFrom n sc.names []).lookup x = some c:=by
 have q:=PySem.W.cellsFrom_some sc.names n [] (.inl h)
 exact Option.isSome_iff_exists.mp q
theorem aEe {CX:CXT} {P:Program} {w:World} {K:Frag} {mg:Str->Option Value} {base:Heap} {N ps:List Str} {qual:Str} {scope:Scope} {f:Addr} {cd:Value} {A:Around} {outer:List Env} {s s1:Shared} {H:Hp} {E:XK} {us:List Value} {vs:List V}
  (S:aS N ps scope) (hd:A.handled = none) (e0:aC0 P w K mg base A outer s H) (hl:vs.length = ps.length) (r:bS vs us)
  (x:InCallC s s.heap.objs.size (bindL (envOfC qual scope s.heap.objs.size f cd).kindOf (ps.zip us) fun _=>none) (cellsFrom (s.heap.objs.size + 1) scope.names []) (bindC (envOfC qual scope s.heap.objs.size f cd).kindOf (ps.zip us) fun _=>none) s1) :
  Inv (jC CX P w K mg base N qual scope f cd A outer s H E) [] (start N vs) H s1:=by
 have hpl:ps.length<=N.length:=by have:=congrArg List.length S.pre;rw [length_take] at this;omega
 obtain ⟨h1,tk,rfl,hk⟩:=x.done
 have noA:∀ b:Addr,b ∉ (jC CX P w K mg base N qual scope f cd A outer s H E).ex:=fun b z=>absurd (show b ∈ ([]:List Addr) from z) (by simp)
 refine ⟨⟨e0.mod,S.kind,rfl,rfl,Nat.le_refl _,fun y z c h1 h2=>?_,fun y hy=>?_,fun y c _ h=>?_,fun _=>hd,Around.frames_deeper e0.frames,.inr ⟨rfl,rfl⟩,fun b z=>absurd z (noA b),e0.bs,e0.bsz,fun b _ _=>noA b,fun b z=>absurd z (noA b),e0.funs,e0.frf⟩,
  rfl,e0.bare,Un.kept hk,⟨_,x.toInCall.ns,fun i y v h1 h2 h3=>?_⟩,fun y c h=>⟨_,x.cell y c h⟩,e0.hok.fresh (Nat.le_refl _),fun y c h=>?_,fun p hp=>absurd (show p ∈ ([]:List (Addr × Obj)) from hp) (by simp),e0.hok.kept hk,?_⟩
 ·exact name_of_addr x.apart (PySem.mem_of_lookup h1) (PySem.mem_of_lookup h2)
 ·have hy:scope.names.lookup y = some .cell ∨ scope.names.lookup y = some .free:=hy
  rcases hy with hy | hy
  ·exact aBA hy
  ·exact absurd rfl (S.nofree _ (PySem.mem_of_lookup hy))
 ·exact Nat.le_of_lt (x.above y c (PySem.mem_of_lookup h))
 ·have hi:i < vs.length:=by
   unfold start at h2
   by_cases hi:i < vs.length
   ·exact hi
   ·rw [getElem?_append_right (by simpa using hi)] at h2
    rw [List.getElem?_replicate] at h2
    split at h2<;>cases h2
  have ha:vs[i]? = some v:=by
   unfold start at h2
   rw [getElem?_append_left (by simpa using hi),getElem?_map] at h2
   cases e:vs[i]? with
   | none=>rw [e] at h2;cases h2
   | some a=>rw [e] at h2;cases h2;rfl
  obtain ⟨u,hu,rv⟩:=r.get ha
  have hp:ps[i]? = some y:=by
   rw [<- S.pre,List.getElem?_take_of_lt (by omega)];exact h1
  have ndP:ps.Nodup:=by rw [<- S.pre];exact S.nd.sublist (List.take_sublist _ _)
  refine ⟨u,rv,?_⟩
  rcases S.par y (mem_of_getElem? hp) with k | k
  ·exact .inl ⟨k,aAa ndP hp hu k⟩
  ·obtain ⟨c,e⟩:=aBA (n:=s.heap.objs.size + 1) k
   refine .inr ⟨.inl k,c,e,?_⟩
   have q:=x.cell y c e
   rw [zY ndP hp hu (by show scope.names.lookup y ≠ _;rw [k];decide)] at q
   exact q
 ·exact e0.hok.fresh (Nat.le_of_lt (x.above y c (PySem.mem_of_lookup h)))
 ·unfold start
  show _ = N.length
  rw [length_append,length_map,List.length_replicate]
  omega
theorem aDv {CX:CXT} {P:Program} {w:World} {K:Frag} {mg:Str->Option Value} {base:Heap} {k:Nat} {f:Addr} {name qual:Str} {params:Arguments} {body:List Stmt} {scope:Scope} {dV kV doc pm cdv ct oc:Value} {an od:Option Addr}
  {osl:Array (Option Value)} {N ps:List Str} {sp:Sp} (lk:K.lookup f = some ⟨oc,od,.func (fnOf name qual params body scope dV kV doc pm an cdv ct),osl⟩) (hcd:codeIn K cdv qual = true) (S:aS N ps scope)
  (len:∀ vs H Q E,sp vs H Q E->vs.length = ps.length)
  (hbody:∀ (A:Around) (outer:List Env) (s:Shared) (H:Hp) (vs:List V) (Q:VK) (E:XK),cZ k (A.deeper (envOfC qual scope s.heap.objs.size f cdv))->sp vs H Q E ->
   ∃ t,PSs (jC CX P w K mg base N qual scope f cdv A outer s H E) body t/\t { nx:=fun _ H'=>Q .non H',rt:=Q } (start N vs) H) :
  jV P w K mg base CX (k + 1) f (fnOf name qual params body scope dV kV doc pm an cdv ct) ps sp:=by
 refine ⟨len,fun A outer s H args us vs Q E hr e0 hb r hsp=>?_⟩
 have hl:=len _ _ _ _ hsp
 have KX:K.In s.heap:=e0.mod.kin.keeps fun b o e=>(e0.bs b o e).1
 have lim:s.heap.NoLimit:=e0.mod.nolimit.keeps fun b o e=>(e0.bs b o e).1
 have hkind:∀ y ∈ ps.zip us,scope.names.lookup y.1 = some .local ∨ (scope.names.lookup y.1 = some .cell/\((cellsFrom (s.heap.objs.size + 1) scope.names []).lookup y.1).isSome = true):=fun ⟨n,v⟩ hy=>by
  rcases S.par n (List.of_mem_zip hy).1 with q | q
  ·exact .inl q
  ·exact .inr ⟨q,PySem.W.cellsFrom_some _ _ _ (.inl q)⟩
 refine codeAny_call_function hr.depth (KX _ _ lk) rfl S.co S.gen rfl (PySem.W.codeRec_of KX hcd) (hb _ _ _ _ ?_)
 refine wpAny_newFunctionEnv_cells S.kind hkind fun env he s1 x=>?_
 subst he
 refine ⟨lim.keeps x.toInCall.keep,codeAny_func ?_⟩
 obtain ⟨t,ht,hq⟩:=hbody A outer s H vs Q E (hr.deeper _) hsp
 have I:Inv (jC CX P w K mg base N qual scope f cdv A outer s H E) [] (start N vs) H s1:=aEe S hr.hd e0 hl r x
 refine wpAny_mono (ht [] s1 (start N vs) H _ I hq) (fun fl s' hs=>?_) fun e s' hs=>hs
 have fin:∀ {σ':St} {H':Hp} {v:V} {u:Value},Inv (jC CX P w K mg base N qual scope f cdv A outer s H E) [] σ' H' s'->cF v u->Q v H'->CE outer P w H s Q u s' :=
  fun {σ' H' v u} J rv q=>⟨v,H',J.os,J.bare,J.base,J.hok,rv,q⟩
 cases fl with
 | ret u =>
  obtain ⟨v,σ',H',J,rv,q⟩:=hs
  exact fin J rv q
 | next =>
  obtain ⟨σ',H',J,q⟩:=hs
  exact fin (v:=V.non) (u:=Value.none) J rfl q
 | brk =>
  obtain ⟨_,_,_,q⟩:=hs
  exact False.elim q
 | cont =>
  obtain ⟨_,_,_,q⟩:=hs
  exact False.elim q
section
variable {X:Cx} {x:Str} {p pos:Pos} {e:Expr} {es:List Expr} {t:TA} {id T:String} {r:List V->Hp->VK->Prop}
def tCB (r:List V->Hp->VK->Prop) (t:TA):TE:=fun σ H Q=>t σ H fun vs H1=>r vs H1 Q
theorem nA (hc:jO X (.builtin id) r) (hg:Gl X x) (hm:X.mg x = none) (hv:bootBuiltins x = some (.builtin id)) (ha:PA X (e :: es) t) (hn:x ≠ "__name__":=by decide) (hdb:(x == ("__debug__":Str)) = false:=by decide)
  (he:starEach (e :: es) X.env = (false,eval e X.env) :: starEach es X.env:=by rfl) (hpl:(backTo pos (starEach es X.env)).any (·.1) = false:=by rfl):PE X (.Call (.Name x p) (e :: es) [] pos) (tCB r t):=by
 intro pins s σ H Q I h
 refine wpAny_Call_Name_kw (uX I hg hm hv ?_ hn hdb)
 exact PyProof.Rows.callWith_builtin1 (thn (ha pos pins s σ H _ I h) fun us s1 ⟨vs,H1,I1,r1,q1⟩=>hc pins s1 σ H1 vs us Q I1 r1 q1) he hpl
theorem aEy (hc:jO X (.type T) r) (hg:Gl X x) (hm:X.mg x = none) (hv:bootBuiltins x = some (.type T)) (ha:PA X (e :: es) t) (hn:x ≠ "__name__":=by decide) (hdb:(x == ("__debug__":Str)) = false:=by decide)
  (he:starEach (e :: es) X.env = (false,eval e X.env) :: starEach es X.env:=by rfl) (hpl:(backTo pos (starEach es X.env)).any (·.1) = false:=by rfl):PE X (.Call (.Name x p) (e :: es) [] pos) (tCB r t):=by
 intro pins s σ H Q I h
 refine wpAny_Call_Name_kw (uX I hg hm hv ?_ hn hdb)
 exact PyProof.Rows.callWith_type1 (thn (ha pos pins s σ H _ I h) fun us s1 ⟨vs,H1,I1,r1,q1⟩=>hc pins s1 σ H1 vs us Q I1 r1 q1) he hpl
end
end L2
namespace HT
open PySem PyProof.Rows
section
open PySem.SeqAt
open PySem.AutoSeq1 (wpAny_loadPart')
open PySem.MeetsSeq PySem.MeetsSeq2 PySem.MeetsSeq3
end
section
variable {prog:Program} {w:World} {A:Around} {E:Value->Shared->Prop} {s:Shared}
theorem cat_tup {t b:Addr} {vs ws:List Value} {Q:Value->Shared->Prop} (ht:IsTup s.heap t vs.toArray) (hb:IsTup s.heap b ws.toArray) (hv:vs ≠ [])
  (h1:ws = []->Q (.ref t) s) (h2:ws ≠ []->Q (.ref s.heap.objs.size) { s with heap:=s.heap.push { cls:=.type "tuple",data:=.seq (vs ++ ws).toArray } })
  (hsz:vs.length + ws.length<=sizeLine):wpAny (model prog w) A (binaryOp .Add (.ref t) (.ref b)) Q E s:=by
 obtain ⟨⟨cls,dd,data,sl⟩,ho,hc,n,hd⟩:=id ht
 obtain ⟨⟨cls2,dd2,data2,sl2⟩,ho2,hc2,n2,hd2⟩:=id hb
 simp only at hc hd hc2 hd2
 subst hc hd hc2 hd2
 have e:vs.toArray ++ ws.toArray = (vs ++ ws).toArray:=by simp
 by_cases hw:ws = []
 ·exact concat_meets ⟨_,ho,rfl⟩ ⟨_,ho2,rfl⟩ noFill_tuple_add seq_tuple_add PySem.F.slot_tuple_add PySem.F.entry_tuple_add (PySem.F.args_tuple_add_2 _ _)
   (tuple_addW1 t b vs.toArray ws.toArray n n2 dd dd2 sl sl2 (by simpa using hv) (by simp [hw])) ⟨ho,ho2,h1 hw⟩
 ·refine concat_meets ⟨_,ho,rfl⟩ ⟨_,ho2,rfl⟩ noFill_tuple_add seq_tuple_add PySem.F.slot_tuple_add PySem.F.entry_tuple_add (PySem.F.args_tuple_add_2 _ _)
   (tuple_addW2 t b vs.toArray ws.toArray n n2 dd dd2 sl sl2 (by simpa using hv) (by simpa using hw) (by rw [size_toArray,size_toArray];exact hsz)) ⟨ho,ho2,?_⟩
  rw [e]
  exact h2 hw
noncomputable def sIx (n d:Nat):Option Int->Nat
 | none=>d
 | some v=>if v < 0 then (v + (n:Int)).toNat else min v.toNat n
theorem aJ3 (n d:Nat) (hd:d<=n) (o:Option Int):sIx n d o<=n:=by
 cases o with
 | none=>exact hd
 | some v =>
  show (if v < 0 then (v + (n:Int)).toNat else min v.toNat n)<=n
  by_cases hv:v < 0
  ·rw [if_pos hv];omega
  ·rw [if_neg hv];exact Nat.min_le_right _ _
theorem aDj (v:Int) (n d:Nat):(if v < 0 then max (v + (n:Int)) 0 else min v (n:Int)) = ((sIx n d (some v):Nat):Int):=by
 show (if v < 0 then max (v + (n:Int)) 0 else min v (n:Int)) = (((if v < 0 then (v + (n:Int)).toNat else min v.toNat n):Nat):Int)
 by_cases hv:v < 0
 ·simp only [if_pos hv];omega
 ·simp only [if_neg hv];omega
theorem aCZ (lo hi:Option Int) (n:Nat):Builtin.Slice.sliceAdjust lo hi 1 (n:Int) = (((sIx n 0 lo:Nat):Int),((sIx n n hi:Nat):Int)):=by
 have h1:¬ ((1:Int) < 0):=by omega
 unfold Builtin.Slice.sliceAdjust
 simp only [h1,if_false]
 refine Prod.ext ?_ ?_
 ·cases lo with
  | none=>rfl
  | some v=>exact aDj v n 0
 ·cases hi with
  | none=>rfl
  | some v=>exact aDj v n n
theorem aCN (i j:Nat):Builtin.Slice.slicePlaces (i:Int) (j:Int) 1 = j - i:=by
 unfold Builtin.Slice.slicePlaces
 have h1:(1:Int) > 0:=by omega
 simp only [h1,if_true,Int.ediv_one]
 split<;>omega
theorem wL {v:Value} {o:Option Int} {Q:Option Int->Shared->Prop} (p:IsPart v o) (h:Q o s):wpAny (model prog w) A (Builtin.Slice.slicePartIndex v) Q E s:=by
 cases p with
 | none=>exact slicePart_none h
 | int i t=>exact slicePart_int h
theorem mW {sl:Addr} {vl vu:Value} {lo hi:Option Int} {n:Nat} {Q:Int × Int × Nat->Shared->Prop} (hs:s.heap.IsSliceOf sl vl vu .none) (pl:IsPart vl lo) (pu:IsPart vu hi)
  (h:Q (((sIx n 0 lo:Nat):Int),1,sIx n n hi - sIx n 0 lo) s):wpAny (model prog w) A (Builtin.Slice.sliceApplied (.ref sl) (pure (n:Int))) Q E s:=by
 obtain ⟨os,hos,hcs,hds⟩:=id hs
 unfold Builtin.Slice.sliceApplied Builtin.Slice.sliceFields
 refine wpAny_bind (wpAny_bind (wpAny_field hos hds (x:=vl) rfl (wpAny_bind (wpAny_field hos hds (x:=vu) rfl (wpAny_bind (wpAny_field hos hds (x:=.none) rfl (wpAny_pure ?_)))))))
 refine wpAny_bind (slicePart_none ?_)
 show wpAny _ _ (if ((1:Int) == 0) = true then _ else _) _ _ s
 rw [if_neg (by decide)]
 refine wpAny_bind (wL pl (wpAny_bind (wL pu (wpAny_bind (wpAny_pure ?_)))))
 show wpAny _ _ (match Builtin.Slice.sliceAdjust lo hi 1 (n:Int) with | (lo,hi)=>pure (lo,(1:Int),Builtin.Slice.slicePlaces lo hi 1)) _ _ s
 rw [aCZ lo hi n]
 show wpAny _ _ (pure (((sIx n 0 lo:Nat):Int),(1:Int),Builtin.Slice.slicePlaces ((sIx n 0 lo:Nat):Int) ((sIx n n hi:Nat):Int) 1)) _ _ s
 rw [aCN]
 exact wpAny_pure h
theorem aFg (xs:Array Value) (i k:Nat):((range k).filterMap fun (m:Nat)=>xs[((i:Int) + (m:Int) * 1).toNat]?).toArray = ((xs.toList.drop i).take k).toArray:=by
 have e:(fun (m:Nat)=>xs[((i:Int) + (m:Int) * 1).toNat]?) = fun m=>xs[i + m]?:=by
  funext m
  have:((i:Int) + (m:Int) * 1).toNat = i + m:=by omega
  rw [this]
 rw [e]
 have:=pick_run xs i k
 rw [List.filterMap_map] at this
 have e2:((fun x=>xs[x]?) ∘ fun x=>i + x) = fun m=>xs[i + m]?:=rfl
 rw [e2] at this
 rw [this]
theorem getItem_tuple_cut {t sl:Addr} {items:Array Value} {vl vu:Value} {lo hi:Option Int} {Q:Value->Shared->Prop} (ht:IsTup s.heap t items) (hs:s.heap.IsSliceOf sl vl vu .none) (pl:IsPart vl lo) (pu:IsPart vu hi)
  (hw:¬ (sIx items.size 0 lo = 0/\sIx items.size items.size hi = items.size))
  (h:Q (.ref s.heap.objs.size) { s with heap:=s.heap.push { cls:=.type "tuple",data:=.seq ((items.toList.drop (sIx items.size 0 lo)).take (sIx items.size items.size hi - sIx items.size 0 lo)).toArray } })
  (hsz:items.size<=sizeLine):wpAny (model prog w) A (getItem (.ref t) (.ref sl)) Q E s:=by
 have htake:sizeOk (.seq ((items.toList.drop (sIx items.size 0 lo)).take (sIx items.size items.size hi - sIx items.size 0 lo)).toArray):=by
  show ((items.toList.drop (sIx items.size 0 lo)).take (sIx items.size items.size hi - sIx items.size 0 lo)).toArray.size<=sizeLine
  rw [size_toArray,length_take,List.length_drop,Array.length_toList]
  omega
 have hj:sIx items.size items.size hi<=items.size:=aJ3 _ _ (Nat.le_refl _) hi
 obtain ⟨os,hos,hcs,hds⟩:=id hs
 have hTs:s.TypeIs (.ref sl) "slice":=⟨os,hos,hcs⟩
 unfold getItem
 try with_reducible refine wpAny_holding ?_
 first | refine wpAny_bind (wpAny_pure ?_) | skip
 refine wpAny_bind (wpAny_sequenceKey ht.typeIs (by decide) ?_)
 refine wpAny_bind (wpAny_callSpecial?_slot (name:=Str.ofString "__getitem__") ht.typeIs PyProof.Rows.slot_tuple_getitem
  (wpAny_call_entry PyProof.Rows.slot_tuple_getitem ht.typeIs entry_tuple_getitem ?_ (args_tuple_getitem _ _)))
 show wpAny _ _ (Builtin.Tuple.tupleItemsOf (.ref t) >>= _) _ _ s
 refine wpAny_bind (tupleItemsOf_ ht ?_)
 refine wpAny_bind (wpAny_typeOf hTs ?_)
 rw [if_pos (by decide)]
 refine wpAny_bind (mW hs pl pu ?_)
 have hno:¬ ((((sIx items.size 0 lo:Nat):Int) == 0 && (1:Int) == 1 && (sIx items.size items.size hi - sIx items.size 0 lo) == items.size) = true):=by
  intro q
  rw [Bool.and_eq_true,Bool.and_eq_true] at q
  have q1:((sIx items.size 0 lo:Nat):Int) = 0:=eq_of_beq q.1.1
  have q2:sIx items.size items.size hi - sIx items.size 0 lo = items.size:=eq_of_beq q.2
  exact hw ⟨by omega,by omega⟩
 show wpAny _ _ (if (((sIx items.size 0 lo:Nat):Int) == 0 && (1:Int) == 1 && (sIx items.size items.size hi - sIx items.size 0 lo) == items.size) = true then _ else _) _ _ s
 rw [if_neg hno,aFg]
 first
  | exact wpAny_bind (m:=Builtin.Tuple.tupleExact _) (wpAny_newObj_type (wpAny_pure ⟨_,rfl,wpAny_pure h⟩) htake)
  | exact wpAny_bind (m:=Builtin.Tuple.tupleExact _) (wpAny_newObj_type (wpAny_bind (wpAny_pure (wpAny_pure ⟨_,rfl,wpAny_pure h⟩))) htake)
  | exact wpAny_bind (wpAny_bind (m:=Builtin.Tuple.tupleExact _) (wpAny_newObj_type (wpAny_pure (wpAny_pure ⟨_,rfl,wpAny_pure h⟩)) htake))
  | exact wpAny_bind (wpAny_bind (m:=Builtin.Tuple.tupleExact _) (wpAny_newObj_type (wpAny_pure ⟨_,rfl,wpAny_pure h⟩) htake))
end
end HT
namespace L2
open PySem PySem.Spec PyProof.Rows
abbrev TO:=St->Hp->(Option Int->Hp->Prop)->Prop
def PO (X:Cx) (e:Option Expr) (t:TO):Prop :=
 ∀ (pins:List (Addr × Obj)) (s:Shared) (σ:St) (H:Hp) (Q:Option Int->Hp->Prop),Inv X pins σ H s->t σ H Q ->
  wpAny (model X.prog X.w) X.A (evalPart e X.env) (fun u s'=>∃ o H',Inv X pins σ H' s'/\IsPart u o/\Q o H') X.xe s
def aHj:TO:=fun _ H Q=>Q none H
def aNO (t:TE):TO:=fun σ H Q=>t σ H fun x H1=>∃ i,x = .int i/\Q (some i) H1
section
variable {X:Cx} {e:Expr} {te:TE} {lo hi:Option Expr} {tl th:TO} {pos p2:Pos}
theorem aHg:PO X none aHj:=by
 intro pins s σ H Q I h
 rw [evalPart_none]
 exact wpAny_pure ⟨none,H,I,.none,h⟩
theorem aHR (h:PE X e te):PO X (some e) (aNO te):=by
 intro pins s σ H Q I hw
 rw [evalPart_some]
 refine thn (h pins s σ H _ I hw) fun u s1 ⟨x,H1,I1,r1,q1⟩=>?_
 obtain ⟨i,rfl,q⟩:=q1
 obtain ⟨t,rfl⟩:=r1
 exact ⟨some i,H1,I1,.int i t,q⟩
def SlR (X:Cx) (r:V->Option Int->Option Int->Hp->VK->Prop):Prop :=
 ∀ (pins:List (Addr × Obj)) (s:Shared) (σ:St) (H:Hp) (x:V) (v vl vu:Value) (lo hi:Option Int) (sl:Addr) (Q:VK),Inv X pins σ H s->cF x v->s.heap.IsSliceOf sl vl vu .none->IsPart vl lo->IsPart vu hi->r x lo hi H Q ->
  ∃ T id,typeLookup (.type T) "__getitem__" = pure (some (.builtin id))/\s.TypeIs v T/\wpAny (model X.prog X.w) X.A (getItem v (.ref sl)) (EP X pins σ Q) X.xe s
theorem SlR.or {r r':V->Option Int->Option Int->Hp->VK->Prop} (h:SlR X r) (h':SlR X r'):SlR X (fun x lo hi H Q=>r x lo hi H Q ∨ r' x lo hi H Q):=by
 intro pins s σ H x v vl vu lo hi sl Q I rx hs pl pu q
 rcases q with q | q
 ·exact h pins s σ H x v vl vu lo hi sl Q I rx hs pl pu q
 ·exact h' pins s σ H x v vl vu lo hi sl Q I rx hs pl pu q
def tSl (r:V->Option Int->Option Int->Hp->VK->Prop) (te:TE) (tl th:TO):TE:=fun σ H Q=>te σ H fun x H1=>tl σ H1 fun l H2=>th σ H2 fun u H3=>r x l u H3 Q
theorem wW {r:V->Option Int->Option Int->Hp->VK->Prop} (hr:SlR X r) (he:PE X e te) (hl:PO X lo tl) (hu:PO X hi th):PE X (.Subscript e (.Slice lo hi none p2) pos) (tSl r te tl th):=by
 intro pins s σ H Q I h
 refine Subscript_ (thn (he pins s σ H _ I h) fun v s1 ⟨x,H1,I1,r1,q1⟩=>?_)
 refine wpAny_Slice (thn (hl pins s1 σ H1 _ I1 q1) fun vl s2 ⟨l,H2,I2,pl,q2⟩=>thn (hu pins s2 σ H2 _ I2 q2) fun vu s3 ⟨u,H3,I3,pu,q3⟩=>?_)
 rw [evalPart_none]
 refine wpAny_pure ?_
 have I4:Inv X pins σ H3 { s3 with heap:=s3.heap.push { cls:=.type "slice",data:=.fields #[vl,vu,.none] } }:=I3.kept (t':=s3.toks) fun b ob q=>Heap.get?_push_of_some _ q
 obtain ⟨T,id,hT,ht,hg⟩:=hr pins { s3 with heap:=s3.heap.push { cls:=.type "slice",data:=.fields #[vl,vu,.none] } } σ H3 x v vl vu l u s3.heap.objs.size Q I4 r1 (Heap.IsSliceOf.new ..) pl pu q3
 show wpAny (model X.prog X.w) X.A (subscriptTail e (.Slice lo hi none p2) v (.ref s3.heap.objs.size)) (EP X pins σ Q) X.xe { s3 with heap:=s3.heap.push { cls:=.type "slice",data:=.fields #[vl,vu,.none] } }
 exact tail_any (ops:=[.ref s3.heap.objs.size,v]) ht hT hg (by with_unfolding_all rfl)
noncomputable def aBN (xs:List V) (lo hi:Option Int):List V:=(xs.drop (HT.sIx xs.length 0 lo)).take (HT.sIx xs.length xs.length hi - HT.sIx xs.length 0 lo)
theorem vF (xs:List V) (lo hi:Option Int):(aBN xs lo hi).length<=xs.length:=by
 unfold aBN
 rw [length_take,List.length_drop]
 omega
def aOB (K:Frag):V->Option Int->Option Int->Hp->VK->Prop:=fun x lo hi H Q=>∃ a xs,x = .ref a/\SqT K H a xs /\
 ¬ (HT.sIx xs.length 0 lo = 0/\HT.sIx xs.length xs.length hi = xs.length)/\∀ p,H p = none->Q (.ref p) (upd H p (.tup (aBN xs lo hi)))
theorem aL0:SlR X (aOB X.K):=by
 intro pins s σ H x v vl vu lo hi sl Q I rx hs pl pu h
 obtain ⟨a,xs,rfl,hx,hw,q⟩:=h
 cases rx
 obtain ⟨its,r,ht,hz⟩:=I.tuple hx
 have hlen:its.toArray.size = xs.length:=by rw [size_toArray];exact r.length.symm
 refine ⟨"tuple",_,PyProof.Rows.slot_tuple_getitem.lookup,ht.typeIs,?_⟩
 refine HT.getItem_tuple_cut ht hs pl pu (by rw [hlen];exact hw) ?_ (by rw [hlen];exact hz)
 rw [hlen]
 refine ⟨.ref s.heap.objs.size,_,I.laid (t':=s.toks) (o:=.tup (aBN xs lo hi)) (fun b ob q=>Heap.get?_push_of_some _ q) (Nat.le_refl _) ?_,rfl,q _ (I.hok.fresh (Nat.le_refl _))⟩
 exact ⟨Nat.le_trans (vF xs lo hi) hz,_,(r.drop (HT.sIx xs.length 0 lo)).take (HT.sIx xs.length xs.length hi - HT.sIx xs.length 0 lo),IsTup.new _ _⟩
def aNf (K:Frag):R2:=fun x y H Q=>∃ a b xs ys,x = .ref a/\y = .ref b/\SqT K H a xs/\SqT K H b ys/\xs ≠ []/\xs.length + ys.length<=sizeLine /\
 (ys = []->Q (.ref a) H)/\(ys ≠ []->∀ p,H p = none->Q (.ref p) (upd H p (.tup (xs ++ ys))))
theorem bS.nil_iff {xs:List V} {us:List Value} (r:bS xs us):us = [] ↔ xs = []:=by
 cases r with
 | nil=>simp
 | cons _ _=>simp
theorem aDS:OpR X (binaryOp .Add) (aNf X.K):=by
 intro pins s σ H x y v u Q I rx ry h
 obtain ⟨a,b,xs,ys,rfl,rfl,ha,hb,hx,hz,q1,q2⟩:=h
 cases rx
 cases ry
 obtain ⟨its,r1,p1,_⟩:=I.tuple ha
 obtain ⟨its2,r2,p2,_⟩:=I.tuple hb
 refine HT.cat_tup p1 p2 (fun z=>hx (r1.nil_iff.mp z)) (fun z=>⟨.ref a,H,I,rfl,q1 (r2.nil_iff.mp z)⟩) (fun z=>?_) (by rw [<- r1.length,<- r2.length];exact hz)
 refine ⟨.ref s.heap.objs.size,_,I.laid (t':=s.toks) (o:=.tup (xs ++ ys)) (fun b ob q=>Heap.get?_push_of_some _ q) (Nat.le_refl _) ?_,rfl,q2 (fun w=>z (r2.nil_iff.mpr w)) _ (I.hok.fresh (Nat.le_refl _))⟩
 exact ⟨by rw [length_append];exact hz,_,r1.append r2,IsTup.new _ _⟩
end
noncomputable def ixN (n:Nat) (i:Int):Option Nat:=if 0<=i then (if i < n then some i.toNat else none) else if -(n:Int)<=i then some (i + n).toNat else none
noncomputable def atI {α:Type} (xs:List α) (i:Int):Option α:=(ixN xs.length i).bind fun j=>xs[j]?
theorem aIe {n:Nat} {i:Int} {j:Nat} (h:ixN n i = some j):seqIndex? i n = some j/\j < n/\-(n:Int)<=i/\i < n:=by
 unfold ixN at h
 by_cases h0:0<=i
 ·rw [if_pos h0] at h
  by_cases h1:i < n
  ·rw [if_pos h1] at h
   have e:i.toNat = j:=Option.some.inj h
   exact ⟨by rw [seqIndex_of h0 h1,e],by omega,by omega,h1⟩
  ·rw [if_neg h1] at h;cases h
 ·rw [if_neg h0] at h
  by_cases h1:-(n:Int)<=i
  ·rw [if_pos h1] at h
   have e:(i + n).toNat = j:=Option.some.inj h
   exact ⟨by rw [seqIndex_neg (by omega) h1,e],by omega,h1,by omega⟩
  ·rw [if_neg h1] at h;cases h
theorem aDL {α:Type} {xs:List α} {i:Int} {v:α} (h:atI xs i = some v):∃ j,seqIndex? i xs.length = some j/\xs[j]? = some v/\j < xs.length/\-(xs.length:Int)<=i/\i < xs.length:=by
 unfold atI at h
 cases e:ixN xs.length i with
 | none=>rw [e] at h;cases h
 | some j =>
  rw [e] at h
  obtain ⟨h1,h2,h3,h4⟩:=aIe e
  exact ⟨j,h1,h,h2,h3,h4⟩
theorem aHJ {α:Type} {xs:List α} {j:Nat} {v:α} (h:xs[j]? = some v):atI xs (j:Int) = some v:=by
 have hj:j < xs.length:=(List.getElem?_eq_some_iff.mp h).1
 have e:ixN xs.length (j:Int) = some j:=by
  unfold ixN
  rw [if_pos (by omega),if_pos (by omega)];simp
 unfold atI;rw [e];exact h
def sP (b:Expr):Prop:=∀ o i,subscripted b false o i = operate [o,i] (getItem o i)
def IxR (X:Cx) (r:R2):Prop :=
 ∀ (value slice:Expr) (pins:List (Addr × Obj)) (s:Shared) (σ:St) (H:Hp) (x y:V) (v u:Value) (Q:VK),Inv X pins σ H s->cF x v->cF y u->r x y H Q ->
  subscripted slice false v u = operate [v,u] (getItem v u)->wpAny (model X.prog X.w) X.A (subscriptTail value slice v u) (EP X pins σ Q) X.xe s
def MtR (X:Cx) (id:String) (r:V->List V->Hp->VK->Prop):Prop :=
 ∀ (pins:List (Addr × Obj)) (s:Shared) (σ:St) (H:Hp) (x:V) (xs:List V) (v:Value) (us:List Value) (Q:VK),Inv X pins σ H s->cF x v->bS xs us->r x xs H Q ->
  wpAny (model X.prog X.w) X.A (call (.builtin id) (v :: us)) (EP X pins σ Q) X.xe s
section
variable {X:Cx} {a b:Expr} {ta tb:TE} {pos:Pos}
theorem aML {r:R2} (hr:IxR X r) (ha:PE X a ta) (hb:PE X b tb) (hs:sP b):PE X (.Subscript a b pos) (tOp r ta tb):=by
 intro pins s σ H Q I h
 exact Subscript_ (aJS ha hb I h fun v u s2 x y H2 I2 rx ry q=>hr a b pins s2 σ H2 x y v u Q I2 rx ry q (hs _ _))
def aN8 (K:Frag):R2:=fun x y H Q=>∃ p xs i v,x = .ref p/\y = .int i/\SqL K H p xs/\atI xs i = some v/\Q v H
def aOC (K:Frag):R2:=fun x y H Q=>∃ p xs i v,x = .ref p/\y = .int i/\SqT K H p xs/\atI xs i = some v/\Q v H
theorem aDJ:IxR X (aN8 X.K):=by
 intro value slice pins s σ H x y v u Q I rx ry h hs
 obtain ⟨p,xs,i,z,rfl,rfl,hq,he,q⟩:=h
 cases rx
 obtain ⟨t,rfl⟩:=ry
 obtain ⟨its,r,pl,hz⟩:=I.list hq
 obtain ⟨j,h1,h2,h3,h4,h5⟩:=aDL he
 obtain ⟨w,ew,rw'⟩:=r.get h2
 have hl:=r.length
 have hn:=aCK
 have fin:EP X pins σ Q w s:=⟨z,H,I,rw',q⟩
 by_cases h0:0<=i
 ·have hj:i.toNat = j:=by
   rw [seqIndex_of h0 h5] at h1
   exact Option.some.inj h1
  exact item_listR pl.isList h0 (by omega) (by rw [hj];simpa using ew) fin hs
 ·have hj:(i + (its.toArray.size:Int)).toNat = j:=by
   rw [seqIndex_neg (by omega) h4] at h1
   rw [size_toArray,<- hl]
   exact Option.some.inj h1
  exact subscriptTail_builtinR (x:=w) pl.isList.typeIs slot_list_getitem.lookup
   (wpAny_getItem_list_neg (Q:=fun r s'=>r = w/\EP X pins σ Q r s') pl.isList (by omega) (by rw [size_toArray]<;>omega) (by omega) (by rw [hj];simpa using ew) ⟨rfl,fin⟩) hs
theorem aKf:IxR X (aOC X.K):=by
 intro value slice pins s σ H x y v u Q I rx ry h hs
 obtain ⟨p,xs,i,z,rfl,rfl,hq,he,q⟩:=h
 cases rx
 obtain ⟨t,rfl⟩:=ry
 obtain ⟨its,r,pl,hz⟩:=I.tuple hq
 obtain ⟨j,h1,h2,h3,h4,h5⟩:=aDL he
 obtain ⟨w,ew,rw'⟩:=r.get h2
 have hl:=r.length
 have hn:=aCK
 have fin:EP X pins σ Q w s:=⟨z,H,I,rw',q⟩
 exact subscriptTail_builtinR (x:=w) pl.typeIs slot_tuple_getitem.lookup
  (getItem_tuple (j:=j) (Q:=fun r s'=>r = w/\EP X pins σ Q r s') pl (by omega) (by omega) (by rw [size_toArray,<- hl];exact h1) (by simpa using ew) ⟨rfl,fin⟩) hs
theorem aAN (lo hi:Option Int) (n:Nat):(sliceBounds lo hi none n).1 = ((HT.sIx n 0 lo:Nat):Int)/\(sliceBounds lo hi none n).2.1 = ((HT.sIx n n hi:Nat):Int)/\(sliceBounds lo hi none n).2.2 = 1:=by
 refine ⟨?_,?_,rfl⟩
 ·cases lo with
  | none=>simp [sliceBounds,HT.sIx]
  | some i =>
   simp only [sliceBounds,HT.sIx,Option.getD_none,show (1:Int) > 0 by decide,if_true]
   by_cases h:i < 0
   ·simp only [h,if_true]<;>omega
   ·simp only [h,if_false]<;>omega
 ·cases hi with
  | none=>simp [sliceBounds,HT.sIx]
  | some i =>
   simp only [sliceBounds,HT.sIx,Option.getD_none,show (1:Int) > 0 by decide,if_true]
   by_cases h:i < 0
   ·simp only [h,if_true]<;>omega
   ·simp only [h,if_false]<;>omega
theorem zI (its:List Value) (lo hi:Option Int):slicePick its.toArray lo hi none = ((its.drop (HT.sIx its.length 0 lo)).take (HT.sIx its.length its.length hi - HT.sIx its.length 0 lo)).toArray:=by
 obtain ⟨h1,h2,h3⟩:=aAN lo hi its.toArray.size
 unfold slicePick
 rw [h1,h2,h3]
 simp only [sliceRange_one,pick_run,size_toArray]<;>rfl
def aOc (K:Frag):V->Option Int->Option Int->Hp->VK->Prop:=fun x lo hi H Q=>∃ a xs,x = .ref a/\SqL K H a xs/\∀ p,H p = none->Q (.ref p) (upd H p (.lst (aBN xs lo hi)))
theorem aII:SlR X (aOc X.K):=by
 intro pins s σ H x v vl vu lo hi sl Q I rx hs pl pu h
 obtain ⟨a,xs,rfl,hx,q⟩:=h
 cases rx
 obtain ⟨its,r,ht,hz⟩:=I.list hx
 have hlen:=r.length
 refine ⟨"list",_,slot_list_getitem.lookup,ht.isList.typeIs,?_⟩
 refine wpAny_getItem_list_slice ht.isList hs pl pu .none (by simp) ?_ (by rw [size_toArray]<;>omega)
 rw [zI,<- hlen]
 refine ⟨.ref s.heap.objs.size,_,I.laid (t':=s.toks) (o:=.lst (aBN xs lo hi)) (fun b ob q=>Heap.get?_push_of_some _ q) (Nat.le_refl _) ?_,rfl,q _ (I.hok.fresh (Nat.le_refl _))⟩
 exact ⟨Nat.le_trans (vF xs lo hi) hz,_,0,(r.drop (HT.sIx xs.length 0 lo)).take (HT.sIx xs.length xs.length hi - HT.sIx xs.length 0 lo),Heap.get?_push_size _ rfl⟩
noncomputable def aE9:V->Bool
 | .non=>true
 | .bl _=>true
 | .int _=>true
 | .str _=>true
 | _=>false
noncomputable def eqV:V->V->Bool
 | .non,.non=>true
 | .bl a,.bl b=>a == b
 | .bl a,.int b=>(if a then 1 else 0) == b
 | .int a,.bl b=>a == (if b then 1 else 0)
 | .int a,.int b=>a == b
 | .str a,.str b=>a == b
 | _,_=>false
theorem aG3 {A:Around} {s:Shared} {y x:V} {u v:Value} (ry:cF y u) (rx:cF x v) (fy:aE9 y = true) (fx:aE9 x = true):SeqAt.EqAt A s u v (eqV y x):=by
 cases y with
 | non =>
  cases ry
  cases x with
  | non=>cases rx;exact SeqAt.EqAt.same _
  | bl b=>cases rx;exact SeqAt.EqAt.none_bool b
  | int b=>obtain ⟨t,rfl⟩:=rx;exact SeqAt.EqAt.none_int b t
  | str b=>obtain ⟨t,rfl⟩:=rx;exact SeqAt.EqAt.none_str b t
  | _=>exact absurd (show false = true from fx) Bool.false_ne_true
 | bl a =>
  cases ry
  cases x with
  | non=>cases rx;exact SeqAt.EqAt.bool_none a
  | bl b=>cases rx;exact SeqAt.EqAt.bool_bool a b
  | int b=>obtain ⟨t,rfl⟩:=rx;exact SeqAt.EqAt.bool_int a b t
  | str b=>obtain ⟨t,rfl⟩:=rx;exact SeqAt.EqAt.bool_str a b t
  | _=>exact absurd (show false = true from fx) Bool.false_ne_true
 | int a =>
  obtain ⟨t',rfl⟩:=ry
  cases x with
  | non=>cases rx;exact SeqAt.EqAt.int_none a t'
  | bl b=>cases rx;exact SeqAt.EqAt.int_bool a t' b
  | int b=>obtain ⟨t,rfl⟩:=rx;exact SeqAt.EqAt.int_int a t' b t
  | str b=>obtain ⟨t,rfl⟩:=rx;exact SeqAt.EqAt.int_str a t' b t
  | _=>exact absurd (show false = true from fx) Bool.false_ne_true
 | str a =>
  obtain ⟨t',rfl⟩:=ry
  cases x with
  | non=>cases rx;exact SeqAt.EqAt.str_none a t'
  | bl b=>cases rx;exact SeqAt.EqAt.str_bool a t' b
  | int b=>obtain ⟨t,rfl⟩:=rx;exact SeqAt.EqAt.str_int a t' b t
  | str b=>obtain ⟨t,rfl⟩:=rx;exact SeqAt.EqAt.str_str a t' b t
  | _=>exact absurd (show false = true from fx) Bool.false_ne_true
 | _=>exact absurd (show false = true from fy) Bool.false_ne_true
theorem aAw:jO X (.builtin "len") (fun xs H Q=>∃ p ys,xs = [.ref p]/\(SqL X.K H p ys ∨ SqT X.K H p ys)/\Q (.int ys.length) H):=by
 intro pins s σ H xs us Q I r h
 obtain ⟨p,ys,rfl,hq,q⟩:=h
 obtain ⟨u,rfl,rx⟩:=pS r
 cases rx
 have hn:=aCK
 rcases hq with hq | hq
 ·obtain ⟨its,r',pl,hz⟩:=I.list hq
  have hlen:=r'.length
  exact Calls.call_len_list pl.isList (by simp only [size_toArray]<;>omega) ⟨.int ys.length,H,I.tok _,⟨s.toks + 1,by rw [size_toArray,hlen]⟩,q⟩
 ·obtain ⟨its,r',pl,hz⟩:=I.tuple hq
  have hlen:=r'.length
  exact len_tuple pl (by simp only [size_toArray]<;>omega) ⟨.int ys.length,H,I.tok _,⟨s.toks + 1,by rw [size_toArray,hlen]⟩,q⟩
theorem yU:jO X (.type "tuple") (fun xs H Q=>∃ p ys,xs = [.ref p]/\((SqL X.K H p ys/\∀ l,H l = none->Q (.ref l) (upd H l (.tup ys))) ∨ (SqT X.K H p ys/\Q (.ref p) H))):=by
 intro pins s σ H xs us Q I r h
 obtain ⟨p,ys,rfl,h⟩:=h
 obtain ⟨u,rfl,rx⟩:=pS r
 cases rx
 rcases h with ⟨hq,q⟩ | ⟨hq,q⟩
 ·obtain ⟨its,r',pl,hz⟩:=I.list hq
  have hlen:=r'.length
  refine call_tuple_list pl.isList (fun h' kp=>?_) (by simp only [size_toArray]<;>omega)
  have I1:Inv X pins σ H { s with heap:=h' }:=I.kept (t':=s.toks) kp
  have I2:Inv X pins σ (upd H h'.objs.size (.tup ys)) { s with heap:=h'.push { cls:=.type "tuple",data:=.seq its.toArray } } :=
   I1.laid (t':=s.toks) (fun b o e=>Heap.get?_push_of_some _ e) (Nat.le_refl _) (show gB X.prog X.w _ _ _ (.tup ys) from ⟨hz,its,r',IsTup.new _ _⟩)
  exact ⟨.ref h'.objs.size,_,I2,rfl,q _ (I1.hok.fresh (Nat.le_refl _))⟩
 ·obtain ⟨its,r',pl,hz⟩:=I.tuple hq
  exact call_tuple_same pl ⟨.ref p,H,I,rfl,q⟩
def tyV (K:Frag) (T:String) (x:V) (H:Hp):Prop:=match x with
 | .str _=>T = "str"
 | .int _=>T = "int"
 | .ref p=>(T = "list"/\∃ xs,SqL K H p xs) ∨ (T = "tuple"/\∃ o,K.lookup p = some o/\o.cls = .type "tuple"/\o.dict = none) ∨
   (T = "dict"/\((∃ kvs,H p = some (.dK kvs)) ∨ ∃ kvs,H p = some (.dT kvs))) ∨ (T = "set"/\∃ S n,H p = some (.set S n))
 | _=>False
theorem aEZ {pins:List (Addr × Obj)} {σ:St} {H:Hp} {s:Shared} {T:String} {x:V} {v:Value} (I:Inv X pins σ H s) (r:cF x v) (ty:tyV X.K T x H) :
  s.TypeIs v T/\∀ a,v = .ref a->∃ ob,s.heap.get? a = some ob/\ob.dict = none:=by
 cases x with
 | str z =>
  obtain ⟨t,rfl⟩:=r
  cases (show T = "str" from ty)
  exact ⟨typeIs_str s z t,fun _ e=>nomatch e⟩
 | int i =>
  obtain ⟨t,rfl⟩:=r
  cases (show T = "int" from ty)
  exact ⟨typeIs_int s i t,fun _ e=>nomatch e⟩
 | ref p =>
  cases r
  rcases ty with ⟨rfl,xs,hq⟩ | ⟨rfl,o,hk,hc,hd⟩ | ⟨rfl,hk⟩ | ⟨rfl,S,n,hk⟩
  ·obtain ⟨its,_,pl,_⟩:=I.list hq
   refine ⟨pl.isList.typeIs,fun a e=>?_⟩
   cases e
   obtain ⟨o,n,e,c,hd,_⟩:=pl
   exact ⟨o,e,hd⟩
  ·refine ⟨⟨o,I.kIn p o hk,hc⟩,fun a e=>?_⟩
   cases e
   exact ⟨o,I.kIn _ o hk,hd⟩
  ·have z:∃ o,s.heap.get? p = some o/\o.ExactDict:=by
    rcases hk with ⟨kvs,hk⟩ | ⟨kvs,hk⟩
    ·obtain ⟨_,_,_,_,o,_,_,e,ex,_⟩:=I.hok p _ hk
     exact ⟨o,e,ex⟩
    ·obtain ⟨_,_,_,_,o,_,_,e,ex,_⟩:=I.hok p _ hk
     exact ⟨o,e,ex⟩
   obtain ⟨o,e,ex⟩:=z
   refine ⟨⟨o,e,ex.1⟩,fun a e2=>?_⟩
   cases e2
   exact ⟨o,e,ex.2.1⟩
  ·obtain ⟨o,_,_,_,e,ex,_⟩:=I.hok p _ hk
   refine ⟨⟨o,e,ex.1⟩,fun a e2=>?_⟩
   cases e2
   exact ⟨o,e,ex.2.1⟩
 | _=>exact False.elim ty
def aON (K:Frag) (T:String) (r:V->List V->Hp->VK->Prop) (to:TE):TE:=fun σ H Q=>to σ H fun x H1=>tyV K T x H1/\r x [] H1 Q
def tBM (K:Frag) (T:String) (r:V->List V->Hp->VK->Prop) (to:TE) (t:TA):TE:=fun σ H Q=>to σ H fun x H1=>tyV K T x H1/\t σ H1 fun xs H2=>r x xs H2 Q
variable {o e:Expr} {es:List Expr} {to:TE} {t:TA} {name:Str} {apos cpos:Pos} {T id:String} {r:V->List V->Hp->VK->Prop}
theorem aC5 (pa:PlainAttrs T) (slot:Slot T name id) (hty:typeOf (.builtin id) = pure (.type "method_descriptor")) (hm:MtR X id r) (ho:PE X o to)
  (hbase:attributeBase o name X.env (eval o X.env) = eval o X.env:=by rfl) (hline:(apos.endLine == cpos.line) = true:=by rfl):PE X (.Call (.Attribute o name apos) [] [] cpos) (aON X.K T r to):=by
 intro pins s σ H Q I h
 refine wpAny_Call_method0_late hbase hline (thn (ho pins s σ H _ I h) fun v s1 ⟨x,H1,I1,r1,ty,q1⟩=>?_)
 obtain ⟨h1,h2⟩:=aEZ I1 r1 ty
 exact ⟨T,id,pa,slot,hty,h1,h2,Calls.callWith_builtin rfl (PySem.evalArgs_none (hm pins s1 σ H1 x [] v [] Q I1 r1 .nil q1))⟩
theorem xW (pa:PlainAttrs T) (slot:Slot T name id) (hty:typeOf (.builtin id) = pure (.type "method_descriptor")) (hm:MtR X id r) (ho:PE X o to) (ha:PA X (e :: es) t)
  (hbase:attributeBase o name X.env (eval o X.env) = eval o X.env:=by rfl)
  (hfew:((backTo cpos (starEach (e :: es) X.env)).all (fun x=>!x.1) && (backToKw cpos (keywordEach [] X.env)).all (fun x=>x.1.isSome)
   && decide ((e :: es).length + ([]:List Keyword).length + (if ([]:List Keyword).isEmpty then 0 else 1) < 30)) = true:=by rfl)
  (hline:(apos.endLine == cpos.line) = true:=by rfl) (hs:starEach (e :: es) X.env = (false,eval e X.env) :: starEach es X.env:=by rfl) (hplain:(backTo cpos (starEach es X.env)).any (·.1) = false:=by rfl) :
  PE X (.Call (.Attribute o name apos) (e :: es) [] cpos) (tBM X.K T r to t):=by
 intro pins s σ H Q I h
 refine wpAny_Call_method_late hbase hfew hline rfl (thn (ho pins s σ H _ I h) fun v s1 ⟨x,H1,I1,r1,ty,q1⟩=>?_)
 obtain ⟨h1,h2⟩:=aEZ I1 r1 ty
 refine ⟨T,id,pa,slot,hty,h1,h2,?_⟩
 have hA:=ha cpos pins s1 σ H1 _ I1 q1
 rw [hs] at hA ⊢
 refine Calls.callWith_builtin (by show (false || (backTo cpos (starEach es X.env)).any (·.1)) = false;rw [hplain]<;>rfl) (Calls.evalArgs_plain ?_)
 exact thn hA fun us s2 ⟨vs,H2,I2,r2,q2⟩=>hm pins s2 σ H2 x vs v us Q I2 r1 r2 q2
end
def MtM (X:Cx) (id:String) (r:V->List V->Hp->VK->Prop):Prop :=
 ∀ (pins:List (Addr × Obj)) (s:Shared) (σ:St) (H:Hp) (x:V) (xs:List V) (v:Value) (us:List Value) (Q:VK),Inv X pins σ H s->cF x v->bS xs us->r x xs H Q ->
  wpAny (model X.prog X.w) X.A (call (.builtin id) (v :: us)) (EP X pins σ Q) X.xe s
theorem bS.one:∀ {x:V} {us:List Value},bS [x] us->∃ u,us = [u]/\cF x u
 | _,_,.cons r .nil=>⟨_,rfl,r⟩
theorem bS.two:∀ {x y:V} {us:List Value},bS [x,y] us->∃ u v,us = [u,v]/\cF x u/\cF y v
 | _,_,_,.cons r (.cons q .nil)=>⟨_,_,rfl,r,q⟩
theorem bS.zero:∀ {us:List Value},bS [] us->us = []
 | _,.nil=>rfl
theorem bS.dropLast {xs:List V} {us:List Value} (h:bS xs us):bS xs.dropLast us.dropLast:=by
 induction h with
 | nil=>exact .nil
 | cons r t ih =>
  cases t with
  | nil=>exact .nil
  | cons q t'=>exact .cons r ih
theorem aCz {α:Type} (l:List α):l.eraseIdx (l.length - 1) = l.dropLast:=by
 induction l with
 | nil=>rfl
 | cons a r ih =>
  cases r with
  | nil=>rfl
  | cons b r =>
   have e:(a :: b :: r).length - 1 = ((b :: r).length - 1) + 1:=by
    have h1:(a :: b :: r).length = r.length + 2:=rfl
    have h2:(b :: r).length = r.length + 1:=rfl
    omega
   rw [e,List.eraseIdx_cons_succ,ih]
   all_goals rfl
section
variable {X:Cx} {pins:List (Addr × Obj)} {σ:St} {H:Hp} {s:Shared} {l b:Addr} {xs ys zs:List V}
theorem Inv.lset {its its':List Value} {n:Nat} {f:Array Value->Array Value} {t':Nat} (I:Inv X pins σ H s) (hH:H l = some (.lst xs))
  (e:s.heap.get? l = some { cls:=.type "list",data:=.seq its.toArray n }) (hf:f its.toArray = its'.toArray) (hv:bS ys its') (hz:ys.length<=sizeLine) :
  Inv X pins σ (upd H l (.lst ys)) { s with heap:=s.heap.update l (Obj.mapSeq f),toks:=t' }:=by
 have q:=PySem.IsL.update e f
 rw [hf] at q
 refine I.write (x:=l) (e:=l) (by rw [hH];exact trivial) (.inl rfl) (fun b' u hb hu=>(Heap.get?_update_other s.heap (Obj.mapSeq f) (Ne.symm hb)).trans hu) ⟨_,q⟩ ?_
 exact ⟨hz,its',_,hv,q⟩
theorem Inv.lnew {its:List Value} {t':Nat} (I:Inv X pins σ H s) (hv:bS ys its) (hz:ys.length<=sizeLine) :
  Inv X pins σ (upd H s.heap.objs.size (.lst ys)) { s with heap:=s.heap.push { cls:=.type "list",data:=.seq its.toArray },toks:=t' } :=
 I.laid (fun _ _ q=>Heap.get?_push_of_some _ q) (Nat.le_refl _) ⟨hz,its,0,hv,Heap.get?_push_size _ rfl⟩
theorem Inv.fresh (I:Inv X pins σ H s):H s.heap.objs.size = none:=I.hok.fresh (Nat.le_refl _)
theorem Inv.lstM (I:Inv X pins σ H s) (hH:H l = some (.lst xs)):xs.length<=sizeLine/\∃ (its:List Value) (n:Nat),bS xs its/\xs.length = its.length/\s.heap.get? l = some { cls:=.type "list",data:=.seq its.toArray n }:=by
 obtain ⟨z,its,n,r,e⟩:=I.hok l _ hH
 exact ⟨z,its,n,r,r.length,e⟩
theorem aFV {n:Nat} (h:n<=sizeLine):Builtin.List.listTooLong n = false:=by
 unfold Builtin.List.listTooLong
 exact decide_eq_false (by omega)
end
section
variable {X:Cx}
def aHO:V->List V->Hp->VK->Prop:=fun x vs H Q=>∃ l xs y,x = .ref l/\vs = [y]/\H l = some (.lst xs)/\xs.length < sizeLine/\Q .non (upd H l (.lst (xs ++ [y])))
theorem aEf:MtM X "list.append" aHO:=by
 intro pins s σ H x vs v us Q I rx rv h
 obtain ⟨l,xs,y,rfl,rfl,hH,hz,q⟩:=h
 cases rx
 obtain ⟨u,rfl,ru⟩:=rv.one
 obtain ⟨z,its,n,r,hl,e⟩:=I.lstM hH
 refine call_meets F.slot_list_append ⟨_,e,rfl⟩ F.entry_list_append (F.args_list_append_2 _ _) (PySem.list_append l its.toArray n u (by rw [size_toArray];omega)) ⟨e,?_⟩
 refine ⟨.non,_,I.lset (its':=its ++ [u]) hH e (by simp) (r.append (.cons ru .nil)) ?_,rfl,q⟩
 rw [length_append,length_singleton]
 omega
def aH4:V->List V->Hp->VK->Prop:=fun x vs H Q=>∃ l b xs zs,x = .ref l/\vs = [.ref b]/\H l = some (.lst xs)/\H b = some (.lst zs)/\xs.length + zs.length<=sizeLine/\Q .non (upd H l (.lst (xs ++ zs)))
theorem aD4:MtM X "list.extend" aH4:=by
 intro pins s σ H x vs v us Q I rx rv h
 obtain ⟨l,b,xs,zs,rfl,rfl,hH,hB,hz,q⟩:=h
 cases rx
 obtain ⟨u,rfl,ru⟩:=rv.one
 cases ru
 obtain ⟨z,its,n,r,hl,e⟩:=I.lstM hH
 obtain ⟨z2,its2,n2,r2,hl2,e2⟩:=I.lstM hB
 have hsz:its.toArray.size + its2.toArray.size<=sizeLine:=by rw [size_toArray,size_toArray];omega
 have hlong:¬ (!its.toArray.isEmpty && Builtin.List.listTooLong (its.toArray.size + its2.toArray.size)) = true:=by
  rw [aFV hsz,Bool.and_false]
  exact Bool.false_ne_true
 refine call_meets F.slot_list_extend ⟨_,e,rfl⟩ F.entry_list_extend (F.args_list_extend_2 _ _)
  (AutoSeq1.list_extend_list_list_0 l its.toArray n b its2.toArray n2 hlong (by rw [size_toArray];omega) (by omega)) ⟨e,e2,?_⟩
 refine ⟨.non,_,I.lset (its':=its ++ its2) hH e (by simp) (r.append r2) ?_,rfl,q⟩
 rw [length_append]
 omega
def aOL:V->List V->Hp->VK->Prop:=fun x vs H Q=>∃ l xs y,x = .ref l/\vs = []/\H l = some (.lst xs)/\xs[xs.length - 1]? = some y/\Q y (upd H l (.lst xs.dropLast))
theorem aK6:MtM X "list.pop" aOL:=by
 intro pins s σ H x vs v us Q I rx rv h
 obtain ⟨l,xs,y,rfl,rfl,hH,hy,q⟩:=h
 cases rx
 have hus:=rv.zero
 subst hus
 obtain ⟨z,its,n,r,hl,e⟩:=I.lstM hH
 obtain ⟨u,hu,ru⟩:=r.get hy
 have hy':its.toArray[its.toArray.size - 1]? = some u:=by
  show its.toArray[its.length - 1]? = some u
  rw [<- Array.getElem?_toList,<- hl]
  exact hu
 refine call_meets F.slot_list_pop ⟨_,e,rfl⟩ F.entry_list_pop (F.args_list_pop_1 _) (MeetsSeq.list_pop_last l its.toArray n u hy' (by rw [size_toArray];omega)) ⟨e,?_⟩
 refine ⟨y,_,I.lset (its':=its.dropLast) hH e ?_ r.dropLast ?_,ru,q⟩
 ·show its.toArray.eraseIdxIfInBounds (its.toArray.size - 1) = its.dropLast.toArray
  rw [size_toArray,List.eraseIdxIfInBounds_toArray,aCz]
 ·rw [List.length_dropLast]
  omega
def aOF:R2:=fun x y H Q=>∃ l b xs zs,x = .ref l/\y = .ref b/\H l = some (.lst xs)/\H b = some (.lst zs)/\xs.length + zs.length<=sizeLine/\∀ p,H p = none->Q (.ref p) (upd H p (.lst (xs ++ zs)))
theorem aKW:OpR X (binaryOp .Add) aOF:=by
 intro pins s σ H x y v u Q I rx ry h
 obtain ⟨l,b,xs,zs,rfl,rfl,hH,hB,hz,q⟩:=h
 cases rx
 cases ry
 obtain ⟨z,its,n,r,hl,e⟩:=I.lstM hH
 obtain ⟨z2,its2,n2,r2,hl2,e2⟩:=I.lstM hB
 refine PySem.P.add_list e e2 ?_ (by rw [size_toArray,size_toArray];omega)
 have ea:its.toArray ++ its2.toArray = (its ++ its2).toArray:=by simp
 rw [ea]
 exact ⟨.ref _,_,I.lnew (t':=s.toks) (r.append r2) (by rw [length_append];omega),rfl,q _ I.fresh⟩
end
section
variable {prog:Program} {w:World} {A:Around} {E:Value->Shared->Prop} {s:Shared}
end
section
variable {X:Cx}
end
end L2
namespace Att
open PySem PySem.W PySem.Calls PyProof.Rows
theorem vT {P:Params} {h:Heap}:∀ (ns:List Int) (vs:List Value),WellAll P h vs (ns.map WData.int)->IntsAre vs ns:=by
 intro ns
 induction ns with
 | nil =>
  intro vs w
  rw [map_nil] at w
  cases w
  exact .nil
 | cons n ns ih =>
  intro vs w
  rw [map_cons] at w
  cases w with
  | cons a b =>
   cases a
   exact .cons _ _ (ih _ b)
theorem aD1 {l:OpenLaw} {n:Nat} (hn:l.most = some n) {P:Params} {h:Heap} {args:List WData} {vals:List Value}
  (hpre:l.row.toRowW.claim.pre args = true) (hwl:WellAll P h vals args) :
  ∃ a vs ns,vals = [Value.ref a]/\args = [WData.list (ns.map WData.int)]/\h.get? a = some { cls:=.type "list",data:=.seq vs.toArray }/\IntsAre vs ns/\ns.length<=n:=by
 have hsh:WShape.hasAll [] args [.list .int] = true:=(pre_splitW hpre).1
 have hc:l.pre.holds [] { args:=args } = true:=(pre_splitW hpre).2
 obtain ⟨d,r,rfl,h1,h2⟩:=hasAllW_cons hsh
 obtain rfl:=hasAllW_nil h2
 obtain ⟨xs,rfl,h3⟩:=hasW_list h1
 obtain ⟨ns,rfl⟩:=items_int h3
 have hlen:ns.length<=n:=by
  unfold OpenLaw.pre at hc
  have h4:(WTm.not (.lt (.lit (.int (n:Int))) (.len (.arg 0)))).holds [] { args:=[.list (ns.map .int)] } = true:=by
   have h4:=(holds_andW hc).1
   rw [hn] at h4
   exact h4
  have h5:=condW_of h4 (w_not (w_lt w_lit (w_len_list (w_arg rfl))))
  rw [length_map] at h5
  refine Nat.le_of_not_lt fun q=>?_
  have q':(n:Int) < ((ns.length:Nat):Int):=by omega
  first
   | (rw [decide_eq_true q'] at h5;exact absurd h5 (by decide))
   | (simp at h5;omega)
 cases hwl with
 | cons w1 w2 =>
  cases w2
  cases w1 with
  | list ho hall=>exact ⟨_,_,ns,rfl,rfl,ho,vT ns _ hall,hlen⟩
theorem aEn (l:OpenLaw) (args:List WData):l.row.toRowW.claim.post args (.bool true) args = true :=
 postW_of (r:=l.row.toRowW) (X:=(true == true))
  (show WShape.has [] (.bool true) .bool = true by first | rfl | decide | simp [WShape.has,WShape.arms,WShape.armsAll])
  (show (WTm.eq .res (.lit (.bool true))).value [] { args:=args,res:=some (.bool true),after:=args } = some (.bool (true == true)) from w_eq_bool (w_res rfl) w_lit) rfl
theorem attach_call {l:OpenLaw} {n:Nat} {q:Program} {loose:List Str} {XP:(Str->Option Value)->Heap->Prop} {YP:World->Heap->Prop} {d:DefRec}
  (hn:l.most = some n) (hdf:d.params.defaults = [])
  (call:∀ (w:World) (s₀ s₁:Shared) (mg mb:Str->Option Value) (fa:Addr) (o:Obj) (pm cd doc:Value) (a:Addr) (vs:List Value) (ns:List Int),
   Ground q loose [] XP w s₀ mg mb s₁.heap->YP w s₁.heap ->
   s₁.heap.get? fa = some o->o.data = .func (docDef d.name d.params d.body d.scope pm cd doc)->s₁.heap.CodeRec cd d.name->mg d.name = some (.ref fa) ->
   s₁.heap.get? a = some { cls:=.type "list",data:=.seq vs.toArray }->IntsAre vs ns->ns.length<=n->s₁.gens = #[] ->
   codeAny (model l.prog w) callerA (.call (.ref fa) ⟨[.ref a],[]⟩) (fun r s'=>r = .ok (.ret (.bool true))/\OldK s₁.heap s'.heap/\s'.os = s₁.os/\AllBare s'.gens) s₁) :
  WalkO q loose XP YP l.row.toRowW d [] (fun f vs=>PySem.call f vs):=by
 intro w s₀ s₁ mg mb G Y fa o pm cd doc dV kV ho hd hcd hD hmg hg args vals as hpre hlay hrd hwl hlo
 obtain rfl:dV = .none:=Dflts.none hD hdf
 obtain rfl:kV = .none:=Dflts.noKw hD
 obtain ⟨a,vs,ns,rfl,rfl,hobj,hints,hlen⟩:=aD1 hn hpre hwl
 refine enter_call (codeAny_mono (call w s₀ s₁ mg mb fa o pm cd doc a vs ns G Y ho (fd_plain hd) hcd hmg hobj hints hlen hg) fun r s' hq=>?_)
 obtain ⟨rfl,h2,h3,h4⟩:=hq
 exact ⟨.inl ⟨.bool true,.bool true,[],rfl,fun _=>rfl,.bool true,aEn l _,fun _=>⟨List.Pairwise.nil,fun _ hm=>(nomatch hm)⟩⟩,h2,h3,h4⟩
section
variable {prog:Program} {w:World} {A:Around} {E:Value->Shared->Prop} {s:Shared} {K:Frag}
end
end Att
namespace L2
open PySem PySem.Spec PyProof.Rows
theorem uM:∀ {vs:List Value} {ns:List Int},IntsAre vs ns->bS (ns.map V.int) vs
 | _,_,.nil=>.nil
 | _,_,.cons n t h=>.cons ⟨t,rfl⟩ (uM h)
def aLX (H:Hp):Prop:=∀ b,H b = none ∨ ∃ o xs,H b = some (.frz o (.lst xs))
theorem aFp {P:Program} {w:World} {K:Frag} {mg mb:Str->Option Value} {CX:CXT} {k:Nat} {fa a:Addr} {fd:FuncData} {x:Str} {sp:Sp} {s₁:Shared} {vs:List Value} {ns:List Int}
  (KX:K.In s₁.heap) (hns:s₁.heap.Ns mainGlobals mg) (hb:s₁.heap.Ns builtinsNs mb) (hbb:∀ x:Str,x ≠ "__name__"->mb x = bootBuiltins x) (hlim:s₁.heap.NoLimit) (hg:s₁.gens = #[])
  (ha:s₁.heap.get? a = some { cls:=.type "list",data:=.seq vs.toArray }) (hi:IntsAre vs ns) (hl:ns.length<=sizeLine) (hr:cZ k callerA)
  (F:∀ base:Heap,K.In base->base.Ns mainGlobals mg->jV P w K mg base CX k fa fd [x] sp) (hbind:∀ (s:Shared) (u:Value),BindsTo s fd ⟨[u],[]⟩ [(x,u)])
  (hsp:∀ H:Hp,aLX H->SqL K H a (ns.map V.int)->sp [.ref a] H (fun v _=>v = .bl true) fun _ _ _=>False)
  (hCX:∀ H e s',CX [] H s₁ (fun _ _ _=>False) e s'->False) :
  codeAny (model P w) callerA (.call (.ref fa) ⟨[.ref a],[]⟩) (fun r s'=>r = .ok (.ret (.bool true))/\OldK s₁.heap s'.heap/\s'.os = s₁.os/\AllBare s'.gens) s₁:=by
 have rv:=uM hi
 have lenV:=hi.length
 have core:∀ H:Hp,aLX H->SqL K H a (ns.map V.int)->HOk P w H s₁.heap->(∀ b,H b ≠ none->b = a)->(H a ≠ none->K.lookup a = none) ->
   codeAny (model P w) callerA (.call (.ref fa) ⟨[.ref a],[]⟩) (fun r s'=>r = .ok (.ret (.bool true))/\OldK s₁.heap s'.heap/\s'.os = s₁.os/\AllBare s'.gens) s₁:=by
  intro H hO hS hok hA hK
  have base_of:∀ {b:Addr} {o:Obj},s₁.heap.get? b = some o->H b = none->(aAQ s₁.heap H).get? b = some o:=fun e n=>aFR e n
  have noA:∀ {b:Addr} {o:Obj} {es:Array DictEntry} {ep:Nat},s₁.heap.get? b = some o->o.data = .dict es ep->H b = none:=fun {b o es ep} e d=>by
   cases q:H b with
   | none=>rfl
   | some u =>
    have e':b = a:=hA b (by rw [q];simp)
    subst e'
    rw [ha] at e;cases e
    have d':Data.seq vs.toArray _ = Data.dict es ep:=d
    cases d'
  have nsK:∀ {b:Addr} {m:Str->Option Value},s₁.heap.Ns b m->(aAQ s₁.heap H).Ns b m:=fun {b m} ⟨o,es,ep,e,d,r⟩=>⟨o,es,ep,base_of e (noA e d),d,r⟩
  have hKb:K.In (aAQ s₁.heap H):=fun b o e=>base_of (KX b o e) (by
   cases q:H b with
   | none=>rfl
   | some u =>
    have e':b = a:=hA b (by rw [q];simp)
    subst e'
    rw [hK (by rw [q];simp)] at e;cases e)
  have hM:Mod K mg (aAQ s₁.heap H):=⟨hKb,nsK hns,⟨mb,nsK hb,hbb⟩,let ⟨mc,h1,h2⟩:=hlim;⟨mc,nsK h1,h2⟩⟩
  have e0:aC0 P w K mg (aAQ s₁.heap H) callerA [] s₁ H:=⟨rfl,hM,fun b o e=>aHu e,Nat.le_of_eq (aEq _ _),trivial,fun b hb=>absurd (show b ∈ ([]:List Addr) from hb) (by simp),hok,.of_eq hg⟩
  refine codeAny_mono ((F _ hKb (nsK hns)).run callerA [] s₁ H ⟨[.ref a],[]⟩ [.ref a] [.ref a] _ _ hr e0 (hbind s₁ (.ref a)) (.cons rfl .nil) (hsp H hO hS)) fun r s' h=>?_
  cases r with
  | error e=>exact (hCX H e s' h).elim
  | ok fl =>
   cases fl with
   | next=>exact False.elim h
   | brk=>exact False.elim h
   | cont=>exact False.elim h
   | ret u =>
    obtain ⟨v,H',os,bare,un,hok',r',q⟩:=h
    have q':v = .bl true:=q
    subst q'
    obtain rfl:u = Value.bool true:=r'
    refine ⟨rfl,OldK.of_keep fun b o e=>?_,os,bare⟩
    cases q:H b with
    | none=>exact un.keep b o e q (by intro z;exact absurd (show b ∈ ([]:List Addr) from z) (by simp)) (by simp)
    | some u =>
     rcases hO b with z | ⟨ob,xs,z⟩
     ·rw [q] at z;cases z
     ·have z2:=un.frzs b ob _ z
      obtain ⟨e1,_⟩:=hok b _ z
      obtain ⟨e2,_⟩:=hok' b _ z2
      rw [e] at e1;cases e1
      exact e2
 cases hk:K.lookup a with
 | some o =>
  have e:=KX a o hk
  rw [ha] at e
  cases e
  refine core (fun _=>none) (fun _=>.inl rfl) (.inr ⟨_,vs.toArray,_,hk,rfl,rfl,rfl,by rw [size_toArray,lenV];exact hl,by simpa using rv⟩) (fun b u z=>by have z':(none:Option HO) = some u:=z;cases z') (fun b z=>absurd rfl z) fun z=>absurd rfl z
 | none =>
  refine core (fun b=>if b = a then some (.frz { cls:=.type "list",data:=.seq vs.toArray } (.lst (ns.map V.int))) else none) (fun b=>?_) (.inl (.inr ⟨{ cls:=.type "list",data:=.seq vs.toArray },if_pos rfl⟩)) (fun b u z=>?_) (fun b z=>?_) fun _=>hk
  ·by_cases hb:b = a
   ·exact .inr ⟨_,_,if_pos hb⟩
   ·exact .inl (if_neg hb)
  ·by_cases hb:b = a
   ·have z':=(if_pos hb).symm.trans z
    cases z'
    subst hb
    exact ⟨ha,by rw [length_map];exact hl,vs,_,rv,ha⟩
   ·have z':=(if_neg hb).symm.trans z
    cases z'
  ·by_cases hb:b = a
   ·exact hb
   ·exact absurd (if_neg hb) z
noncomputable def oE (s:Stmt):Arguments:=match s with
 | .FunctionDef _ a _ _ _ _ _ _ _ _=>a
 | _=>{ posonlyargs:=[],args:=[],vararg:=none,kwonlyargs:=[],kw_defaults:=[],kwarg:=none,defaults:=[] }
noncomputable def eO (s:Stmt):List Stmt:=match s with
 | .FunctionDef _ _ b _ _ _ _ _ _ _=>b
 | _=>[]
noncomputable def aI (s:Stmt):Scope:=match s with
 | .FunctionDef _ _ _ _ _ _ sc _ _ _=>sc
 | _=>{ kind:=.function,names:=[],isGenerator:=false,isCoroutine:=false }
noncomputable abbrev CX0:CXT:=fun _ _ _ _ _ _=>False
noncomputable abbrev E0:XK:=fun _ _ _=>False
theorem aEY {X:Cx}:tU CX0 X E0:=fun _ _ _ _ _ _ _ h=>h.elim
structure Fun (K:Frag) (x qual:Str) (st:Stmt) (f:Addr) (fd:FuncData):Prop where
 ex:∃ (oc:Value) (od:Option Addr) (kV doc pm:Value) (an:Option Addr) (cdv ct:Value) (osl:Array (Option Value)),
  fd = fnOf x qual (oE st) (eO st) (aI st) .none kV doc pm an cdv ct/\K.lookup f = some ⟨oc,od,.func fd,osl⟩/\codeIn K cdv qual = true
 kp:keepIn K (.ref f) = true
section
variable {P:Program} {w:World} {K:Frag} {mg:Str->Option Value} {base:Heap}
theorem Fun.ok {x qual:Str} {st:Stmt} {f:Addr} {fd:FuncData} {N ps:List Str} {k:Nat} {sp:Sp} (F:Fun K x qual st f fd) (S:aS N ps (aI st)) (len:∀ vs H Q E,sp vs H Q E->vs.length = ps.length)
  (hbody:∀ (cdv:Value) (A:Around) (outer:List Env) (s:Shared) (H:Hp) (vs:List V) (Q:VK) (E:XK),cZ k (A.deeper (envOfC qual (aI st) s.heap.objs.size f cdv))->sp vs H Q E ->
   ∃ t,PSs (jC CX0 P w K mg base N qual (aI st) f cdv A outer s H E).nox (eO st) t/\t { nx:=fun _ H'=>Q .non H',rt:=Q } (start N vs) H):jV P w K mg base CX0 (k + 1) f fd ps sp:=by
 obtain ⟨oc,od,kV,doc,pm,an,cdv,ct,osl,rfl,lk,hcd⟩:=F.ex
 refine aDv lk hcd S len fun A outer s H vs Q E hr hsp=>?_
 obtain ⟨t,h,q⟩:=hbody cdv A outer s H vs Q E hr hsp
 exact ⟨t,h.nox,q⟩
theorem Fun.binds {x qual:Str} {st:Stmt} {f:Addr} {fd:FuncData} {ps:List Str} (F:Fun K x qual st f fd)
  (h:∀ (kV doc pm:Value) (an:Option Addr) (cdv ct:Value) (us:List Value),us.length = ps.length->bindArgs (fnOf x qual (oE st) (eO st) (aI st) .none kV doc pm an cdv ct) ⟨us,[]⟩ = pure (ps.zip us)):mO K fd ps []:=by
 obtain ⟨oc,od,kV,doc,pm,an,cdv,ct,osl,rfl,lk,hcd⟩:=F.ex
 exact .all (h kV doc pm an cdv ct)
theorem fun_mk {x qual:Str} {st:Stmt} {f:Addr} {oc:Value} {od an:Option Addr} {osl:Array (Option Value)} {kV doc pm cdv ct:Value} (l:K.lookup f = some ⟨oc,od,.func (fnOf x qual (oE st) (eO st) (aI st) .none kV doc pm an cdv ct),osl⟩)
  (c:codeIn K cdv qual = true) (k:keepIn K (.ref f) = true):Fun K x qual st f (fnOf x qual (oE st) (eO st) (aI st) .none kV doc pm an cdv ct):=⟨⟨oc,od,kV,doc,pm,an,cdv,ct,osl,rfl,l,c⟩,k⟩
end
theorem eK {n:Nat} (h:n<=1000):n < sizeLine:=Nat.lt_of_le_of_lt h (by decide)
section
variable {X:Cx}
theorem pv (i:Nat) {x:Str} {pos:Pos} (hN:X.N[i]? = some x:=by rfl) (hv:Vis X.env.scope x:=by first | exact Or.inl rfl | exact Or.inr (Or.inl rfl) | exact Or.inr (Or.inr rfl)) (hd:(x == ("__debug__":Str)) = false:=by decide)
  (hcd:(x == ("__classdict__":Str)) = false:=by decide):PE X (.Name x pos) (aMG i):=nW hN hv hd hcd
end
def aEK (H H':Hp):Prop:=∀ b o,H b = some o->H' b = some o
theorem aEK.trans {H H1 H2:Hp} (a:aEK H H1) (b:aEK H1 H2):aEK H H2:=fun c o h=>b c o (a c o h)
theorem aEK.seq {K:Frag} {H H':Hp} {a:Addr} {xs:List V} (e:aEK H H') (h:SqL K H a xs):SqL K H' a xs:=by
 rcases h with (h | ⟨o,h⟩) | h
 ·exact .inl (.inl (e _ _ h))
 ·exact .inl (.inr ⟨o,e _ _ h⟩)
 ·exact .inr h
end L2
set_option maxHeartbeats 4000000
namespace Dd
open PySem PySem.Spec PyProof.Rows L2
inductive D where
 | non | bl (b:Bool) | int (i:Int) | str (x:Str) | tup (xs:List D) | fz (xs:List D) | ref (a:Addr)
def SqX (K:Frag) (H:Hp) (a:Addr) (xs:List V):Prop :=
 (∃ o,H a = some (.frz o (.lst xs))) ∨
 ∃ (its:Array Value) (n:Nat),K.lookup a = some { cls:=.type "list",data:=.seq its n }/\its.size<=sizeLine/\bS xs its.toList
theorem SqX.sq {K:Frag} {H:Hp} {a:Addr} {xs:List V} (h:SqX K H a xs):SqL K H a xs:=by
 rcases h with ⟨o,h⟩ | ⟨its,n,h,z,r⟩
 ·exact .inl (.inr ⟨o,h⟩)
 ·exact .inr ⟨_,its,n,h,rfl,rfl,rfl,z,r⟩
mutual
def Rep (K:Frag) (H:Hp):D->V->Prop
 | .non,v=>v = .non
 | .bl b,v=>v = .bl b
 | .int i,v=>v = .int i
 | .str x,v=>v = .str x
 | .ref a,v=>v = .ref a
 | .tup ds,v=>∃ a xs,v = .ref a/\SqT K H a xs/\bT K H ds xs
 | .fz ds,v=>∃ a xs,v = .ref a/\SqX K H a xs/\bT K H ds xs
def bT (K:Frag) (H:Hp):List D->List V->Prop
 | [],vs=>vs = []
 | d :: ds,vs=>∃ v r,vs = v :: r/\Rep K H d v/\bT K H ds r
end
structure Ext (H H':Hp):Prop where
 tup:∀ a xs,H a = some (.tup xs)->H' a = some (.tup xs)
 frz:∀ a o u,H a = some (.frz o u)->H' a = some (.frz o u)
theorem Ext.refl (H:Hp):Ext H H:=⟨fun _ _ h=>h,fun _ _ _ h=>h⟩
theorem Ext.trans {H H1 H2:Hp} (a:Ext H H1) (b:Ext H1 H2):Ext H H2:=⟨fun c xs h=>b.tup c xs (a.tup c xs h),fun c o u h=>b.frz c o u (a.frz c o u h)⟩
theorem Ext.new {H:Hp} {p:Addr} (h:H p = none) (o:HO):Ext H (upd H p o) :=
 ⟨fun a xs e=>by rw [bR (bU e h)];exact e,fun a ob u e=>by rw [bR (bU e h)];exact e⟩
theorem Ext.put {H:Hp} {p:Addr} {xs:List V} (h:H p = some (.lst xs)) (o:HO):Ext H (upd H p o) :=
 ⟨fun a ys e=>by rw [bR (xK e h (by intro z;cases z))];exact e,fun a ob u e=>by rw [bR (xK e h (by intro z;cases z))];exact e⟩
section
variable {K:Frag} {H H':Hp}
theorem jM (e:Ext H H') {a:Addr} {xs:List V} (h:SqT K H a xs):SqT K H' a xs:=by
 rcases h with (h | ⟨o,h⟩) | h
 ·exact .inl (.inl (e.tup _ _ h))
 ·exact .inl (.inr ⟨o,e.frz _ _ _ h⟩)
 ·exact .inr h
theorem oA (e:Ext H H') {a:Addr} {xs:List V} (h:SqX K H a xs):SqX K H' a xs:=by
 rcases h with ⟨o,h⟩ | h
 ·exact .inl ⟨o,e.frz _ _ _ h⟩
 ·exact .inr h
mutual
theorem Rep.ext (e:Ext H H'):∀ {d:D} {v:V},Rep K H d v->Rep K H' d v
 | .non,_,h=>by unfold Rep at h ⊢;exact h
 | .bl _,_,h=>by unfold Rep at h ⊢;exact h
 | .int _,_,h=>by unfold Rep at h ⊢;exact h
 | .str _,_,h=>by unfold Rep at h ⊢;exact h
 | .ref _,_,h=>by unfold Rep at h ⊢;exact h
 | .tup ds,_,h=>by
  unfold Rep at h ⊢
  obtain ⟨a,xs,e1,sq,r⟩:=h
  exact ⟨a,xs,e1,jM e sq,bT.ext e r⟩
 | .fz ds,_,h=>by
  unfold Rep at h ⊢
  obtain ⟨a,xs,e1,sq,r⟩:=h
  exact ⟨a,xs,e1,oA e sq,bT.ext e r⟩
theorem bT.ext (e:Ext H H'):∀ {ds:List D} {vs:List V},bT K H ds vs->bT K H' ds vs
 | [],_,h=>by unfold bT at h ⊢;exact h
 | d :: ds,_,h=>by
  unfold bT at h ⊢
  obtain ⟨v,r,e1,hv,hr⟩:=h
  exact ⟨v,r,e1,Rep.ext e hv,bT.ext e hr⟩
end
theorem bO {i:Int}:Rep K H (.int i) (.int i):=by unfold Rep;rfl
theorem cQ {b:Bool}:Rep K H (.bl b) (.bl b):=by unfold Rep;rfl
theorem hG {x:Str}:Rep K H (.str x) (.str x):=by unfold Rep;rfl
theorem qP:Rep K H .non .non:=by unfold Rep;rfl
theorem eS {a:Addr}:Rep K H (.ref a) (.ref a):=by unfold Rep;rfl
theorem aU {i:Int} {v:V} (h:Rep K H (.int i) v):v = .int i:=by unfold Rep at h;exact h
theorem cD {b:Bool} {v:V} (h:Rep K H (.bl b) v):v = .bl b:=by unfold Rep at h;exact h
theorem bF {x:Str} {v:V} (h:Rep K H (.str x) v):v = .str x:=by unfold Rep at h;exact h
theorem cX {v:V} (h:Rep K H .non v):v = .non:=by unfold Rep at h;exact h
theorem aV {a:Addr} {v:V} (h:Rep K H (.ref a) v):v = .ref a:=by unfold Rep at h;exact h
theorem cE {ds:List D} {v:V} (h:Rep K H (.tup ds) v):∃ a xs,v = .ref a/\SqT K H a xs/\bT K H ds xs:=by unfold Rep at h;exact h
theorem pM {ds:List D} {v:V} (h:Rep K H (.fz ds) v):∃ a xs,v = .ref a/\SqX K H a xs/\bT K H ds xs:=by unfold Rep at h;exact h
theorem cJ {ds:List D} {a:Addr} {xs:List V} (sq:SqT K H a xs) (r:bT K H ds xs):Rep K H (.tup ds) (.ref a):=by unfold Rep;exact ⟨a,xs,rfl,sq,r⟩
theorem cG:bT K H [] []:=by unfold bT;rfl
theorem bD {vs:List V} (h:bT K H [] vs):vs = []:=by unfold bT at h;exact h
theorem bH {d:D} {ds:List D} {v:V} {vs:List V} (h:Rep K H d v) (r:bT K H ds vs):bT K H (d :: ds) (v :: vs):=by unfold bT;exact ⟨v,vs,rfl,h,r⟩
theorem aR {d:D} {ds:List D} {vs:List V} (h:bT K H (d :: ds) vs):∃ v r,vs = v :: r/\Rep K H d v/\bT K H ds r:=by unfold bT at h;exact h
theorem bT.length:∀ {ds:List D} {vs:List V},bT K H ds vs->ds.length = vs.length
 | [],_,h=>by rw [bD h];rfl
 | d :: ds,_,h=>by
  obtain ⟨v,r,rfl,_,hr⟩:=aR h
  rw [length_cons,length_cons,bT.length hr]
theorem bT.get:∀ {ds:List D} {vs:List V} {i:Nat} {d:D},bT K H ds vs->ds[i]? = some d->∃ v,vs[i]? = some v/\Rep K H d v
 | [],_,i,d,h,e=>by simp at e
 | d0 :: ds,_,0,d,h,e=>by
  obtain ⟨v,r,rfl,hv,hr⟩:=aR h
  simp at e;subst e
  exact ⟨v,rfl,hv⟩
 | d0 :: ds,_,i + 1,d,h,e=>by
  obtain ⟨v,r,rfl,hv,hr⟩:=aR h
  exact bT.get (i:=i) hr (by simpa using e)
theorem bT.getV:∀ {ds:List D} {vs:List V} {i:Nat} {v:V},bT K H ds vs->vs[i]? = some v->∃ d,ds[i]? = some d/\Rep K H d v
 | [],_,i,v,h,e=>by rw [bD h] at e;simp at e
 | d0 :: ds,_,0,v,h,e=>by
  obtain ⟨v0,r,rfl,hv,hr⟩:=aR h
  simp at e;subst e
  exact ⟨d0,rfl,hv⟩
 | d0 :: ds,_,i + 1,v,h,e=>by
  obtain ⟨v0,r,rfl,hv,hr⟩:=aR h
  exact bT.getV (i:=i) hr (by simpa using e)
theorem bT.append:∀ {ds es:List D} {vs us:List V},bT K H ds vs->bT K H es us->bT K H (ds ++ es) (vs ++ us)
 | [],es,vs,us,h,q=>by rw [bD h];exact q
 | d :: ds,es,_,us,h,q=>by
  obtain ⟨v,r,rfl,hv,hr⟩:=aR h
  exact bH hv (bT.append hr q)
theorem bT.take:∀ {ds:List D} {vs:List V} (n:Nat),bT K H ds vs->bT K H (ds.take n) (vs.take n)
 | ds,vs,0,h=>by rw [take_zero,take_zero];exact cG
 | [],_,n + 1,h=>by rw [bD h];exact cG
 | d :: ds,_,n + 1,h=>by
  obtain ⟨v,r,rfl,hv,hr⟩:=aR h
  exact bH hv (bT.take n hr)
theorem bT.drop:∀ {ds:List D} {vs:List V} (n:Nat),bT K H ds vs->bT K H (ds.drop n) (vs.drop n)
 | ds,vs,0,h=>h
 | [],_,n + 1,h=>by rw [bD h];exact cG
 | d :: ds,_,n + 1,h=>by
  obtain ⟨v,r,rfl,hv,hr⟩:=aR h
  exact bT.drop n hr
theorem aAc:∀ (ns:List Int),bT K H (ns.map D.int) (ns.map V.int)
 | []=>cG
 | n :: ns=>bH bO (aAc ns)
end
inductive AK where
 | l (a:Addr) | d (a:Addr)
deriving DecidableEq
instance:Coe Addr AK:=⟨AK.l⟩
noncomputable abbrev DM:=AK->Option (List D)
noncomputable def bG (M:DM) (a:Addr) (ds:List D):DM:=fun b=>if b = AK.l a then some ds else M b
theorem aH {M:DM} {a:Addr} {ds:List D}:bG M a ds a = some ds:=if_pos rfl
theorem aX {M:DM} {a b:Addr} {ds:List D} (h:b ≠ a):bG M a ds b = M b:=if_neg fun e=>h (AK.l.inj e)
theorem aCf {M:DM} {a:Addr} {b:AK} {ds:List D} (h:b ≠ AK.l a):bG M a ds b = M b:=if_neg h
theorem aFs {M:DM} {a b:Addr} {ds:List D}:bG M a ds (.d b) = M (.d b):=if_neg fun e=>nomatch e
theorem zS {M:DM} {a:Addr} {ds es:List D}:bG (bG M a ds) a es = bG M a es:=by
 funext b;unfold bG;split<;>rfl
theorem vB {M:DM} {a b:AK} {o:List D} (h:M a = some o) (h':M b = none):a ≠ b:=by
 intro e;subst e;rw [h] at h';cases h'
def aMT (a:Addr) (es:List DictEntry):Heap->Prop:=fun h=>(a == sysModules) = false/\es.length<=sizeLine/\∃ ep,h.get? a = some { cls:=.type "dict",data:=.dict es.toArray ep }
def aHI (K:Frag) (H:Hp) (d:D) (e:DictEntry):Prop:=∃ k v kv vv,d = .tup [.int e.hash,k,v]/\cF kv e.key/\Rep K H k kv/\cF vv e.val/\Rep K H v vv
theorem aHI.ext {K:Frag} {H H':Hp} {d:D} {e:DictEntry} (h:aHI K H d e) (x:Ext H H'):aHI K H' d e :=
 let ⟨k,v,kv,vv,a,b,c,f,g⟩:=h;⟨k,v,kv,vv,a,b,c.ext x,f,g.ext x⟩
abbrev aGP (K:Frag) (H:Hp) (ds:List D) (es:List DictEntry):Prop:=Paired (aHI K H) ds es
theorem mP {K:Frag} {H H':Hp} {ds:List D} {es:List DictEntry} (h:aGP K H ds es) (x:Ext H H'):aGP K H' ds es:=Paired.mapP h fun _ _ r=>r.ext x
structure bV (K:Frag) (M:DM) (H:Hp):Prop where
 l:∀ (a:Addr) ds,M (.l a) = some ds->∃ xs,H a = some (.lst xs)/\bT K H ds xs
 d:∀ (a:Addr) ds,M (.d a) = some ds->∃ es,H a = some (.ext (aMT a es))/\aGP K H ds es
section
variable {K:Frag} {H H':Hp} {M M':DM}
theorem bV.fresh (h:bV K M H) {p:Addr} (e:H p = none):M p = none:=by
 cases q:M p with
 | none=>rfl
 | some ds=>obtain ⟨xs,z,_⟩:=h.l p ds q;rw [e] at z;cases z
theorem bV.new (h:bV K M H) {p:Addr} (e:H p = none) (o:HO):bV K M (upd H p o) where
 l:=fun a ds q=>by
  obtain ⟨xs,z,r⟩:=h.l a ds q
  exact ⟨xs,by rw [bR (bU z e)];exact z,r.ext (Ext.new e o)⟩
 d:=fun a ds q=>by
  obtain ⟨xs,z,r⟩:=h.d a ds q
  exact ⟨xs,by rw [bR (bU z e)];exact z,mP r (Ext.new e o)⟩
theorem bV.lnew (h:bV K M H) {p:Addr} (e:H p = none) {xs:List V} {ds:List D} (r:bT K H ds xs):bV K (bG M p ds) (upd H p (.lst xs)) where
 l:=fun a es q=>by
  by_cases ha:a = p
  ·subst ha
   rw [aH] at q
   cases q
   exact ⟨xs,dB,r.ext (Ext.new e _)⟩
  ·rw [aX ha] at q
   obtain ⟨ys,z,r2⟩:=h.l a es q
   exact ⟨ys,by rw [bR ha];exact z,r2.ext (Ext.new e _)⟩
 d:=fun a es q=>by
  rw [aFs] at q
  obtain ⟨ys,z,r2⟩:=h.d a es q
  exact ⟨ys,by rw [bR (bU z e)];exact z,mP r2 (Ext.new e _)⟩
theorem bV.put (h:bV K M H) {p:Addr} {xs0:List V} (e:H p = some (.lst xs0)) {xs:List V} {ds:List D} (r:bT K H ds xs):bV K (bG M p ds) (upd H p (.lst xs)) where
 l:=fun a es q=>by
  by_cases ha:a = p
  ·subst ha
   rw [aH] at q
   cases q
   exact ⟨xs,dB,r.ext (Ext.put e _)⟩
  ·rw [aX ha] at q
   obtain ⟨ys,z,r2⟩:=h.l a es q
   exact ⟨ys,by rw [bR ha];exact z,r2.ext (Ext.put e _)⟩
 d:=fun a es q=>by
  rw [aFs] at q
  obtain ⟨ys,z,r2⟩:=h.d a es q
  exact ⟨ys,by rw [bR (xK z e (by intro z;cases z))];exact z,mP r2 (Ext.put e _)⟩
def bB (M M':DM):Prop:=∀ a o,M a = some o->M' a = some o
theorem bB.refl (M:DM):bB M M:=fun _ _ h=>h
theorem bB.trans {M1 M2 M3:DM} (a:bB M1 M2) (b:bB M2 M3):bB M1 M3:=fun c o h=>b c o (a c o h)
theorem bB.new {M:DM} {p:Addr} (h:M p = none) (ds:List D):bB M (bG M p ds):=fun a o e=>by rw [aCf (vB e h)];exact e
theorem bV.sub (h:bV K M' H) (s:bB M M'):bV K M H:=⟨fun a ds q=>h.l a ds (s _ ds q),fun a ds q=>h.d a ds (s _ ds q)⟩
end
noncomputable abbrev cL:=List (Option D)
structure fH (K:Frag) (H:Hp) (ρ:cL) (σ:L2.St):Prop where
 len:ρ.length = σ.length
 get:∀ (i:Nat) d,ρ[i]? = some (some d)->∃ v,σ[i]? = some (some v)/\Rep K H d v
section
variable {K:Frag} {H H':Hp} {ρ:cL} {σ:L2.St}
theorem fH.ext (h:fH K H ρ σ) (e:Ext H H'):fH K H' ρ σ:=⟨h.len,fun i d q=>let ⟨v,a,b⟩:=h.get i d q;⟨v,a,b.ext e⟩⟩
theorem fH.set (h:fH K H ρ σ) {d:D} {v:V} (r:Rep K H d v) (i:Nat):fH K H (ρ.set i (some d)) (σ.set i (some v)):=by
 refine ⟨by rw [length_set,length_set,h.len],fun j d' q=>?_⟩
 rw [getElem?_set] at q
 by_cases hij:i = j
 ·subst hij
  rw [if_pos rfl] at q
  by_cases hl:i < ρ.length
  ·rw [if_pos hl] at q
   cases q
   exact ⟨v,by rw [getElem?_set,if_pos rfl,if_pos (by rw [<- h.len];exact hl)],r⟩
  ·rw [if_neg hl] at q
   cases q
 ·rw [if_neg hij] at q
  obtain ⟨u,a,b⟩:=h.get j d' q
  exact ⟨u,by rw [getElem?_set,if_neg hij];exact a,b⟩
end
abbrev DQ:=D->DM->Prop
abbrev DE:=cL->DM->DQ->Prop
abbrev DT:=cL->DM->(Bool->DM->Prop)->Prop
abbrev DA:=cL->DM->(List D->DM->Prop)->Prop
structure gA where
 nx:cL->DM->Prop
 rt:DQ
 bk:cL->DM->Prop:=fun _ _=>False
 ct:cL->DM->Prop:=fun _ _=>False
abbrev DS:=gA->cL->DM->Prop
abbrev DG:=D->cL->DM->(cL->DM->Prop)->Prop
abbrev DGs:=List D->cL->DM->(cL->DM->Prop)->Prop
noncomputable def LQ (K:Frag) (H:Hp) (Q:DQ):VK:=fun v H'=>∃ d M',Rep K H' d v/\bV K M' H'/\Ext H H'/\Q d M'
def LT (K:Frag) (H:Hp) (Q:Bool->DM->Prop):Bool->Hp->Prop:=fun b H'=>∃ M',bV K M' H'/\Ext H H'/\Q b M'
def LA (K:Frag) (H:Hp) (Q:List D->DM->Prop):List V->Hp->Prop:=fun vs H'=>∃ ds M',bT K H' ds vs/\bV K M' H'/\Ext H H'/\Q ds M'
def LN (K:Frag) (H:Hp) (Q:cL->DM->Prop):L2.St->Hp->Prop:=fun σ' H'=>∃ ρ' M',fH K H' ρ' σ'/\bV K M' H'/\Ext H H'/\Q ρ' M'
structure jF (K:Frag) (H:Hp) (D:gA) (E:pN):Prop where
 nx:∀ σ' H',LN K H D.nx σ' H'->E.nx σ' H'
 rt:∀ v H',LQ K H D.rt v H'->E.rt v H'
 bk:∀ σ' H',LN K H D.bk σ' H'->E.bk σ' H'
 ct:∀ σ' H',LN K H D.ct σ' H'->E.ct σ' H'
def low (K:Frag) (t:DE):TE:=fun σ H Q=>∃ ρ M Q',fH K H ρ σ/\bV K M H/\t ρ M Q'/\∀ v H',LQ K H Q' v H'->Q v H'
def aFo (K:Frag) (t:DT):TT:=fun σ H Q=>∃ ρ M Q',fH K H ρ σ/\bV K M H/\t ρ M Q'/\∀ v H',LT K H Q' v H'->Q v H'
def aM7 (K:Frag) (t:DA):TA:=fun σ H Q=>∃ ρ M Q',fH K H ρ σ/\bV K M H/\t ρ M Q'/\∀ v H',LA K H Q' v H'->Q v H'
def aEA (K:Frag) (t:DS):TS:=fun E σ H=>∃ ρ M D,fH K H ρ σ/\bV K M H/\t D ρ M/\jF K H D E
def vS (K:Frag) (g:DG):TG:=fun v σ H Q=>∃ d ρ M Q',Rep K H d v/\fH K H ρ σ/\bV K M H/\g d ρ M Q'/\∀ σ' H',LN K H Q' σ' H'->Q σ' H'
def aMg (K:Frag) (g:DGs):TGs:=fun vs σ H Q=>∃ ds ρ M Q',bT K H ds vs/\fH K H ρ σ/\bV K M H/\g ds ρ M Q'/\∀ σ' H',LN K H Q' σ' H'->Q σ' H'
abbrev PDE (X:Cx) (e:Expr) (t:DE):Prop:=PE X e (low X.K t)
abbrev PDT (X:Cx) (e:Expr) (t:DT):Prop:=PT X e (aFo X.K t)
abbrev PDW (X:Cx) (e:Expr) (t:DT):Prop:=PW X e (aFo X.K t)
abbrev PDA (X:Cx) (es:List Expr) (t:DA):Prop:=PA X es (aM7 X.K t)
abbrev PDS (X:Cx) (st:Stmt) (t:DS):Prop:=PS X st (aEA X.K t)
abbrev kE (X:Cx) (st:List Stmt) (t:DS):Prop:=PSs X st (aEA X.K t)
abbrev PDG (X:Cx) (e:Expr) (g:DG):Prop:=PG X e (vS X.K g)
abbrev aAy (X:Cx) (es:List Expr) (g:DGs):Prop:=PGs X es (aMg X.K g)
section
variable {K:Frag} {H H1:Hp}
theorem LQ.back {Q:DQ} {v:V} {H2:Hp} (e:Ext H H1) (h:LQ K H1 Q v H2):LQ K H Q v H2:=let ⟨d,M,a,b,c,q⟩:=h;⟨d,M,a,b,e.trans c,q⟩
theorem LT.back {Q:Bool->DM->Prop} {v:Bool} {H2:Hp} (e:Ext H H1) (h:LT K H1 Q v H2):LT K H Q v H2:=let ⟨M,b,c,q⟩:=h;⟨M,b,e.trans c,q⟩
theorem LN.back {Q:cL->DM->Prop} {v:L2.St} {H2:Hp} (e:Ext H H1) (h:LN K H1 Q v H2):LN K H Q v H2:=let ⟨d,M,a,b,c,q⟩:=h;⟨d,M,a,b,e.trans c,q⟩
theorem jF.at {D:gA} {E:pN} (h:jF K H D E) (e:Ext H H1):jF K H1 D E :=
 ⟨fun s H2 q=>h.nx s H2 (q.back e),fun s H2 q=>h.rt s H2 (q.back e),fun s H2 q=>h.bk s H2 (q.back e),fun s H2 q=>h.ct s H2 (q.back e)⟩
end
section
variable {X:Cx} {e:Expr} {st:Stmt} {sts:List Stmt}
theorem bW {t u:TE} (h:PE X e t) (k:∀ σ H Q,u σ H Q->t σ H Q):PE X e u:=fun pins s σ H Q I q=>h pins s σ H Q I (k σ H Q q)
theorem aC3 {t u:TT} (h:PT X e t) (k:∀ σ H Q,u σ H Q->t σ H Q):PT X e u:=fun pins s σ H Q I q=>h pins s σ H Q I (k σ H Q q)
theorem aF4 {t u:TT} (h:PW X e t) (k:∀ σ H Q,u σ H Q->t σ H Q):PW X e u:=fun wh pins s σ H Q I q=>h wh pins s σ H Q I (k σ H Q q)
theorem aF8 {es:List Expr} {t u:TA} (h:PA X es t) (k:∀ σ H Q,u σ H Q->t σ H Q):PA X es u:=fun pos pins s σ H Q I q=>h pos pins s σ H Q I (k σ H Q q)
theorem jD {t u:TS} (h:PS X st t) (k:∀ D σ H,u D σ H->t D σ H):PS X st u:=fun pins s σ H D I q=>h pins s σ H D I (k D σ H q)
theorem aA7 {t u:TS} (h:PSs X sts t) (k:∀ D σ H,u D σ H->t D σ H):PSs X sts u:=fun pins s σ H D I q=>h pins s σ H D I (k D σ H q)
theorem aGR {t u:TG} (h:PG X e t) (k:∀ v σ H Q,u v σ H Q->t v σ H Q):PG X e u:=fun pins s σ H v w Q I r q=>h pins s σ H v w Q I r (k v σ H Q q)
theorem aDM {es:List Expr} {t u:TGs} (h:PGs X es t) (k:∀ v σ H Q,u v σ H Q->t v σ H Q):PGs X es u:=fun pins s σ H v w Q I r q=>h pins s σ H v w Q I r (k v σ H Q q)
end
section
variable {X:Cx} {a b c e:Expr} {es:List Expr} {ta tb tc te:DE} {tA tB:DT} {t:DA} {pos:Pos}
def aIT (i:Nat):DE:=fun ρ M Q=>match ρ[i]? with
 | some (some d)=>Q d M
 | _=>False
theorem aKT (i:Nat) {x:Str} {pos:Pos} (hN:X.N[i]? = some x:=by rfl) (hv:Vis X.env.scope x:=by first | exact Or.inl rfl | exact Or.inr (Or.inl rfl) | exact Or.inr (Or.inr rfl)) (hd:(x == ("__debug__":Str)) = false:=by decide)
  (hcd:(x == ("__classdict__":Str)) = false:=by decide):PDE X (.Name x pos) (aIT i) :=
 bW (nW (i:=i) hN hv hd hcd) fun σ H Q ⟨ρ,M,Q',re,hm,q,k⟩=>by
  unfold aIT at q
  split at q
  ·rename_i d e
   obtain ⟨v,e1,r⟩:=re.get i d e
   exact ⟨v,e1,k v H ⟨d,M,r,hm,.refl H,q⟩⟩
  ·exact q.elim
def dC (d:D):DE:=fun _ M Q=>Q d M
theorem aK9 {i j pos}:PDE X (.Constant (.int i) j pos) (dC (.int i)):=bW aJA fun σ H Q ⟨ρ,M,Q',re,hm,q,k⟩=>k _ H ⟨_,M,bO,hm,.refl H,q⟩
theorem aNC {i j pos}:PDE X (.Constant (.bool i) j pos) (dC (.bl i)):=bW aNg fun σ H Q ⟨ρ,M,Q',re,hm,q,k⟩=>k _ H ⟨_,M,cQ,hm,.refl H,q⟩
theorem aJO {j pos}:PDE X (.Constant .none j pos) (dC .non):=bW aJ9 fun σ H Q ⟨ρ,M,Q',re,hm,q,k⟩=>k _ H ⟨_,M,qP,hm,.refl H,q⟩
theorem aLC {x j pos}:PDE X (.Constant (.str x) j pos) (dC (.str x)):=bW aKA fun σ H Q ⟨ρ,M,Q',re,hm,q,k⟩=>k _ H ⟨_,M,hG,hm,.refl H,q⟩
theorem aHk {x:Str} {d:D} {v:V} {u:Value} {pos:Pos} (hg:Gl X x) (hm:X.mg x = some u) (r:cF v u) (hr:∀ H,Rep X.K H d v) (hd:(x == ("__debug__":Str)) = false:=by decide):PDE X (.Name x pos) (dC d) :=
 bW (aA1 hg hm r hd) fun σ H Q ⟨ρ,M,Q',re,hm,q,k⟩=>k _ H ⟨_,M,hr H,hm,.refl H,q⟩
abbrev D2:=D->D->DM->DQ->Prop
def OpL (K:Frag) (r:R2) (r':D2):Prop:=∀ x y H M dx dy Q,Rep K H dx x->Rep K H dy y->bV K M H->r' dx dy M Q->r x y H (LQ K H Q)
def OpD (X:Cx) (f:Value->Value->Sem Value) (r':D2):Prop :=
 OpR X f fun x y H Q=>∃ dx dy M Q',Rep X.K H dx x/\Rep X.K H dy y/\bV X.K M H/\r' dx dy M Q'/\∀ v H',LQ X.K H Q' v H'->Q v H'
theorem aDW {pins:List (Addr × Obj)} {σ:L2.St} {Q Q':VK} {u:Value} {s:Shared} (h:EP X pins σ Q u s) (k:∀ v H,Q v H->Q' v H):EP X pins σ Q' u s:=let ⟨v,H,a,b,c⟩:=h;⟨v,H,a,b,k v H c⟩
theorem OpD.of {f:Value->Value->Sem Value} {r:R2} {r':D2} (h:OpR X f r) (l:OpL X.K r r'):OpD X f r':=fun pins s σ H x y v u Q I rx ry ⟨dx,dy,M,Q',r1,r2,hm,q,k⟩ =>
 thn (h pins s σ H x y v u _ I rx ry (l x y H M dx dy Q' r1 r2 hm q)) fun v s h=>aDW h k
def dOp (r:D2) (ta tb:DE):DE:=fun ρ M Q=>ta ρ M fun x M1=>tb ρ M1 fun y M2=>r x y M2 Q
theorem aA2 {r':D2} {σ:L2.St} {H:Hp} {Q:VK} {R:V->V->Hp->VK->Prop} (hR:∀ x y H1 Q1,(∃ dx dy M Q',Rep X.K H1 dx x/\Rep X.K H1 dy y/\bV X.K M H1/\r' dx dy M Q'/\∀ v H',LQ X.K H1 Q' v H'->Q1 v H')->R x y H1 Q1)
  (h:low X.K (dOp r' ta tb) σ H Q):low X.K ta σ H fun x H1=>low X.K tb σ H1 fun y H2=>R x y H2 Q:=by
 obtain ⟨ρ,M,Q',re,hm,q,k⟩:=h
 refine ⟨ρ,M,_,re,hm,q,fun x H1 ⟨dx,M1,rx,hm1,e1,q1⟩=>⟨ρ,M1,_,re.ext e1,hm1,q1,fun y H2 ⟨dy,M2,ry,hm2,e2,q2⟩=>?_⟩⟩
 exact hR x y H2 Q ⟨dx,dy,M2,Q',rx.ext e2,ry,hm2,q2,fun v H' z=>k v H' (z.back (e1.trans e2))⟩
theorem aNs {op:Operator} {r:D2} (ho:OpD X (binaryOp op) r) (ha:PDE X a ta) (hb:PDE X b tb):PDE X (.BinOp a op b pos) (dOp r ta tb) :=
 bW (aNz ho ha hb) fun σ H Q h=>aA2 (fun _ _ _ _ z=>z) h
theorem aJ2 {op:CmpOp} {r:D2} (ho:OpD X (compareOp op) r) (ha:PDE X a ta) (hb:PDE X b tb) (hm:behindInMarks op b = false:=by exact aBd _):PDE X (.Compare a [op] [b] pos) (dOp r ta tb) :=
 bW (aHy ho ha hb hm) fun σ H Q h=>aA2 (fun _ _ _ _ z=>z) h
def aAe (t:DE):DT:=fun ρ M Q=>t ρ M fun d M'=>match d with
 | .bl k=>Q k M'
 | _=>False
theorem aCj {σ:L2.St} {H:Hp} {Q:Bool->Hp->Prop} (h:aFo X.K (aAe te) σ H Q):low X.K te σ H fun x H'=>∃ k,x = .bl k/\Q k H':=by
 obtain ⟨ρ,M,Q',re,hm,q,k⟩:=h
 refine ⟨ρ,M,_,re,hm,q,fun x H1 ⟨d,M1,rd,hm1,e1,q1⟩=>?_⟩
 cases d with
 | bl c=>exact ⟨c,cD rd,k c H1 ⟨M1,hm1,e1,q1⟩⟩
 | _=>exact q1.elim
theorem aLk {op:CmpOp} {r:D2} (ho:OpD X (compareOp op) r) (ha:PDE X a ta) (hb:PDE X b tb) (hm:behindInMarks op b = false:=by exact aBd _):PDT X (.Compare a [op] [b] pos) (aAe (dOp r ta tb)) :=
 aC3 (aIM ho ha hb hm) fun σ H Q h=>aA2 (R:=fun x y H Q1=>∃ dx dy M Q',Rep X.K H dx x/\Rep X.K H dy y/\bV X.K M H/\r dx dy M Q'/\∀ v H',LQ X.K H Q' v H'->Q1 v H') (fun _ _ _ _ z=>z) (aCj h)
theorem aKj (h:PDE X e te) (he:∀ whole,isTrue e X.env whole = (do let v <- whole;standAt e.pos;holding [v] (truthy v)):=by intro _;rfl):PDT X e (aAe te) :=
 aC3 (aJG h he) fun σ H Q h=>aCj h
def aJy (t u:DT):DT:=fun ρ M Q=>t ρ M fun c M1=>if c = true then u ρ M1 Q else Q false M1
def dOr (t u:DT):DT:=fun ρ M Q=>t ρ M fun c M1=>if c = true then Q true M1 else u ρ M1 Q
def aKU (t:DT):DT:=fun ρ M Q=>t ρ M fun c M1=>Q (!c) M1
variable {dD:List Expr}
theorem aH8 (ha:PDT X a tA):PDW X (.BoolOp .And [a] pos) tA:=aHU ha
theorem aKP (ha:PDT X a tA):PDW X (.BoolOp .Or [a] pos) tA:=aKv ha
theorem aKR (ha:PDT X a tA) (hb:PDW X (.BoolOp .And (b :: dD) pos) tB):PDW X (.BoolOp .And (a :: b :: dD) pos) (aJy tA tB) :=
 aF4 (aLq ha hb) fun σ H Q ⟨ρ,M,Q',re,hm,q,k⟩=>⟨ρ,M,_,re,hm,q,fun c H1 ⟨M1,hm1,e1,q1⟩=>by
  cases c with
  | true=>exact ⟨ρ,M1,_,re.ext e1,hm1,q1,fun v H' z=>k v H' (z.back e1)⟩
  | false=>exact k false H1 ⟨M1,hm1,e1,q1⟩⟩
theorem aNW (ha:PDT X a tA) (hb:PDW X (.BoolOp .Or (b :: dD) pos) tB):PDW X (.BoolOp .Or (a :: b :: dD) pos) (dOr tA tB) :=
 aF4 (aNk ha hb) fun σ H Q ⟨ρ,M,Q',re,hm,q,k⟩=>⟨ρ,M,_,re,hm,q,fun c H1 ⟨M1,hm1,e1,q1⟩=>by
  cases c with
  | false=>exact ⟨ρ,M1,_,re.ext e1,hm1,q1,fun v H' z=>k v H' (z.back e1)⟩
  | true=>exact k true H1 ⟨M1,hm1,e1,q1⟩⟩
theorem aOi (h:PDW X e tA):PDT X e tA:=PW.pt h
theorem aLp (ha:PDT X a tA):PDT X (.UnaryOp .Not a pos) (aKU tA) :=
 aC3 (aL2 ha) fun σ H Q ⟨ρ,M,Q',re,hm,q,k⟩=>⟨ρ,M,_,re,hm,q,fun c H1 ⟨M1,hm1,e1,q1⟩=>k (!c) H1 ⟨M1,hm1,e1,q1⟩⟩
def aGN (ta tb:DE):DE:=fun ρ M Q=>ta ρ M fun x M1=>match x with
 | .bl c=>if c = true then tb ρ M1 Q else Q (.bl false) M1
 | _=>False
def aLy (ta tb:DE):DE:=fun ρ M Q=>ta ρ M fun x M1=>match x with
 | .bl c=>if c = true then Q (.bl true) M1 else tb ρ M1 Q
 | _=>False
def aES (ta:DE):DE:=fun ρ M Q=>ta ρ M fun x M1=>match x with
 | .bl c=>Q (.bl (!c)) M1
 | _=>False
theorem aLs {op} (h:PDE X a ta):PDE X (.BoolOp op [a] pos) ta:=aLS h
theorem aLG (ha:PDE X a ta) (hb:PDE X (.BoolOp .And (b :: dD) pos) tb):PDE X (.BoolOp .And (a :: b :: dD) pos) (aGN ta tb) :=
 bW (aLB ha hb) fun σ H Q ⟨ρ,M,Q',re,hm,q,k⟩=>⟨ρ,M,_,re,hm,q,fun x H1 ⟨d,M1,rd,hm1,e1,q1⟩=>by
  cases d with
  | bl c =>
   refine ⟨c,cD rd,?_⟩
   cases c with
   | true=>exact ⟨ρ,M1,_,re.ext e1,hm1,q1,fun v H' z=>k v H' (z.back e1)⟩
   | false=>exact k _ H1 ⟨_,M1,cQ,hm1,e1,q1⟩
  | _=>exact q1.elim⟩
theorem aN0 (ha:PDE X a ta) (hb:PDE X (.BoolOp .Or (b :: dD) pos) tb):PDE X (.BoolOp .Or (a :: b :: dD) pos) (aLy ta tb) :=
 bW (aM4 ha hb) fun σ H Q ⟨ρ,M,Q',re,hm,q,k⟩=>⟨ρ,M,_,re,hm,q,fun x H1 ⟨d,M1,rd,hm1,e1,q1⟩=>by
  cases d with
  | bl c =>
   refine ⟨c,cD rd,?_⟩
   cases c with
   | false=>exact ⟨ρ,M1,_,re.ext e1,hm1,q1,fun v H' z=>k v H' (z.back e1)⟩
   | true=>exact k _ H1 ⟨_,M1,cQ,hm1,e1,q1⟩
  | _=>exact q1.elim⟩
theorem aLR (ha:PDE X a ta):PDE X (.UnaryOp .Not a pos) (aES ta) :=
 bW (aKV ha) fun σ H Q ⟨ρ,M,Q',re,hm,q,k⟩=>⟨ρ,M,_,re,hm,q,fun x H1 ⟨d,M1,rd,hm1,e1,q1⟩=>by
  cases d with
  | bl c=>exact ⟨c,cD rd,k _ H1 ⟨_,M1,cQ,hm1,e1,q1⟩⟩
  | _=>exact q1.elim⟩
def aLm (t:DT) (ta tb:DE):DE:=fun ρ M Q=>t ρ M fun c M1=>if c = true then ta ρ M1 Q else tb ρ M1 Q
theorem aFW (hc:PDT X c tA) (ha:PDE X a ta) (hb:PDE X b tb):PDE X (.IfExp c a b pos) (aLm tA ta tb) :=
 bW (aGC hc ha hb) fun σ H Q ⟨ρ,M,Q',re,hm,q,k⟩=>⟨ρ,M,_,re,hm,q,fun c H1 ⟨M1,hm1,e1,q1⟩=>by
  cases c with
  | true=>exact ⟨ρ,M1,_,re.ext e1,hm1,q1,fun v H' z=>k v H' (z.back e1)⟩
  | false=>exact ⟨ρ,M1,_,re.ext e1,hm1,q1,fun v H' z=>k v H' (z.back e1)⟩⟩
def lG:DA:=fun _ M Q=>Q [] M
def iN (ta:DE) (tr:DA):DA:=fun ρ M Q=>ta ρ M fun x M1=>tr ρ M1 fun xs M2=>Q (x :: xs) M2
theorem lA:PDA X [] lG:=aF8 uD fun σ H Q ⟨ρ,M,Q',re,hm,q,k⟩=>k [] H ⟨[],M,cG,hm,.refl H,q⟩
theorem iU (ha:PDE X e te) (hr:PDA X es t) (hs:starEach (e :: es) X.env = (false,eval e X.env) :: starEach es X.env:=by rfl):PDA X (e :: es) (iN te t) :=
 aF8 (jA ha hr hs) fun σ H Q ⟨ρ,M,Q',re,hm,q,k⟩=>⟨ρ,M,_,re,hm,q,fun x H1 ⟨dx,M1,rx,hm1,e1,q1⟩=>⟨ρ,M1,_,re.ext e1,hm1,q1,fun xs H2 ⟨dxs,M2,rxs,hm2,e2,q2⟩ =>
  k _ H2 ⟨dx :: dxs,M2,bH (rx.ext e2) rxs,hm2,e1.trans e2,q2⟩⟩⟩
def aIt (t:DA):DE:=fun ρ M Q=>t ρ M fun xs M1=>xs.length<=1000/\Q (.tup xs) M1
def aKH (t:DA):DE:=fun ρ M Q=>t ρ M fun xs M1=>xs.length<=1000/\∀ p:Addr,M1 p = none->Q (.ref p) (bG M1 p xs)
theorem aJX {x1} (h:PDA X es t):PDE X (.Tuple es x1 pos) (aIt t) :=
 bW (aJT h) fun σ H Q ⟨ρ,M,Q',re,hm,q,k⟩=>⟨ρ,M,_,re,hm,q,fun xs H1 ⟨ds,M1,rs,hm1,e1,q1,q2⟩=>⟨by rw [<- rs.length];exact Nat.le_of_lt (eK q1),fun p hp =>
  k _ _ ⟨.tup ds,M1,cJ (.of dB) (rs.ext (Ext.new hp _)),hm1.new hp _,e1.trans (Ext.new hp _),q2⟩⟩⟩
theorem aKZ (h:PDA X es t):PDE X (.List es pos) (aKH t) :=
 bW (aLh h) fun σ H Q ⟨ρ,M,Q',re,hm,q,k⟩=>⟨ρ,M,_,re,hm,q,fun xs H1 ⟨ds,M1,rs,hm1,e1,q1,q2⟩=>⟨by rw [<- rs.length];exact Nat.le_of_lt (eK q1),fun p hp =>
  k _ _ ⟨.ref p,_,eS,hm1.lnew hp rs,e1.trans (Ext.new hp _),q2 p (hm1.fresh hp)⟩⟩⟩
end
section
variable {X:Cx} {st:Stmt} {dD:List Stmt} {t u:DS} {e:Expr} {te:DE} {pos:Pos}
def aGY:DS:=fun E ρ M=>E.nx ρ M
def aKn (t u:DS):DS:=fun E ρ M=>t { E with nx:=u E } ρ M
theorem aHT:kE X [] aGY:=aA7 aIR fun E σ H ⟨ρ,M,D,re,hm,q,k⟩=>k.nx σ H ⟨ρ,M,re,hm,.refl H,q⟩
theorem aEU (h1:PDS X st t) (h2:kE X dD u):kE X (st :: dD) (aKn t u) :=
 aA7 (aBT h1 h2) fun E σ H ⟨ρ,M,D,re,hm,q,k⟩=>⟨ρ,M,{ D with nx:=u D },re,hm,q,
  ⟨fun σ' H' ⟨ρ',M',re',hm',ex,q'⟩=>⟨ρ',M',D,re',hm',q',k.at ex⟩,k.rt,k.bk,k.ct⟩⟩
theorem aIQ (h1:PDS X st t):kE X [st] t:=aDk h1
def aFB (te:DE):DS:=fun E ρ M=>te ρ M fun _ M1=>E.nx ρ M1
theorem aHZ (he:PDE X e te) (hs:swapsWith e none pos.line X.env = pure false:=by rfl):PDS X (.Expr e pos) (aFB te) :=
 jD (aHK he hs) fun E σ H ⟨ρ,M,D,re,hm,q,k⟩=>⟨ρ,M,_,re,hm,q,fun v H1 ⟨d,M1,rd,hm1,ex,q1⟩=>k.nx σ H1 ⟨ρ,M1,re.ext ex,hm1,ex,q1⟩⟩
def aJ6 (te:DE):DS:=fun E ρ M=>te ρ M E.rt
theorem aL4 (he:PDE X e te):PDS X (.Return (some e) pos) (aJ6 te) :=
 jD (aMb he) fun E σ H ⟨ρ,M,D,re,hm,q,k⟩=>⟨ρ,M,_,re,hm,q,k.rt⟩
def aKD (c:DT) (t u:DS):DS:=fun E ρ M=>c ρ M fun b M1=>if b = true then t E ρ M1 else u E ρ M1
theorem aMw {c:Expr} {a b:List Stmt} {tc:DT} (hc:PDT X c tc) (ha:kE X a t) (hb:kE X b u):PDS X (.If c a b pos) (aKD tc t u) :=
 jD (aMx hc ha hb) fun E σ H ⟨ρ,M,D,re,hm,q,k⟩=>⟨ρ,M,_,re,hm,q,fun b H1 ⟨M1,hm1,ex,q1⟩=>by
  cases b with
  | true=>exact ⟨ρ,M1,D,re.ext ex,hm1,q1,k.at ex⟩
  | false=>exact ⟨ρ,M1,D,re.ext ex,hm1,q1,k.at ex⟩⟩
def aCu:DS:=fun _ _ _=>False
theorem aGu:PDS X st aCu:=fun _ _ _ _ _ _ ⟨_,_,_,_,_,q,_⟩=>q.elim
end
section
variable {X:Cx} {pos:Pos} {e tg:Expr} {es:List Expr} {te:DE}
def gN (i:Nat):DG:=fun d ρ M Q=>Q (ρ.set i (some d)) M
theorem aH2 {i:Nat} {x:Str} (hN:X.N.Nodup) (hi:X.N[i]? = some x:=by rfl) (hx:Loc X.env.scope x:=by first | exact Or.inl rfl | exact Or.inr rfl) (hf:X.fn x = true ∨ X.env.scope.names.lookup x = some .local:=by first | exact .inl rfl | exact .inr rfl | assumption):PDG X (.Name x pos) (gN i) :=
 aGR (aHv (i:=i) hN hi hx hf) fun v σ H Q ⟨d,ρ,M,Q',rd,re,hm,q,k⟩=>k _ H ⟨_,M,re.set rd i,hm,.refl H,q⟩
def gNl:DGs:=fun ds ρ M Q=>match ds with
 | []=>Q ρ M
 | _=>False
def gCn (t:DG) (u:DGs):DGs:=fun ds ρ M Q=>match ds with
 | d :: r=>t d ρ M fun ρ' M'=>u r ρ' M' Q
 | []=>False
theorem aIC:aAy X [] gNl:=aDM aIq fun v σ H Q ⟨ds,ρ,M,Q',rd,re,hm,q,k⟩=>by
 cases ds with
 | nil=>exact ⟨bD rd,k σ H ⟨ρ,M,re,hm,.refl H,q⟩⟩
 | cons _ _=>exact q.elim
theorem aGp {t:DG} {u:DGs} (h1:PDG X e t) (h2:aAy X es u) (hs:(assignEach (e :: es) X.env).map (·.2) = assign e X.env :: (assignEach es X.env).map (·.2):=by rfl):aAy X (e :: es) (gCn t u) :=
 aDM (aGM h1 h2 hs) fun v σ H Q ⟨ds,ρ,M,Q',rd,re,hm,q,k⟩=>by
  cases ds with
  | nil=>exact q.elim
  | cons d r =>
   obtain ⟨x,xs,rfl,rx,rxs⟩:=aR rd
   exact ⟨x,xs,rfl,d,ρ,M,_,rx,re,hm,q,fun σ' H' ⟨ρ',M',re',hm',ex,q'⟩=>⟨r,ρ',M',Q',rxs.ext ex,re',hm',q',fun σ2 H2 z=>k σ2 H2 (z.back ex)⟩⟩
def gT (n:Nat) (t:DGs):DG:=fun d ρ M Q=>match d with
 | .tup ds=>ds.length = n/\t ds ρ M Q
 | _=>False
theorem aKr {k:Nat} {t:DGs} {n:Nat} (hc:X.calm = true) (h:aAy X es t) (hn:(assignEach es X.env).length = n:=by rfl) (hst:(assignEach es X.env).findIdx? (·.1) = none:=by rfl):PDG X (.Tuple es k pos) (gT n t) :=
 aGR (aMe hc h hn hst) fun v σ H Q ⟨d,ρ,M,Q',rd,re,hm,q,k⟩=>by
  cases d with
  | tup ds =>
   obtain ⟨a,xs,rfl,sq,rs⟩:=cE rd
   exact ⟨a,xs,rfl,sq,by rw [<- rs.length];exact q.1,ds,ρ,M,Q',rs,re,hm,q.2,k⟩
  | _=>exact q.elim
def aEu (te:DE) (g:DG):DS:=fun E ρ M=>te ρ M fun x M1=>g x ρ M1 E.nx
theorem aIK {g:DG} {σ:L2.St} {H:Hp} {E:pN} (h:aEA X.K (aEu te g) E σ H):low X.K te σ H fun x H1=>vS X.K g x σ H1 E.nx:=by
 obtain ⟨ρ,M,D,re,hm,q,k⟩:=h
 exact ⟨ρ,M,_,re,hm,q,fun v H1 ⟨d,M1,rd,hm1,ex,q1⟩=>⟨d,ρ,M1,_,rd,re.ext ex,hm1,q1,fun σ' H' z=>k.nx σ' H' (z.back ex)⟩⟩
theorem aJw {g:DG} (he:PDE X e te) (hg:PDG X tg g) (hs:swapsWithSole [tg] e pos.line X.env = pure false:=by rfl) (hw:swappedStores [tg] e X.env = pure none:=by rfl)
  (h1:(assignEach [tg] X.env).map (·.2) = [assign tg X.env]:=by rfl):PDS X (.Assign [tg] e pos) (aEu te g) :=
 jD (aLY he hg hs hw h1) fun E σ H h=>aIK h
theorem aMa {i:Nat} {x:Str} {pos':Pos} (hN:X.N.Nodup) (he:PDE X e te) (hi:X.N[i]? = some x:=by rfl) (hx:Loc X.env.scope x:=by first | exact Or.inl rfl | exact Or.inr rfl) (hs:swapsWith e (some (.Name x pos')) pos.line X.env = pure false:=by rfl) (hf:X.fn x = true ∨ X.env.scope.names.lookup x = some .local:=by first | exact .inl rfl | exact .inr rfl | assumption) :
  PDS X (.Assign [.Name x pos'] e pos) (aEu te (gN i)) :=
 jD (aLl (i:=i) hN hi hx he hs hf) fun E σ H ⟨ρ,M,D,re,hm,q,k⟩=>⟨ρ,M,_,re,hm,q,fun v H1 ⟨d,M1,rd,hm1,ex,q1⟩=>k.nx _ H1 ⟨_,M1,(re.ext ex).set rd i,hm1,ex,q1⟩⟩
def aK1 (i j:Nat) (ta:DA):DS:=fun E ρ M=>ta ρ M fun ds M1=>match ds with
 | [x,y]=>E.nx ((ρ.set i (some x)).set j (some y)) M1
 | _=>False
theorem aMf {i j:Nat} {x y:Str} {a b:Expr} {ta:DA} {px py pt:Pos} {kt k2 pt2} (hc:X.calm = true) (hN:X.N.Nodup) (ha:PDA X [a,b] ta) (hi:X.N[i]? = some x:=by rfl) (hj:X.N[j]? = some y:=by rfl) (hij:i ≠ j:=by decide)
  (hx:X.env.scope.names.lookup x = some .local:=by rfl) (hy:X.env.scope.names.lookup y = some .local:=by rfl)
  (hw:swappedStores [.Tuple [.Name x px,.Name y py] kt pt] (.Tuple [a,b] k2 pt2) X.env = pure (some [x,y]):=by rfl)
  (hs:swapsWithSole [.Tuple [.Name x px,.Name y py] kt pt] (.Tuple [a,b] k2 pt2) pos.line X.env = pure false:=by rfl) :
  PDS X (.Assign [.Tuple [.Name x px,.Name y py] kt pt] (.Tuple [a,b] k2 pt2) pos) (aK1 i j ta) :=
 jD (aLL (i:=i) (j:=j) hc hN hi hj hij hx hy ha hw hs) fun E σ H ⟨ρ,M,D,re,hm,q,k⟩=>⟨ρ,M,_,re,hm,q,fun vs H1 ⟨ds,M1,rs,hm1,ex,q1⟩=>by
  match ds,q1 with
  | [d1,d2],q1 =>
   obtain ⟨v1,r1,rfl,rv1,rr1⟩:=aR rs
   obtain ⟨v2,r2,rfl,rv2,rr2⟩:=aR rr1
   obtain rfl:=bD rr2
   exact ⟨v1,v2,rfl,k.nx _ H1 ⟨_,M1,((re.ext ex).set rv1 i).set rv2 j,hm1,ex,q1⟩⟩
  | [],q1=>exact q1.elim
  | [_],q1=>exact q1.elim
  | _ :: _ :: _ :: _,q1=>exact q1.elim⟩
end
section
variable {X:Cx} {pos:Pos}
def aCR (c:DT) (tb:DS):DS:=fun E ρ M=>∃ W:Nat->cL->DM->Prop,(∃ m,W m ρ M)/\∀ m ρ M,W m ρ M ->
 c ρ M fun b M1=>if b = true then tb { E with nx:=fun ρ' M'=>∃ m',m' < m/\W m' ρ' M',ct:=fun ρ' M'=>∃ m',m' < m/\W m' ρ' M',bk:=E.nx } ρ M1 else E.nx ρ M1
theorem aFk {c:Expr} {body:List Stmt} {tc:DT} {tb:DS} (hp:PassesOwn (model X.prog X.w) X.A X.env X.xe) (hc:PDT X c tc) (hb:kE X body tb):PDS X (.While c body [] pos) (aCR tc tb) :=
 jD (aHb hp hc hb) fun E σ H ⟨ρ,M,D,re,hm,⟨W,⟨m0,w0⟩,turn⟩,k⟩=>by
  refine ⟨fun m σ' H'=>∃ ρ' M',fH X.K H' ρ' σ'/\bV X.K M' H'/\Ext H H'/\W m ρ' M',⟨m0,ρ,M,re,hm,.refl H,w0⟩,?_⟩
  rintro m σ1 H1 ⟨ρ1,M1,re1,hm1,e1,w1⟩
  refine ⟨ρ1,M1,_,re1,hm1,turn m ρ1 M1 w1,fun b H2 ⟨M2,hm2,e2,q2⟩=>?_⟩
  cases b with
  | false=>exact k.nx σ1 H2 ⟨ρ1,M2,re1.ext e2,hm2,e1.trans e2,q2⟩
  | true =>
   refine ⟨fun σ' H'=>∃ m',m' < m/\∃ ρ' M',fH X.K H' ρ' σ'/\bV X.K M' H'/\Ext H H'/\W m' ρ' M',fun σ' H' z=>z,?_⟩
   refine ⟨ρ1,M2,_,re1.ext e2,hm2,q2,?_⟩
   have ex:=e1.trans e2
   exact ⟨fun σ' H' ⟨ρ',M',a,b,c,m',l,d⟩=>⟨m',l,ρ',M',a,b,ex.trans c,d⟩,fun v H' z=>k.rt v H' (z.back ex),fun σ' H' z=>k.nx σ' H' (z.back ex),fun σ' H' ⟨ρ',M',a,b,c,m',l,d⟩=>⟨m',l,ρ',M',a,b,ex.trans c,d⟩⟩
theorem uR {c:DT} {tb:DS} {E:gA} {ρ:cL} {M:DM} (Pv:Nat->cL->DM->Prop) (m0:Nat) (h0:Pv m0 ρ M)
  (hs:∀ m ρ M,Pv m ρ M->c ρ M fun b M1=>if b = true then tb { E with nx:=fun ρ' M'=>∃ m',m' < m/\Pv m' ρ' M',ct:=fun ρ' M'=>∃ m',m' < m/\Pv m' ρ' M',bk:=E.nx } ρ M1 else E.nx ρ M1):aCR c tb E ρ M:=⟨Pv,⟨m0,h0⟩,hs⟩
def dIt (at':Option Addr) (ds:List D) (g:DG) (tb:DS):DS:=fun E ρ M=>∃ Pv:Nat->cL->DM->Prop,Pv 0 ρ M /\
 (∀ i ρ M,i<=ds.length->Pv i ρ M->∀ a,at' = some a->M a = some ds) /\
 (∀ i d ρ M,ds[i]? = some d->Pv i ρ M->g d ρ M fun ρ2 M2=>tb { E with nx:=Pv (i + 1),ct:=Pv (i + 1),bk:=E.nx } ρ2 M2)/\∀ ρ M,Pv ds.length ρ M->E.nx ρ M
def aEV (tl:DE) (g:DG) (tb:DS):DS:=fun E ρ M=>tl ρ M fun d M1=>match d with
 | .tup ds=>dIt none ds g tb E ρ M1
 | _=>False
def aFH (tl:DE) (g:DG) (tb:DS):DS:=fun E ρ M=>tl ρ M fun d M1=>match d with
 | .fz ds=>dIt none ds g tb E ρ M1
 | .ref a=>∃ ds,M1 a = some ds/\dIt (some a) ds g tb E ρ M1
 | _=>False
variable {iter tg:Expr} {body:List Stmt} {tl:DE} {g:DG} {tb:DS}
theorem aF7 {K:Frag} {a':Option Addr} {ds:List D} {E:pN} {Dn:gA} {σ:L2.St} {ρ:cL} {M:DM} {H0 H:Hp} {J:It} (ex0:Ext H0 H) (re:fH K H ρ σ) (hm:bV K M H) (k:jF K H0 Dn E) (h:dIt a' ds g tb Dn ρ M)
  (seq:∀ H',Ext H H'->(∀ M',bV K M' H'->(∀ a,a' = some a->M' a = some ds)->∃ xs,bT K H' ds xs/\(∀ i,xs.length<=i->J.stop i H')/\(∀ i,i < xs.length->J.go i H')/\∀ i x H2,J.yld i H' x H2->H2 = H'/\xs[i]? = some x)) :
  ∃ W:Nat->Nat->L2.St->Hp->Prop,(∃ m,W 0 m σ H)/\∀ i m σ H,W i m σ H ->
   (J.stop i H/\E.nx σ H) ∨ (J.go i H/\∃ N:L2.St->Hp->Prop,(∀ σ' H',N σ' H'->∃ m',m' < m/\W (i + 1) m' σ' H')/\∀ x H',J.yld i H x H'->vS K g x σ H' fun σ2 H2=>aEA K tb { E with nx:=N,ct:=N,bk:=E.nx } σ2 H2):=by
 obtain ⟨Pv,p0,hat,step,done⟩:=h
 refine ⟨fun i m σ' H'=>∃ ρ' M',fH K H' ρ' σ'/\bV K M' H'/\Ext H H'/\m = ds.length - i/\i<=ds.length/\Pv i ρ' M',⟨ds.length,ρ,M,re,hm,.refl H,rfl,Nat.zero_le _,p0⟩,?_⟩
 rintro i m σ1 H1 ⟨ρ1,M1,re1,hm1,e1,rfl,hi,w1⟩
 obtain ⟨xs,rs,hst,hgo,hy⟩:=seq H1 e1 M1 hm1 (hat i ρ1 M1 hi w1)
 have hl:=rs.length
 by_cases hlt:i < ds.length
 ·refine .inr ⟨hgo i (by omega),fun σ' H'=>∃ ρ' M',fH K H' ρ' σ'/\bV K M' H'/\Ext H H'/\Pv (i + 1) ρ' M',fun σ' H' ⟨ρ',M',a,b,c,d⟩=>⟨ds.length - (i + 1),by omega,ρ',M',a,b,c,rfl,hlt,d⟩,fun x H' y=>?_⟩
  obtain ⟨rfl,hx⟩:=hy i x H' y
  obtain ⟨d,hd,rd⟩:=rs.getV hx
  refine ⟨d,ρ1,M1,_,rd,re1,hm1,step i d ρ1 M1 hd w1,fun σ2 H2 ⟨ρ2,M2,re2,hm2,e2,q2⟩=>⟨ρ2,M2,_,re2,hm2,q2,?_⟩⟩
  have ex:=e1.trans e2
  exact ⟨fun σ' H' ⟨ρ',M',a,b,c,d⟩=>⟨ρ',M',a,b,ex.trans c,d⟩,fun v H' z=>k.rt v H' (z.back (ex0.trans ex)),fun σ' H' z=>k.nx σ' H' (z.back (ex0.trans ex)),fun σ' H' ⟨ρ',M',a,b,c,d⟩=>⟨ρ',M',a,b,ex.trans c,d⟩⟩
 ·have e:i = ds.length:=by omega
  subst e
  exact .inl ⟨hst _ (by omega),k.nx σ1 H1 ⟨ρ1,M1,re1,hm1,ex0.trans e1,done ρ1 M1 w1⟩⟩
def aNc (lo:Int) (n:Nat) (g:DG) (tb:DS):DS:=fun E ρ M=>∃ Pv:Nat->cL->DM->Prop,Pv 0 ρ M /\
 (∀ i ρ M,i < n->Pv i ρ M->g (.int (lo + i)) ρ M fun ρ2 M2=>tb { E with nx:=Pv (i + 1),ct:=Pv (i + 1),bk:=E.nx } ρ2 M2)/\∀ ρ M,Pv n ρ M->E.nx ρ M
def aFT (ta:DA) (g:DG) (tb:DS):DS:=fun E ρ M=>ta ρ M fun ds M1=>match ds with
 | [.int j]=>(-(2 ^ 62)<=j/\j < 2 ^ 62)/\aNc 0 j.toNat g tb E ρ M1
 | _=>False
theorem aK8 {K:Frag} {lo:Int} {n:Nat} {E:pN} {Dn:gA} {σ:L2.St} {ρ:cL} {M:DM} {H0 H:Hp} (ex0:Ext H0 H) (re:fH K H ρ σ) (hm:bV K M H) (k:jF K H0 Dn E) (h:aNc lo n g tb Dn ρ M) :
  ∃ W:Nat->Nat->L2.St->Hp->Prop,(∃ m,W 0 m σ H)/\∀ i m σ H,W i m σ H ->
   ((Itr lo n).stop i H/\E.nx σ H) ∨ ((Itr lo n).go i H/\∃ N:L2.St->Hp->Prop,(∀ σ' H',N σ' H'->∃ m',m' < m/\W (i + 1) m' σ' H')/\∀ x H',(Itr lo n).yld i H x H'->vS K g x σ H' fun σ2 H2=>aEA K tb { E with nx:=N,ct:=N,bk:=E.nx } σ2 H2):=by
 obtain ⟨Pv,p0,step,done⟩:=h
 refine ⟨fun i m σ' H'=>∃ ρ' M',fH K H' ρ' σ'/\bV K M' H'/\Ext H H'/\m = n - i/\i<=n/\Pv i ρ' M',⟨n,ρ,M,re,hm,.refl H,rfl,Nat.zero_le _,p0⟩,?_⟩
 rintro i m σ1 H1 ⟨ρ1,M1,re1,hm1,e1,rfl,hi,w1⟩
 by_cases hlt:i < n
 ·refine .inr ⟨hlt,fun σ' H'=>∃ ρ' M',fH K H' ρ' σ'/\bV K M' H'/\Ext H H'/\Pv (i + 1) ρ' M',fun σ' H' ⟨ρ',M',a,b,c,d⟩=>⟨n - (i + 1),by omega,ρ',M',a,b,c,rfl,hlt,d⟩,fun x H' y=>?_⟩
  obtain ⟨rfl,rfl⟩:=y
  refine ⟨_,ρ1,M1,_,bO,re1,hm1,step i ρ1 M1 hlt w1,fun σ2 H2 ⟨ρ2,M2,re2,hm2,e2,q2⟩=>⟨ρ2,M2,_,re2,hm2,q2,?_⟩⟩
  have ex:=e1.trans e2
  exact ⟨fun σ' H' ⟨ρ',M',a,b,c,d⟩=>⟨ρ',M',a,b,ex.trans c,d⟩,fun v H' z=>k.rt v H' (z.back (ex0.trans ex)),fun σ' H' z=>k.nx σ' H' (z.back (ex0.trans ex)),fun σ' H' ⟨ρ',M',a,b,c,d⟩=>⟨ρ',M',a,b,ex.trans c,d⟩⟩
 ·have e:i = n:=by omega
  subst e
  exact .inl ⟨Nat.le_refl _,k.nx σ1 H1 ⟨ρ1,M1,re1,hm1,ex0.trans e1,done ρ1 M1 w1⟩⟩
end
section
variable {X:Cx} {pos:Pos} {iter tg:Expr} {body:List Stmt} {tl:DE} {g:DG} {tb:DS} {ta:DA}
theorem aHE (hp:PassesOwn (model X.prog X.w) X.A X.env X.xe) (hc:X.calm = true) (hi:PDE X iter tl) (hg:PDG X tg g) (hb:kE X body tb) (hs:∀ x,foldedSetIterable iter X.env x = pure x:=by intro _;rfl):PDS X (.For tg iter body [] pos) (aEV tl g tb) :=
 jD (aA6 hp hc (aCF hi) hg hb hs) fun E σ H ⟨ρ,M,Dn,re,hm,q,k⟩=>⟨ρ,M,_,re,hm,q,fun v H1 ⟨d,M1,rd,hm1,ex,q1⟩=>by
  cases d with
  | tup ds =>
   obtain ⟨a,xs,rfl,sq,rs⟩:=cE rd
   refine ⟨a,rfl,⟨xs,sq⟩,aF7 ex (re.ext ex) hm1 k q1 fun H' e' M' hm' _=>⟨xs,rs.ext e',fun i hi=>⟨xs,jM e' sq,hi⟩,fun i hi=>⟨xs,xs[i],jM e' sq,by simp [hi]⟩,fun i x H2 y=>⟨y.1,y.2 xs (jM e' sq)⟩⟩⟩
  | _=>exact q1.elim⟩
theorem aH3 (hp:PassesOwn (model X.prog X.w) X.A X.env X.xe) (hc:X.calm = true) (hi:PDE X iter tl) (hg:PDG X tg g) (hb:kE X body tb) (hs:∀ x,foldedSetIterable iter X.env x = pure x:=by intro _;rfl):PDS X (.For tg iter body [] pos) (aFH tl g tb) :=
 jD (aA6 hp hc (aDl hi) hg hb hs) fun E σ H ⟨ρ,M,Dn,re,hm,q,k⟩=>⟨ρ,M,_,re,hm,q,fun v H1 ⟨d,M1,rd,hm1,ex,q1⟩=>by
  cases d with
  | fz ds =>
   obtain ⟨a,xs,rfl,sq,rs⟩:=pM rd
   exact ⟨a,rfl,⟨xs,sq.sq⟩,aF7 ex (re.ext ex) hm1 k q1 fun H' e' M' hm' _=>⟨xs,rs.ext e',fun i hi=>⟨xs,(oA e' sq).sq,hi⟩,fun i hi=>⟨xs,xs[i],(oA e' sq).sq,by simp [hi]⟩,fun i x H2 y=>⟨y.1,y.2 xs (oA e' sq).sq⟩⟩⟩
  | ref a =>
   obtain ⟨ds,ha,q1⟩:=q1
   obtain rfl:=aV rd
   obtain ⟨xs,hx,rs⟩:=hm1.l a ds ha
   refine ⟨a,rfl,⟨xs,.of hx⟩,aF7 ex (re.ext ex) hm1 k q1 fun H' e' M' hm' hat=>?_⟩
   obtain ⟨ys,hy,rs'⟩:=hm'.l a ds (hat a rfl)
   exact ⟨ys,rs',fun i hi=>⟨ys,.of hy,hi⟩,fun i hi=>⟨ys,ys[i],.of hy,by simp [hi]⟩,fun i x H2 y=>⟨y.1,y.2 ys (.of hy)⟩⟩
  | _=>exact q1.elim⟩
theorem aH9 {a:Expr} {p pos':Pos} (hp:PassesOwn (model X.prog X.w) X.A X.env X.xe) (hc:X.calm = true) (hmg:X.mg "range" = none) (ha:PDA X [a] ta) (hg:PDG X tg g) (hb:kE X body tb) (hgl:Gl X "range":=by rfl) (hse:starEach [a] X.env = [(false,eval a X.env)]:=by rfl)
  (hs:∀ x,foldedSetIterable (.Call (.Name "range" p) [a] [] pos') X.env x = pure x:=by intro _;rfl):PDS X (.For tg (.Call (.Name "range" p) [a] [] pos') body [] pos) (aFT ta g tb) :=
 jD (aA6 hp hc (aAb hgl hmg ha hse) hg hb hs) fun E σ H ⟨ρ,M,Dn,re,hm,q,k⟩=>⟨ρ,M,_,re,hm,q,fun vs H1 ⟨ds,M1,rs,hm1,ex,q1⟩=>by
  rcases ds with _ | ⟨d,_ | ⟨d2,r⟩⟩
  ·exact q1.elim
  ·cases d with
   | int j =>
    obtain ⟨⟨j1,j2⟩,q1⟩:=q1
    obtain ⟨v1,r1,rfl,rv1,rr1⟩:=aR rs
    obtain rfl:=bD rr1
    obtain rfl:=aU rv1
    exact ⟨j,rfl,j1,j2,aK8 ex (re.ext ex) hm1 k q1⟩
   | _=>exact q1.elim
  ·cases d<;>exact q1.elim⟩
end
mutual
noncomputable def eqD:D->D->Bool
 | .tup xs,.tup ys=>nF xs ys
 | .non,.non=>true
 | .bl a,.bl b=>a == b
 | .bl a,.int b=>(if a then 1 else 0) == b
 | .int a,.bl b=>a == (if b then 1 else 0)
 | .int a,.int b=>a == b
 | .str a,.str b=>a == b
 | _,_=>false
noncomputable def nF:List D->List D->Bool
 | [],[]=>true
 | x :: xs,y :: ys=>eqD x y && nF xs ys
 | _,_=>false
end
noncomputable def bN:Nat->D->Bool
 | _,.ref _=>false
 | _,.fz _=>false
 | 0,.tup _=>false
 | n + 1,.tup ds=>ds.all (bN n)
 | _,_=>true
noncomputable def vM:List D->List D->Nat->Bool
 | x :: _,y :: _,0=>eqD x y
 | _ :: xs,_ :: ys,j + 1=>vM xs ys j
 | _,_,_=>true
theorem xR (n:Nat) (e:Nat->Bool):(range (n + 1)).all e = (e 0 && (range n).all fun j=>e (j + 1)):=by
 rw [List.range_succ_eq_map,all_cons,all_map]
 rfl
theorem lC:∀ (xs ys:List D),nF xs ys = ((range (min xs.length ys.length)).all (vM xs ys) && xs.length == ys.length)
 | [],[]=>by simp [nF]
 | [],_ :: _=>by simp [nF]
 | _ :: _,[]=>by simp [nF]
 | x :: xs,y :: ys=>by
  have ih:=lC xs ys
  have e1:min (x :: xs).length (y :: ys).length = min xs.length ys.length + 1:=by simp only [length_cons];omega
  have e2:((x :: xs).length == (y :: ys).length) = (xs.length == ys.length):=by simp
  rw [e1,e2,xR]
  show (eqD x y && nF xs ys) = ((eqD x y && (range (min xs.length ys.length)).all fun j=>vM xs ys j) && xs.length == ys.length)
  rw [ih,Bool.and_assoc]
section
variable {X:Cx} {pins:List (Addr × Obj)} {σ:L2.St} {H:Hp} {s:Shared}
theorem aAm {n:Nat} {d:D} (p:bN n d = true) (h:∀ xs,d ≠ .tup xs):bN 0 d = true:=by
 cases d with
 | tup xs=>exact absurd rfl (h xs)
 | ref b=>cases n<;>exact absurd p Bool.false_ne_true
 | fz b=>cases n<;>exact absurd p Bool.false_ne_true
 | _=>rfl
theorem aBG {d d':D} {v:V} (p:bN 0 d = true) (p':bN 0 d' = true) (r:Rep X.K H d v) (r':Rep X.K H d' v):eqD d d' = true:=by
 cases d<;>cases d'<;>first
  | (exact absurd p Bool.false_ne_true)
  | (exact absurd p' Bool.false_ne_true)
  | (unfold Rep at r r';subst r;cases r'<;>simp [eqD])
theorem aBK {d:D} {a:Addr} (p:bN 0 d = true) (r:Rep X.K H d (.ref a)):False:=by
 cases d<;>first
  | (exact absurd p Bool.false_ne_true)
  | (unfold Rep at r;cases r)
theorem aBC {n:Nat} (ih:∀ {d d':D} {v:V},bN n d = true->bN n d' = true->Rep X.K H d v->Rep X.K H d' v->eqD d d' = true) :
  ∀ {xs ys:List D} {us:List V},xs.all (bN n) = true->ys.all (bN n) = true->bT X.K H xs us->bT X.K H ys us->nF xs ys = true
 | [],[],_,_,_,_,_=>by simp [nF]
 | [],_ :: _,_,_,_,r,r'=>by
  rw [bD r] at r'
  obtain ⟨_,_,z,_⟩:=aR r'
  cases z
 | _ :: _,[],_,_,_,r,r'=>by
  rw [bD r'] at r
  obtain ⟨_,_,z,_⟩:=aR r
  cases z
 | x :: xs,y :: ys,_,p1,p2,r,r'=>by
  obtain ⟨v0,r0,rfl,h1,h2⟩:=aR r
  obtain ⟨v0',r0',e0,h1',h2'⟩:=aR r'
  cases e0
  rw [all_cons,Bool.and_eq_true] at p1 p2
  show (eqD x y && nF xs ys) = true
  rw [ih p1.1 p2.1 h1 h1',aBC ih p1.2 p2.2 h2 h2']
  rfl
theorem aIn (I:Inv X pins σ H s):∀ (n:Nat) {d d':D} {v:V},bN n d = true->bN n d' = true->Rep X.K H d v->Rep X.K H d' v->eqD d d' = true:=by
 intro n
 induction n with
 | zero=>intro d d' v p p' r r';exact aBG p p' r r'
 | succ n ih =>
  intro d d' v p p' r r'
  by_cases h1:∃ xs,d = .tup xs
  ·obtain ⟨xs,rfl⟩:=h1
   obtain ⟨a,us,rfl,sq,rs⟩:=cE r
   by_cases h2:∃ ys,d' = .tup ys
   ·obtain ⟨ys,rfl⟩:=h2
    obtain ⟨a',us',e1',sq',rs'⟩:=cE r'
    cases e1'
    obtain rfl:=I.tuple_inj sq sq'
    exact aBC ih p p' rs rs'
   ·exact (aBK (aAm p' fun xs e=>h2 ⟨xs,e⟩) r').elim
  ·have p0:=aAm p fun xs e=>h1 ⟨xs,e⟩
   by_cases h2:∃ ys,d' = .tup ys
   ·obtain ⟨ys,rfl⟩:=h2
    obtain ⟨a',us',rfl,sq',rs'⟩:=cE r'
    exact (aBK p0 r).elim
   ·exact aBG p0 (aAm p' fun xs e=>h2 ⟨xs,e⟩) r r'
theorem kN (I:Inv X pins σ H s) {a:Addr} {xs:List V} (sq:SqT X.K H a xs):∃ its:List Value,bS xs its/\s.heap.IsTuple a its.toArray:=let ⟨its,r,p,_⟩:=I.tuple sq;⟨its,r,p⟩
theorem wI {d:D} {v:V} {n:Nat} (h:Rep X.K H d v) (p:bN 0 d = true):aE9 v = true:=by
 cases d with
 | non=>unfold Rep at h;subst h;rfl
 | bl b=>unfold Rep at h;subst h;rfl
 | int b=>unfold Rep at h;subst h;rfl
 | str b=>unfold Rep at h;subst h;rfl
 | tup b=>exact absurd p Bool.false_ne_true
 | ref b=>exact absurd p Bool.false_ne_true
 | fz b=>exact absurd p Bool.false_ne_true
theorem sO {A:Around} {n:Nat} (ih:∀ {d d':D} {v v':V} {u u':Value},bN n d = true->bN n d' = true->Rep X.K H d v->Rep X.K H d' v'->cF v u->cF v' u'->SeqAt.EqAt A s u u' (eqD d d')) :
  ∀ {xs ys:List D} {us us':List V} {its its':List Value},xs.all (bN n) = true->ys.all (bN n) = true->bT X.K H xs us->bT X.K H ys us'->bS us its->bS us' its'->∀ j (h1:j < its.length) (h2:j < its'.length),SeqAt.EqAt A s its[j] its'[j] (vM xs ys j)
 | [],ys,us,us',its,its',_,_,r1,_,v1,_,j,h1,_=>by rw [bD r1] at v1;cases v1;exact absurd h1 (Nat.not_lt_zero _)
 | _ :: _,[],us,us',its,its',_,_,_,r2,_,v2,j,_,h2=>by rw [bD r2] at v2;cases v2;exact absurd h2 (Nat.not_lt_zero _)
 | x :: xs,y :: ys,us,us',its,its',p1,p2,r1,r2,v1,v2,j,h1,h2=>by
  obtain ⟨a,ra,rfl,ha,hra⟩:=aR r1
  obtain ⟨b,rb,rfl,hb,hrb⟩:=aR r2
  rw [all_cons,Bool.and_eq_true] at p1 p2
  cases v1 with
  | cons q1 w1 =>
   cases v2 with
   | cons q2 w2 =>
    cases j with
    | zero=>exact ih p1.1 p2.1 ha hb q1 q2
    | succ j=>exact sO ih p1.2 p2.2 hra hrb w1 w2 j (Nat.lt_of_succ_lt_succ h1) (Nat.lt_of_succ_lt_succ h2)
theorem aGj {d d':D} {v v':V} (p:bN 0 d = true) (p':bN 0 d' = true) (r:Rep X.K H d v) (r':Rep X.K H d' v'):eqV v v' = eqD d d':=by
 cases d<;>cases d'<;>first
  | (exact absurd p Bool.false_ne_true)
  | (exact absurd p' Bool.false_ne_true)
  | (unfold Rep at r r';subst r;subst r';simp [eqD,eqV])
theorem aGF (I:Inv X pins σ H s):∀ (n:Nat) {A:Around} {d d':D} {v v':V} {u u':Value},A.units + n < cLine->bN n d = true->bN n d' = true->Rep X.K H d v->Rep X.K H d' v'->cF v u->cF v' u'->SeqAt.EqAt A s u u' (eqD d d'):=by
 intro n
 induction n with
 | zero =>
  intro A d d' v v' u u' hu p p' r r' q q'
  have:=aG3 (A:=A) (s:=s) q q' (wI (n:=0) r p) (wI (n:=0) r' p')
  rw [aGj p p' r r'] at this
  exact this
 | succ n ih =>
  intro A d d' v v' u u' hu p p' r r' q q'
  by_cases h1:∃ xs,d = .tup xs
  ·obtain ⟨xs,rfl⟩:=h1
   obtain ⟨a,us,rfl,sq,rs⟩:=cE r
   obtain ⟨its,rv,ht⟩:=kN I sq
   cases q
   by_cases h2:∃ ys,d' = .tup ys
   ·obtain ⟨ys,rfl⟩:=h2
    obtain ⟨a',us',rfl,sq',rs'⟩:=cE r'
    obtain ⟨its',rv',ht'⟩:=kN I sq'
    cases q'
    by_cases hll:a = a'
    ·subst hll
     rw [aIn I (n + 1) p p' r r']
     exact SeqAt.EqAt.same _
    ·have e1:=rs.length
     have e2:=rv.length
     have e3:=rs'.length
     have e4:=rv'.length
     show SeqAt.EqAt A s (.ref a) (.ref a') (nF xs ys)
     rw [lC,show xs.length = its.toArray.size by rw [size_toArray];omega,show ys.length = its'.toArray.size by rw [size_toArray];omega]
     refine SeqAt.EqAt.of_refs hll (SeqAt.RcAt.tuples ht ht' (by omega) fun j j1 j2=>?_)
     have hu':A.in1.units + n < cLine:=by show A.units + 1 + n < cLine;omega
     have:=sO (A:=A.in1) (s:=s) (fun {d d' v v' u u'} p p' r r' q q'=>ih hu' p p' r r' q q') p p' rs rs' rv rv' j (by simpa using j1) (by simpa using j2)
     simpa using this
   ·have p0:=aAm p' (fun xs e=>h2 ⟨xs,e⟩)
    cases d' with
    | non=>rw [cX r'] at q';cases q';exact SeqAt.EqAt.tuple_none ht (by omega)
    | bl b=>rw [cD r'] at q';cases q';exact SeqAt.EqAt.tuple_bool b ht (by omega)
    | int b=>rw [aU r'] at q';obtain ⟨t,rfl⟩:=q';exact SeqAt.EqAt.tuple_int b t ht (by omega)
    | str b=>rw [bF r'] at q';obtain ⟨t,rfl⟩:=q';exact SeqAt.EqAt.tuple_str b t ht (by omega)
    | tup b=>exact absurd p0 Bool.false_ne_true
    | ref b=>exact absurd p0 Bool.false_ne_true
    | fz b=>exact absurd p0 Bool.false_ne_true
  ·have p0:=aAm p (fun xs e=>h1 ⟨xs,e⟩)
   by_cases h2:∃ ys,d' = .tup ys
   ·obtain ⟨ys,rfl⟩:=h2
    obtain ⟨a',us',rfl,sq',rs'⟩:=cE r'
    obtain ⟨its',rv',ht'⟩:=kN I sq'
    cases q'
    cases d with
    | non=>rw [cX r] at q;cases q;exact SeqAt.EqAt.none_tuple ht' (by omega)
    | bl b=>rw [cD r] at q;cases q;exact SeqAt.EqAt.bool_tuple b ht' (by omega)
    | int b=>rw [aU r] at q;obtain ⟨t,rfl⟩:=q;exact SeqAt.EqAt.int_tuple b t ht' (by omega)
    | str b=>rw [bF r] at q;obtain ⟨t,rfl⟩:=q;exact SeqAt.EqAt.str_tuple b t ht' (by omega)
    | tup b=>exact absurd p0 Bool.false_ne_true
    | ref b=>exact absurd p0 Bool.false_ne_true
    | fz b=>exact absurd p0 Bool.false_ne_true
   ·have p0':=aAm p' (fun xs e=>h2 ⟨xs,e⟩)
    have:=aG3 (A:=A) (s:=s) q q' (wI (n:=0) r p0) (wI (n:=0) r' p0')
    rw [aGj p0 p0' r r'] at this
    exact this
theorem aNK (I:Inv X pins σ H s) {A:Around} (hu:A.units + 60 < cLine) {d d':D} {v v':V} {u u':Value} (p:bN 60 d = true) (p':bN 60 d' = true) (r:Rep X.K H d v) (r':Rep X.K H d' v') (q:cF v u) (q':cF v' u') :
  SeqAt.RcAt A s u u' (eqD d d')/\SeqAt.RcNeAt A s u u' (!eqD d d'):=by
 have hu0:A.units < cLine:=by omega
 cases d with
 | ref b=>exact absurd p Bool.false_ne_true
 | fz b=>exact absurd p Bool.false_ne_true
 | tup xs =>
  obtain ⟨a,us,rfl,sq,rs⟩:=cE r
  obtain ⟨its,rv,ht⟩:=kN I sq
  cases q
  cases d' with
  | ref b=>exact absurd p' Bool.false_ne_true
  | fz b=>exact absurd p' Bool.false_ne_true
  | non=>rw [cX r'] at q';cases q';exact ⟨SeqAt.RcAt.tuple_none ht hu0,SeqAt.RcNeAt.tuple_none ht hu0⟩
  | bl b=>rw [cD r'] at q';cases q';exact ⟨SeqAt.RcAt.tuple_bool b ht hu0,SeqAt.RcNeAt.tuple_bool b ht hu0⟩
  | int b=>rw [aU r'] at q';obtain ⟨t,rfl⟩:=q';exact ⟨SeqAt.RcAt.tuple_int b t ht hu0,SeqAt.RcNeAt.tuple_int b t ht hu0⟩
  | str b=>rw [bF r'] at q';obtain ⟨t,rfl⟩:=q';exact ⟨SeqAt.RcAt.tuple_str b t ht hu0,SeqAt.RcNeAt.tuple_str b t ht hu0⟩
  | tup ys =>
   obtain ⟨a',us',rfl,sq',rs'⟩:=cE r'
   obtain ⟨its',rv',ht'⟩:=kN I sq'
   cases q'
   have e1:=rs.length
   have e2:=rv.length
   have e3:=rs'.length
   have e4:=rv'.length
   have hit:∀ j (h1:j < its.toArray.size) (h2:j < its'.toArray.size),SeqAt.EqAt A.in1 s its.toArray[j] its'.toArray[j] (vM xs ys j):=fun j j1 j2=>by
    have hu':A.in1.units + 59 < cLine:=by show A.units + 1 + 59 < cLine;omega
    have:=sO (A:=A.in1) (s:=s) (fun {d d' v v' u u'} p p' r r' q q'=>aGF I 59 hu' p p' r r' q q') p p' rs rs' rv rv' j (by simpa using j1) (by simpa using j2)
    simpa using this
   have hz:eqD (.tup xs) (.tup ys) = ((range (min its.toArray.size its'.toArray.size)).all (vM xs ys) && its.toArray.size == its'.toArray.size):=by
    show nF xs ys = _
    rw [lC,show xs.length = its.toArray.size by rw [size_toArray];omega,show ys.length = its'.toArray.size by rw [size_toArray];omega]
   rw [hz]
   exact ⟨SeqAt.RcAt.tuples ht ht' hu0 hit,SeqAt.RcNeAt.tuples ht ht' hu0 hit⟩
 | non =>
  rw [cX r] at q;cases q
  cases d' with
  | ref b=>exact absurd p' Bool.false_ne_true
  | fz b=>exact absurd p' Bool.false_ne_true
  | non=>rw [cX r'] at q';cases q';exact ⟨SeqAt.RcAt.none_none,SeqAt.RcNeAt.none_none⟩
  | bl b=>rw [cD r'] at q';cases q';exact ⟨SeqAt.RcAt.none_bool b,SeqAt.RcNeAt.none_bool b⟩
  | int b=>rw [aU r'] at q';obtain ⟨t,rfl⟩:=q';exact ⟨SeqAt.RcAt.none_int b t,SeqAt.RcNeAt.none_int b t⟩
  | str b=>rw [bF r'] at q';obtain ⟨t,rfl⟩:=q';exact ⟨SeqAt.RcAt.none_str b t,SeqAt.RcNeAt.none_str b t⟩
  | tup ys =>
   obtain ⟨a',us',rfl,sq',rs'⟩:=cE r'
   obtain ⟨its',rv',ht'⟩:=kN I sq'
   cases q'
   exact ⟨SeqAt.RcAt.none_tuple ht' hu0,SeqAt.RcNeAt.none_tuple ht' hu0⟩
 | bl z =>
  rw [cD r] at q;cases q
  cases d' with
  | ref b=>exact absurd p' Bool.false_ne_true
  | fz b=>exact absurd p' Bool.false_ne_true
  | non=>rw [cX r'] at q';cases q';exact ⟨SeqAt.RcAt.bool_none z,SeqAt.RcNeAt.bool_none z⟩
  | bl b=>rw [cD r'] at q';cases q';exact ⟨SeqAt.RcAt.bool_bool z b,SeqAt.RcNeAt.bool_bool z b⟩
  | int b=>rw [aU r'] at q';obtain ⟨t,rfl⟩:=q';exact ⟨SeqAt.RcAt.bool_int z b t,SeqAt.RcNeAt.bool_int z b t⟩
  | str b=>rw [bF r'] at q';obtain ⟨t,rfl⟩:=q';exact ⟨SeqAt.RcAt.bool_str z b t,SeqAt.RcNeAt.bool_str z b t⟩
  | tup ys =>
   obtain ⟨a',us',rfl,sq',rs'⟩:=cE r'
   obtain ⟨its',rv',ht'⟩:=kN I sq'
   cases q'
   exact ⟨SeqAt.RcAt.bool_tuple z ht' hu0,SeqAt.RcNeAt.bool_tuple z ht' hu0⟩
 | int z =>
  rw [aU r] at q;obtain ⟨tz,rfl⟩:=q
  cases d' with
  | ref b=>exact absurd p' Bool.false_ne_true
  | fz b=>exact absurd p' Bool.false_ne_true
  | non=>rw [cX r'] at q';cases q';exact ⟨SeqAt.RcAt.int_none z tz,SeqAt.RcNeAt.int_none z tz⟩
  | bl b=>rw [cD r'] at q';cases q';exact ⟨SeqAt.RcAt.int_bool z tz b,SeqAt.RcNeAt.int_bool z tz b⟩
  | int b=>rw [aU r'] at q';obtain ⟨t,rfl⟩:=q';exact ⟨SeqAt.RcAt.int_int z tz b t,SeqAt.RcNeAt.int_int z tz b t⟩
  | str b=>rw [bF r'] at q';obtain ⟨t,rfl⟩:=q';exact ⟨SeqAt.RcAt.int_str z tz b t,SeqAt.RcNeAt.int_str z tz b t⟩
  | tup ys =>
   obtain ⟨a',us',rfl,sq',rs'⟩:=cE r'
   obtain ⟨its',rv',ht'⟩:=kN I sq'
   cases q'
   exact ⟨SeqAt.RcAt.int_tuple z tz ht' hu0,SeqAt.RcNeAt.int_tuple z tz ht' hu0⟩
 | str z =>
  rw [bF r] at q;obtain ⟨tz,rfl⟩:=q
  cases d' with
  | ref b=>exact absurd p' Bool.false_ne_true
  | fz b=>exact absurd p' Bool.false_ne_true
  | non=>rw [cX r'] at q';cases q';exact ⟨SeqAt.RcAt.str_none z tz,SeqAt.RcNeAt.str_none z tz⟩
  | bl b=>rw [cD r'] at q';cases q';exact ⟨SeqAt.RcAt.str_bool z tz b,SeqAt.RcNeAt.str_bool z tz b⟩
  | int b=>rw [aU r'] at q';obtain ⟨t,rfl⟩:=q';exact ⟨SeqAt.RcAt.str_int z tz b t,SeqAt.RcNeAt.str_int z tz b t⟩
  | str b=>rw [bF r'] at q';obtain ⟨t,rfl⟩:=q';exact ⟨SeqAt.RcAt.str_str z tz b t,SeqAt.RcNeAt.str_str z tz b t⟩
  | tup ys =>
   obtain ⟨a',us',rfl,sq',rs'⟩:=cE r'
   obtain ⟨its',rv',ht'⟩:=kN I sq'
   cases q'
   exact ⟨SeqAt.RcAt.str_tuple z tz ht' hu0,SeqAt.RcNeAt.str_tuple z tz ht' hu0⟩
end
section
variable {X:Cx} {a b e o:Expr} {es:List Expr} {ta tb te to:DE} {t:DA} {pos:Pos}
def d2I (C:Int->Int->Prop) (g:Int->Int->D):D2:=fun x y M Q=>match x,y with
 | .int i,.int j=>C i j/\Q (g i j) M
 | _,_=>False
def d2J (g:Int->Int->D):D2:=fun x y M Q=>match x,y with
 | .int i,.int j=>Q (g i j) M
 | _,_=>False
theorem aIE {f:Value->Value->Sem Value} {C:Int->Int->Prop} {g:Int->Int->D} {g':Int->Int->V} (h:OpR X f (rI C g')) (hg:∀ H i j,Rep X.K H (g i j) (g' i j)):OpD X f (d2I C g) :=
 OpD.of h fun x y H M dx dy Q rx ry hm q=>by
  cases dx with
  | int i =>
   cases dy with
   | int j=>exact ⟨i,j,aU rx,aU ry,q.1,_,M,hg H i j,hm,.refl H,q.2⟩
   | _=>exact q.elim
  | _=>exact q.elim
theorem aE3 {f:Value->Value->Sem Value} {g:Int->Int->D} {g':Int->Int->V} (h:OpR X f (rI0 g')) (hg:∀ H i j,Rep X.K H (g i j) (g' i j)):OpD X f (d2J g) :=
 OpD.of h fun x y H M dx dy Q rx ry hm q=>by
  cases dx with
  | int i =>
   cases dy with
   | int j=>exact ⟨i,j,aU rx,aU ry,_,M,hg H i j,hm,.refl H,q⟩
   | _=>exact q.elim
  | _=>exact q.elim
theorem pE:OpD X (binaryOp .Sub) (d2J fun i j=>.int (i - j)):=aE3 aJY fun _ _ _=>bO
theorem aHr:OpR X (binaryOp .Mult) (rI IntMulOk fun i j=>.int (i * j)):=opI fun _ _ _ _ _ _ _ hc q=>mul_int q hc
theorem cV:OpD X (binaryOp .Mult) (d2I IntMulOk fun i j=>.int (i * j)):=aIE aHr fun _ _ _=>bO
def CFd (i j:Int):Prop:=j ≠ 0/\j.natAbs.log2 < 9000
theorem aKF:OpR X (binaryOp .FloorDiv) (rI CFd fun i j=>.int (i.fdiv j)):=opI fun _ _ _ _ _ _ _ hc q=>floordiv_int hc.1 q (.inl (PyProof.noPylong_of_log2 hc.2))
theorem fG:OpD X (binaryOp .FloorDiv) (d2I CFd fun i j=>.int (i.fdiv j)):=aIE aKF fun _ _ _=>bO
theorem fZ:OpD X (binaryOp .Mod) (d2I (fun _ j=>j ≠ 0) fun i j=>.int (i.fmod j)):=aIE aH1 fun _ _ _=>bO
theorem yK:OpD X (binaryOp .Pow) (d2I aMW fun i j=>.int (i ^ j.toNat)):=aIE aLa fun _ _ _=>bO
theorem wO:OpD X (compareOp .Lt) (d2J fun i j=>.bl (decide (i < j))):=aE3 aNm fun _ _ _=>cQ
theorem aBs:OpD X (compareOp .LtE) (d2J fun i j=>.bl (decide (i<=j))):=aE3 aNZ fun _ _ _=>cQ
theorem lV:OpD X (compareOp .Gt) (d2J fun i j=>.bl (decide (j < i))):=aE3 aNu fun _ _ _=>cQ
theorem aNt:OpD X (compareOp .GtE) (d2J fun i j=>.bl (decide (j<=i))):=aE3 aMK fun _ _ _=>cQ
def aMh:D2:=fun x y M Q=>match x,y with
 | .int i,.int j=>Q (.int (i + j)) M
 | .ref a,.ref b=>∃ xs ys,M a = some xs/\M b = some ys/\xs.length + ys.length<=1000/\∀ p:Addr,M p = none->Q (.ref p) (bG M p (xs ++ ys))
 | .fz xs,.ref b=>∃ ys,M b = some ys/\xs.length + ys.length<=1000/\∀ p:Addr,M p = none->Q (.ref p) (bG M p (xs ++ ys))
 | .tup xs,.tup ys=>xs ≠ []/\ys ≠ []/\xs.length + ys.length<=1000/\Q (.tup (xs ++ ys)) M
 | _,_=>False
theorem aFG {pins:List (Addr × Obj)} {σ:L2.St} {H:Hp} {s:Shared} (I:Inv X pins σ H s) {a:Addr} {xs:List V} (h:SqX X.K H a xs):xs.length<=sizeLine/\∃ (its:List Value) (n:Nat),bS xs its/\s.heap.get? a = some { cls:=.type "list",data:=.seq its.toArray n }:=by
 rcases h with ⟨o,h⟩ | ⟨its,n,hk,hz,r⟩
 ·obtain ⟨_,z,its,n,r,e⟩:=I.hok a _ h
  exact ⟨z,its,n,r,e⟩
 ·have e:=r.length
  simp only [Array.length_toList] at e
  exact ⟨by omega,its.toList,n,r,by simpa using I.kIn a _ hk⟩
theorem eU:OpD X (binaryOp .Add) aMh:=by
 intro pins s σ H x y v u Q I rx ry ⟨dx,dy,M,Q',r1,r2,hm,q,k⟩
 cases dx with
 | int i =>
  cases dy with
  | int j=>exact aKe pins s σ H x y v u Q I rx ry ⟨i,j,aU r1,aU r2,k _ H ⟨_,M,bO,hm,.refl H,q⟩⟩
  | _=>exact q.elim
 | ref a =>
  cases dy with
  | ref b =>
   obtain ⟨xs,ys,ha,hb,hl,q⟩:=q
   obtain ⟨us,hu,ru⟩:=hm.l a xs ha
   obtain ⟨ws,hw,rw'⟩:=hm.l b ys hb
   refine aKW pins s σ H x y v u Q I rx ry ⟨a,b,us,ws,aV r1,aV r2,hu,hw,?_,fun p hp=>k _ _ ⟨.ref p,_,eS,hm.lnew hp (ru.append rw'),Ext.new hp _,q p (hm.fresh hp)⟩⟩
   rw [<- ru.length,<- rw'.length];exact Nat.le_of_lt (eK hl)
  | _=>exact q.elim
 | fz xs =>
  cases dy with
  | ref b =>
   obtain ⟨ys,hb,hl,q⟩:=q
   obtain ⟨a,us,rfl,sq,ru⟩:=pM r1
   obtain ⟨ws,hw,rw'⟩:=hm.l b ys hb
   obtain rfl:=aV r2
   cases rx
   cases ry
   obtain ⟨z,its,n,r,e⟩:=aFG I sq
   obtain ⟨z2,its2,n2,r3,hl2,e2⟩:=I.lstM hw
   have l1:=r.length
   have l2:=r3.length
   have l3:=ru.length
   have l4:=rw'.length
   have hz:=eK hl
   refine PySem.P.add_list e e2 ?_ (by rw [size_toArray,size_toArray];omega)
   have ea:its.toArray ++ its2.toArray = (its ++ its2).toArray:=by simp
   rw [ea]
   refine ⟨.ref _,_,I.lnew (t':=s.toks) (r.append r3) (by rw [length_append];omega),rfl,k _ _ ⟨.ref _,_,eS,hm.lnew I.fresh (ru.append rw'),Ext.new I.fresh _,q _ (hm.fresh I.fresh)⟩⟩
  | _=>exact q.elim
 | tup xs =>
  cases dy with
  | tup ys =>
   obtain ⟨h1,h2,hl,q⟩:=q
   obtain ⟨a,us,rfl,sq,ru⟩:=cE r1
   obtain ⟨b,ws,rfl,sq2,rw'⟩:=cE r2
   have l3:=ru.length
   have l4:=rw'.length
   refine aDS pins s σ H _ _ v u Q I rx ry ?_
   have n1:us ≠ []:=fun z=>by rw [z] at l3;exact h1 (List.length_eq_zero_iff.mp l3)
   have n2:ws ≠ []:=fun z=>by rw [z] at l4;exact h2 (List.length_eq_zero_iff.mp l4)
   exact ⟨a,b,us,ws,rfl,rfl,sq,sq2,n1,by rw [<- l3,<- l4];exact Nat.le_of_lt (eK hl),fun z=>absurd z n2,fun _ p hp=>k _ _ ⟨.tup _,M,cJ (.of dB) ((ru.append rw').ext (Ext.new hp _)),hm.new hp _,Ext.new hp _,q⟩⟩
  | _=>exact q.elim
 | _=>exact q.elim
def dEq (g:Bool->Bool):D2:=fun x y M Q=>match x,y with
 | .ref a,.ref b=>∃ xs ys,M a = some xs/\M b = some ys/\(a ≠ b)/\xs.all (bN 59) = true/\ys.all (bN 59) = true/\Q (.bl (g (nF xs ys))) M
 | x,y=>bN 60 x = true/\bN 60 y = true/\Q (.bl (g (eqD x y))) M
theorem aET {pins:List (Addr × Obj)} {σ:L2.St} {H:Hp} {s:Shared} (I:Inv X pins σ H s) {A:Around} (hu:A.units + 60 < cLine) {a b:Addr} {us ws:List V} {xs ys:List D} (ha:H a = some (.lst us)) (hb:H b = some (.lst ws)) (ru:bT X.K H xs us) (rw':bT X.K H ys ws)
  (p:xs.all (bN 59) = true) (p':ys.all (bN 59) = true):SeqAt.RcAt A s (.ref a) (.ref b) (nF xs ys)/\SeqAt.RcNeAt A s (.ref a) (.ref b) (!nF xs ys):=by
 obtain ⟨z,its,n,r,hl,e⟩:=I.lstM ha
 obtain ⟨z2,its2,n2,r3,hl2,e2⟩:=I.lstM hb
 have i1:s.heap.IsList a its.toArray:=⟨_,e,rfl,_,rfl⟩
 have i2:s.heap.IsList b its2.toArray:=⟨_,e2,rfl,_,rfl⟩
 have l3:=ru.length
 have l4:=rw'.length
 have hu0:A.units < cLine:=by omega
 by_cases hz:its.toArray.size = its2.toArray.size
 ·have hz':=hz
  rw [size_toArray,size_toArray] at hz'
  have hit:∀ j (h1:j < its.toArray.size) (h2:j < its2.toArray.size),SeqAt.EqAt A.in1 s its.toArray[j] its2.toArray[j] (vM xs ys j):=fun j j1 j2=>by
   have hu':A.in1.units + 59 < cLine:=by show A.units + 1 + 59 < cLine;omega
   have:=sO (A:=A.in1) (s:=s) (fun {d d' v v' u u'} p p' r r' q q'=>aGF I 59 hu' p p' r r' q q') p p' ru rw' r r3 j (by simpa using j1) (by simpa using j2)
   simpa using this
  have hz2:nF xs ys = (range its.toArray.size).all (vM xs ys):=by
   rw [lC,show min xs.length ys.length = its.toArray.size by rw [size_toArray];omega,show (xs.length == ys.length) = true by simp;omega,Bool.and_true]
  rw [hz2]
  exact ⟨SeqAt.RcAt.lists i1 i2 hz hu0 hit,SeqAt.RcNeAt.lists i1 i2 hz hu0 hit⟩
 ·have hz':=hz
  rw [size_toArray,size_toArray] at hz'
  have hz2:nF xs ys = false:=by
   rw [lC,show (xs.length == ys.length) = false by simp;omega,Bool.and_false]
  rw [hz2]
  exact ⟨SeqAt.RcAt.lists_lengths i1 i2 (by simpa using hz) hu0,SeqAt.RcNeAt.lists_lengths i1 i2 (by simpa using hz) hu0⟩
theorem aC4 (hu:X.A.units + 60 < cLine):OpD X (compareOp .Eq) (dEq id)/\OpD X (compareOp .NotEq) (dEq not):=by
 have key:∀ {pins:List (Addr × Obj)} {s:Shared} {σ:L2.St} {H:Hp} {x y:V} {v u:Value} {dx dy:D} {M:DM} {Q':DQ} {g:Bool->Bool},Inv X pins σ H s->cF x v->cF y u->Rep X.K H dx x->Rep X.K H dy y->bV X.K M H->dEq g dx dy M Q' ->
   ∃ b,SeqAt.RcAt X.A s v u b/\SeqAt.RcNeAt X.A s v u (!b)/\Q' (.bl (g b)) M:=by
  intro pins s σ H x y v u dx dy M Q' g I rx ry r1 r2 hm q
  have gen:bN 60 dx = true->bN 60 dy = true->Q' (.bl (g (eqD dx dy))) M->∃ b,SeqAt.RcAt X.A s v u b/\SeqAt.RcNeAt X.A s v u (!b)/\Q' (.bl (g b)) M:=fun p p' q=>let ⟨h1,h2⟩:=aNK I hu p p' r1 r2 rx ry;⟨_,h1,h2,q⟩
  cases dx with
  | ref a =>
   cases dy with
   | ref b =>
    obtain ⟨xs,ys,ha,hb,_,p,p',q⟩:=q
    obtain ⟨us,hu',ru⟩:=hm.l a xs ha
    obtain ⟨ws,hw,rw'⟩:=hm.l b ys hb
    obtain rfl:=aV r1
    obtain rfl:=aV r2
    cases rx
    cases ry
    obtain ⟨h1,h2⟩:=aET I hu hu' hw ru rw' p p'
    exact ⟨_,h1,h2,q⟩
   | _=>exact gen q.1 q.2.1 q.2.2
  | _=>exact gen q.1 q.2.1 q.2.2
 refine ⟨fun pins s σ H x y v u Q I rx ry ⟨dx,dy,M,Q',r1,r2,hm,q,k⟩=>?_,fun pins s σ H x y v u Q I rx ry ⟨dx,dy,M,Q',r1,r2,hm,q,k⟩=>?_⟩
 ·obtain ⟨b,h1,_,q⟩:=key I rx ry r1 r2 hm q
  exact h1 X.prog X.w X.xe _ ⟨.bl b,H,I,rfl,k _ H ⟨.bl b,M,cQ,hm,.refl H,q⟩⟩
 ·obtain ⟨b,_,h2,q⟩:=key I rx ry r1 r2 hm q
  exact h2 X.prog X.w X.xe _ ⟨.bl (!b),H,I,rfl,k _ H ⟨.bl (!b),M,cQ,hm,.refl H,q⟩⟩
theorem cT {k:Nat} (hr:cZ k X.A):OpD X (compareOp .Eq) (dEq id):=(aC4 (by have:=hr.un;omega)).1
theorem iO {k:Nat} (hr:cZ k X.A):OpD X (compareOp .NotEq) (dEq not):=(aC4 (by have:=hr.un;omega)).2
def aJ0 (ta:DE):DE:=fun ρ M Q=>ta ρ M fun x M1=>match x with
 | .int i=>Q (.int (-i)) M1
 | _=>False
theorem aLe (ha:PDE X a ta):PDE X (.UnaryOp .USub a pos) (aJ0 ta) :=
 bW (aNS aJI ha) fun σ H Q ⟨ρ,M,Q',re,hm,q,k⟩=>⟨ρ,M,_,re,hm,q,fun x H1 ⟨d,M1,rd,hm1,ex,q1⟩=>by
  cases d with
  | int i=>exact ⟨i,aU rd,k _ H1 ⟨_,M1,bO,hm1,ex,q1⟩⟩
  | _=>exact q1.elim⟩
def oP:D2:=fun x y M Q=>match x,y with
 | .tup ds,.int i=>match atI ds i with
  | some d=>Q d M
  | none=>False
 | .fz ds,.int i=>match atI ds i with
  | some d=>Q d M
  | none=>False
 | .ref a,.int i=>∃ ds d,M a = some ds/\atI ds i = some d/\Q d M
 | _,_=>False
theorem xC {K:Frag} {H:Hp} {ds:List D} {xs:List V} {i:Int} {d:D} (r:bT K H ds xs) (h:atI ds i = some d):∃ v,atI xs i = some v/\Rep K H d v:=by
 unfold atI at h ⊢
 rw [<- r.length]
 cases e:ixN ds.length i with
 | none=>rw [e] at h;cases h
 | some j =>
  rw [e] at h
  exact r.get h
theorem ixd:IxR X fun x y H Q=>∃ dx dy M Q',Rep X.K H dx x/\Rep X.K H dy y/\bV X.K M H/\oP dx dy M Q'/\∀ v H',LQ X.K H Q' v H'->Q v H':=by
 intro value slice pins s σ H x y v u Q I rx ry ⟨dx,dy,M,Q',r1,r2,hm,q,k⟩ hs
 cases dx with
 | tup ds =>
  cases dy with
  | int i =>
   obtain ⟨a,us,rfl,sq,ru⟩:=cE r1
   obtain rfl:=aU r2
   cases e:atI ds i with
   | none=>exact absurd q (by show ¬ (match atI ds i with | some d=>Q' d M | none=>False);rw [e];exact id)
   | some d =>
    have q':Q' d M:=by
     have z:(match atI ds i with | some d=>Q' d M | none=>False):=q
     rw [e] at z;exact z
    obtain ⟨w,hw,rw'⟩:=xC ru e
    exact aKf value slice pins s σ H _ _ v u Q I rx ry ⟨a,us,i,w,rfl,rfl,sq,hw,k _ H ⟨d,M,rw',hm,.refl H,q'⟩⟩ hs
  | _=>exact q.elim
 | fz ds =>
  cases dy with
  | int i =>
   obtain ⟨a,us,rfl,sq,ru⟩:=pM r1
   obtain rfl:=aU r2
   cases e:atI ds i with
   | none=>exact absurd q (by show ¬ (match atI ds i with | some d=>Q' d M | none=>False);rw [e];exact id)
   | some d =>
    have q':Q' d M:=by
     have z:(match atI ds i with | some d=>Q' d M | none=>False):=q
     rw [e] at z;exact z
    obtain ⟨w,hw,rw'⟩:=xC ru e
    exact aDJ value slice pins s σ H _ _ v u Q I rx ry ⟨a,us,i,w,rfl,rfl,sq.sq,hw,k _ H ⟨d,M,rw',hm,.refl H,q'⟩⟩ hs
  | _=>exact q.elim
 | ref a =>
  cases dy with
  | int i =>
   obtain ⟨ds,d,ha,e,q'⟩:=q
   obtain rfl:=aV r1
   obtain rfl:=aU r2
   obtain ⟨us,hu,ru⟩:=hm.l a ds ha
   obtain ⟨w,hw,rw'⟩:=xC ru e
   exact aDJ value slice pins s σ H _ _ v u Q I rx ry ⟨a,us,i,w,rfl,rfl,.of hu,hw,k _ H ⟨d,M,rw',hm,.refl H,q'⟩⟩ hs
  | _=>exact q.elim
 | _=>exact q.elim
theorem aMH (ha:PDE X a ta) (hb:PDE X b tb) (hs:sP b:=by exact fun _ _=>rfl):PDE X (.Subscript a b pos) (dOp oP ta tb) :=
 bW (aML ixd ha hb hs) fun σ H Q h=>aA2 (fun _ _ _ _ z=>z) h
abbrev DO:=cL->DM->(Option Int->DM->Prop)->Prop
def xQ (K:Frag) (t:DO):TO:=fun σ H Q=>∃ ρ M Q',fH K H ρ σ/\bV K M H/\t ρ M Q'/\∀ i H',(∃ M',bV K M' H'/\Ext H H'/\Q' i M')->Q i H'
noncomputable def aKS:DO:=fun _ M Q=>Q none M
noncomputable def dPt (t:DE):DO:=fun ρ M Q=>t ρ M fun x M1=>match x with
 | .int i=>Q (some i) M1
 | _=>False
theorem aHw:PO X none (xQ X.K aKS):=fun pins s σ H Q I ⟨ρ,M,Q',re,hm,q,k⟩=>aHg pins s σ H Q I (k none H ⟨M,hm,.refl H,q⟩)
theorem aIZ (h:PDE X e te):PO X (some e) (xQ X.K (dPt te)):=fun pins s σ H Q I ⟨ρ,M,Q',re,hm,q,k⟩=>aHR h pins s σ H Q I ⟨ρ,M,_,re,hm,q,fun v H1 ⟨d,M1,rd,hm1,ex,q1⟩=>by
 cases d with
 | int i=>exact ⟨i,aU rd,k (some i) H1 ⟨M1,hm1,ex,q1⟩⟩
 | _=>exact q1.elim⟩
noncomputable def cutD (xs:List D) (lo hi:Option Int):List D:=(xs.drop (HT.sIx xs.length 0 lo)).take (HT.sIx xs.length xs.length hi - HT.sIx xs.length 0 lo)
theorem xD {K:Frag} {H:Hp} {ds:List D} {xs:List V} (r:bT K H ds xs) (lo hi:Option Int):bT K H (cutD ds lo hi) (aBN xs lo hi):=by
 unfold cutD aBN
 rw [r.length]
 exact (r.drop _).take _
def aM1 (x:D) (lo hi:Option Int) (M:DM) (Q:DQ):Prop:=match x with
 | .fz ds=>∀ p:Addr,M p = none->Q (.ref p) (bG M p (cutD ds lo hi))
 | .ref a=>∃ ds,M a = some ds/\∀ p:Addr,M p = none->Q (.ref p) (bG M p (cutD ds lo hi))
 | _=>False
def dSl (te:DE) (tl th:DO):DE:=fun ρ M Q=>te ρ M fun x M1=>tl ρ M1 fun l M2=>th ρ M2 fun h M3=>aM1 x l h M3 Q
variable {lo hi:Option Expr} {tl th:DO} {p2:Pos}
theorem aF9 (he:PDE X e te) (hl:PO X lo (xQ X.K tl)) (hu:PO X hi (xQ X.K th)):PDE X (.Subscript e (.Slice lo hi none p2) pos) (dSl te tl th) :=
 bW (wW aII he hl hu) fun σ H Q ⟨ρ,M,Q',re,hm,q,k⟩=>⟨ρ,M,_,re,hm,q,fun v H1 ⟨d,M1,rd,hm1,e1,q1⟩=>⟨ρ,M1,_,re.ext e1,hm1,q1,fun l H2 ⟨M2,hm2,e2,q2⟩=>⟨ρ,M2,_,(re.ext e1).ext e2,hm2,q2,fun h H3 ⟨M3,hm3,e3,q3⟩=>by
  have rd3:=(rd.ext e2).ext e3
  have ex:=(e1.trans e2).trans e3
  cases d with
  | fz ds =>
   obtain ⟨a,us,rfl,sq,ru⟩:=pM rd3
   exact ⟨a,us,rfl,sq.sq,fun p hp=>k _ _ ⟨.ref p,_,eS,hm3.lnew hp (xD ru l h),ex.trans (Ext.new hp _),q3 p (hm3.fresh hp)⟩⟩
  | ref a =>
   obtain ⟨ds,ha,q3⟩:=q3
   obtain rfl:=aV rd
   obtain ⟨us,hu,ru⟩:=hm3.l a ds ha
   exact ⟨a,us,rfl,.of hu,fun p hp=>k _ _ ⟨.ref p,_,eS,hm3.lnew hp (xD ru l h),ex.trans (Ext.new hp _),q3 p (hm3.fresh hp)⟩⟩
  | _=>exact q3.elim⟩⟩⟩
abbrev DSp:=List D->DM->DQ->Prop
def pP (K:Frag) (sp:DSp):Sp:=fun vs H Q _=>∃ ds M Q',bT K H ds vs/\bV K M H/\sp ds M Q'/\∀ v H',LQ K H Q' v H'->Q v H'
def oJ (sp:DSp) (t:DA):DE:=fun ρ M Q=>t ρ M fun ds M1=>sp ds M1 Q
variable {CX:CXT} {k:Nat} {f:Addr} {fd:FuncData} {ps:List Str} {sp:DSp} {E:XK} {x:Str} {p:Pos}
theorem aIh (F:jV X.prog X.w X.K X.mg X.base CX k f fd ps (pP X.K sp)) (hr:cZ k X.A) (hm:X.mg x = some (.ref f)) (hk:keepIn X.K (.ref f) = true) (hb:mO X.K fd ps []) (hx:tU CX X E) (ha:PDA X (e :: es) t) (hg:Gl X x:=by rfl)
  (hdb:(x == ("__debug__":Str)) = false:=by decide) (he:starEach (e :: es) X.env = (false,eval e X.env) :: starEach es X.env:=by rfl) (hpl:(backTo pos (starEach es X.env)).any (·.1) = false:=by rfl) :
  PDE X (.Call (.Name x p) (e :: es) [] pos) (oJ sp t) :=
 bW (aIx F hr hg hm hk hb .nil hx ha hdb he hpl) fun σ H Q ⟨ρ,M,Q',re,hm,q,k⟩=>⟨ρ,M,_,re,hm,q,fun vs H1 ⟨ds,M1,rs,hm1,ex,q1⟩=>⟨ds,M1,Q',by rw [append_nil];exact rs,hm1,q1,fun v H' z=>k v H' (z.back ex)⟩⟩
theorem aGW (F:jV X.prog X.w X.K X.mg X.base CX k f fd ps (pP X.K sp)) (hr:cZ k X.A) (hm:X.mg x = some (.ref f)) (hk:keepIn X.K (.ref f) = true) (hb:mO X.K fd ps []) (hx:tU CX X E) (hg:Gl X x:=by rfl)
  (hdb:(x == ("__debug__":Str)) = false:=by decide):PDE X (.Call (.Name x p) [] [] pos) (oJ sp lG) :=
 bW (aFE F hr hg hm hk hb .nil hx hdb) fun σ H Q ⟨ρ,M,Q',re,hm,q,k⟩=>⟨[],M,Q',cG,hm,q,k⟩
def fV (X:Cx) (fv:Value) (r:DSp):Prop:=jO X fv fun vs H Q=>∃ ds M Q',bT X.K H ds vs/\bV X.K M H/\r ds M Q'/\∀ v H',LQ X.K H Q' v H'->Q v H'
theorem fV.of {fv:Value} {r:List V->Hp->VK->Prop} {r':DSp} (h:jO X fv r) (l:∀ vs H M ds Q,bT X.K H ds vs->bV X.K M H->r' ds M Q->r vs H (LQ X.K H Q)):fV X fv r':=fun pins s σ H xs us Q I rs ⟨ds,M,Q',r1,hm,q,k⟩ =>
 thn (h pins s σ H xs us _ I rs (l xs H M ds Q' r1 hm q)) fun v s h=>aDW h k
theorem aFu {r:DSp} {σ:L2.St} {H:Hp} {Q:VK} (h:low X.K (oJ r t) σ H Q):aM7 X.K t σ H fun vs H1=>∃ ds M Q',bT X.K H1 ds vs/\bV X.K M H1/\r ds M Q'/\∀ v H',LQ X.K H1 Q' v H'->Q v H':=by
 obtain ⟨ρ,M,Q',re,hm,q,k⟩:=h
 exact ⟨ρ,M,_,re,hm,q,fun vs H1 ⟨ds,M1,rs,hm1,ex,q1⟩=>⟨ds,M1,Q',rs,hm1,q1,fun v H' z=>k v H' (z.back ex)⟩⟩
theorem aFS {id:String} {r:DSp} (hc:fV X (.builtin id) r) (hm:X.mg x = none) (ha:PDA X (e :: es) t) (hv:bootBuiltins x = some (.builtin id):=by rfl) (hg:Gl X x:=by rfl) (hn:x ≠ "__name__":=by decide) (hdb:(x == ("__debug__":Str)) = false:=by decide)
  (he:starEach (e :: es) X.env = (false,eval e X.env) :: starEach es X.env:=by rfl) (hpl:(backTo pos (starEach es X.env)).any (·.1) = false:=by rfl):PDE X (.Call (.Name x p) (e :: es) [] pos) (oJ r t) :=
 bW (nA hc hg hm hv ha hn hdb he hpl) fun σ H Q h=>aFu h
theorem aEb {T:String} {r:DSp} (hc:fV X (.type T) r) (hm:X.mg x = none) (ha:PDA X (e :: es) t) (hv:bootBuiltins x = some (.type T):=by rfl) (hg:Gl X x:=by rfl) (hn:x ≠ "__name__":=by decide) (hdb:(x == ("__debug__":Str)) = false:=by decide)
  (he:starEach (e :: es) X.env = (false,eval e X.env) :: starEach es X.env:=by rfl) (hpl:(backTo pos (starEach es X.env)).any (·.1) = false:=by rfl):PDE X (.Call (.Name x p) (e :: es) [] pos) (oJ r t) :=
 bW (aEy hc hg hm hv ha hn hdb he hpl) fun σ H Q h=>aFu h
end
section
variable {X:Cx} {a b e o:Expr} {es:List Expr} {ta tb te to:DE} {t:DA} {pos:Pos}
def aMl:DSp:=fun ds M Q=>match ds with
 | [.int i]=>Q (.int (if i < 0 then -i else i)) M
 | _=>False
theorem dR {K:Frag} {H:Hp} {d:D} {vs:List V} (h:bT K H [d] vs):∃ v,vs = [v]/\Rep K H d v:=by
 obtain ⟨v,r,rfl,rv,rr⟩:=aR h
 obtain rfl:=bD rr
 exact ⟨v,rfl,rv⟩
theorem aJH {K:Frag} {H:Hp} {d d2:D} {vs:List V} (h:bT K H [d,d2] vs):∃ v v2,vs = [v,v2]/\Rep K H d v/\Rep K H d2 v2:=by
 obtain ⟨v,r,rfl,rv,rr⟩:=aR h
 obtain ⟨v2,rfl,rv2⟩:=dR rr
 exact ⟨v,v2,rfl,rv,rv2⟩
theorem aCv:fV X (.builtin "abs") aMl:=fV.of aGl fun vs H M ds Q rs hm q=>by
 rcases ds with _ | ⟨d,_ | ⟨d2,r⟩⟩
 ·exact q.elim
 ·cases d with
  | int i =>
   obtain ⟨v,rfl,rv⟩:=dR rs
   obtain rfl:=aU rv
   exact ⟨i,rfl,_,M,bO,hm,.refl H,q⟩
  | _=>exact q.elim
 ·cases d<;>exact q.elim
def aNx:DSp:=fun ds M Q=>match ds with
 | [.int i]=>Q (.int i) M
 | [.bl k]=>Q (.int (if k then 1 else 0)) M
 | _=>False
theorem aKN:fV X (.type "int") aNx:=fV.of aEw fun vs H M ds Q rs hm q=>by
 rcases ds with _ | ⟨d,_ | ⟨d2,r⟩⟩
 ·exact q.elim
 ·cases d with
  | int i =>
   obtain ⟨v,rfl,rv⟩:=dR rs
   obtain rfl:=aU rv
   exact .inl ⟨i,rfl,_,M,bO,hm,.refl H,q⟩
  | bl i =>
   obtain ⟨v,rfl,rv⟩:=dR rs
   obtain rfl:=cD rv
   exact .inr ⟨i,rfl,_,M,bO,hm,.refl H,q⟩
  | _=>exact q.elim
 ·cases d<;>exact q.elim
def sW:DSp:=fun ds M Q=>match ds with
 | [.tup xs]=>Q (.int xs.length) M
 | [.fz xs]=>Q (.int xs.length) M
 | [.ref a]=>∃ xs,M a = some xs/\Q (.int xs.length) M
 | _=>False
theorem mD:fV X (.builtin "len") sW:=fV.of aAw fun vs H M ds Q rs hm q=>by
 rcases ds with _ | ⟨d,_ | ⟨d2,r⟩⟩
 ·exact q.elim
 ·cases d with
  | tup xs =>
   obtain ⟨v,rfl,rv⟩:=dR rs
   obtain ⟨a,us,rfl,sq,ru⟩:=cE rv
   exact ⟨a,us,rfl,.inr sq,_,M,by rw [<- ru.length];exact bO,hm,.refl H,q⟩
  | fz xs =>
   obtain ⟨v,rfl,rv⟩:=dR rs
   obtain ⟨a,us,rfl,sq,ru⟩:=pM rv
   exact ⟨a,us,rfl,.inl sq.sq,_,M,by rw [<- ru.length];exact bO,hm,.refl H,q⟩
  | ref a =>
   obtain ⟨v,rfl,rv⟩:=dR rs
   obtain rfl:=aV rv
   obtain ⟨xs,ha,q⟩:=q
   obtain ⟨us,hu,ru⟩:=hm.l a xs ha
   exact ⟨a,us,rfl,.inl (.of hu),_,M,by rw [<- ru.length];exact bO,hm,.refl H,q⟩
  | _=>exact q.elim
 ·cases d<;>exact q.elim
def aL7:DSp:=fun ds M Q=>match ds with
 | [.tup xs]=>Q (.tup xs) M
 | [.ref a]=>∃ xs,M a = some xs/\Q (.tup xs) M
 | _=>False
theorem iP:fV X (.type "tuple") aL7:=fV.of yU fun vs H M ds Q rs hm q=>by
 rcases ds with _ | ⟨d,_ | ⟨d2,r⟩⟩
 ·exact q.elim
 ·cases d with
  | tup xs =>
   obtain ⟨v,rfl,rv⟩:=dR rs
   obtain ⟨a,us,rfl,sq,ru⟩:=cE rv
   exact ⟨a,us,rfl,.inr ⟨sq,_,M,cJ sq ru,hm,.refl H,q⟩⟩
  | ref a =>
   obtain ⟨v,rfl,rv⟩:=dR rs
   obtain rfl:=aV rv
   obtain ⟨xs,ha,q⟩:=q
   obtain ⟨us,hu,ru⟩:=hm.l a xs ha
   exact ⟨a,us,rfl,.inl ⟨.of hu,fun p hp=>⟨.tup xs,M,cJ (.of dB) (ru.ext (Ext.new hp _)),hm.new hp _,Ext.new hp _,q⟩⟩⟩
  | _=>exact q.elim
 ·cases d<;>exact q.elim
def aBn (to te:DE):DE:=fun ρ M Q=>to ρ M fun x M1=>match x with
 | .ref p=>(∃ ds,M1 p = some ds)/\iN te lG ρ M1 fun ys M2=>∃ ds y,ys = [y]/\M2 p = some ds/\ds.length < 1000/\Q .non (bG M2 p (ds ++ [y]))
 | _=>False
theorem aEJ {apos cpos:Pos} (ho:PDE X o to) (he:PDE X e te) (hse:starEach [e] X.env = (false,eval e X.env) :: starEach [] X.env:=by rfl)
  (hbase:attributeBase o "append" X.env (eval o X.env) = eval o X.env:=by rfl)
  (hfew:((backTo cpos (starEach [e] X.env)).all (fun x=>!x.1) && (backToKw cpos (keywordEach [] X.env)).all (fun x=>x.1.isSome)
   && decide ([e].length + ([]:List Keyword).length + (if ([]:List Keyword).isEmpty then 0 else 1) < 30)) = true:=by rfl)
  (hline:(apos.endLine == cpos.line) = true:=by rfl) (hplain:(backTo cpos (starEach [] X.env)).any (·.1) = false:=by rfl) :
  PDE X (.Call (.Attribute o "append" apos) [e] [] cpos) (aBn to te) :=
 bW (xW PySem.F.plainAttrs_list PySem.F.slot_list_append PySem.F.type_list_append aEf ho (iU he lA hse) hbase hfew hline hse hplain) fun σ H Q ⟨ρ,M,Q',re,hm,q,k⟩=>⟨ρ,M,_,re,hm,q,fun v H1 ⟨d,M1,rd,hm1,e1,q1⟩=>by
  cases d with
  | ref p =>
   obtain rfl:=aV rd
   obtain ⟨⟨ds0,h0⟩,q1⟩:=q1
   obtain ⟨us0,hu0,_⟩:=hm1.l p ds0 h0
   refine ⟨.inl ⟨rfl,us0,.of hu0⟩,ρ,M1,_,re.ext e1,hm1,q1,fun vs H2 ⟨dvs,M2,rs,hm2,e2,ds,y,ey,hp,hl,q2⟩=>?_⟩
   subst ey
   obtain ⟨w,rfl,rw'⟩:=dR rs
   obtain ⟨us,hu,ru⟩:=hm2.l p ds hp
   exact ⟨p,us,w,rfl,rfl,hu,by rw [<- ru.length];exact eK (Nat.le_of_lt hl),k _ _ ⟨.non,_,qP,hm2.put hu (ru.append (bH rw' cG)),(e1.trans e2).trans (Ext.put hu _),q2⟩⟩
  | _=>exact q1.elim⟩
noncomputable def tyD:D->Option String
 | .non=>some "NoneType"
 | .bl _=>some "bool"
 | .int _=>some "int"
 | .str _=>some "str"
 | .tup _=>some "tuple"
 | .fz _=>some "list"
 | .ref _=>none
theorem tyT {K:Frag} {H:Hp} {s:Shared} {pins:List (Addr × Obj)} {σ:L2.St} (I:Inv X pins σ H s) {a:Addr} {xs:List V} (sq:SqT X.K H a xs):∃ o,s.heap.get? a = some o/\o.cls = .type "tuple":=by
 obtain ⟨its,_,⟨o,h1,h2,_⟩,_⟩:=I.tuple sq
 exact ⟨o,h1,h2⟩
theorem aMu {K:Frag} {H:Hp} {s:Shared} {pins:List (Addr × Obj)} {σ:L2.St} {A:Around} {E:Value->Shared->Prop} {Q:Value->Shared->Prop} {c:Value} {d:D} {v:V} {u:Value} {T:String} {k:Bool} (I:Inv X pins σ H s) (rd:Rep X.K H d v) (rv:cF v u) (ty:tyD d = some T)
  (e:kitOne X.K (.type T) c = some k) (h:∀ tk,Q (.bool k) { s with toks:=tk }):wpAny (model X.prog X.w) A (call (.builtin "isinstance") [u,c]) Q E s:=by
 cases d with
 | non=>cases ty;rw [cX rd] at rv;exact mV I rv (.non) e h
 | bl b=>cases ty;rw [cD rd] at rv;exact mV I rv (.bl b) e h
 | int b=>cases ty;rw [aU rd] at rv;exact mV I rv (.int b) e h
 | str b=>cases ty;rw [bF rd] at rv;exact mV I rv (.str b) e h
 | ref b=>cases ty
 | tup b =>
  cases ty
  obtain ⟨a,us,rfl,sq,ru⟩:=cE rd
  cases rv
  obtain ⟨o,h1,h2⟩:=tyT (K:=K) I sq
  exact kia_one PySem.W.kitx_tuple I.kIn ⟨o,h1,h2⟩ e (fun z=>nomatch z) h
 | fz b =>
  cases ty
  obtain ⟨a,us,rfl,sq,ru⟩:=pM rd
  cases rv
  obtain ⟨z,its,n,r,e1⟩:=aFG I sq
  exact kia_one kitx_list I.kIn ⟨_,e1,rfl⟩ e (fun z=>nomatch z) h
def dIs (K:Frag) (c:Value) (te:DE):DE:=fun ρ M Q=>te ρ M fun d M1=>(∃ T k,tyD d = some T/\kitOne K (.type T) c = some k/\Q (.bl k) M1) ∨ (∃ (p:Addr) (xs:List D) (k:Bool),d = .ref p/\M1 p = some xs/\kitOne K (.type "list") c = some k/\Q (.bl k) M1)
theorem aHD {T:String} {x:Str} {p p2:Pos} (he:PDE X e te) (hm:X.mg "isinstance" = none) (hmx:X.mg x = none) (hv:bootBuiltins x = some (.type T):=by rfl) (hg:Gl X "isinstance":=by rfl) (hgx:Gl X x:=by rfl) (hn:x ≠ "__name__":=by decide) (hdb:(x == ("__debug__":Str)) = false:=by decide)
  (hse:starEach [e,.Name x p2] X.env = (false,eval e X.env) :: starEach [.Name x p2] X.env:=by rfl) (hse2:starEach [.Name x p2] X.env = (false,eval (.Name x p2) X.env) :: starEach [] X.env:=by rfl) (hpl:(backTo pos (starEach [.Name x p2] X.env)).any (·.1) = false:=by rfl) :
  PDE X (.Call (.Name "isinstance" p) [e,.Name x p2] [] pos) (dIs X.K (.type T) te):=by
 have hc:jO X (.builtin "isinstance") fun vs H Q=>∃ d M Q' v,vs = [v,.ty T]/\Rep X.K H d v/\bV X.K M H/\((∃ T' k,tyD d = some T'/\kitOne X.K (.type T') (.type T) = some k/\Q' (.bl k) M) ∨ (∃ (p:Addr) (xs:List D) (k:Bool),d = .ref p/\M p = some xs/\kitOne X.K (.type "list") (.type T) = some k/\Q' (.bl k) M))/\∀ v H',LQ X.K H Q' v H'->Q v H':=by
  intro pins s σ H xs us Q I rs ⟨d,M,Q',v,e1,rd,hm,q,k⟩
  subst e1
  obtain ⟨u1,u2,rfl,rv,rt⟩:=rs.two
  cases rt
  rcases q with ⟨T',b,ty,e2,q⟩ | ⟨p,ys,b,rfl,hp,e2,q⟩
  ·exact aMu (K:=X.K) I rd rv ty e2 fun tk=>⟨.bl b,H,I.tok tk,rfl,k _ H ⟨_,M,cQ,hm,.refl H,q⟩⟩
  ·obtain rfl:=aV rd
   obtain ⟨us,hu,ru⟩:=hm.l p ys hp
   exact mV I rv (.lst hu) e2 fun tk=>⟨.bl b,H,I.tok tk,rfl,k _ H ⟨_,M,cQ,hm,.refl H,q⟩⟩
 refine bW (nA hc hg hm rfl (jA he (jA (aAJ hgx hmx hv (v:=.ty T) rfl hn hdb) uD hse2) hse) (by decide) (by decide) hse hpl) fun σ H Q ⟨ρ,M,Q',re,hm,q,k⟩=>?_
 exact ⟨ρ,M,_,re,hm,q,fun v H1 ⟨d,M1,rd,hm1,ex,q1⟩=>⟨d,M1,Q',v,rfl,rd,hm1,q1,fun v H' z=>k v H' (z.back ex)⟩⟩
end
noncomputable def gW (N:List Str) (ds:List D):cL:=ds.map some ++ replicate (N.length - ds.length) none
noncomputable def Dn (Q:DQ):DQ:=fun d M=>∃ M',bB M' M/\Q d M'
section
variable {P:Program} {w:World} {K:Frag} {mg:Str->Option Value} {base:Heap}
theorem nN {H:Hp} {ds:List D} {vs:List V} (r:bT K H ds vs) (N:List Str):fH K H (gW N ds) (L2.start N vs):=by
 have hl:=r.length
 refine ⟨by unfold gW L2.start;simp only [length_append,length_map,List.length_replicate,hl],fun i d q=>?_⟩
 unfold gW at q
 unfold L2.start
 by_cases hi:i < ds.length
 ·rw [getElem?_append_left (by simpa using hi),getElem?_map] at q
  rw [getElem?_append_left (by simpa [<- hl] using hi),getElem?_map]
  cases e:ds[i]? with
  | none=>rw [e] at q;cases q
  | some d' =>
   rw [e] at q
   cases q
   obtain ⟨v,e2,rv⟩:=r.get e
   exact ⟨v,by rw [e2];rfl,rv⟩
 ·rw [getElem?_append_right (by simpa using hi),List.getElem?_replicate] at q
  split at q<;>cases q
theorem Fun.okD {x qual:Str} {st:Stmt} {f:Addr} {fd:FuncData} {N ps:List Str} {k:Nat} {sp:DSp} (F:L2.Fun K x qual st f fd) (S:aS N ps (aI st)) (len:∀ ds M Q,sp ds M Q->ds.length = ps.length)
  (hbody:∀ (cdv:Value) (A:Around) (outer:List Env) (s:Shared) (H:Hp) (ds:List D) (M:DM) (Q:DQ) (E:XK),cZ k (A.deeper (envOfC qual (aI st) s.heap.objs.size f cdv))->sp ds M Q ->
   ∃ t,kE (jC CX0 P w K mg base N qual (aI st) f cdv A outer s H E).nox (eO st) t/\t { nx:=fun _ M'=>Dn Q .non M',rt:=Dn Q } (gW N ds) M):jV P w K mg base CX0 (k + 1) f fd ps (pP K sp):=by
 refine F.ok S (fun vs H Q E ⟨ds,M,Q',rs,hm,q,_⟩=>by rw [<- rs.length];exact len ds M Q' q) fun cdv A outer s H vs Q E hr ⟨ds,M,Q',rs,hm,q,k'⟩=>?_
 obtain ⟨t,h1,h2⟩:=hbody cdv A outer s H ds M Q' E hr q
 have fin:∀ v H',LQ K H (Dn Q') v H'->Q v H':=fun v H' ⟨d,M1,rd,hm1,ex,M2,sub,q2⟩=>k' v H' ⟨d,M2,rd,hm1.sub sub,ex,q2⟩
 refine ⟨_,h1,gW N ds,M,_,nN rs N,hm,h2,⟨fun σ' H' ⟨ρ',M',_,hm',ex,q'⟩=>fin _ H' ⟨.non,M',qP,hm',ex,q'⟩,fin,fun σ' H' ⟨_,_,_,_,_,z⟩=>z.elim,fun σ' H' ⟨_,_,_,_,_,z⟩=>z.elim⟩⟩
end
theorem aEr {P:Program} {w:World} {K:Frag} {mg mb:Str->Option Value} {CX:CXT} {k:Nat} {fa a:Addr} {fd:FuncData} {x:Str} {sp:Sp} {s₁:Shared} {vs:List Value} {ns:List Int}
  (KX:K.In s₁.heap) (hns:s₁.heap.Ns mainGlobals mg) (hb:s₁.heap.Ns builtinsNs mb) (hbb:∀ x:Str,x ≠ "__name__"->mb x = bootBuiltins x) (hlim:s₁.heap.NoLimit) (hg:s₁.gens = #[])
  (ha:s₁.heap.get? a = some { cls:=.type "list",data:=.seq vs.toArray }) (hi:IntsAre vs ns) (hl:ns.length<=sizeLine) (hr:cZ k callerA)
  (F:∀ base:Heap,K.In base->base.Ns mainGlobals mg->jV P w K mg base CX k fa fd [x] sp) (hbind:∀ (s:Shared) (u:Value),BindsTo s fd ⟨[u],[]⟩ [(x,u)])
  (hsp:∀ H:Hp,aLX H->SqX K H a (ns.map V.int)->sp [.ref a] H (fun v _=>v = .bl true) fun _ _ _=>False)
  (hCX:∀ H e s',CX [] H s₁ (fun _ _ _=>False) e s'->False) :
  codeAny (model P w) callerA (.call (.ref fa) ⟨[.ref a],[]⟩) (fun r s'=>r = .ok (.ret (.bool true))/\OldK s₁.heap s'.heap/\s'.os = s₁.os/\AllBare s'.gens) s₁:=by
 have rv:=uM hi
 have lenV:=hi.length
 refine aFp (ns:=ns) (sp:=fun vs H Q E=>SqX K H a (ns.map V.int)/\sp vs H Q E) KX hns hb hbb hlim hg ha hi hl hr (fun base h1 h2=>(F base h1 h2).imp fun _ _ _ _ z=>z.2) hbind (fun H hO hS=>?_) hCX
 have sx:SqX K H a (ns.map V.int):=by
  rcases hS with (h | h) | ⟨o,its,n,hk,hc,hd,hs,hz,r⟩
  ·rcases hO a with z | ⟨o,xs,z⟩
   ·rw [h] at z;cases z
   ·rw [h] at z;cases z
  ·exact .inl h
  ·have e:=KX a o hk
   rw [ha] at e
   cases e
   cases hs
   exact .inr ⟨_,_,hk,hz,r⟩
 exact ⟨sx,hsp H hO sx⟩
theorem walk_ofD {l:PySem.W.OpenLaw} {n k:Nat} {q:Program} {loose:List Str} {XP:(Str->Option Value)->Heap->Prop} {YP:World->Heap->Prop} {d:DefRec} {K:Params->Frag} {sp:DSp} {x:Str}
  (hn:l.most = some n) (hn2:n<=sizeLine) (hdf:d.params.defaults = []) (hr:cZ k callerA)
  (hY:∀ (w:World) (h:Heap),YP w h->(K w.params).In h)
  (F:∀ (w:World) (mg:Str->Option Value) (fa:Addr) (h:Heap),(K w.params).In h->h.Ns mainGlobals mg->mg d.name = some (.ref fa) ->
   ∃ fd:FuncData,(∀ (s:Shared) (u:Value),BindsTo s fd ⟨[u],[]⟩ [(x,u)]) /\
    ∀ base:Heap,(K w.params).In base->base.Ns mainGlobals mg->jV l.prog w (K w.params) mg base CX0 k fa fd [x] (pP (K w.params) sp))
  (hsp:∀ (ns:List Int),ns.length<=n->∀ M,sp [.fz (ns.map D.int)] M fun d _=>d = .bl true) :
  PySem.W.WalkO q loose XP YP l.row.toRowW d [] (fun f vs=>PySem.call f vs):=by
 refine Att.attach_call hn hdf fun w s₀ s₁ mg mb fa o pm cd doc a vs ns G Y ho hd hcd hmg hobj hints hlen hg=>?_
 have KX:=hY w _ Y
 obtain ⟨fd,hb,hF⟩:=F w mg fa _ KX G.T.g hmg
 refine aEr KX G.T.g G.T.b G.T.builtins G.T.nolimit hg hobj hints (Nat.le_trans hlen hn2) hr hF hb (fun H hO hS=>?_) fun H e s' h=>h
 refine ⟨[.fz (ns.map D.int)],fun _=>none,_,bH (by unfold Rep;exact ⟨a,_,rfl,hS,aAc ns⟩) cG,⟨(fun _ _ z=>by cases z),(fun _ _ z=>by cases z)⟩,hsp ns hlen _,fun v H' z=>?_⟩
 obtain ⟨d,M',rd,_,_,e⟩:=z
 have e':d = .bl true:=e
 subst e'
 exact cD rd
def cK (K:Frag) (mg:Str->Option Value) (x:Str) (st:Stmt) (ps:List Str):Prop:=∃ f fd,L2.Fun K x x st f fd/\mg x = some (.ref f)/\mO K fd ps []
def Has (P:Program) (w:World) (K:Frag) (mg:Str->Option Value) (base:Heap) (k:Nat) (x:Str) (ps:List Str) (sp:DSp):Prop :=
 ∃ f fd,jV P w K mg base CX0 k f fd ps (pP K sp)/\mg x = some (.ref f)/\keepIn K (.ref f) = true/\mO K fd ps []
def eJ (K:Frag) (mg:Str->Option Value) (x:Str) (d:D):Prop:=∃ u v,mg x = some u/\cF v u/\∀ H,Rep K H d v
section
variable {P:Program} {w:World} {K:Frag} {mg:Str->Option Value} {base:Heap}
theorem Has.mk {x:Str} {st:Stmt} {N ps:List Str} {k:Nat} {sp:DSp} (h:cK K mg x st ps) (S:aS N ps (aI st)) (len:∀ ds M Q,sp ds M Q->ds.length = ps.length)
  (hbody:∀ (f:Addr) (cdv:Value) (A:Around) (outer:List Env) (s:Shared) (H:Hp) (ds:List D) (M:DM) (Q:DQ) (E:XK),cZ k (A.deeper (envOfC x (aI st) s.heap.objs.size f cdv))->sp ds M Q ->
   ∃ t,kE (jC CX0 P w K mg base N x (aI st) f cdv A outer s H E).nox (eO st) t/\t { nx:=fun _ M'=>Dn Q .non M',rt:=Dn Q } (gW N ds) M):Has P w K mg base (k + 1) x ps sp:=by
 obtain ⟨f,fd,F,hm,hb⟩:=h
 exact ⟨f,fd,Fun.okD F S len fun cdv A outer s H ds M Q E hr q=>hbody f cdv A outer s H ds M Q E hr q,hm,F.kp,hb⟩
theorem Has.imp {x:Str} {ps:List Str} {k:Nat} {sp sp':DSp} (h:Has P w K mg base k x ps sp) (i:∀ ds M Q,sp' ds M Q->sp ds M Q):Has P w K mg base k x ps sp':=by
 obtain ⟨f,fd,F,hm,hk,hb⟩:=h
 exact ⟨f,fd,F.imp fun vs H Q E ⟨ds,M,Q',a,b,c,d⟩=>⟨ds,M,Q',a,b,i _ _ _ c,d⟩,hm,hk,hb⟩
end
section
variable {X:Cx} {a b c e:Expr} {es:List Expr} {ta tb te:DE} {t:DA} {pos p:Pos} {x:Str} {ps:List Str} {sp:DSp} {k j:Nat}
theorem aG0 (h:Has X.prog X.w X.K X.mg X.base k x ps sp) (hr:cZ j X.A) (hkj:k<=j) (ha:PDA X (e :: es) t) (hg:Gl X x:=by rfl)
  (hdb:(x == ("__debug__":Str)) = false:=by decide) (he:starEach (e :: es) X.env = (false,eval e X.env) :: starEach es X.env:=by rfl) (hpl:(backTo pos (starEach es X.env)).any (·.1) = false:=by rfl) :
  PDE X (.Call (.Name x p) (e :: es) [] pos) (oJ sp t):=by
 obtain ⟨f,fd,F,hm,hk,hb⟩:=h
 exact aIh F (hr.mono hkj) hm hk hb aEY ha hg hdb he hpl
theorem aEi (h:Has X.prog X.w X.K X.mg X.base k x ps sp) (hr:cZ j X.A) (hkj:k<=j) (hg:Gl X x:=by rfl) (hdb:(x == ("__debug__":Str)) = false:=by decide):PDE X (.Call (.Name x p) [] [] pos) (oJ sp lG):=by
 obtain ⟨f,fd,F,hm,hk,hb⟩:=h
 exact aGW F (hr.mono hkj) hm hk hb aEY hg hdb
theorem aGV {d:D} (h:eJ X.K X.mg x d) (hg:Gl X x:=by rfl) (hd:(x == ("__debug__":Str)) = false:=by decide):PDE X (.Name x pos) (dC d):=by
 obtain ⟨u,v,hm,rv,hr⟩:=h
 exact aHk hg hm rv hr hd
def aHF (i:Nat) (te:DE) (g:Int->Int->Int):DS:=fun E ρ M=>match ρ[i]? with
 | some (some (.int z))=>te ρ M fun y M1=>match y with
  | .int j=>E.nx (ρ.set i (some (.int (g z j)))) M1
  | _=>False
 | _=>False
theorem aIO {i:Nat} {op:Operator} {g:Int->Int->Int} {pos':Pos} (ho:PIp X op (ipI g)) (hN:X.N.Nodup) (he:PDE X e te) (hi:X.N[i]? = some x:=by rfl) (hx:Loc X.env.scope x:=by first | exact Or.inl rfl | exact Or.inr rfl) (hf:X.fn x = true ∨ X.env.scope.names.lookup x = some .local:=by first | exact .inl rfl | exact .inr rfl | assumption) :
  PDS X (.AugAssign (.Name x pos') op e pos) (aHF i te g) :=
 jD (aLK (i:=i) hN hi hx he ho hf) fun E σ H ⟨ρ,M,Dn,re,hm,q,k⟩=>by
  unfold aHF at q
  split at q
  ·rename_i z e1
   obtain ⟨v,e2,rv⟩:=re.get i _ e1
   obtain rfl:=aU rv
   refine ⟨_,e2,ρ,M,_,re,hm,q,fun w H1 ⟨d,M1,rd,hm1,ex,q1⟩=>?_⟩
   cases d with
   | int j=>exact ⟨z,j,rfl,aU rd,k.nx _ H1 ⟨_,M1,(re.ext ex).set bO i,hm1,ex,q1⟩⟩
   | _=>exact q1.elim
  ·exact q.elim
end
theorem dif {c A B:Prop} [Decidable c] (h1:c->A) (h2:¬ c->B):if decide c = true then A else B:=by
 by_cases h:c
 ·rw [decide_eq_true h];exact h1 h
 ·rw [decide_eq_false h];exact h2 h
theorem aMj {b:Bool} {A B:Prop} (h1:b = true->A) (h2:b = false->B):if b = true then A else B:=by
 cases b
 ·exact h2 rfl
 ·exact h1 rfl
section
variable {prog:Program} {w:World} {A:Around} {E:Value->Shared->Prop} {s:Shared}
theorem rG {h h':Heap} {it t:Addr} {items:Array Value} (ht:h.IsList t items) (hs:Heap.SameBut it h h') (hne:t ≠ it):h'.IsList t items:=by
 obtain ⟨o,e,r⟩:=ht
 exact ⟨o,(hs.2 t hne).trans e,r⟩
theorem lN {h:Heap} {t:Addr} {items:Array Value} (ht:h.IsList t items) (o:Obj):(h.push o).IsList t items:=by
 obtain ⟨o',e,r⟩:=ht
 exact ⟨o',Heap.get?_push_of_some _ e,r⟩
theorem uW {it t:Addr} {items:Array Value} (hne:t ≠ it):∀ (n i:Nat) (s:Shared) (Q:List Value->Shared->Prop),s.heap.IsListIter it t i->s.heap.IsList t items->i + n<=items.size ->
  (∀ h',h'.IsListIter it t (i + n)->Heap.SameBut it s.heap h'->Q ((items.toList.drop i).take n) { s with heap:=h' })->wpAny (model prog w) A (draw (.ref it) n) Q E s
 | 0,i,s,Q,hit,_,_,hQ=>by
  show wpAny _ _ (pure []) Q E s
  exact wpAny_pure (by simpa using hQ s.heap hit (Heap.SameBut.refl ..))
 | n + 1,i,s,Q,hit,ht,hle,hQ=>by
  have hlt:i < items.size:=by omega
  show wpAny _ _ (pyNext (.ref it) >>= _) Q E s
  refine wpAny_bind (wpAny_pyNext_list_item hit ht (x:=items[i]) (by simp [hlt]) fun h₁ hit₁ hs₁=>?_)
  refine wpAny_bind (wpAny_holding (uW hne n (i + 1) _ _ hit₁ (rG ht hs₁ hne) (by omega) fun h₂ hit₂ hs₂=>wpAny_pure ?_))
  have hd:items.toList.drop i = items[i] :: items.toList.drop (i + 1):=by simp [List.drop_eq_getElem_cons,hlt]
  have:=hQ h₂ (by rw [show i + (n + 1) = i + 1 + n by omega];exact hit₂) (hs₁.trans hs₂)
  rw [hd,List.take_succ_cons] at this
  exact this
theorem tN {t:Addr} {items:Array Value} {Q:List Value->Shared->Prop} (hh:A.handled = none) (ht:s.heap.IsList t items)
  (hQ:∀ h',Heap.ExtBut s.heap.objs.size s.heap h'->Q items.toList { s with heap:=h' }):wpAny (model prog w) A (unpackItems (.ref t) items.size none) Q E s:=by
 have hlt:t ≠ s.heap.objs.size:=by obtain ⟨o,ho,_⟩:=ht;exact Nat.ne_of_lt (Heap.lt_size ho)
 unfold unpackItems
 refine wpAny_bind ?_
 ·unfold notIterableAtAll
  refine wpAny_bind (wpAny_specialOf ht.typeIs slot_list_iter.lookup ?_)
  refine wpAny_pure ?_
  simp only [Bool.false_eq_true,if_false]
  refine wpAny_bind (wpAny_holding (wpAny_pyIter_list ht ?_))
  refine wpAny_bind (wpAny_holding (uW hlt items.size 0 _ _ ⟨_,Heap.get?_push_size _ rfl,rfl,rfl⟩ (lN ht _) (by omega) fun h₁ hit₁ hs₁=>?_))
  have hall:List.take items.size (List.drop 0 items.toList) = items.toList:=by
   rw [drop_zero];exact take_of_length_le (by simp)
  rw [hall]
  rw [if_neg (by simp)]
  have ht₁:h₁.IsList t items:=rG (lN ht _) hs₁ hlt
  refine wpAny_bind (wpAny_holding (wpAny_pyNext_list_end hh hit₁ ht₁ (by simp) fun h₂ he₂=>?_))
  simp only [Option.isSome_none,Bool.false_eq_true,if_false]
  refine wpAny_pure (hQ h₂ fun b o hb e=>he₂ b o hb (hs₁.extBut b o hb (Heap.get?_push_of_some _ e)))
theorem tG {env:Env} {elts:List Expr} {x1} {pos:Pos} {t:Addr} {items:Array Value} {Q:Unit->Shared->Prop} (hh:A.handled = none) (ht:s.heap.IsList t items)
  (hn:(assignEach elts env).length = items.size) (hstar:(assignEach elts env).findIdx? (·.1) = none)
  (h:∀ h',Heap.ExtBut s.heap.objs.size s.heap h'->wpAny (model prog w) A (assignInOrder ((assignEach elts env).map (·.2)) items.toList) Q E { s with heap:=h' }) :
  wpAny (model prog w) A (assign (.Tuple elts x1 pos) env (.ref t)) Q E s:=by
 rw [assign_Tuple]
 refine wpAny_bind (wpAny_standAt ?_)
 unfold unpack
 rw [hn,hstar]
 exact wpAny_bind (wpAny_holding (tN hh ht h))
end
section
variable {X:Cx} {pos:Pos} {e a b:Expr} {es:List Expr} {te ta tb:DE}
def gU (n:Nat) (t:DGs):DG:=fun d ρ M Q=>match d with
 | .tup ds=>ds.length = n/\t ds ρ M Q
 | .ref a=>∃ ds,M a = some ds/\ds.length = n/\t ds ρ M Q
 | _=>False
theorem aJK {k:Nat} {t:DGs} {n:Nat} (hc:X.calm = true) (h:aAy X es t) (hn:(assignEach es X.env).length = n:=by rfl) (hst:(assignEach es X.env).findIdx? (·.1) = none:=by rfl):PDG X (.Tuple es k pos) (gU n t):=by
 intro pins s σ H v u Q I r ⟨d,ρ,M,Q',rd,re,hm,q,k'⟩
 cases d with
 | tup ds=>exact aKr hc h hn hst pins s σ H v u Q I r ⟨.tup ds,ρ,M,Q',rd,re,hm,q,k'⟩
 | ref p =>
  obtain ⟨ds,hp,hl,q⟩:=q
  obtain rfl:=aV rd
  cases r
  obtain ⟨us,hu,ru⟩:=hm.l p ds hp
  obtain ⟨z,its,nn,rv,hlen,e1⟩:=I.lstM hu
  have l1:=ru.length
  refine tG (I.ok.hd hc) ⟨_,e1,rfl,_,rfl⟩ (by rw [hn,size_toArray];omega) hst fun h' hx=>?_
  have I1:Inv X pins σ H { s with heap:=h' }:=I.kept (t':=s.toks) fun b o e=>hx b o (Nat.ne_of_lt (Heap.lt_size e)) e
  exact h pins _ σ H us _ Q I1 (by simpa using rv) ⟨ds,ρ,M,Q',ru,re,hm,q,k'⟩
 | _=>exact q.elim
noncomputable def isV:D->D->Option Bool
 | .non,.non=>some true
 | .bl a,.bl b=>some (a == b)
 | .non,.bl _=>some false
 | .bl _,.non=>some false
 | .int _,.non=>some false
 | .str _,.non=>some false
 | .tup _,.non=>some false
 | .ref _,.non=>some false
 | .fz _,.non=>some false
 | .tup _,.bl _=>some false
 | _,_=>none
def aGa (g:Bool->Bool):D2:=fun x y M Q=>match isV x y with
 | some k=>Q (.bl (g k)) M
 | none=>False
theorem aFO {K:Frag} {H:Hp} {x y:V} {v u:Value} {dx dy:D} {k:Bool} (rx:cF x v) (ry:cF y u) (r1:Rep K H dx x) (r2:Rep K H dy y) (h:isV dx dy = some k):plainIs v u = true/\(v == u) = k:=by
 cases dx<;>cases dy<;>first
  | (cases (show (none:Option Bool) = some k from h))
  | (
    first
    | (rw [cX r1] at rx;cases rx)
    | (rw [cD r1] at rx;cases rx)
    | (rw [aU r1] at rx;obtain ⟨t,rfl⟩:=rx)
    | (rw [bF r1] at rx;obtain ⟨t,rfl⟩:=rx)
    | (rw [aV r1] at rx;cases rx)
    | (obtain ⟨a,us,rfl,_,_⟩:=cE r1;cases rx)
    | (obtain ⟨a,us,rfl,_,_⟩:=pM r1;cases rx)
    first
    | (rw [cX r2] at ry;cases ry)
    | (rw [cD r2] at ry;cases ry)
    simp only [isV,Option.some.injEq] at h
    subst h
    constructor<;>first | rfl | (rename_i b1 b2;cases b1<;>cases b2<;>rfl))
theorem vN:OpD X (compareOp .Is) (aGa id):=fun pins s σ H x y v u Q I rx ry ⟨dx,dy,M,Q',r1,r2,hm,q,k⟩=>by
 unfold aGa at q
 split at q
 ·rename_i b e
  obtain ⟨h1,h2⟩:=aFO rx ry r1 r2 e
  exact wpAny_is_plain h1 (by rw [h2];exact ⟨.bl b,H,I,rfl,k _ H ⟨_,M,cQ,hm,.refl H,q⟩⟩)
 ·exact q.elim
theorem aCm:OpD X (compareOp .IsNot) (aGa not):=fun pins s σ H x y v u Q I rx ry ⟨dx,dy,M,Q',r1,r2,hm,q,k⟩=>by
 unfold aGa at q
 split at q
 ·rename_i b e
  obtain ⟨h1,h2⟩:=aFO rx ry r1 r2 e
  exact wpAny_isNot_plain h1 (by rw [h2];exact ⟨.bl (!b),H,I,rfl,k _ H ⟨_,M,cQ,hm,.refl H,q⟩⟩)
 ·exact q.elim
end
section
variable {M:DM} {Q:DQ} {g:Bool->Bool} {ds:List D} {i:Int} {a:Addr} {α:Type} {x0 x1 x2 x3 x4 x5:α} {l:List α}
theorem ixT:oP (.tup ds) (.int i) M Q = (match atI ds i with | some d=>Q d M | none=>False):=rfl
theorem ixF:oP (.fz ds) (.int i) M Q = (match atI ds i with | some d=>Q d M | none=>False):=rfl
theorem aOo:oP (.ref a) (.int i) M Q = (∃ ds d,M a = some ds/\atI ds i = some d/\Q d M):=rfl
theorem aKJ:atI [x0] 0 = some x0:=rfl
theorem aLV:atI [x0] (-1) = some x0:=rfl
theorem aKh:atI [x0,x1] 0 = some x0:=rfl
theorem aKc:atI [x0,x1] 1 = some x1:=rfl
theorem aJF:atI [x0,x1] (-1) = some x1:=rfl
theorem aL1:atI [x0,x1,x2] 0 = some x0:=rfl
theorem aJs:atI [x0,x1,x2] 1 = some x1:=rfl
theorem aLF:atI [x0,x1,x2] 2 = some x2:=rfl
theorem aKq:atI [x0,x1,x2] (-1) = some x2:=rfl
theorem aLw:atI [x0,x1,x2,x3] 0 = some x0:=rfl
theorem aKa:atI [x0,x1,x2,x3] 1 = some x1:=rfl
theorem aKz:atI [x0,x1,x2,x3] 2 = some x2:=rfl
theorem aJQ:atI [x0,x1,x2,x3] 3 = some x3:=rfl
theorem aKu:atI [x0,x1,x2,x3] (-1) = some x3:=rfl
theorem aLW:atI [x0,x1,x2,x3,x4] 0 = some x0:=rfl
theorem aLo:atI [x0,x1,x2,x3,x4] 1 = some x1:=rfl
theorem aKG:atI [x0,x1,x2,x3,x4] 2 = some x2:=rfl
theorem aLg:atI [x0,x1,x2,x3,x4] 3 = some x3:=rfl
theorem aJN:atI [x0,x1,x2,x3,x4] 4 = some x4:=rfl
theorem aJ8:atI [x0,x1,x2,x3,x4] (-1) = some x4:=rfl
theorem aLt:atI [x0,x1,x2,x3,x4,x5] 0 = some x0:=rfl
theorem aJ4:atI [x0,x1,x2,x3,x4,x5] 1 = some x1:=rfl
theorem aL6:atI [x0,x1,x2,x3,x4,x5] 2 = some x2:=rfl
theorem aJP:atI [x0,x1,x2,x3,x4,x5] 3 = some x3:=rfl
theorem aLT:atI [x0,x1,x2,x3,x4,x5] 4 = some x4:=rfl
theorem aLO:atI [x0,x1,x2,x3,x4,x5] 5 = some x5:=rfl
theorem aK5:atI [x0,x1,x2,x3,x4,x5] (-1) = some x5:=rfl
theorem aL3 {n:Nat} {t:DGs} {ρ:cL} {R:cL->DM->Prop}:gU n t (.tup ds) ρ M R = (ds.length = n/\t ds ρ M R):=rfl
theorem aKg {n:Nat} {t:DGs} {ρ:cL} {R:cL->DM->Prop}:gU n t (.ref a) ρ M R = (∃ ds,M a = some ds/\ds.length = n/\t ds ρ M R):=rfl
theorem cM {i j:Int}:dEq g (.int i) (.int j) M Q = Q (.bl (g (decide (i = j)))) M:=by
 show (bN 60 (.int i) = true/\bN 60 (.int j) = true/\Q (.bl (g (eqD (.int i) (.int j)))) M) = _
 have e:eqD (.int i) (.int j) = decide (i = j):=by show (i == j) = _;by_cases h:i = j<;>simp [h]
 rw [e]
 exact propext ⟨fun h=>h.2.2,fun h=>⟨rfl,rfl,h⟩⟩
theorem aL {x y:Str}:dEq g (.str x) (.str y) M Q = Q (.bl (g (decide (x = y)))) M:=by
 show (bN 60 (.str x) = true/\bN 60 (.str y) = true/\Q (.bl (g (eqD (.str x) (.str y)))) M) = _
 have e:eqD (.str x) (.str y) = decide (x = y):=by show (x == y) = _;by_cases h:x = y<;>simp [h]
 rw [e]
 exact propext ⟨fun h=>h.2.2,fun h=>⟨rfl,rfl,h⟩⟩
def isK (K:Frag) (c:Value) (d:D) (M:DM) (Q:DQ):Prop:=(∃ T k,tyD d = some T/\kitOne K (.type T) c = some k/\Q (.bl k) M) ∨ (∃ (p:Addr) (xs:List D) (k:Bool),d = .ref p/\M p = some xs/\kitOne K (.type "list") c = some k/\Q (.bl k) M)
theorem aLD {K:Frag} {c:Value} {te:DE} {ρ:cL}:dIs K c te ρ M Q = te ρ M fun d M1=>isK K c d M1 Q:=rfl
end
end Dd
namespace L2
open PySem PySem.Spec PyProof.Rows
noncomputable def clo (cells:List (Str × Addr)):List (Str × NameKind)->List (Str × Addr)->List (Str × Addr)
 | [],cs=>cs
 | (n,k) :: r,cs=>clo cells r (if k == .free then (n,(cells.lookup n).getD 0) :: cs else cs)
noncomputable def aBS (env:Env) (x:Str × NameKind) (r:List (Str × Addr)):Sem (ForInStep (List (Str × Addr))) :=
 if (x.2 == NameKind.free) = true then do let a <- cellOf env x.1;pure (ForInStep.yield ((x.1,a) :: r)) else pure (ForInStep.yield r)
theorem aBv {env:Env}:∀ (names:List (Str × NameKind)) (cs:List (Str × Addr)),(∀ y ∈ names,y.2 = .free->∃ c,env.cells.lookup y.1 = some c)->(forIn names cs (aBS env):Sem (List (Str × Addr))) = pure (clo env.cells names cs)
 | [],cs,_=>rfl
 | (n,k) :: r,cs,hh=>by
  rw [List.forIn_cons]
  have ih:=fun cs=>aBv (env:=env) r cs fun z hz=>hh z (mem_cons_of_mem _ hz)
  cases hk:k == NameKind.free with
  | true =>
   have hf:k = .free:=by simpa using hk
   obtain ⟨c,hc⟩:=hh (n,k) mem_cons_self hf
   have hc:env.cells.lookup n = some c:=hc
   have e:aBS env (n,k) cs = pure (ForInStep.yield ((n,c) :: cs)):=by
    unfold aBS
    rw [if_pos hk]
    show (cellOf env n >>= _) = _
    unfold cellOf
    rw [hc]
    rfl
   rw [e]
   refine Eq.trans (b:=(forIn r ((n,c) :: cs) (aBS env):Sem (List (Str × Addr)))) rfl ?_
   rw [ih]
   show _ = pure (clo env.cells r (if k == .free then (n,(env.cells.lookup n).getD 0) :: cs else cs))
   rw [hk,if_pos rfl,hc]
   rfl
  | false =>
   have e:aBS env (n,k) cs = pure (ForInStep.yield cs):=by
    unfold aBS
    rw [if_neg (by rw [hk];decide)]
   rw [e]
   refine Eq.trans (b:=(forIn r cs (aBS env):Sem (List (Str × Addr)))) rfl ?_
   rw [ih]
   show _ = pure (clo env.cells r (if k == .free then (n,(env.cells.lookup n).getD 0) :: cs else cs))
   rw [hk,if_neg (by decide)]
theorem vL {scope:Scope} {env:Env} (h:∀ y ∈ scope.names,y.2 = .free->∃ c,env.cells.lookup y.1 = some c):closureFor scope env = pure (clo env.cells scope.names []):=by
 have e:closureFor scope env = ((forIn scope.names [] (aBS env):Sem (List (Str × Addr))) >>= fun cs=>pure cs):=rfl
 rw [e,aBv _ _ h]
 rfl
theorem aDF {cells:List (Str × Addr)} {x:Str} {c:Addr}:∀ {names:List (Str × NameKind)} {cs:List (Str × Addr)},(∀ y ∈ names,y.2 = .free->∃ c,cells.lookup y.1 = some c)->(cs.lookup x = some c->cells.lookup x = some c)->(clo cells names cs).lookup x = some c->cells.lookup x = some c
 | [],cs,_,h,e=>h e
 | (n,k) :: r,cs,hh,h,e=>by
  unfold clo at e
  refine aDF (fun y hy=>hh y (mem_cons_of_mem _ hy)) (fun e2=>?_) e
  cases hk:k == NameKind.free with
  | false=>rw [hk,if_neg (by decide)] at e2;exact h e2
  | true =>
   rw [hk,if_pos rfl] at e2
   have hk':k = .free:=by simpa using hk
   obtain ⟨c',hc'⟩:=hh (n,k) mem_cons_self hk'
   have hc':cells.lookup n = some c':=hc'
   rw [lookup_cons] at e2
   cases hx:x == n with
   | true =>
    rw [hx] at e2
    have:x = n:=by simpa using hx
    subst this
    rw [hc'] at e2 ⊢
    exact e2
   | false=>rw [hx] at e2;exact h e2
theorem aA4 {cells:List (Str × Addr)} {x:Str}:∀ {names:List (Str × NameKind)} {cs:List (Str × Addr)},((x,NameKind.free) ∈ names ∨ ∃ c,cs.lookup x = some c)->∃ c,(clo cells names cs).lookup x = some c
 | [],cs,h=>by
  rcases h with h | h
  ·exact nomatch h
  ·exact h
 | (n,k) :: r,cs,h=>by
  unfold clo
  refine aA4 ?_
  have ins:∀ {v:Addr},(∃ c,cs.lookup x = some c)->∃ c,((n,v) :: cs).lookup x = some c:=fun {v} ⟨c,e⟩=>by
   rw [lookup_cons]
   cases x == n with
   | true=>exact ⟨_,rfl⟩
   | false=>exact ⟨c,e⟩
  rcases h with h | h
  ·rcases List.mem_cons.mp h with e | e
   ·cases e
    refine .inr ⟨_,by rw [if_pos (by rfl),lookup_cons,beq_self_eq_true]⟩
   ·exact .inl e
  ·cases hk:k == NameKind.free with
   | true=>rw [if_pos rfl];exact .inr (ins h)
   | false=>rw [if_neg (by decide)];exact .inr h
theorem vG {g:Str->NameKind->NameKind} {x:Str}:∀ {names:List (Str × NameKind)},(names.map fun p=>(p.1,g p.1 p.2)).lookup x = (names.lookup x).map (g x)
 | []=>rfl
 | (n,k) :: r=>by
  rw [map_cons,lookup_cons,lookup_cons]
  cases hx:x == n with
  | true =>
   have:x = n:=by simpa using hx
   subst this
   rfl
  | false=>exact vG
theorem oS {scope:Scope} {env:Env} {x:Str}:(relabel scope env).names.lookup x = (scope.names.lookup x).map fun k=>if (k == NameKind.free && env.scope.kind == .function && env.kindOf x == some .cell) = true then .cell else k:=by
 rw [<- vG (g:=fun x k=>if (k == NameKind.free && env.scope.kind == .function && env.kindOf x == some .cell) = true then .cell else k)]
 unfold relabel
 dsimp only
 congr 1
 refine List.map_congr_left fun p _=>?_
 obtain ⟨n,k⟩:=p
 dsimp only
 split<;>rfl
noncomputable abbrev Cx.blk (X:Cx) (N':List Str) (scope:Scope) (C:Addr) (s:Shared) (H:Hp) (fp:List Addr) (pins:List (Addr × Obj)):Cx :=
 { X with N:=N',s₀:=s,H₀:=H,env:=compEnvC scope (clo X.env.cells scope.names []) C X.env,outer:=X.stack,ex:=fp,fn:=fun _=>false,pn:=X.pn ++ pins,xe:=fun _ _=>False }
structure eT (X:Cx) (N':List Str) (fr:List (Option Nat)) (scope:Scope):Prop where
 kind:scope.kind = .function
 nocell:∀ y ∈ scope.names,y.2 ≠ .cell
 names:∀ y ∈ scope.names,y.2 = .local->scope.names.lookup y.1 = some .local
 free:∀ y ∈ scope.names,y.2 = .free->X.env.scope.names.lookup y.1 = some .cell
 len:fr.length = N'.length
 at':∀ (i j:Nat) (x:Str),N'[i]? = some x->fr[i]? = some (some j)->X.N[j]? = some x/\scope.names.lookup x = some .free
structure nB (oN:List Str) (osc:Scope) (N':List Str) (fr:List (Option Nat)) (scope:Scope):Prop where
 kind:scope.kind = .function
 nocell:∀ y ∈ scope.names,y.2 ≠ .cell
 names:∀ y ∈ scope.names,y.2 = .local->scope.names.lookup y.1 = some .local
 free:∀ y ∈ scope.names,y.2 = .free->osc.names.lookup y.1 = some .cell
 len:fr.length = N'.length
 at':∀ p ∈ N'.zip fr,∀ j ∈ p.2,oN[j]? = some p.1/\scope.names.lookup p.1 = some .free
theorem nB.scope {X:Cx} {oN:List Str} {osc:Scope} {N':List Str} {fr:List (Option Nat)} {scope:Scope} (B:nB oN osc N' fr scope) (hN:X.N = oN) (ho:X.env.scope = osc):eT X N' fr scope:=by
 subst hN ho
 refine ⟨B.kind,B.nocell,B.names,B.free,B.len,fun i j x h1 h2=>?_⟩
 have:(x,some j) ∈ N'.zip fr:=by
  refine mem_of_getElem? (i:=i) ?_
  rw [List.getElem?_zip_eq_some]
  exact ⟨h1,h2⟩
 exact B.at' _ this j rfl
noncomputable def oO (fr:List (Option Nat)) (σ:St):St:=fr.map fun o=>match o with
 | some j=>(σ[j]?).join
 | none=>none
section
variable {X:Cx} {pins:List (Addr × Obj)} {σ:St} {H:Hp} {s:Shared} {N':List Str} {fr:List (Option Nat)} {scope:Scope} {C:Addr} {fp:List Addr}
theorem eT.hasC (S:eT X N' fr scope) (ok:X.Ok):∀ y ∈ scope.names,y.2 = .free->∃ c,X.env.cells.lookup y.1 = some c:=fun y hy e=>ok.has y.1 (.inl (S.free y hy e))
theorem eT.sub (S:eT X N' fr scope) (ok:X.Ok) {x:Str} {c:Addr} (h:(clo X.env.cells scope.names []).lookup x = some c):X.env.cells.lookup x = some c:=aDF (S.hasC ok) (fun z=>by cases z) h
theorem aDm (S:eT X N' fr scope) (I:Inv X pins σ H s) {h':Heap} {m:Str->Option Value} (k:∀ x c v,(clo X.env.cells scope.names []).lookup x = some c->s.heap.IsCell c v->h'.IsCell c v) :
  ∀ (i:Nat) (x:Str) (v:V),N'[i]? = some x->(oO fr σ)[i]? = some (some v)->∃ u,cF v u/\aN2 (compEnvC scope (clo X.env.cells scope.names []) C X.env) h' m x u:=by
 intro i x v hx hv
 unfold oO at hv
 rw [getElem?_map] at hv
 cases hf:fr[i]? with
 | none=>rw [hf] at hv;cases hv
 | some o =>
  rw [hf] at hv
  cases o with
  | none=>cases hv
  | some j =>
   have hv:(σ[j]?).join = some v:=Option.some.inj hv
   obtain ⟨hN,hfree⟩:=S.at' i j x hx hf
   have hσ:σ[j]? = some (some v):=by
    cases e:σ[j]? with
    | none=>rw [e] at hv;cases hv
    | some o=>rw [e] at hv;rw [show o = some v from hv]
   have hmem:(x,NameKind.free) ∈ scope.names:=PySem.mem_of_lookup hfree
   have hcell:=S.free _ hmem rfl
   obtain ⟨mm,_,hl⟩:=I.loc
   obtain ⟨u,r,l⟩:=hl j x v hN hσ (.inr (.inl hcell))
   refine ⟨u,r,.inr ⟨.inl ?_,?_⟩⟩
   ·show (relabel scope X.env).names.lookup x = some .cell
    rw [oS,hfree]
    have h1:X.env.scope.kind = .function:=I.ok.kind
    have h2:X.env.kindOf x = some .cell:=hcell
    rw [h1,h2]
    rfl
   ·rcases l with ⟨k1,_⟩ | ⟨_,c,e,z⟩
    ·have:X.env.scope.names.lookup x = some .local:=k1
     rw [hcell] at this;cases this
    ·obtain ⟨c',e'⟩:=aA4 (cells:=X.env.cells) (x:=x) (names:=scope.names) (cs:=[]) (.inl hmem)
     have e2:=S.sub I.ok e'
     rw [e] at e2
     cases e2
     exact ⟨c,e',k x c _ e' z⟩
theorem aDB (S:eT X N' fr scope) (I:Inv X pins σ H s) (hf:∀ b ∈ fp,yH X pins H b) (ho:∀ b ∈ fp,∃ o,s.heap.get? b = some o) {s1:Shared} {m:Str->Option Value} (hos:s1.os = s.os) (hg:s1.gens = s.gens) (hC:s.heap.objs.size<=C) (k:∀ b o,s.heap.get? b = some o->s1.heap.get? b = some o) (hn:s1.heap.Ns C m) :
  Inv (X.blk N' scope C s H fp pins) [] (oO fr σ) H s1:=by
 have lt:∀ b o,s.heap.get? b = some o->b ≠ C:=fun b o e=>Nat.ne_of_lt (Nat.lt_of_lt_of_le (Heap.lt_size e) hC)
 have stk:∀ b,b ≠ X.env.locals->b ∉ X.fs->b ∉ frs X.stack:=fun b h1 h2 hb=>(List.mem_cons.mp (I.stkSub b hb)).elim h1 h2
 have cellK:∀ x c v,(clo X.env.cells scope.names []).lookup x = some c->s.heap.IsCell c v->s1.heap.IsCell c v:=fun x c v _ ⟨o,e,d⟩=>⟨o,k c o e,d⟩
 refine ⟨⟨I.ok.mod,S.kind,I.ok.glob,I.ok.blt,hC,fun x y c h1 h2=>I.ok.inj x y c (S.sub I.ok h1) (S.sub I.ok h2),fun x hx=>?_,(fun x c z=>by cases z),I.ok.hd,I.ok.frames,.inl rfl,fun b hb=>?_,I.bs,Nat.le_trans I.ok.bsz I.sz,fun b o e hb=>?_,fun b hb=>?_,I.stack,I.stkFree⟩,
  hos,by rw [hg];exact I.bare,Un.kept k,⟨m,hn,fun i x v h1 h2 _=>aDm S I cellK i x v h1 h2⟩,fun x c e=>?_,I.hok.fresh hC,fun x c e=>I.freeC x c (S.sub I.ok e),fun p hp=>?_,I.hok.kept k,?_⟩
 ·have hx:(relabel scope X.env).names.lookup x = some .cell ∨ (relabel scope X.env).names.lookup x = some .free:=hx
  rw [oS] at hx
  have hfree:(x,NameKind.free) ∈ scope.names:=by
   cases e:scope.names.lookup x with
   | none=>rw [e] at hx;rcases hx with z | z<;>cases z
   | some kk =>
    rw [e] at hx
    have hm:=PySem.mem_of_lookup e
    cases kk with
    | free=>exact hm
    | cell=>exact absurd rfl (S.nocell _ hm)
    | _=>rcases hx with z | z<;>cases z
  exact aA4 (.inl hfree)
 ·obtain ⟨o,e⟩:=ho b hb
  obtain ⟨_,_,_,_,f4,_⟩:=hf b hb
  exact ⟨lt b o e,fun x c z=>f4 x c (S.sub I.ok z)⟩
 ·obtain ⟨_,_,_,f3,_⟩:=hf b hb
  rcases f3 with z | z
  ·exact I.ok.noex b o e z
  ·exact absurd (Nat.lt_of_lt_of_le (Heap.lt_size e) (Nat.le_trans I.ok.bsz z)) (Nat.lt_irrefl _)
 ·obtain ⟨_,f1,f2,_⟩:=hf b hb
  exact stk b f1 f2
 ·obtain ⟨v,z⟩:=I.cell x c (S.sub I.ok e)
  exact ⟨v,cellK x c v e z⟩
 ·rw [append_nil] at hp
  obtain ⟨e,n,ne,nf,d⟩:=I.pin p hp
  exact ⟨k p.1 p.2 e,n,lt p.1 p.2 e,stk p.1 ne nf,d⟩
 ·unfold oO
  rw [length_map]
  exact S.len
theorem tV (S:eT X N' fr scope) {s1:Shared} {H1:Hp} {σ1:St} {pl:List (Addr × Obj)} (I:Inv X pins σ H s) (J:Inv (X.blk N' scope C s H fp pins) pl σ1 H1 s1):Inv (X.blk N' scope C s H fp pins) pl (oO fr σ) H1 s1:=by
 obtain ⟨m,hn,_⟩:=id J.loc
 refine ⟨J.ok,J.os,J.bare,J.base,⟨m,hn,fun i x v h1 h2 _=>aDm S I (fun x c v e z=>?_) i x v h1 h2⟩,J.cell,J.free,J.freeC,J.pin,J.hok,?_⟩
 ·obtain ⟨o,eo,d⟩:=z
  have e':=S.sub I.ok e
  have hfree:=I.freeC x c e'
  have nex:c ∉ fp:=fun hb=>(J.ok.exf c hb).2 x c e rfl
  by_cases hfs:c ∈ frs X.stack
  ·obtain ⟨sl,q⟩:=J.base.slot c o eo hfree hfs nex
   exact ⟨_,q,d⟩
  ·exact ⟨o,J.base.keep c o eo hfree hfs nex,d⟩
 ·unfold oO
  rw [length_map]
  exact S.len
end
section
variable {prog:Program} {w:World} {A:Around} {R:Result->Shared->Prop} {s:Shared}
theorem pC {elt target iter:Expr} {scope:Scope} {pos:Pos} {it acc:Value} {env:Env} (I:Nat->Shared->Prop)
  (turn:∀ n s,I n s->wpAny (model prog w) A (pyNext it) (fun r s₁=>match r with
   | none=>R (.ok .next) s₁
   | some v=>wpAny (model prog w) A (letOwnedTupleGo target it v) (fun _ s₁'=>wpAny (model prog w) A (assign target env v) (fun _ s₂=>wpAny (model prog w) A (eval elt env) (fun x s₃ =>
     wpAny (model prog w) A (call (.builtin "list.append") [acc,x]) (fun _ s₄=>∃ m,m < n/\I m s₄) (fun _ _=>False) s₃)
     (fun _ _=>False) s₂) (fun _ _=>False) s₁') (fun _ _=>False) s₁) (fun _ _=>False) s)
  (n:Nat) (h:I n s):codeAny (model prog w) A (.compLoop (.ListComp elt [⟨target,iter,[],0⟩] scope pos) 0 it acc env) R s:=by
 refine codeAny_loop rfl I (fun n s hI=>?_) n h
 show wpAny _ _ ((compTurn (.ListComp elt [⟨target,iter,[],0⟩] scope pos) 0 it acc env).onRaise (fun x=>do noteFrame x env;theTreesLotGoes x)) _ _ s
 refine wpAny_noted ?_
 rw [compTurn_list1]
 refine wpAny_bind (wpAny_standAt (wpAny_bind (wpAny_mono (turn n s hI) (fun r s₁ h₁=>?_) fun _ _ h'=>h'.elim)))
 cases r with
 | none=>exact wpAny_pure h₁
 | some v =>
  exact wpAny_bind (wpAny_mono h₁ (fun _ s₁' h₁'=>wpAny_bind (wpAny_mono h₁' (fun _ s₂ h₂=>wpAny_bind (wpAny_bind (wpAny_mono h₂ (fun x s₃ h₃=>wpAny_bind (wpAny_mono h₃
   (fun _ s₄ h₄=>wpAny_pure (wpAny_pure ⟨rfl,h₄⟩)) fun _ _ h'=>h'.elim)) fun _ _ h'=>h'.elim))) fun _ _ h'=>h'.elim)) fun _ _ h'=>h'.elim)
end
theorem Inv.track {X:Cx} {pins:List (Addr × Obj)} {σ:St} {H:Hp} {s:Shared} {d:Addr} {ys:List V} (I:Inv X pins σ H s) (hn:H d = none) (hs:X.s₀.heap.objs.size<=d) (hL:d ≠ X.env.locals) (hc:∀ x c,X.env.cells.lookup x = some c->c ≠ d) (hp:∀ p ∈ X.pn ++ pins,p.1 ≠ d) (new:gB X.prog X.w (upd H d (.lst ys)) s.heap d (.lst ys)):Inv X pins σ (upd H d (.lst ys)) s:=by
 have ne0:∀ b o,X.s₀.heap.get? b = some o->b ≠ d:=fun b o e=>Nat.ne_of_lt (Nat.lt_of_lt_of_le (Heap.lt_size e) hs)
 refine ⟨I.ok,I.os,I.bare,⟨I.base.keep,I.base.slot,fun b o e n hx=>?_,I.base.there,fun b xs e=>?_,fun b o u e=>?_,fun b ps e=>?_⟩,I.loc,I.cell,?_,fun x c e=>?_,fun p hpp=>?_,fun b u e=>?_,I.len⟩
 ·rw [bR (ne0 b o e)];exact I.base.free b o e n hx
 ·have:=I.base.tups b xs e
  rw [bR (bU this hn)];exact this
 ·have:=I.base.frzs b o u e
  rw [bR (bU this hn)];exact this
 ·obtain ⟨more,q⟩:=I.base.tbls b ps e
  exact ⟨more,by rw [bR (bU q hn)];exact q⟩
 ·rw [bR (Ne.symm hL)];exact I.free
 ·rw [bR (hc x c e)];exact I.freeC x c e
 ·obtain ⟨e,n,r⟩:=I.pin p hpp
  exact ⟨e,by rw [bR (hp p hpp)];exact n,r⟩
 ·by_cases hb:b = d
  ·subst hb;rw [dB] at e;cases e;exact new
  ·rw [bR hb] at e
   exact (I.hok b u e).stay (fun c v _ q=>q) (fun c q=>by rw [bR (bU q hn)];exact q) fun c xs q=>by rw [bR (bU q hn)];exact q
def tLc (wi:TI) (fr:List (Option Nat)) (g:TG) (te:TE):TE:=fun σ H Q=>wi σ H fun J H1=>∃ W:Nat->Nat->List V->Hp->Prop,(∃ m,W 0 m [] H1)/\∀ i m ys H,W i m ys H ->
 (J.stop i H/\ys.length<=sizeLine/\∀ p,H p = none->Q (.ref p) (upd H p (.lst ys))) ∨
 (J.go i H/\ys.length<=sizeLine/\∀ x H',J.yld i H x H'->g x (oO fr σ) H' fun σ2 H2=>te σ2 H2 fun y H3=>∃ m',m' < m/\W (i + 1) m' (ys ++ [y]) H3)
structure CF (X:Cx) (pins:List (Addr × Obj)) (H:Hp) (C:Addr):Prop where
 none:H C = none
 loc:C ≠ X.env.locals
 sz:X.s₀.heap.objs.size<=C
 cel:∀ x c,X.env.cells.lookup x = some c->c ≠ C
 pin:∀ p ∈ X.pn ++ pins,p.1 ≠ C
theorem aDR {X:Cx} {elt iter tg:Expr} {scope:Scope} {pos pos2:Pos} {N':List Str} {fr:List (Option Nat)} {wi:TI} {g:TG} {te:TE} (S:eT X N' fr scope) (hc:X.calm = true) (hi:PI X tg iter wi)
  (hg:∀ C s H fp pins,PG (X.blk N' scope C s H fp pins) tg g) (he:∀ C s H fp pins,PE (X.blk N' scope C s H fp pins) elt te) (hs:∀ x,foldedSetIterable iter X.env x = pure x)
  {pins:List (Addr × Obj)} {s:Shared} {σ:St} {H:Hp} {Q:VK} (I:Inv X pins σ H s) (h:tLc wi fr g te σ H Q) (use:Option (Value->Sem Unit)) (Post:Value->Shared->Prop)
  (fin:∀ D C H' s4 m,Inv X pins σ H' s4->s4.heap.Ns C m->CF X pins H' C->Q (.ref D) H'->compPost (model X.prog X.w) X.A X.xe use Post (.ref D) C (.ok .next) s4) :
  wpAny (model X.prog X.w) X.A (comprehension (.ListComp elt [⟨tg,iter,[],0⟩] scope pos) scope X.env pos2 (newList []) false (eval iter X.env) use) Post X.xe s:=by
 refine wpAny_comprehension_free (use:=use) rfl hs (vL (S.hasC I.ok)) S.kind S.names ?_
 show wpAny _ _ (eval iter X.env) _ _ s
 refine thn (hi pins s σ H _ I h) fun v s1 h1=>thn h1 fun itv s2 h2=>?_
 obtain ⟨it,fp,tn,J,H2,e,I2,T,st2,f2,W,⟨m0,w0⟩,turn⟩:=h2
 subst e
 refine wpAny_newObj_type (wpAny_newFunctionEnv S.nocell (by intro y hy;simp at hy) (fun h₁ hns₁ hsb₁=>?_) S.kind)
 dsimp only at hns₁ hsb₁ ⊢
 generalize hHp:s2.heap.push { cls:=.type "list",dict:=none,data:=.seq ([]:List Value).toArray } = HP at hns₁ hsb₁ ⊢
 have hC:HP.objs.size = s2.heap.objs.size + 1:=by rw [<- hHp,Heap.size_push]
 generalize hCe:HP.objs.size = C at hns₁ hsb₁ ⊢
 generalize hDe:s2.heap.objs.size = D at hC ⊢
 have hDC:D ≠ C:=by omega
 have hCle:s2.heap.objs.size<=C:=by omega
 have old:∀ b o,s2.heap.get? b = some o->h₁.get? b = some o:=fun b o e=>hsb₁.extBut b o (Nat.ne_of_lt (Nat.lt_of_lt_of_le (Heap.lt_size e) hCle)) (Heap.get?_push_of_some _ (hHp ▸ Heap.get?_push_of_some _ e))
 have hD1:h₁.PlainList D #[]:=⟨_,by
  refine hsb₁.extBut _ _ hDC (Heap.get?_push_of_some _ ?_)
  rw [<- hHp,<- hDe]
  exact Heap.get?_push_size _ rfl⟩
 have ltf:∀ b ∈ fp,b < D:=fun b hb=>by
  obtain ⟨o,e,_⟩:=T.obj _ _ st2 b hb
  exact Nat.lt_of_lt_of_eq (Heap.lt_size e) hDe
 have J0:=aDB (s1:={ s2 with heap:=h₁,toks:=s2.toks + ([]:List (Str × Value)).length }) S I2 f2 (fun b hb=>let ⟨o,e,_⟩:=T.obj _ _ st2 b hb;⟨o,e⟩) rfl rfl hCle old hns₁
 have ltC:∀ b,b < D->b ≠ C:=fun b hb=>Nat.ne_of_lt (Nat.lt_of_lt_of_le hb (by rw [<- hDe];exact hCle))
 have old2:∀ b o,s2.heap.get? b = some o->b < D:=fun b o e=>Nat.lt_of_lt_of_eq (Heap.lt_size e) hDe
 have neD:∀ b o,s2.heap.get? b = some o->b ≠ D:=fun b o e=>Nat.ne_of_lt (old2 b o e)
 have hDs:s2.heap.objs.size<=D:=Nat.le_of_eq hDe
 have hDfs:D ∉ frs X.stack:=fun hb=>by
  rcases List.mem_cons.mp (I2.stkSub D hb) with z | z
  ·have:=I2.lt
   rw [<- z] at this
   exact absurd (Nat.lt_of_lt_of_le this hDs) (Nat.lt_irrefl _)
  ·exact I2.nofs hDs z
 have cellD:∀ x c,X.env.cells.lookup x = some c->c ≠ D/\c ≠ C:=fun x c e=>by
  obtain ⟨v,o,ho,_⟩:=I2.cell x c e
  exact ⟨neD c o ho,ltC c (old2 c o ho)⟩
 have pinD:∀ p ∈ X.pn ++ pins,p.1 ≠ D/\p.1 ≠ C:=fun p hp=>by
  have e:=(I2.pin p hp).1
  exact ⟨neD _ _ e,ltC _ (old2 _ _ e)⟩
 have fpok:∀ (pl:List (Addr × Obj)) (H':Hp),(∀ b ∈ fp,H' b = none)->(∀ p ∈ pl,∀ b ∈ fp,p.1 ≠ b)->∀ b ∈ fp,yH (X.blk N' scope C s2 H2 fp pins) pl H' b:=fun pl H' hn hpl b hb=>by
  refine ⟨hn b hb,ltC b (ltf b hb),J0.ok.exfs b hb,.inl hb,(J0.ok.exf b hb).2,fun p hp=>?_⟩
  rcases List.mem_append.mp hp with z | z
  ·exact (f2 b hb).2.2.2.2.2 p z
  ·exact hpl p z b hb
 have loop:codeAny (model X.prog X.w) X.A (.compLoop (.ListComp elt [⟨tg,iter,[],0⟩] scope pos) 0 (.ref it) (.ref D) (compEnvC scope (clo X.env.cells scope.names []) C X.env))
   (compPost (model X.prog X.w) X.A X.xe use Post (.ref D) C) { s2 with heap:=h₁,toks:=s2.toks + ([]:List (Str × Value)).length }:=by
  refine pC (fun n s'=>∃ i H' ys its,Inv (X.blk N' scope C s2 H2 fp pins) [] (oO fr σ) H' s'/\tn i s'.heap/\(∀ b ∈ fp,H' b = none)/\s'.heap.PlainList D its/\H' D = none/\bS ys its.toList/\W i n ys H') ?_ m0
   ⟨0,H2,[],#[],J0,T.keep _ _ _ st2 fun b hb o e=>old b o e,fun b hb=>(f2 b hb).1,hD1,I2.hok.fresh hDs,.nil,w0⟩
  rintro n s3 ⟨i,H3,ys,its,I3,st3,fr3,⟨nn,pl3⟩,hD3,rv3,w3⟩
  have I3p:Inv (X.blk N' scope C s2 H2 fp pins) [(D,{ cls:=.type "list",data:=.seq its nn })] (oO fr σ) H3 s3:=I3.pins_of fun p hp=>by
   have e:=List.mem_singleton.mp hp
   subst e
   exact ⟨pl3,hD3,hDC,hDfs,fun v z=>by cases z⟩
  have pf:∀ p ∈ [((D,{ cls:=.type "list",data:=.seq its nn }):Addr × Obj)],∀ b ∈ fp,p.1 ≠ b:=fun p hp b hb=>by
   have e:=List.mem_singleton.mp hp
   subst e
   exact (Nat.ne_of_lt (ltf b hb)).symm
  rcases turn i n ys H3 w3 with ⟨stop,hz,q⟩ | ⟨go,hz,step⟩
  ·refine thn (T.done (X.blk N' scope C s2 H2 fp pins) rfl rfl rfl hc i _ s3 _ H3 (fun _ _=>False) I3p (fpok _ H3 fr3 pf) st3 stop) fun r s4 ⟨hr,I4⟩=>?_
   subst hr
   obtain ⟨mm,hn4,_⟩:=id I4.loc
   have pD:=(I4.pin _ (mem_append_right _ mem_cons_self)).1
   have IX:Inv X pins σ H3 s4:=I2.call' I4.os I4.base I4.hok I4.bare fun b hb=>⟨(f2 b hb).2.2.2.1,(f2 b hb).2.1,(f2 b hb).2.2.2.2.1,(f2 b hb).2.2.2.2.2⟩
   have CL:C ≠ X.env.locals:=(Nat.ne_of_lt (Nat.lt_of_lt_of_le I2.lt hCle)).symm
   have DL:D ≠ X.env.locals:=(Nat.ne_of_lt (Nat.lt_of_lt_of_le I2.lt hDs)).symm
   refine fin D C (upd H3 D (.lst ys)) s4 mm (IX.track hD3 (Nat.le_trans I2.sz hDs) DL (fun x c e=>(cellD x c e).1) (fun p hp=>(pinD p hp).1) ⟨hz,its.toList,nn,rv3,pD⟩) hn4 ⟨by rw [bR (Ne.symm hDC)];exact I4.free,CL,Nat.le_trans I2.sz hCle,fun x c e=>(cellD x c e).2,fun p hp=>(pinD p hp).2⟩ (q D hD3)
  ·refine thn (T.item (X.blk N' scope C s2 H2 fp pins) rfl rfl rfl hc i _ s3 _ H3 (fun _ _=>False) I3p (fpok _ H3 fr3 pf) st3 go) fun r s4 ⟨u,hr,h4⟩=>?_
   subst hr
   refine thn h4 fun _ s5 ⟨x,H5,I5,r5,y5,st5,fr5⟩=>?_
   have I5':=I5.pinned (fpok _ H5 fr5 pf) (T.obj _ _ st5)
   refine thn (hg C s2 H2 fp pins _ s5 _ H5 x u _ I5' r5 (step x H5 y5)) fun _ s6 ⟨σ6,H6,I6,q6⟩=>?_
   refine thn (he C s2 H2 fp pins _ s6 σ6 H6 _ I6 q6) fun yv s7 ⟨y,H7,I7,ry,m',hm,w7⟩=>?_
   obtain ⟨pD,nD,_⟩:=I7.pin _ (mem_append_right _ (mem_append_left _ mem_cons_self))
   have lz:its.size<=sizeLine:=by
    have e:ys.length = its.size:=by rw [rv3.length];simp
    rw [<- e];exact hz
   refine wpAny_list_append_plain (hsz:=lz) ⟨nn,pD⟩ fun h8 pl8 sb8=>?_
   have I7a:Inv (X.blk N' scope C s2 H2 fp pins) [] σ6 H7 s7:=I7.pins_of fun p hp=>nomatch hp
   have I8:Inv (X.blk N' scope C s2 H2 fp pins) [] σ6 H7 { s7 with heap:=h8,toks:=s7.toks }:=I7a.turned (it:=D) (fun b o hb e=>sb8.extBut b o hb e) nD hDC (.inr hDs) (fun x c e=>(cellD x c (S.sub I2.ok e)).1) fun p hp=>by
    rw [append_nil] at hp
    exact (pinD p hp).1
   refine ⟨m',hm,i + 1,H7,ys ++ [y],its.push yv,tV S I2 I8,?_,fun b hb=>?_,pl8,nD,?_,w7⟩
   ·refine T.keep _ _ _ st5 fun b hb o e=>sb8.extBut b o (Nat.ne_of_lt (ltf b hb)) (I7.pin (b,o) (mem_append_right _ (mem_append_right _ (gF hb e)))).1
   ·obtain ⟨o,e,d⟩:=T.obj _ _ st5 b hb
    exact (I7.pin (b,o) (mem_append_right _ (mem_append_right _ (gF hb e)))).2.1
   ·rw [Array.toList_push]
    exact rv3.append (.cons ry .nil)
 exact codeAny_compStart_list loop (T.self _ _ _ _ _ (T.keep _ _ _ st2 fun b hb o e=>old b o e) loop)
theorem aJl {X:Cx} {elt iter tg:Expr} {scope:Scope} {pos:Pos} {N':List Str} {fr:List (Option Nat)} {wi:TI} {g:TG} {te:TE} (S:eT X N' fr scope) (hc:X.calm = true) (hi:PI X tg iter wi)
  (hg:∀ C s H fp pins,PG (X.blk N' scope C s H fp pins) tg g) (he:∀ C s H fp pins,PE (X.blk N' scope C s H fp pins) elt te) (hs:∀ x,foldedSetIterable iter X.env x = pure x:=by intro _;rfl) :
  PE X (.ListComp elt [⟨tg,iter,[],0⟩] scope pos) (tLc wi fr g te):=by
 intro pins s σ H Q I h
 rw [eval_ListComp]
 refine aDR S hc hi hg he hs I h none (EP X pins σ Q) fun D C H' s4 m J hn F q=>⟨m,hn,fun h' sb=>?_⟩
 exact ⟨.ref D,H',J.turned (t':=s4.toks) (it:=C) (fun b o hb e=>sb.extBut b o hb e) F.none F.loc (.inr F.sz) F.cel F.pin,rfl,q⟩
theorem aFy {X:Cx} {elt iter tg:Expr} {scope:Scope} {pos spos py:Pos} {N':List Str} {fr:List (Option Nat)} {wi:TI} {g:TG} {te:TE} {i:Nat} {y:Str} (S:eT X N' fr scope) (hc:X.calm = true) (hN:X.N.Nodup) (hi:PI X tg iter wi)
  (hg:∀ C s H fp pins,PG (X.blk N' scope C s H fp pins) tg g) (he:∀ C s H fp pins,PE (X.blk N' scope C s H fp pins) elt te) (hy:X.N[i]? = some y) (hx:Loc X.env.scope y)
  (hsw:swapsWith (.ListComp elt [⟨tg,iter,[],0⟩] scope pos) (some (.Name y py)) spos.line X.env = pure true) (hf:X.fn y = true ∨ X.env.scope.names.lookup y = some .local) (hs:∀ x,foldedSetIterable iter X.env x = pure x) :
  PS X (.Assign [.Name y py] (.ListComp elt [⟨tg,iter,[],0⟩] scope pos) spos) (fun D σ H=>tLc wi fr g te σ H fun v H'=>D.nx (σ.set i (some v)) H'):=by
 intro pins s σ H D I h
 rw [exec_Assign_Name_used _ _ _ _ hsw]
 refine wpAny_bind (wpAny_standAt (wpAny_bind ?_))
 show wpAny _ X.A (do let _ <- comprehension (.ListComp elt [⟨tg,iter,[],0⟩] scope pos) scope X.env _ (newList []) false (eval iter X.env) (some (assign (.Name y py) X.env))) _ _ s
 refine wpAny_bind (wpAny_mono (aDR S hc hi hg he hs I h (some (assign (.Name y py) X.env)) (fun _ s'=>SP X pins D .next s') fun D' C H' s4 m J hn F q=>?_) (fun _ s' hq=>wpAny_pure (wpAny_pure hq)) fun _ _ e=>e)
 show wpAny _ X.A (assign (.Name y py) X.env (.ref D')) _ _ s4
 refine wpAny_assign_Name (qJ J hN hy hx (v:=.ref D') rfl (fun s5 I5 ⟨a,sb,ha⟩=>?_) hf)
 have hCa:C ≠ a:=by
  rcases ha with rfl | ha
  ·exact F.loc
  ·exact (F.cel y a ha).symm
 refine ⟨m,hn.sameBut sb hCa,fun h' sb'=>?_⟩
 exact ⟨_,H',I5.turned (t':=s5.toks) (it:=C) (fun b o hb e=>sb'.extBut b o hb e) F.none F.loc (.inr F.sz) F.cel F.pin,q⟩
end L2
namespace Dd
open PySem PySem.Spec PyProof.Rows L2
noncomputable def qR (fr:List (Option Nat)) (ρ:cL):cL:=fr.map fun o=>match o with
 | some j=>(ρ[j]?).join
 | none=>none
section
variable {K:Frag} {H:Hp} {ρ:cL} {σ:L2.St}
theorem wT (re:fH K H ρ σ) (fr:List (Option Nat)):fH K H (qR fr ρ) (oO fr σ):=by
 refine ⟨by unfold qR oO;rw [length_map,length_map],fun i d e=>?_⟩
 unfold qR at e
 unfold oO
 rw [getElem?_map] at e ⊢
 cases hf:fr[i]? with
 | none=>rw [hf] at e;cases e
 | some o =>
  rw [hf] at e
  cases o with
  | none=>cases e
  | some j =>
   have e:(ρ[j]?).join = some d:=Option.some.inj e
   have e2:ρ[j]? = some (some d):=by
    cases h:ρ[j]? with
    | none=>rw [h] at e;cases e
    | some o=>rw [h] at e;rw [show o = some d from e]
   obtain ⟨v,hv,r⟩:=re.get j d e2
   refine ⟨v,?_,r⟩
   show some (σ[j]?).join = some (some v)
   rw [hv]
   rfl
end
def aA9 (at':Option Addr) (ds:List D) (ρ0:cL) (g:DG) (te:DE) (M:DM) (Q:DQ):Prop:=ds.length<=1000/\∃ Pv:Nat->List D->DM->Prop,Pv 0 [] M /\
 (∀ i ys M,i<=ds.length->Pv i ys M->∀ a,at' = some a->M a = some ds) /\
 (∀ i d ys M,ds[i]? = some d->Pv i ys M->g d ρ0 M fun ρ2 M2=>te ρ2 M2 fun y M3=>Pv (i + 1) (ys ++ [y]) M3) /\
 ∀ ys M,ys.length = ds.length->Pv ds.length ys M->∀ p:Addr,M p = none->Q (.ref p) (bG M p ys)
def aFX (lo:Int) (n:Nat) (ρ0:cL) (g:DG) (te:DE) (M:DM) (Q:DQ):Prop:=n<=1000/\∃ Pv:Nat->List D->DM->Prop,Pv 0 [] M /\
 (∀ (i:Nat) ys M,i < n->Pv i ys M->g (.int (lo + i)) ρ0 M fun ρ2 M2=>te ρ2 M2 fun y M3=>Pv (i + 1) (ys ++ [y]) M3) /\
 ∀ ys M,ys.length = n->Pv n ys M->∀ p:Addr,M p = none->Q (.ref p) (bG M p ys)
def aKb (tl:DE) (fr:List (Option Nat)) (g:DG) (te:DE):DE:=fun ρ M Q=>tl ρ M fun d M1=>match d with
 | .fz ds=>aA9 none ds (qR fr ρ) g te M1 Q
 | .ref a=>∃ ds,M1 a = some ds/\aA9 (some a) ds (qR fr ρ) g te M1 Q
 | _=>False
def aKI (tl:DE) (fr:List (Option Nat)) (g:DG) (te:DE):DE:=fun ρ M Q=>tl ρ M fun d M1=>match d with
 | .tup ds=>aA9 none ds (qR fr ρ) g te M1 Q
 | _=>False
def aJt (ta:DA) (fr:List (Option Nat)) (g:DG) (te:DE):DE:=fun ρ M Q=>ta ρ M fun ds M1=>match ds with
 | [.int j]=>(-(2 ^ 62)<=j/\j < 2 ^ 62)/\aFX 0 j.toNat (qR fr ρ) g te M1 Q
 | _=>False
section
variable {X:Cx} {g:DG} {te:DE}
theorem aDb {K:Frag} {a':Option Addr} {ds:List D} {fr:List (Option Nat)} {σ:L2.St} {ρ:cL} {M:DM} {H0 H:Hp} {J:It} {Q:VK} {Q':DQ} (ex0:Ext H0 H) (re:fH K H ρ σ) (hm:bV K M H) (h:aA9 a' ds (qR fr ρ) g te M Q') (kq:∀ v H',LQ K H0 Q' v H'->Q v H')
  (seq:∀ H',Ext H H'->(∀ M',bV K M' H'->(∀ a,a' = some a->M' a = some ds)->∃ xs,bT K H' ds xs/\(∀ i,xs.length<=i->J.stop i H')/\(∀ i,i < xs.length->J.go i H')/\∀ i x H2,J.yld i H' x H2->H2 = H'/\xs[i]? = some x)) :
  ∃ W:Nat->Nat->List V->Hp->Prop,(∃ m,W 0 m [] H)/\∀ i m ys H,W i m ys H ->
   (J.stop i H/\ys.length<=sizeLine/\∀ p,H p = none->Q (.ref p) (upd H p (.lst ys))) ∨
   (J.go i H/\ys.length<=sizeLine/\∀ x H',J.yld i H x H'->vS K g x (oO fr σ) H' fun σ2 H2=>low K te σ2 H2 fun y H3=>∃ m',m' < m/\W (i + 1) m' (ys ++ [y]) H3):=by
 obtain ⟨hl,Pv,p0,hat,step,done⟩:=h
 refine ⟨fun i m ysV H'=>∃ ys M',bT K H' ys ysV/\bV K M' H'/\Ext H H'/\m = ds.length - i/\i<=ds.length/\ys.length = i/\Pv i ys M',⟨ds.length,[],M,cG,hm,.refl H,rfl,Nat.zero_le _,rfl,p0⟩,?_⟩
 rintro i m ysV H1 ⟨ys,M1,ry,hm1,e1,rfl,hi,ly,w1⟩
 obtain ⟨xs,rs,hst,hgo,hy⟩:=seq H1 e1 M1 hm1 (hat i ys M1 hi w1)
 have hll:=rs.length
 have lz:ysV.length<=sizeLine:=by rw [<- ry.length];exact Nat.le_of_lt (eK (by omega))
 by_cases hlt:i < ds.length
 ·refine .inr ⟨hgo i (by omega),lz,fun x H' y=>?_⟩
  obtain ⟨rfl,hx⟩:=hy i x H' y
  obtain ⟨d,hd,rd⟩:=rs.getV hx
  refine ⟨d,qR fr ρ,M1,_,rd,wT (re.ext e1) fr,hm1,step i d ys M1 hd w1,fun σ2 H2 ⟨ρ2,M2,re2,hm2,e2,q2⟩=>?_⟩
  refine ⟨ρ2,M2,_,re2,hm2,q2,fun v H3 ⟨dy,M3,rdy,hm3,e3,q3⟩=>?_⟩
  exact ⟨ds.length - (i + 1),by omega,ys ++ [dy],M3,(ry.ext (e2.trans e3)).append (bH rdy cG),hm3,(e1.trans e2).trans e3,rfl,hlt,by rw [length_append,ly];rfl,q3⟩
 ·have e:i = ds.length:=by omega
  subst e
  exact .inl ⟨hst _ (by omega),lz,fun p hp=>kq _ _ ⟨.ref p,_,eS,hm1.lnew hp ry,(ex0.trans e1).trans (Ext.new hp _),done ys M1 ly w1 p (hm1.fresh hp)⟩⟩
theorem aHx {K:Frag} {lo:Int} {n:Nat} {fr:List (Option Nat)} {σ:L2.St} {ρ:cL} {M:DM} {H0 H:Hp} {Q:VK} {Q':DQ} (ex0:Ext H0 H) (re:fH K H ρ σ) (hm:bV K M H) (h:aFX lo n (qR fr ρ) g te M Q') (kq:∀ v H',LQ K H0 Q' v H'->Q v H') :
  ∃ W:Nat->Nat->List V->Hp->Prop,(∃ m,W 0 m [] H)/\∀ i m ys H,W i m ys H ->
   ((Itr lo n).stop i H/\ys.length<=sizeLine/\∀ p,H p = none->Q (.ref p) (upd H p (.lst ys))) ∨
   ((Itr lo n).go i H/\ys.length<=sizeLine/\∀ x H',(Itr lo n).yld i H x H'->vS K g x (oO fr σ) H' fun σ2 H2=>low K te σ2 H2 fun y H3=>∃ m',m' < m/\W (i + 1) m' (ys ++ [y]) H3):=by
 obtain ⟨hl,Pv,p0,step,done⟩:=h
 refine ⟨fun i m ysV H'=>∃ ys M',bT K H' ys ysV/\bV K M' H'/\Ext H H'/\m = n - i/\i<=n/\ys.length = i/\Pv i ys M',⟨n,[],M,cG,hm,.refl H,rfl,Nat.zero_le _,rfl,p0⟩,?_⟩
 rintro i m ysV H1 ⟨ys,M1,ry,hm1,e1,rfl,hi,ly,w1⟩
 have lz:ysV.length<=sizeLine:=by rw [<- ry.length];exact Nat.le_of_lt (eK (by omega))
 by_cases hlt:i < n
 ·refine .inr ⟨hlt,lz,fun x H' y=>?_⟩
  obtain ⟨rfl,rfl⟩:=y
  refine ⟨_,qR fr ρ,M1,_,bO,wT (re.ext e1) fr,hm1,step i ys M1 hlt w1,fun σ2 H2 ⟨ρ2,M2,re2,hm2,e2,q2⟩=>?_⟩
  refine ⟨ρ2,M2,_,re2,hm2,q2,fun v H3 ⟨dy,M3,rdy,hm3,e3,q3⟩=>?_⟩
  exact ⟨n - (i + 1),by omega,ys ++ [dy],M3,(ry.ext (e2.trans e3)).append (bH rdy cG),hm3,(e1.trans e2).trans e3,rfl,hlt,by rw [length_append,ly];rfl,q3⟩
 ·have e:i = n:=by omega
  subst e
  exact .inl ⟨Nat.le_refl _,lz,fun p hp=>kq _ _ ⟨.ref p,_,eS,hm1.lnew hp ry,(ex0.trans e1).trans (Ext.new hp _),done ys M1 ly w1 p (hm1.fresh hp)⟩⟩
variable {elt iter tg:Expr} {scope:Scope} {pos:Pos} {N':List Str} {fr:List (Option Nat)} {tl:DE} {ta:DA} {oN:List Str} {osc:Scope}
theorem aLH (B:nB oN osc N' fr scope) (hc:X.calm = true) (hi:PDE X iter tl) (hg:∀ C s H fp pins,PG (X.blk N' scope C s H fp pins) tg (vS X.K g)) (he:∀ C s H fp pins,PE (X.blk N' scope C s H fp pins) elt (low X.K te)) (hN:X.N = oN:=by rfl) (ho:X.env.scope = osc:=by rfl) (hs:∀ x,foldedSetIterable iter X.env x = pure x:=by intro _;rfl) :
  PDE X (.ListComp elt [⟨tg,iter,[],0⟩] scope pos) (aKI tl fr g te) :=
 bW (aJl (B.scope hN ho) hc (aCF hi) hg he hs) fun σ H Q ⟨ρ,M,Q',re,hm,q,k⟩=>⟨ρ,M,_,re,hm,q,fun v H1 ⟨d,M1,rd,hm1,ex,q1⟩=>by
  cases d with
  | tup ds =>
   obtain ⟨a,xs,rfl,sq,rs⟩:=cE rd
   exact ⟨a,rfl,⟨xs,sq⟩,aDb ex (re.ext ex) hm1 q1 k fun H' e' M' hm' _=>⟨xs,rs.ext e',fun i hi=>⟨xs,jM e' sq,hi⟩,fun i hi=>⟨xs,xs[i],jM e' sq,by simp [hi]⟩,fun i x H2 y=>⟨y.1,y.2 xs (jM e' sq)⟩⟩⟩
  | _=>exact q1.elim⟩
theorem aLI {a:Expr} {p pos':Pos} (B:nB oN osc N' fr scope) (hc:X.calm = true) (hmg:X.mg "range" = none) (ha:PDA X [a] ta) (hg:∀ C s H fp pins,PG (X.blk N' scope C s H fp pins) tg (vS X.K g)) (he:∀ C s H fp pins,PE (X.blk N' scope C s H fp pins) elt (low X.K te)) (hN:X.N = oN:=by rfl) (ho:X.env.scope = osc:=by rfl) (hgl:Gl X "range":=by rfl) (hse:starEach [a] X.env = [(false,eval a X.env)]:=by rfl)
  (hs:∀ x,foldedSetIterable (.Call (.Name "range" p) [a] [] pos') X.env x = pure x:=by intro _;rfl) :
  PDE X (.ListComp elt [⟨tg,.Call (.Name "range" p) [a] [] pos',[],0⟩] scope pos) (aJt ta fr g te) :=
 bW (aJl (B.scope hN ho) hc (aAb hgl hmg ha hse) hg he hs) fun σ H Q ⟨ρ,M,Q',re,hm,q,k⟩=>⟨ρ,M,_,re,hm,q,fun vs H1 ⟨ds,M1,rs,hm1,ex,q1⟩=>by
  rcases ds with _ | ⟨d,_ | ⟨d2,r⟩⟩
  ·exact q1.elim
  ·cases d with
   | int j =>
    obtain ⟨⟨j1,j2⟩,q1⟩:=q1
    obtain ⟨v1,r1,rfl,rv1,rr1⟩:=aR rs
    obtain rfl:=bD rr1
    obtain rfl:=aU rv1
    exact ⟨j,rfl,j1,j2,aHx ex (re.ext ex) hm1 q1 k⟩
   | _=>exact q1.elim
  ·cases d<;>exact q1.elim⟩
def aCr (i:Nat) (t:DE):DS:=fun E ρ M=>t ρ M fun x M1=>E.nx (ρ.set i (some x)) M1
theorem aEt {i:Nat} {y:Str} {spos py:Pos} (B:nB oN osc N' fr scope) (hc:X.calm = true) (hNd:X.N.Nodup) (hi:PDE X iter tl) (hg:∀ C s H fp pins,PG (X.blk N' scope C s H fp pins) tg (vS X.K g)) (he:∀ C s H fp pins,PE (X.blk N' scope C s H fp pins) elt (low X.K te)) (hy:X.N[i]? = some y:=by rfl) (hx:Loc X.env.scope y:=by first | exact Or.inl rfl | exact Or.inr rfl)
  (hsw:swapsWith (.ListComp elt [⟨tg,iter,[],0⟩] scope pos) (some (.Name y py)) spos.line X.env = pure true:=by rfl) (hf:X.fn y = true ∨ X.env.scope.names.lookup y = some .local:=by first | exact .inl rfl | exact .inr rfl | assumption) (hN:X.N = oN:=by rfl) (ho:X.env.scope = osc:=by rfl) (hs:∀ x,foldedSetIterable iter X.env x = pure x:=by intro _;rfl) :
  PDS X (.Assign [.Name y py] (.ListComp elt [⟨tg,iter,[],0⟩] scope pos) spos) (aCr i (aKb tl fr g te)) :=
 jD (aFy (i:=i) (B.scope hN ho) hc hNd (aDl hi) hg he hy hx hsw hf hs) fun E σ H ⟨ρ,M,D,re,hm,q,kk⟩=>⟨ρ,M,_,re,hm,q,fun v H1 ⟨d,M1,rd,hm1,ex,q1⟩=>by
  have k:∀ v H',LQ X.K H (fun x M1=>D.nx (ρ.set i (some x)) M1) v H'->E.nx (σ.set i (some v)) H':=fun v H' ⟨d,M',rd',hm',e',q'⟩=>kk.nx _ H' ⟨_,M',(re.ext e').set rd' i,hm',e',q'⟩
  cases d with
  | fz ds =>
   obtain ⟨a,xs,rfl,sq,rs⟩:=pM rd
   exact ⟨a,rfl,⟨xs,sq.sq⟩,aDb ex (re.ext ex) hm1 q1 k fun H' e' M' hm' _=>⟨xs,rs.ext e',fun i hi=>⟨xs,(oA e' sq).sq,hi⟩,fun i hi=>⟨xs,xs[i],(oA e' sq).sq,by simp [hi]⟩,fun i x H2 y=>⟨y.1,y.2 xs (oA e' sq).sq⟩⟩⟩
  | ref a =>
   obtain ⟨ds,ha,q1⟩:=q1
   obtain rfl:=aV rd
   obtain ⟨xs,hx,rs⟩:=hm1.l a ds ha
   refine ⟨a,rfl,⟨xs,.of hx⟩,aDb ex (re.ext ex) hm1 q1 k fun H' e' M' hm' hat=>?_⟩
   obtain ⟨ys,hy,rs'⟩:=hm'.l a ds (hat a rfl)
   exact ⟨ys,rs',fun i hi=>⟨ys,.of hy,hi⟩,fun i hi=>⟨ys,ys[i],.of hy,by simp [hi]⟩,fun i x H2 y=>⟨y.1,y.2 ys (.of hy)⟩⟩
  | _=>exact q1.elim⟩
end
end Dd
namespace L2
open PySem PySem.Spec PyProof.Rows
variable {X:Cx}
theorem yF (hc:X.calm = true):jO X (.builtin "all") (fun xs H Q=>∃ (p:Addr) (bs:List Bool),xs = [.ref p]/\SqL X.K H p (bs.map V.bl)/\Q (.bl (bs.all id)) H):=by
 intro pins s σ H xs us Q I r h
 obtain ⟨p,bs,rfl,hq,q⟩:=h
 obtain ⟨u,rfl,rx⟩:=pS r
 cases rx
 obtain ⟨its,r',pl,hz⟩:=I.list hq
 have hl:=pl.isList
 have hlt:p < s.heap.objs.size:=by obtain ⟨_,e,_⟩:=hl;exact Heap.lt_size e
 have hg:∀ (i:Nat) (v:Value),its.toArray[i]? = some v->∃ b,bs[i]? = some b/\v = Value.bool b:=fun i v e=>by
  obtain ⟨x,hx,rv⟩:∃ x,(bs.map V.bl)[i]? = some x/\cF x v:=by
   have:=r'.length
   have hi:i < its.length:=by
    have:=(Array.getElem?_eq_some_iff.mp e).1
    simpa using this
   have hi':i < (bs.map V.bl).length:=by omega
   obtain ⟨w,hw,rw'⟩:=r'.get (i:=i) (List.getElem?_eq_getElem hi')
   have:w = v:=by
    have e':its[i]? = some v:=by simpa using e
    rw [e'] at hw;exact (Option.some.inj hw).symm
   subst this
   exact ⟨_,List.getElem?_eq_getElem hi',rw'⟩
  rw [getElem?_map] at hx
  cases hb:bs[i]? with
  | none=>rw [hb] at hx;cases hx
  | some b=>rw [hb] at hx;cases hx;cases rv;exact ⟨b,rfl,rfl⟩
 refine call_all_walk (wpAny_pyIter_list hl ?_)
 refine ⟨s.heap.objs.size,[s.heap.objs.size,p],[s.heap.objs.size],its.toArray.size,_,_,fun i=>(bs[i]?).getD true,rfl,Walks.list (A:=X.A.in1) (I.ok.hd hc) _ p (Nat.ne_of_lt hlt) its.toArray,
  ⟨⟨_,Heap.get?_push_size _ rfl,rfl,rfl⟩,hl.push _⟩,fun i v s' Q' E' hP hQ=>?_,fun h' tk hk=>?_⟩
 ·obtain ⟨b,e,rfl⟩:=hg i v hP
  simp only [e,Option.getD_some] at hQ
  exact wpAny_truthy_bool hQ
 ·have e:((range its.toArray.size).all fun i=>(bs[i]?).getD true) = bs.all id:=by
   have l1:=r'.length
   rw [length_map] at l1
   rw [size_toArray,<- l1];exact LSm.range_all bs
  rw [e]
  exact ⟨.bl (bs.all id),H,I.kept (t':=tk) (LSm.kept_iter hk),rfl,q⟩
end L2
namespace Dd
open PySem PySem.Spec PyProof.Rows L2
variable {X:Cx}
def aN1:DSp:=fun ds M Q=>match ds with
 | [.ref a]=>∃ bs:List Bool,M a = some (bs.map D.bl)/\Q (.bl (bs.all id)) M
 | _=>False
theorem aBE {K:Frag} {H:Hp}:∀ {bs:List Bool} {vs:List V},bT K H (bs.map D.bl) vs->vs = bs.map V.bl
 | [],_,h=>bD h
 | b :: bs,_,h=>by
  obtain ⟨v,r,rfl,hv,hr⟩:=aR h
  rw [cD hv,aBE hr]
  rfl
theorem aLr (hc:X.calm = true):fV X (.builtin "all") aN1:=fV.of (yF hc) fun vs H M ds Q rs hm q=>by
 rcases ds with _ | ⟨d,_ | ⟨d2,r⟩⟩
 ·exact q.elim
 ·cases d with
  | ref a =>
   obtain ⟨v,rfl,rv⟩:=dR rs
   obtain rfl:=aV rv
   obtain ⟨bs,ha,q⟩:=q
   obtain ⟨us,hu,ru⟩:=hm.l a _ ha
   obtain rfl:=aBE ru
   exact ⟨a,bs,rfl,.of hu,_,M,cQ,hm,.refl H,q⟩
  | _=>exact q.elim
 ·cases d<;>exact q.elim
section
variable {g:DG} {te:DE} {tb:DS} {Q:DQ} {ρ0:cL}
def itT (d:D) (ρ0:cL) (g:DG) (te:DE) (M:DM) (Q:DQ):Prop:=match d with
 | .tup ds=>aA9 none ds ρ0 g te M Q
 | _=>False
theorem aHL {tl:DE} {fr:List (Option Nat)} {ρ:cL} {M:DM}:aKI tl fr g te ρ M Q = tl ρ M fun d M1=>itT d (qR fr ρ) g te M1 Q:=rfl
theorem aIg {ds:List D} {M:DM}:itT (.tup ds) ρ0 g te M Q = aA9 none ds ρ0 g te M Q:=rfl
def foT (d:D) (g:DG) (tb:DS) (E:gA) (ρ:cL) (M:DM):Prop:=match d with
 | .tup ds=>dIt none ds g tb E ρ M
 | _=>False
theorem aHf {tl:DE} {E:gA} {ρ:cL} {M:DM}:aEV tl g tb E ρ M = tl ρ M fun d M1=>foT d g tb E ρ M1:=rfl
theorem aIV {ds:List D} {E:gA} {ρ:cL} {M:DM}:foT (.tup ds) g tb E ρ M = dIt none ds g tb E ρ M:=rfl
def goC (g:DG) (te:DE) (ρ0:cL) (Q:DQ):List D->List D->DM->Prop
 | [],ys,M=>∀ p:Addr,M p = none->Q (.ref p) (bG M p ys)
 | d :: r,ys,M=>g d ρ0 M fun ρ2 M2=>te ρ2 M2 fun y M3=>goC g te ρ0 Q r (ys ++ [y]) M3
theorem aFY {ds:List D} {M:DM} (hl:ds.length<=1000) (h:goC g te ρ0 Q ds [] M):aA9 none ds ρ0 g te M Q:=by
 refine ⟨hl,fun i ys M=>goC g te ρ0 Q (ds.drop i) ys M,h,fun _ _ _ _ _ a e=>(by cases e),fun i d ys M hd hp=>?_,fun ys M _ hp p hn=>?_⟩
 ·obtain ⟨hi,e⟩:=List.getElem?_eq_some_iff.mp hd
  have hp:goC g te ρ0 Q (ds.drop i) ys M:=hp
  rw [List.drop_eq_getElem_cons hi,e] at hp
  exact hp
 ·have hp:goC g te ρ0 Q (ds.drop ds.length) ys M:=hp
  rw [List.drop_length] at hp
  exact hp p hn
end
section
variable {e:Expr} {te:DE} {pos:Pos}
end
section
variable {X:Cx} {e:Expr} {te:DE} {pos p2:Pos} {lo hi:Option Expr} {tl th:DO}
def aNN (g:Bool->Bool):D2:=fun x y M Q=>match x,y with
 | .int k,.ref a=>∃ ns:List Int,M a = some (ns.map D.int)/\Q (.bl (g (ns.any (· == k)))) M
 | .str k,.ref a=>∃ ns:List Str,M a = some (ns.map D.str)/\Q (.bl (g (ns.any (· == k)))) M
 | _,_=>False
theorem rQ {K:Frag} {H:Hp}:∀ {ns:List Int} {vs:List V} {its:List Value},bT K H (ns.map D.int) vs->bS vs its->IntsAre its ns
 | [],_,_,h,r=>by rw [bD h] at r;cases r;exact .nil
 | n :: ns,_,_,h,r=>by
  obtain ⟨v,rr,rfl,hv,hr⟩:=aR h
  rw [aU hv] at r
  cases r with
  | cons q w =>
   obtain ⟨t,rfl⟩:=q
   exact .cons _ _ (rQ hr w)
theorem rZ {K:Frag} {H:Hp}:∀ {ns:List Str} {vs:List V} {its:List Value},bT K H (ns.map D.str) vs->bS vs its->StrsAre its ns
 | [],_,_,h,r=>by rw [bD h] at r;cases r;exact .nil
 | n :: ns,_,_,h,r=>by
  obtain ⟨v,rr,rfl,hv,hr⟩:=aR h
  rw [bF hv] at r
  cases r with
  | cons q w =>
   obtain ⟨t,rfl⟩:=q
   exact .cons _ _ (rZ hr w)
theorem aGt:OpD X (compareOp .In) (aNN id):=fun pins s σ H x y v u Q I rx ry ⟨dx,dy,M,Q',r1,r2,hm,q,k⟩=>by
 cases dx with
 | int z =>
  cases dy with
  | ref a =>
   obtain ⟨ns,ha,q⟩:=q
   obtain rfl:=aU r1
   obtain rfl:=aV r2
   obtain ⟨t,rfl⟩:=rx
   cases ry
   obtain ⟨us,hu,ru⟩:=hm.l a _ ha
   obtain ⟨zz,its,nn,rv,hlen,e1⟩:=I.lstM hu
   exact in_list_ints ⟨_,e1,rfl,_,rfl⟩ (rQ ru rv) ⟨.bl _,H,I,rfl,k _ H ⟨_,M,cQ,hm,.refl H,q⟩⟩
  | _=>exact q.elim
 | str z =>
  cases dy with
  | ref a =>
   obtain ⟨ns,ha,q⟩:=q
   obtain rfl:=bF r1
   obtain rfl:=aV r2
   obtain ⟨t,rfl⟩:=rx
   cases ry
   obtain ⟨us,hu,ru⟩:=hm.l a _ ha
   obtain ⟨zz,its,nn,rv,hlen,e1⟩:=I.lstM hu
   exact in_list_strs ⟨_,e1,rfl,_,rfl⟩ (rZ ru rv) ⟨.bl _,H,I,rfl,k _ H ⟨_,M,cQ,hm,.refl H,q⟩⟩
  | _=>exact q.elim
 | _=>cases dy<;>exact q.elim
end
end Dd
namespace L2
open PySem PySem.Spec PyProof.Rows
open PySem.AutoSeq1 (wpAny_loadPart')
section
variable {X:Cx} {a n:Expr} {ta:TE} {tn:TA} {pos:Pos}
end
end L2
namespace Dd
open PySem PySem.Spec PyProof.Rows L2
section
variable {X:Cx} {a n:Expr} {ta:DE} {tn:DA} {pos p pos':Pos}
end
section
variable {X:Cx} {a b c e o:Expr} {es:List Expr} {ta tb tc te to:DE} {pos:Pos}
def aBj (r r':D2) (ta tb tc:DE):DE:=fun ρ M Q=>ta ρ M fun x M1=>tb ρ M1 fun y M2=>r x y M2 fun z M3=>match z with
 | .bl k=>if k = true then tc ρ M3 fun w M4=>r' y w M4 Q else Q (.bl false) M3
 | _=>False
theorem aEz {r r':D2} {σ:L2.St} {H:Hp} {Q:VK} (h:low X.K (aBj r r' ta tb tc) σ H Q) :
  aFd (fun x y H Q=>∃ dx dy M Q',Rep X.K H dx x/\Rep X.K H dy y/\bV X.K M H/\r dx dy M Q'/\∀ v H',LQ X.K H Q' v H'->Q v H') (fun x y H Q=>∃ dx dy M Q',Rep X.K H dx x/\Rep X.K H dy y/\bV X.K M H/\r' dx dy M Q'/\∀ v H',LQ X.K H Q' v H'->Q v H') (low X.K ta) (low X.K tb) (low X.K tc) σ H Q:=by
 obtain ⟨ρ,M,Q',re,hm,q,k⟩:=h
 refine ⟨ρ,M,_,re,hm,q,fun x H1 ⟨dx,M1,rx,hm1,e1,q1⟩=>⟨ρ,M1,_,re.ext e1,hm1,q1,fun y H2 ⟨dy,M2,ry,hm2,e2,q2⟩=>⟨dx,dy,M2,_,rx.ext e2,ry,hm2,q2,fun z H3 ⟨dz,M3,rz,hm3,e3,q3⟩=>?_⟩⟩⟩
 cases dz with
 | bl k' =>
  refine ⟨k',cD rz,?_⟩
  cases k' with
  | false=>exact k _ H3 ⟨.bl false,M3,cQ,hm3,(e1.trans e2).trans e3,q3⟩
  | true=>exact ⟨ρ,M3,_,((re.ext e1).ext e2).ext e3,hm3,q3,fun w H4 ⟨dw,M4,rw',hm4,e4,q4⟩=>⟨dy,dw,M4,Q',(ry.ext e3).ext e4,rw',hm4,q4,fun v H' zz=>k v H' (zz.back (((e1.trans e2).trans e3).trans e4))⟩⟩
 | _=>exact q3.elim
theorem aGz {op op':CmpOp} {r r':D2} (ho:OpD X (compareOp op) r) (ho':OpD X (compareOp op') r') (ha:PDE X a ta) (hb:PDE X b tb) (hc:PDE X c tc) (hm:lastMarks [op,op'] [b,c] = false:=by with_unfolding_all rfl):PDE X (.Compare a [op,op'] [b,c] pos) (aBj r r' ta tb tc) :=
 bW (aF1 ho ho' ha hb hc hm) fun σ H Q h=>aEz h
def aFN (g:Int->Int->Int):DSp:=fun ds M Q=>match ds with
 | [.int i,.int j]=>Q (.int (g i j)) M
 | _=>False
theorem aIX {g:Int->Int->Int} {fv:Value} (h:jO X fv (fun xs H Q=>∃ i j,xs = [.int i,.int j]/\Q (.int (g i j)) H)):fV X fv (aFN g):=fV.of h fun vs H M ds Q rs hm q=>by
 rcases ds with _ | ⟨d,_ | ⟨d2,_ | ⟨d3,r⟩⟩⟩
 ·exact q.elim
 ·cases d<;>exact q.elim
 ·cases d with
  | int i =>
   cases d2 with
   | int j =>
    obtain ⟨v,v2,rfl,rv,rv2⟩:=aJH rs
    obtain rfl:=aU rv
    obtain rfl:=aU rv2
    exact ⟨i,j,rfl,_,M,bO,hm,.refl H,q⟩
   | _=>exact q.elim
  | _=>exact q.elim
 ·cases d<;>first | exact q.elim | (cases d2<;>exact q.elim)
def aNX:DSp:=aFN fun i j=>if j < i then j else i
theorem aK7 (hc:X.calm = true):fV X (.builtin "min") aNX:=aIX (aEh hc)
def aBe (to te:DE):DE:=fun ρ M Q=>to ρ M fun x M1=>match x with
 | .ref p=>(∃ ds,M1 p = some ds)/\iN te lG ρ M1 fun ys M2=>∃ ds q es,ys = [.ref q]/\M2 p = some ds/\M2 q = some es/\ds.length + es.length<=1000/\Q .non (bG M2 p (ds ++ es))
 | _=>False
theorem aEE {apos cpos:Pos} (ho:PDE X o to) (he:PDE X e te) (hse:starEach [e] X.env = (false,eval e X.env) :: starEach [] X.env:=by rfl)
  (hbase:attributeBase o "extend" X.env (eval o X.env) = eval o X.env:=by rfl)
  (hfew:((backTo cpos (starEach [e] X.env)).all (fun x=>!x.1) && (backToKw cpos (keywordEach [] X.env)).all (fun x=>x.1.isSome)
   && decide ([e].length + ([]:List Keyword).length + (if ([]:List Keyword).isEmpty then 0 else 1) < 30)) = true:=by rfl)
  (hline:(apos.endLine == cpos.line) = true:=by rfl) (hplain:(backTo cpos (starEach [] X.env)).any (·.1) = false:=by rfl) :
  PDE X (.Call (.Attribute o "extend" apos) [e] [] cpos) (aBe to te) :=
 bW (xW PySem.F.plainAttrs_list PySem.F.slot_list_extend PySem.F.type_list_extend aD4 ho (iU he lA hse) hbase hfew hline hse hplain) fun σ H Q ⟨ρ,M,Q',re,hm,q,k⟩=>⟨ρ,M,_,re,hm,q,fun v H1 ⟨d,M1,rd,hm1,e1,q1⟩=>by
  cases d with
  | ref p =>
   obtain rfl:=aV rd
   obtain ⟨⟨ds0,h0⟩,q1⟩:=q1
   obtain ⟨us0,hu0,_⟩:=hm1.l p ds0 h0
   refine ⟨.inl ⟨rfl,us0,.of hu0⟩,ρ,M1,_,re.ext e1,hm1,q1,fun vs H2 ⟨dvs,M2,rs,hm2,e2,ds,qa,es,ey,hp,hq,hl,q2⟩=>?_⟩
   subst ey
   obtain ⟨w,rfl,rw'⟩:=dR rs
   obtain rfl:=aV rw'
   obtain ⟨us,hu,ru⟩:=hm2.l p ds hp
   obtain ⟨us2,hu2,ru2⟩:=hm2.l qa es hq
   exact ⟨p,qa,us,us2,rfl,rfl,hu,hu2,by rw [<- ru.length,<- ru2.length];exact Nat.le_of_lt (eK hl),k _ _ ⟨.non,_,qP,hm2.put hu (ru.append ru2),(e1.trans e2).trans (Ext.put hu _),q2⟩⟩
  | _=>exact q1.elim⟩
end
mutual
theorem aCh:∀ (n:Nat) (d:D),bN n d = true->eqD d d = true
 | n,.non,_=>rfl
 | n,.bl b,_=>by simp [eqD]
 | n,.int i,_=>by simp [eqD]
 | n,.str x,_=>by simp [eqD]
 | n,.ref a,h=>by cases n<;>exact absurd h Bool.false_ne_true
 | n,.fz a,h=>by cases n<;>exact absurd h Bool.false_ne_true
 | 0,.tup xs,h=>absurd h Bool.false_ne_true
 | n + 1,.tup xs,h=>tP n xs h
theorem tP:∀ (n:Nat) (ds:List D),ds.all (bN n) = true->nF ds ds = true
 | n,[],_=>rfl
 | n,d :: ds,h=>by
  rw [all_cons,Bool.and_eq_true] at h
  show (eqD d d && nF ds ds) = true
  rw [aCh n d h.1,tP n ds h.2]
  rfl
end
theorem mX {g:Bool->Bool} {d:D} {M:DM} {Q:DQ} (h:bN 60 d = true) (q:Q (.bl (g true)) M):dEq g d d M Q:=by
 cases d with
 | ref a=>exact absurd h Bool.false_ne_true
 | _=>exact ⟨h,h,by rw [aCh 60 _ h];exact q⟩
theorem sR {g:Bool->Bool} {a b:Addr} {xs ys:List D} {M:DM} {Q:DQ} (h1:M a = some xs) (h2:M b = some ys) (n:a ≠ b) (e:xs = ys) (p:xs.all (bN 59) = true) (q:Q (.bl (g true)) M):dEq g (.ref a) (.ref b) M Q:=by
 subst e
 exact ⟨xs,xs,h1,h2,n,p,p,by rw [tP 59 xs p];exact q⟩
theorem aMV (n:Nat):HT.sIx (n + 1) 0 (some 1) = 1/\HT.sIx (n + 1) (n + 1) none = n + 1:=by
 constructor
 ·unfold HT.sIx
  simp
 ·rfl
theorem aBw {x:D} {xs:List D}:cutD (x :: xs) (some 1) none = xs:=by
 unfold cutD
 rw [length_cons,(aMV _).1,(aMV _).2]
 simp
theorem ifF {b:Bool} {A B:Prop} (h:b = false) (q:B):if b = true then A else B:=by subst h;exact q
theorem ifT {b:Bool} {A B:Prop} (h:b = true) (q:A):if b = true then A else B:=by subst h;exact q
end Dd
set_option maxHeartbeats 400000
namespace L2
open PySem PySem.Spec PyProof.Rows
end L2
namespace Dd
open PySem PySem.Spec PyProof.Rows L2
section
variable {X:Cx} {e k:Expr} {te tk:DE} {pos p2:Pos}
end
end Dd
namespace Zp
open PySem PySem.Spec PyProof.Rows
section
variable {prog:Program} {w:World} {A:Around} {E:Value->Shared->Prop} {s:Shared}
end
end Zp
namespace L2
open PySem PySem.Spec PyProof.Rows
theorem Inv.turnedT {X:Cx} {pins:List (Addr × Obj)} {σ:St} {H:Hp} {s:Shared} {h':Heap} {fp:List Addr} {p:Addr} {xs:List V} {its:List Value} (I:Inv X pins σ H s) (k:∀ b o,b ∉ fp->s.heap.get? b = some o->h'.get? b = some o) (hf:∀ b ∈ fp,yH X pins H b) (hp:s.heap.objs.size<=p) (hz:xs.length<=sizeLine) (hv:bS xs its) (ht:IsTup h' p its.toArray) (th:∀ b ∈ fp,∃ o,h'.get? b = some o) :
  Inv X pins σ (upd H p (.tup xs)) { s with heap:=h' }:=by
 have hn:H p = none:=I.hok.fresh hp
 have nf:∀ b u,H b = some u->b ∉ fp:=fun b u e hb=>by rw [(hf b hb).1] at e;cases e
 have np:∀ b o,s.heap.get? b = some o->b ≠ p:=fun b o e=>Nat.ne_of_lt (Nat.lt_of_lt_of_le (Heap.lt_size e) hp)
 refine I.step (g':=s.gens) (d':=s.drawn) (t':=s.toks) (ch:=fp) (fun b hb=>⟨(hf b hb).2.2.2.1,(hf b hb).2.1,(hf b hb).2.2.2.2.1,(hf b hb).2.2.2.2.2⟩) (fun b o _ _ hc e _=>k b o hc e) (fun b o _ _ hc e _=>⟨o.slots,k b o hc e⟩) (fun b o _ e n=>by rw [bR (np b o e)];exact n)
  (fun b o hc e=>⟨o,k b o hc e⟩) (fun b ys e=>by rw [bR (bU e hn)];exact e) (fun b o u e=>by rw [bR (bU e hn)];exact e) (fun b ps e=>⟨#[],by rw [bR (bU e hn),e];simp⟩) (fun m hm=>?_) (fun b u e=>?_) I.bare
 ·obtain ⟨o,es,ep,ho,r⟩:=hm
  exact ⟨o,es,ep,k _ o (fun hb=>(hf _ hb).2.1 rfl) ho,r⟩
 ·by_cases hb:b = p
  ·subst hb
   rw [dB] at e
   cases e
   exact ⟨hz,its,hv,ht⟩
  ·rw [bR hb] at e
   refine (I.hok b u e).stay (fun c v hc q=>k c v ?_ q) (fun c q=>by rw [bR (bU q hn)];exact q) fun c xs q=>by rw [bR (bU q hn)];exact q
   rcases hc with z | z
   ·rw [z];exact nf b u e
   ·exact nf c _ z
theorem Inv.turnedL {X:Cx} {pins:List (Addr × Obj)} {σ:St} {H:Hp} {s:Shared} {h':Heap} {fp:List Addr} (I:Inv X pins σ H s) (k:∀ b o,b ∉ fp->s.heap.get? b = some o->h'.get? b = some o) (hf:∀ b ∈ fp,yH X pins H b) :
  Inv X pins σ H { s with heap:=h' }:=by
 have nf:∀ b u,H b = some u->b ∉ fp:=fun b u e hb=>by rw [(hf b hb).1] at e;cases e
 refine I.step (g':=s.gens) (d':=s.drawn) (t':=s.toks) (ch:=fp) (fun b hb=>⟨(hf b hb).2.2.2.1,(hf b hb).2.1,(hf b hb).2.2.2.2.1,(hf b hb).2.2.2.2.2⟩) (fun b o _ _ hc e _=>k b o hc e) (fun b o _ _ hc e _=>⟨o.slots,k b o hc e⟩) (fun b o _ e n=>n)
  (fun b o hc e=>⟨o,k b o hc e⟩) (fun b ys e=>e) (fun b o u e=>e) (fun b ps e=>⟨#[],by rw [e];simp⟩) (fun m hm=>?_) (fun b u e=>?_) I.bare
 ·obtain ⟨o,es,ep,ho,r⟩:=hm
  exact ⟨o,es,ep,k _ o (fun hb=>(hf _ hb).2.1 rfl) ho,r⟩
 ·refine (I.hok b u e).stay (fun c v hc q=>k c v ?_ q) (fun c q=>q) fun c xs q=>q
  rcases hc with z | z
  ·rw [z];exact nf b u e
  ·exact nf c _ z
end L2
namespace Dd
open PySem PySem.Spec PyProof.Rows L2
section
variable {X:Cx} {pos:Pos} {iter tg:Expr} {body:List Stmt} {tl:DE} {g:DG} {tb:DS} {ta:DA}
end
end Dd
set_option maxHeartbeats 1000000
namespace Dd
open PySem PySem.Spec PyProof.Rows L2
theorem gB.there {P:Program} {w:World} {H:Hp} {h:Heap} {a:Addr} {o:HO} (x:gB P w H h a o):∃ u,h.get? a = some u:=by
 cases o with
 | lst xs=>obtain ⟨_,_,_,_,e⟩:=x;exact ⟨_,e⟩
 | tup xs=>obtain ⟨_,_,_,ob,e,_⟩:=x;exact ⟨_,e⟩
 | dK kvs=>obtain ⟨_,_,_,_,o,_,_,e,_⟩:=x;exact ⟨_,e⟩
 | dT kvs=>obtain ⟨_,_,_,_,o,_,_,e,_⟩:=x;exact ⟨_,e⟩
 | set S n=>obtain ⟨o,_,_,_,e,_⟩:=x;exact ⟨_,e⟩
 | ins C dx fs=>obtain ⟨_,_,_,e,_⟩:=x;exact ⟨_,e⟩
 | own y=>obtain ⟨_,e⟩:=x;exact ⟨_,e⟩
 | xd fs=>obtain ⟨_,⟨_,_,_,e,_⟩,_⟩:=x;exact ⟨_,e⟩
 | rng lo hi=>obtain ⟨_,_,_,e⟩:=x;exact ⟨_,e⟩
 | frz ob u=>obtain ⟨e,_⟩:=x;exact ⟨_,e⟩
 | tbl ps=>exact ⟨_,(show h.get? a = some _ from x)⟩
 | met f y=>exact ⟨_,(show h.get? a = some _ from x)⟩
 | ext φ=>obtain ⟨_,⟨_,e⟩,_⟩:=x;exact ⟨_,e⟩
def FpN (X:Cx) (pins:List (Addr × Obj)) (H:Hp) (b:Addr):Prop :=
 H b = none/\b ≠ X.env.locals/\X.s₀.heap.get? b = none/\(∀ x c,X.env.cells.lookup x = some c->c ≠ b)/\∀ p ∈ X.pn ++ pins,p.1 ≠ b
section
variable {X:Cx} {pins:List (Addr × Obj)} {σ:L2.St} {H H':Hp} {s:Shared} {h':Heap}
theorem _root_.L2.Inv.fpN (I:Inv X pins σ H s) (hex:X.ex = []) {b:Addr} (h:s.heap.get? b = none) (hn:H' b = none):FpN X pins H' b:=by
 refine ⟨hn,fun z=>?_,?_,fun x c e z=>?_,fun p hp z=>?_⟩
 ·obtain ⟨m,⟨o,_,_,ho,_⟩,_⟩:=I.loc
  rw [<- z,h] at ho;cases ho
 ·cases q:X.s₀.heap.get? b with
  | none=>rfl
  | some o =>
   obtain ⟨o',e⟩:=I.base.there b o q (by rw [hex];simp)
   rw [h] at e;cases e
 ·obtain ⟨v,o,ho,_⟩:=I.cell x c e
  rw [z,h] at ho;cases ho
 ·obtain ⟨e,_⟩:=I.pin p hp
  rw [z,h] at e;cases e
theorem _root_.L2.Inv.untr (I:Inv X pins σ H s) {b:Addr} (h:s.heap.get? b = none):H b = none:=by
 cases q:H b with
 | none=>rfl
 | some o=>obtain ⟨u,e⟩:=gB.there (I.hok b o q);rw [h] at e;cases e
theorem _root_.L2.Inv.mark {ch:List Addr} (I:Inv X pins σ H s) (hch:∀ b ∈ ch,FpN X pins H b) (keep:∀ b o,b ∉ frs X.stack->b ∉ ch->s.heap.get? b = some o->h'.get? b = some o)
  (slot:∀ b o,b ∉ ch->s.heap.get? b = some o->∃ sl,h'.get? b = some { o with slots:=sl }):Inv X pins σ H { s with heap:=h' }:=by
 have neL:∀ b o,X.s₀.heap.get? b = some o->b ≠ X.env.locals:=fun b o e=>Nat.ne_of_lt (Nat.lt_of_lt_of_le (Heap.lt_size e) I.ok.above)
 have neC:∀ b o,X.s₀.heap.get? b = some o->b ∉ ch:=fun b o e hb=>by rw [(hch b hb).2.2.1] at e;cases e
 have stk:∀ b,b ≠ X.env.locals->b ∉ X.fs->b ∉ frs X.stack:=fun b h1 h2 hb=>(List.mem_cons.mp (I.stkSub b hb)).elim h1 h2
 have cellK:∀ x c,X.env.cells.lookup x = some c->∀ v,s.heap.IsCell c v->h'.IsCell c v:=fun x c e v ⟨o,ho,hd⟩=>by
  obtain ⟨sl,q⟩:=slot c o (fun z=>(hch c z).2.2.2.1 x c e rfl) ho
  exact ⟨_,q,hd⟩
 refine ⟨I.ok,I.os,I.bare,⟨fun b o e n hb hx=>?_,fun b o e n hb hx=>?_,I.base.free,fun b o e hx=>?_,I.base.tups,I.base.frzs,I.base.tbls⟩,?_,fun x c e=>?_,I.free,I.freeC,fun p hp=>?_,fun a o e=>?_,I.len⟩
 ·exact keep b o (stk b (neL b o e) hb) (neC b o e) (I.base.keep b o e n hb hx)
 ·obtain ⟨sl,e1⟩:=I.base.slot b o e n hb hx
  obtain ⟨sl',e2⟩:=slot b _ (neC b o e) e1
  exact ⟨sl',e2⟩
 ·obtain ⟨o',e1⟩:=I.base.there b o e hx
  obtain ⟨sl,e2⟩:=slot b o' (neC b o e) e1
  exact ⟨_,e2⟩
 ·obtain ⟨m,⟨o,es,ep,ho,r⟩,hl⟩:=I.loc
  obtain ⟨sl,e2⟩:=slot _ o (fun z=>(hch _ z).2.1 rfl) ho
  refine ⟨m,⟨_,es,ep,e2,r⟩,fun i x v e1 e2 e3=>?_⟩
  obtain ⟨u,r,l⟩:=hl i x v e1 e2 e3
  refine ⟨u,r,?_⟩
  rcases l with l | ⟨k,c,e,z⟩
  ·exact .inl l
  ·exact .inr ⟨k,c,e,cellK x c e _ z⟩
 ·obtain ⟨v,z⟩:=I.cell x c e
  exact ⟨v,cellK x c e v z⟩
 ·obtain ⟨e,n,ne,nf,d⟩:=I.pin p hp
  exact ⟨keep p.1 p.2 (stk _ ne nf) (fun z=>(hch _ z).2.2.2.2 p hp rfl) e,n,ne,nf,d⟩
 ·refine (I.hok a o e).stay (fun b u hb q=>keep b u (fun z=>?_) (fun z=>?_) q) (fun _ q=>q) fun _ _ q=>q
  ·have:=I.stkFree b z
   rcases hb with hb | hb
   ·rw [hb,e] at this;cases this
   ·rw [hb] at this;cases this
  ·have:=(hch b z).1
   rcases hb with hb | hb
   ·rw [hb,e] at this;cases this
   ·rw [hb] at this;cases this
end
theorem oW (f:Array Value->Array Value) (o:Obj):(o.mapFields f).dict = o.dict:=by unfold Obj.mapFields;split<;>rfl
def Nw (h:Heap) (e:Addr) (cls:Value):Prop:=∃ oe vs,h.get? e = some oe/\(oe.cls = cls/\oe.dict = none)/\oe.data = .fields vs/\vs[1]? = some Value.none
def Tr (h:Heap) (e:Addr) (cls:Value) (T:Addr) (fl:Value):Prop :=
 ∃ oe vs oT ts,h.get? e = some oe/\(oe.cls = cls/\oe.dict = none)/\oe.data = .fields vs/\vs[1]? = some (.ref T)/\T ≠ e/\h.get? T = some oT/\oT.data = .fields ts/\ts[3]? = some fl
section
variable {X:Cx} {pins:List (Addr × Obj)} {σ:L2.St} {H:Hp} {s:Shared} {M:Model} {A:Around} {E:Value->Shared->Prop} {e T:Addr} {cls:Value}
theorem zO {oe:Obj} {vs:Array Value} {head:Value} {hadNext:Bool} {Q:Unit->Shared->Prop} (I:Inv X pins σ H s) (hs:X.stack = X.env :: X.outer) (hf:X.env.frame = some X.env.locals) (hex:X.ex = [])
  (hA:A.frames = some X.stack) (he:s.heap.get? e = some oe) (hdi:oe.dict = none) (hd:oe.data = .fields vs) (hsz:1 < vs.size) (fe:FpN X pins H e)
  (h:∀ s' T,Inv X pins σ H s'->Tr s'.heap e oe.cls T (rawInt X.env.locals)->FpN X pins H T->s.heap.get? T = none->Q () s') :
  wpAny M A (do let a <- frameOf X.env;let pl <- entryPlaceOf X.env.locals hadNext;let b <- EntryCells.newEntry head a .none (rawInt X.env.locals) .none pl;setField (.ref e) 1 b) Q E s:=by
 have hfr:A.frames = some (X.env :: X.outer):=by rw [hA,hs]
 have hl:s.heap.FunFrames X.base (X.env :: X.outer):=hs ▸ I.stack
 have hene:e ∉ (X.env :: X.outer).filterMap (·.frame):=fun hm=>by
  obtain ⟨_,o,ho,hnf⟩:=hl.mem hm
  rw [he] at ho;cases ho;exact hnf vs hd
 have hfs:frs X.stack = (X.env :: X.outer).filterMap (·.frame):=by rw [hs];rfl
 refine wpAny_bind (wpAny_frameOf_fun hfr hl hf fun h₁ hs₁=>?_)
 refine wpAny_bind (wpAny_entryPlaceOf fun pl hpl=>?_)
 unfold EntryCells.newEntry newFields
 refine wpAny_bind (wpAny_newObj_type ?_ (hpl.sizeOk5 _ _ _ _ _))
 have he₁:h₁.get? e = some oe:=(hs₁.2.1 e hene).trans he
 have he₂:=Heap.get?_push_of_some (h:=h₁) { cls:=.type "traceback",dict:=none,data:=.fields ([head,.ref X.env.locals,.none,rawInt X.env.locals,.none] ++ (if pl.isEmpty then replicate 6 Value.none else pl)).toArray } he₁
 refine wpAny_setField he₂ hd hsz ?_
 have hTe:h₁.objs.size ≠ e:=Nat.ne_of_gt (Heap.lt_size he₁)
 have hd₃:=Obj.data_mapFields hd (·.setIfInBounds 1 (Value.ref h₁.objs.size))
 have he₃:=Heap.get?_update_self (Obj.mapFields (·.setIfInBounds 1 (Value.ref h₁.objs.size))) he₂ (Obj.isFreed_of_fields hd₃)
 have hT₃:=(Heap.get?_update_other (h₁.push { cls:=.type "traceback",dict:=none,data:=.fields ([head,.ref X.env.locals,.none,rawInt X.env.locals,.none] ++ (if pl.isEmpty then replicate 6 Value.none else pl)).toArray })
  (Obj.mapFields (·.setIfInBounds 1 (Value.ref h₁.objs.size))) (Ne.symm hTe)).trans (Heap.get?_push_size h₁ rfl)
 have hTn:s.heap.get? h₁.objs.size = none:=Heap.get?_none_of_le (by rw [hs₁.1];exact Nat.le_refl _)
 refine h _ h₁.objs.size (L2.Inv.mark (s:=s) (ch:=[e]) I (fun b hb=>by rw [List.mem_singleton.mp hb];exact fe) (fun b o hb hc q=>?_) fun b o hc q=>?_) ?_ (L2.Inv.fpN (s:=s) I hex hTn (L2.Inv.untr (s:=s) I hTn)) hTn
 ·have hbe:b ≠ e:=fun z=>hc (by simp [z])
  rw [Heap.get?_update_other _ _ (Ne.symm hbe)]
  exact Heap.get?_push_of_some _ ((hs₁.2.1 b (by rw [<- hfs];exact hb)).trans q)
 ·have hbe:b ≠ e:=fun z=>hc (by simp [z])
  obtain ⟨sl,z⟩:=hs₁.2.2 b o q
  exact ⟨sl,by rw [Heap.get?_update_other _ _ (Ne.symm hbe)];exact Heap.get?_push_of_some _ z⟩
 ·exact ⟨_,_,_,_,he₃,⟨Obj.cls_mapFields _ _,(oW _ _).trans hdi⟩,hd₃,by simp [hsz],hTe,hT₃,rfl,by first | (simp;done) | (rcases hpl with rfl | ⟨_,_,_,_,_,_,_,rfl⟩<;>simp)⟩
theorem aHa {Q:Unit->Shared->Prop} (I:Inv X pins σ H s) (hs:X.stack = X.env :: X.outer) (hf:X.env.frame = some X.env.locals) (hex:X.ex = []) (hA:A.frames = some X.stack) (n:Nw s.heap e cls) (fe:FpN X pins H e)
  (h:∀ s' T,Inv X pins σ H s'->Tr s'.heap e cls T (rawInt X.env.locals)->FpN X pins H T->s.heap.get? T = none->Q () s'):wpAny M A (noteFrame (.ref e) X.env) Q E s:=by
 obtain ⟨oe,vs,he,⟨rfl,hdi⟩,hd,h1⟩:=n
 unfold noteFrame
 simp only [hf]
 refine wpAny_bind (wpAny_field he hd h1 ?_)
 rw [if_neg (by decide)]
 exact zO I hs hf hex hA he hdi hd (Array.getElem?_eq_some_iff.mp h1).1 fe h
theorem wJ {ts:Array Value} {oT:Obj} {f:Array Value->Array Value} (I:Inv X pins σ H s) (fT:FpN X pins H T) (hT:s.heap.get? T = some oT) :
  Inv X pins σ H { s with heap:=s.heap.update T (Obj.mapFields f) }:=by
 refine I.mark (ch:=[T]) (fun b hb=>by rw [List.mem_singleton.mp hb];exact fT) (fun b o _ hc q=>?_) fun b o hc q=>⟨o.slots,?_⟩ <;>
 ·rw [Heap.get?_update_other _ _ (Ne.symm (fun z=>hc (by simp [z])))];exact q
theorem oB {fl:Value} {Q:Unit->Shared->Prop} (I:Inv X pins σ H s) (t:Tr s.heap e cls T fl) (fT:FpN X pins H T) (h:∀ s',Inv X pins σ H s'->Tr s'.heap e cls T .none->Q () s'):wpAny M A (setFlight (.ref e) none) Q E s:=by
 obtain ⟨oe,vs,oT,ts,he,hcls,hd,h1,hTe,hT,hdT,h3⟩:=t
 have hsz3:3 < ts.size:=(Array.getElem?_eq_some_iff.mp h3).1
 unfold setFlight
 refine wpAny_bind (wpAny_field he hd h1 ?_)
 rw [if_pos (show (Value.ref T != Value.none) = true from by simp)]
 refine wpAny_setField hT hdT hsz3 (h _ (wJ (ts:=ts) I fT hT) ?_)
 exact ⟨oe,vs,_,_,(Heap.get?_update_other _ _ hTe).trans he,hcls,hd,h1,hTe,Heap.get?_update_self _ hT (Obj.isFreed_of_fields (Obj.data_mapFields hdT _)),Obj.data_mapFields hdT _,by simp [hsz3]⟩
theorem zW {Q:Unit->Shared->Prop} (I:Inv X pins σ H s) (hs:X.stack = X.env :: X.outer) (hf:X.env.frame = some X.env.locals) (hex:X.ex = []) (hA:A.frames = some X.stack) (t:Tr s.heap e cls T .none) (fe:FpN X pins H e) (fT:FpN X pins H T)
  (h:∀ s' T',Inv X pins σ H s'->Tr s'.heap e cls T' (rawInt X.env.locals)->FpN X pins H T'->Q () s'):wpAny M A (noteFrame (.ref e) X.env) Q E s:=by
 obtain ⟨oe,vs,oT,ts,he,⟨rfl,hdi⟩,hd,h1,hTe,hT,hdT,h3⟩:=t
 unfold noteFrame
 simp only [hf]
 refine wpAny_bind (wpAny_field he hd h1 ?_)
 rw [if_pos (show (Value.ref T != Value.none) = true from by simp)]
 refine wpAny_bind (wpAny_field hT hdT h3 ?_)
 rw [if_neg (show ¬ ((Value.none == rawInt X.env.locals) = true) from by simp [rawInt])]
 refine wpAny_bind (wpAny_setField hT hdT (Array.getElem?_eq_some_iff.mp h3).1 ?_)
 exact zO (wJ (ts:=ts) I fT hT) hs hf hex hA ((Heap.get?_update_other _ _ hTe).trans he) hdi hd (Array.getElem?_eq_some_iff.mp h1).1 fe fun s' T' I' t' f' _=>h s' T' I' t' f'
theorem aEB {Q:Unit->Shared->Prop} (I:Inv X pins σ H s) (hs:X.stack = X.env :: X.outer) (hf:X.env.frame = some X.env.locals) (hex:X.ex = []) (hA:A.frames = some X.stack) (n:Nw s.heap e cls) (fe:FpN X pins H e)
  (h:∀ s' T,Inv X pins σ H s'->Tr s'.heap e cls T .none->FpN X pins H T->s.heap.get? T = none->Q () s'):wpAny M A (leaving X.env (.ref e)) Q E s:=by
 unfold leaving
 exact wpAny_bind (aHa I hs hf hex hA n fe fun s1 T I1 t1 f1 n1=>oB I1 t1 f1 fun s2 I2 t2=>h s2 T I2 t2 f1 n1)
end
noncomputable def CXr (P:Program) (w:World):CXT:=fun outer H s E e s'=>∃ (a:Addr) (cls:Value) (T:Addr) (H':Hp),e = Value.ref a/\s'.os = s.os/\AllBare s'.gens/\Un (frs outer) [] H H' s.heap s'.heap/\HOk P w H' s'.heap /\
 Tr s'.heap a cls T .none/\s.heap.get? a = none/\s.heap.get? T = none/\H' a = none/\H' T = none/\E cls none H'
theorem aDi {K:Frag} {h:Heap} {C:Addr} {bmB:List Value} {newId:String} (X:K.In h) (q:excIn K C bmB newId = true) :
  ∃ bm N nm qn bs hdct sn sub ab col dd k0 k1 k2 k3 k5,∃ mN:Str->Option Value,h.get? C = some (excClassObj nm qn C N bs bm hdct sn sub ab col dd k0 k1 k2 k3 k5 newId)/\h.Ns N mN/\mN "__init__" = none/\OwnTail h bmB bm:=by
 unfold excIn at q
 split at q
 ·rename_i dd cd sl ho
  split at q
  ·rename_i C' bm k0 k1 k2 k3 n k5 hm hs
   simp only [Bool.and_eq_true,beq_iff_eq,Bool.not_eq_true'] at q
   obtain ⟨⟨⟨⟨⟨rfl,rfl⟩,hdel⟩,ht⟩,hok⟩,hni⟩:=q
   cases cd
   dsimp only at hm hdel hok hni
   subst hm hdel
   cases sl
   simp only at hs
   subst hs
   exact ⟨_,_,_,_,_,_,_,_,_,_,_,_,_,_,_,_,_,X _ _ ho,.of_isNs (PySem.W.isNs_of_in X hok),PySem.W.nsMap_none_of_in X hok hni,PySem.W.tail_of_in X ht⟩
  ·cases q
 ·cases q
def sF (X:Cx) (x:Str) (V:DM->Prop):Prop:=X.calm = true/\X.ex = []/\∃ C bmB newId B initId,X.mg x = some (.ref C)/\excIn X.K C bmB newId = true/\ExcBaseFacts B newId initId bmB /\
 ∀ pins σ H s a M',Inv X pins σ H s->Nw s.heap a (.ref C)->FpN X pins H a->bV X.K M' H->V M'->X.xe (.ref a) s
def aDc (V:DM->Prop) (t:DA):DS:=fun _ ρ M=>t ρ M fun ds M1=>ds.length<=1000/\V M1
section
variable {X:Cx} {x:Str} {V:DM->Prop} {e:Expr} {es:List Expr} {t:DA} {np cpos pos:Pos}
theorem aF6 (R:sF X x V) (ha:PDA X (e :: es) t) (hg:Gl X x:=by rfl) (hd:(x == ("__debug__":Str)) = false:=by decide)
  (he:starEach (e :: es) X.env = (false,eval e X.env) :: starEach es X.env:=by rfl) (hpl:(backTo cpos (starEach es X.env)).any (·.1) = false:=by rfl) :
  PDS X (.Raise (some (.Call (.Name x np) (e :: es) [] cpos)) none pos) (aDc V t):=by
 intro pins s σ H D I ⟨ρ,M,D',re,hm,q,k⟩
 obtain ⟨calm,hex,C,bmB,newId,B,initId,hmg,hq,FB,fly⟩:=R
 obtain ⟨tl,N,nm,qn,bs,hdct,sn,sub,ab,col,dd,k0,k1,k2,k3,k5,mN,hC,hN,hni,T⟩:=aDi I.ok.mod.kin hq
 refine wpAny_Raise_call_subT (C:=C) (nm:=nm) (q:=qn) (N:=N) (bs:=bs) (bm:=tl) (hdct:=hdct) (sn:=sn) (sub:=sub) (ab:=ab) (col:=col) (dd:=dd) (k0:=k0) (k1:=k1) (k2:=k2) (k3:=k3) (k5:=k5)
  FB (mN:=mN) (T.hasType FB.hasBase) (I.ok.hd calm) (by rw [he];show (false || (backTo cpos (starEach es X.env)).any (·.1)) = false;rw [hpl];rfl) hni (hJ I hg hmg ⟨rfl,?_⟩ hd)
 have h:=ha cpos pins s σ H (LA X.K H fun ds M1=>ds.length<=1000/\V M1) I ⟨ρ,M,_,re,hm,q,fun vs H' z=>z⟩
 rw [he] at h ⊢
 refine Calls.evalArgs_plain (wpAny_mono h (fun us s₂ ⟨vs,H2,I2,rv,ds,M2,rs,hm2,ex,hl,hV⟩=>⟨rfl,?_,I2.bk _ _ hC,hN.keeps I2.bk,T.keeps I2.bk,fun h' a mk=>?_⟩) fun _ _ y=>y)
 ·show us.length<=sizeLine
  rw [<- rv.length,<- rs.length];exact Nat.le_of_lt (eK hl)
 ·obtain ⟨tt,ht,_⟩:=mk.there
  have I3:Inv X pins σ H2 { s₂ with heap:=h' }:=I2.kept (t':=s₂.toks) mk.keeps
  have hn:=I2.untr mk.new
  exact fly pins σ H2 _ a M2 I3 ⟨_,_,ht,⟨rfl,rfl⟩,rfl,rfl⟩ (I2.fpN hex mk.new hn) hm2 hV
end
def spX (K:Frag) (C:Addr) (cond:List D->DM->Prop):Sp:=fun vs H _ E=>∃ ds M,bT K H ds vs/\bV K M H/\cond ds M/\∀ M' H',bV K M' H'->bB M M'->E (.ref C) none H'
noncomputable def bmV:List Value:=[.type "ValueError",.type "Exception",.type "BaseException",.type "object"]
def aAX (K:Frag) (mg:Str->Option Value) (x:Str) (C:Addr):Prop:=mg x = some (.ref C)/\excIn K C bmV "ValueError.__new__" = true
def gY (P:Program) (w:World) (K:Frag) (mg:Str->Option Value) (base:Heap) (k:Nat) (x:Str) (ps:List Str) (C:Addr) (cond:List D->DM->Prop):Prop :=
 ∃ f fd,jV P w K mg base (CXr P w) k f fd ps (spX K C cond)/\mg x = some (.ref f)/\keepIn K (.ref f) = true/\mO K fd ps []
section
variable {P:Program} {w:World} {K:Frag} {mg:Str->Option Value} {base:Heap}
theorem gY.mk {x c:Str} {C:Addr} {st:Stmt} {N ps:List Str} {k:Nat} {cond:List D->DM->Prop} (h:cK K mg x st ps) (hc:aAX K mg c C) (S:aS N ps (aI st)) (len:∀ ds M,cond ds M->ds.length = ps.length)
  (hbody:∀ (f:Addr) (cdv:Value) (A:Around) (outer:List Env) (s:Shared) (H:Hp) (ds:List D) (M:DM) (E:XK),cZ k (A.deeper (envOfC x (aI st) s.heap.objs.size f cdv))->cond ds M ->
   sF (jC (CXr P w) P w K mg base N x (aI st) f cdv A outer s H E) c (bB M) ->
   ∃ t,kE (jC (CXr P w) P w K mg base N x (aI st) f cdv A outer s H E) (eO st) t/\t { nx:=fun _ _=>False,rt:=fun _ _=>False } (gW N ds) M)  :gY P w K mg base (k + 1) x ps C cond:=by
 obtain ⟨f,fd,F,hm,hb⟩:=h
 refine ⟨f,fd,?_,hm,F.kp,hb⟩
 obtain ⟨oc,od,kV,doc,pm,an,cdv,ct,osl,rfl,lk,hcd⟩:=F.ex
 refine aDv lk hcd S (fun vs H Q E ⟨ds,M,rs,hm,q,_⟩=>by rw [<- rs.length];exact len ds M q) fun A outer s H vs Q E hr ⟨ds,M,rs,hm,q,k'⟩=>?_
 have RO:sF (jC (CXr P w) P w K mg base N x (aI st) f cdv A outer s H E) c (bB M) :=
  ⟨rfl,rfl,C,bmV,_,_,_,hc.1,hc.2,PySem.F.excBase_ValueError,fun pins σ H' s1 a M' I n fe hm' sub =>
   aEB (X:=jC (CXr P w) P w K mg base N x (aI st) f cdv A outer s H E) I rfl rfl rfl I.ok.frames n fe fun s' T I' t' fT _ =>
    ⟨a,.ref C,T,H',rfl,I'.os,I'.bare,I'.base,I'.hok,t',fe.2.2.1,fT.2.2.1,fe.1,fT.1,k' M' H' hm' sub⟩⟩
 obtain ⟨t,h1,h2⟩:=hbody f cdv A outer s H ds M E hr q RO
 exact ⟨_,h1,gW N ds,M,_,nN rs N,hm,h2,⟨fun σ' H' ⟨_,_,_,_,_,z⟩=>z.elim,fun v H' ⟨_,_,_,_,_,z⟩=>z.elim,fun σ' H' ⟨_,_,_,_,_,z⟩=>z.elim,fun σ' H' ⟨_,_,_,_,_,z⟩=>z.elim⟩⟩
abbrev aM0 (P:Program) (w:World) (K:Frag) (mg:Str->Option Value) (base:Heap) (k:Nat) (x:Str) (ps:List Str) (C:Addr) (cond:List D->Prop):Prop:=gY P w K mg base k x ps C fun ds _=>cond ds
end
def ExO (o:Obj) (C:Addr):Prop:=o.cls = .ref C/\o.dict = none/\∃ vs,o.data = .fields vs
noncomputable abbrev Exc (X:Cx) (a:Addr) (o:Obj):Cx:={ X with A:=X.A.mark (some (.ref a)),calm:=false,pn:=(a,o) :: X.pn }
section
variable {X:Cx} {pins:List (Addr × Obj)} {σ:L2.St} {H:Hp} {s:Shared} {a:Addr} {o:Obj}
theorem aKk (I:X.Ok):(Exc X a o).Ok :=
 ⟨I.mod,I.kind,I.glob,I.blt,I.above,I.inj,I.has,I.cab,(fun z=>nomatch z),I.frames,I.stk,I.exf,I.bs,I.bsz,I.noex,I.exfs,I.funs,I.frf⟩
theorem aAM (I:Inv X pins σ H s) (h:s.heap.get? a = some o) (n:H a = none) (nl:a ≠ X.env.locals) (nf:a ∉ X.fs) (nc:∀ v,o.data ≠ .cell v):Inv (Exc X a o) pins σ H s :=
 ⟨aKk I.ok,I.os,I.bare,I.base,I.loc,I.cell,I.free,I.freeC,fun p hp=>by
  rcases List.mem_cons.mp hp with z | z
  ·subst z;exact ⟨h,n,nl,nf,nc⟩
  ·exact I.pin p z,I.hok,I.len⟩
theorem lK (ok:X.Ok) (I:Inv (Exc X a o) pins σ H s):Inv X pins σ H s :=
 ⟨ok,I.os,I.bare,I.base,I.loc,I.cell,I.free,I.freeC,fun p hp=>I.pin p (mem_cons_of_mem _ hp),I.hok,I.len⟩
theorem iK {M:Model} {A:Around} {E:Value->Shared->Prop} {n:Str} {j:Nat} {pos:Pos} {Q:Unit->Shared->Prop} (I:Inv X pins σ H s) (hN:X.N.Nodup) (hj:X.N[j]? = some n) (hl:X.env.scope.names.lookup n = some .local)
  (h:∀ s',Inv X pins (σ.set j none) H s'->Q () s'):wpAny M A (do bindName X.env n .none;unbindBehindTheSuite X.env n pos) Q E s:=by
 obtain ⟨m,hn,hlo⟩:=id I.loc
 have hcls:(X.env.scope.kind == .class || (X.env.scope.kind == .module && X.env.locals != X.env.globals)) = false:=by rw [I.ok.kind];rfl
 have cne:=I.cne
 refine wpAny_nameGoes_keeps hl hn hcls fun h' v hn' hs=>h _ ?_
 obtain ⟨oL,_,_,hoL,_⟩:=id hn
 refine ⟨I.ok,I.os,I.bare,⟨fun b o e n hb hx=>?_,fun b o e n hb hx=>?_,I.base.free,fun b o e hx=>?_,I.base.tups,I.base.frzs,I.base.tbls⟩,⟨_,hn',fun i y v' e1 e2 e3=>?_⟩,fun y c e=>?_,I.free,I.freeC,fun p hp=>?_,fun b ob e=>?_,by simpa using I.len⟩
 ·exact (hs.2 b (Nat.ne_of_lt (Nat.lt_of_lt_of_le (Heap.lt_size e) I.ok.above))).trans (I.base.keep b o e n hb hx)
 ·obtain ⟨sl,e1⟩:=I.base.slot b o e n hb hx
  exact ⟨sl,(hs.2 b (Nat.ne_of_lt (Nat.lt_of_lt_of_le (Heap.lt_size e) I.ok.above))).trans e1⟩
 ·obtain ⟨o',e1⟩:=I.base.there b o e hx
  exact ⟨o',(hs.2 b (Nat.ne_of_lt (Nat.lt_of_lt_of_le (Heap.lt_size e) I.ok.above))).trans e1⟩
 ·have hij:i ≠ j:=fun z=>by
   subst z
   rw [getElem?_set] at e2
   rw [if_pos rfl] at e2
   split at e2<;>cases e2
  rw [List.getElem?_set_ne (Ne.symm hij)] at e2
  obtain ⟨u,r,q⟩:=hlo i y v' e1 e2 e3
  refine ⟨u,r,?_⟩
  rcases q with ⟨k,e⟩ | ⟨k,c,e,z⟩
  ·refine .inl ⟨k,?_⟩
   have:y ≠ n:=fun e=>hij (xS hN e1 (e ▸ hj))
   simp [this,e]
  ·exact .inr ⟨k,c,e,z.sameBut hs (cne y c e)⟩
 ·obtain ⟨w',z⟩:=I.cell y c e
  exact ⟨w',z.sameBut hs (cne y c e)⟩
 ·obtain ⟨e,n,ne,nf,d⟩:=I.pin p hp
  exact ⟨(hs.2 p.1 ne).trans e,n,ne,nf,d⟩
 ·refine (I.hok b ob e).stay (fun c w' hc q=>(hs.2 c ?_).trans q) (fun _ q=>q) fun _ _ q=>q
  rintro rfl
  rcases hc with rfl | hc
  ·rw [I.free] at e;cases e
  ·rw [I.free] at hc;cases hc
end
theorem fH.setN {K:Frag} {H:Hp} {ρ:cL} {σ:L2.St} (h:fH K H ρ σ) (i:Nat):fH K H (ρ.set i none) (σ.set i none):=by
 refine ⟨by rw [length_set,length_set,h.len],fun j d' q=>?_⟩
 rw [getElem?_set] at q
 by_cases hij:i = j
 ·subst hij
  rw [if_pos rfl] at q
  split at q<;>cases q
 ·rw [if_neg hij] at q
  obtain ⟨u,a,b⟩:=h.get j d' q
  exact ⟨u,by rw [getElem?_set,if_neg hij];exact a,b⟩
noncomputable def gA.un (D:gA) (j:Nat):gA:={ nx:=fun ρ M=>D.nx (ρ.set j none) M,rt:=D.rt,bk:=fun ρ M=>D.bk (ρ.set j none) M,ct:=fun ρ M=>D.ct (ρ.set j none) M }
noncomputable def aCH (D:pN) (j:Nat):pN:={ nx:=fun ρ M=>D.nx (ρ.set j none) M,rt:=D.rt,bk:=fun ρ M=>D.bk (ρ.set j none) M,ct:=fun ρ M=>D.ct (ρ.set j none) M }
theorem jF.un {K:Frag} {H:Hp} {D:gA} {E:pN} (k:jF K H D E) (j:Nat):jF K H (D.un j) (aCH E j) :=
 ⟨fun σ' H' ⟨ρ',M',re,hm,ex,q⟩=>k.nx _ H' ⟨_,M',re.setN j,hm,ex,q⟩,k.rt,fun σ' H' ⟨ρ',M',re,hm,ex,q⟩=>k.bk _ H' ⟨_,M',re.setN j,hm,ex,q⟩,fun σ' H' ⟨ρ',M',re,hm,ex,q⟩=>k.ct _ H' ⟨_,M',re.setN j,hm,ex,q⟩⟩
section
variable {X:Cx} {a:Expr} {e:Expr} {es:List Expr} {t:DA} {x f n cm:Str} {ps:List Str} {sp:DSp} {cond:List D->DM->Prop} {C Cm:Addr} {k1 k2 k i j:Nat} {ts:Addr->DS} {b0:Stmt} {suite:List Stmt} {px pf pc pa pcm ph pos:Pos}
theorem aKM {pins:List (Addr × Obj)} {σ:L2.St} {H1:Hp} {s1 s':Shared} {M1:DM} {ρ:cL} {De:gA} {En:pN} {ev:Value} (ok:X.Ok) (hs:X.stack = X.env :: X.outer) (hf:X.env.frame = some X.env.locals) (hex:X.ex = [])
  (hX:∀ e s,X.xe e s->False) (hN:X.N.Nodup) (hj:X.N[j]? = some n) (hnl:X.env.scope.names.lookup n = some .local)
  (hcm:X.mg cm = some (.ref Cm)) (hgc:Gl X cm) (hdc:(cm == ("__debug__":Str)) = false) (hmt:exmOne X.K (.ref C) (.ref Cm) = some true)
  (hsu:∀ a o,ExO o C->kE (Exc X a o) (b0 :: suite) (ts a))
  (I1:Inv X pins σ H1 s1) (re:fH X.K H1 ρ σ) (k:jF X.K H1 De En) (q:∀ a,ts a (De.un j) (ρ.set j (some (.ref a))) M1)
  (h:CXr X.prog X.w X.stack H1 s1 (fun c _ H'=>c = .ref C/\∃ M',bV X.K M' H'/\bB M1 M') ev s') :
  wpAny (model X.prog X.w) X.A (noteFrame ev X.env) (fun _ s₂=>wpAny (model X.prog X.w) X.A (setFlight ev none)
   (fun _ s₃=>wpAny (model X.prog X.w) X.A (handleBy ev X.env [.ExceptHandler (some (.Name cm pcm)) (some n) (b0 :: suite) ph]) (SP X pins En) X.xe s₃) X.xe s₂) X.xe s':=by
 obtain ⟨a,cls,T,H',rfl,os,bare,un,hok,tr,na,nT,ha,hT,rfl,M',hm',sub⟩:=h
 have I2:Inv X pins σ H' s':=I1.call' (ch:=[]) os un hok bare (fun b z=>absurd z (by simp))
 have fa:FpN X pins H' a:=I1.fpN hex na ha
 have fT:FpN X pins H' T:=I1.fpN hex nT hT
 have ex:Ext H1 H':=⟨un.tups,un.frzs⟩
 refine zW I2 hs hf hex I2.ok.frames tr fa fT fun s3 T3 I3 t3 f3=>?_
 refine oB I3 t3 f3 fun s4 I4 t4=>?_
 have noF:∀ {s:Shared} {oe:Obj} {vs:Array Value},Inv X pins σ H' s->s.heap.get? a = some oe->oe.data = .fields vs->a ∉ X.fs:=fun {s oe vs} I he hd hb=>by
  obtain ⟨_,o,ho,hnf⟩:=I.funs.mem hb
  rw [he] at ho;cases ho;exact hnf vs hd
 have inn:∀ {s:Shared} {T fl},Inv X pins σ H' s->Tr s.heap a (.ref C) T fl->∃ oe,oe.cls = .ref C/\s.heap.get? a = some oe/\Inv (Exc X a oe) pins σ H' s:=fun {s T fl} I t=>by
  obtain ⟨oe,vs,oT,ts,he,hc,hd,_⟩:=t
  exact ⟨oe,hc.1,he,aAM I he ha fa.2.1 (noF I he hd) fun v z=>by rw [hd] at z;cases z⟩
 obtain ⟨o4,hc4,he4,J4⟩:=inn I4 t4
 refine wpAny_handleBy_cons (codeAny_handlers_test ?_) (by intro z;cases z)
 refine hJ (X:=Exc X a o4) J4 hgc hcm ?_ hdc
 have LT:∀ M:Model,PySem.W.Looks M s4.heap (typeOf (.ref a)) (.ref C):=fun M=>hc4 ▸ (PySem.W.Looks.ld he4).andThen .now
 refine (PySem.W.exm_one J4.kIn (LT _) hmt).here ?_
 simp only [if_true]
 refine codeAny_handlers_suite_as ?_
 refine oB I4 t4 f3 fun s5 I5 t5=>?_
 obtain ⟨oe,vs,oT,tts,he5,hc5,hd5,_⟩:=t5
 refine qJ (v:=.ref a) I5 hN hj (.inl hnl) rfl (fun s6 I6 ⟨b,hsb,hb⟩=>?_) (.inr hnl)
 have hne:a ≠ b:=by
  rcases hb with hb | hb
  ·rw [hb];exact fa.2.1
  ·exact fun z=>fa.2.2.2.1 n b hb z.symm
 have he6:s6.heap.get? a = some oe:=(hsb.2 a hne).trans he5
 have J6:Inv (Exc X a oe) pins (σ.set j (some (.ref a))) H' s6:=aAM I6 he6 ha fa.2.1 (noF I5 he5 hd5) fun v z=>by rw [hd5] at z;cases z
 have run:=hsu a oe ⟨hc5.1,hc5.2,_,hd5⟩ pins s6 (σ.set j (some (.ref a))) H' (aCH En j) J6 ⟨_,M1,De.un j,(re.ext ex).set eS j,hm'.sub sub,q a,(k.at ex).un j⟩
 refine wpAny_mono run (fun fl s7 h7=>?_) fun x s7 h7=>(hX x s7 h7).elim
 cases fl with
 | next =>
  obtain ⟨σ',H7,I7,q7⟩:=h7
  exact iK (lK ok I7) hN hj hnl fun s8 I8=>⟨_,H7,I8,q7⟩
 | brk =>
  obtain ⟨σ',H7,I7,q7⟩:=h7
  exact iK (lK ok I7) hN hj hnl fun s8 I8=>⟨_,H7,I8,q7⟩
 | cont =>
  obtain ⟨σ',H7,I7,q7⟩:=h7
  exact iK (lK ok I7) hN hj hnl fun s8 I8=>⟨_,H7,I8,q7⟩
 | ret u =>
  obtain ⟨v,σ',H7,I7,r7,q7⟩:=h7
  exact iK (lK ok I7) hN hj hnl fun s8 I8=>⟨v,_,H7,I8,r7,q7⟩
theorem aIP {pins:List (Addr × Obj)} {σ:L2.St} {H1:Hp} {s1:Shared} {M1:DM} {ds:List D} {us:List Value} {vs:List V} {Q:Value->Shared->Prop} {E:Value->Shared->Prop} {f':Addr} {Q':DQ}
  (hH:gY X.prog X.w X.K X.mg X.base k1 f ps C cond) (hh:Has X.prog X.w X.K X.mg X.base k2 f ps sp) (hr:cZ k X.A) (hk1:k1<=k) (hk2:k2<=k) (hmf:X.mg f = some (.ref f'))
  (I1:Inv X pins σ H1 s1) (rv:bS vs us) (rs:bT X.K H1 ds vs) (hm1:bV X.K M1 H1)
  (q:(cond ds M1/\∀ ev s',CXr X.prog X.w X.stack H1 s1 (fun c _ H'=>c = .ref C/\∃ M',bV X.K M' H'/\bB M1 M') ev s'->E ev s') ∨ sp ds M1 Q')
  (hQ:∀ u s',EP X pins σ (LQ X.K H1 Q') u s'->Q u s'):wpAny (model X.prog X.w) X.A (call (.ref f') us) Q E s1:=by
 rcases q with ⟨q,hE⟩ | q
 ·obtain ⟨f1,fd,F,hm,_,hb⟩:=hH
  have hf:f1 = f':=by have:=hm.symm.trans hmf;cases this;rfl
  subst hf
  have hsp:spX X.K C cond vs H1 (fun _ _=>False) (fun c _ H'=>c = .ref C/\∃ M',bV X.K M' H'/\bB M1 M'):=⟨ds,M1,rs,hm1,q,fun M' H' a b=>⟨rfl,M',a,b⟩⟩
  have hl:(us ++ []).length = ps.length:=by rw [append_nil,<- rv.length];exact F.len _ _ _ _ hsp
  have hbb:=hb s1 us I1.kIn hl
  rw [append_nil] at hbb
  refine wpAny_call (codeAny_mono (F.run X.A X.stack s1 H1 ⟨us,[]⟩ us vs _ _ (hr.mono hk1) I1.env0 hbb rv hsp) fun r s' hq=>?_)
  cases r with
  | error ev=>exact hE ev s' hq
  | ok fl =>
   cases fl with
   | ret u=>obtain ⟨_,_,_,_,_,_,_,z⟩:=(show CE _ _ _ _ _ _ _ _ from hq);exact z.elim
   | next=>exact False.elim hq
   | brk=>exact False.elim hq
   | cont=>exact False.elim hq
 ·obtain ⟨f1,fd,F,hm,_,hb⟩:=hh
  have hf:f1 = f':=by have:=hm.symm.trans hmf;cases this;rfl
  subst hf
  have hsp:pP X.K sp vs H1 (LQ X.K H1 Q') (fun _ _ _=>False):=⟨ds,M1,Q',rs,hm1,q,fun v H' z=>z⟩
  have hl:(us ++ []).length = ps.length:=by rw [append_nil,<- rv.length];exact F.len _ _ _ _ hsp
  have hbb:=hb s1 us I1.kIn hl
  rw [append_nil] at hbb
  refine wpAny_call (codeAny_mono (F.run X.A X.stack s1 H1 ⟨us,[]⟩ us vs _ _ (hr.mono hk2) I1.env0 hbb rv hsp) fun r s' hq=>?_)
  cases r with
  | error ev=>exact False.elim hq
  | ok fl =>
   cases fl with
   | ret u=>exact hQ u s' (I1.after hq)
   | next=>exact False.elim hq
   | brk=>exact False.elim hq
   | cont=>exact False.elim hq
end
section
open PySem.W PySem.Calls
theorem aE1 {K:Frag} {x t c:Value} {H:Heap->Prop} (ty:∀ (M:Model) (h:Heap),H h->Looks M h (typeOf x) t) (e:kitOne K t c = some true):Answers (fun s=>K.In s.heap/\H s.heap) x c true:=by
 intro dep tk prog w A R s hs
 obtain ⟨h0,g,d,tt,os⟩:=s
 obtain ⟨⟨X,p⟩,hq⟩:=hs
 have LT:=ty (model prog w) h0 p
 unfold kitOne at e
 unfold Builtin.«isinstance.nested»
 refine wpAny_bind (LT.at ?_)
 by_cases q:(t == c) = true
 ·rw [if_pos q]
  first
   | ((repeat lk);exact hq tt)
   | exact wpAny_bind (wpAny_rule (hq tt))
   | exact wpAny_bind (wpAny_rule (wpAny_pure (hq tt)))
 ·rw [if_neg q] at e
  rw [if_neg q]
  obtain ⟨hty,his,hsub⟩:=kit_cls (M:=model prog w) X e
  have LI:Looks (model prog w) h0 (isInstance x c) true:=LT.andThen hsub
  refine wpAny_bind (hty.at ?_)
  rw [if_pos (by decide)]
  k_delta "plainIsInstance"
  refine wpAny_bind (wpAny_bind (his.at ?_))
  simp only [Bool.not_true,Bool.false_eq_true,if_false]
  refine wpAny_bind (LI.at ?_)
  first
   | exact wpAny_pure (wpAny_pure (hq tt))
   | (simp only [if_true];first | exact wpAny_pure (wpAny_pure (hq tt)) | exact wpAny_pure (hq tt) | exact wpAny_bind (wpAny_pure (wpAny_pure (hq tt))))
theorem aCb {K:Frag} {x t c:Value} {H:Heap->Prop} {prog:Program} {w:World} {A:Around} {E:Value->Shared->Prop} {s:Shared} {Q:Value->Shared->Prop} (ty:∀ (M:Model) (h:Heap),H h->Looks M h (typeOf x) t) (X:K.In s.heap) (p:H s.heap)
  (e:kitOne K t c = some true) (hx:x ≠ .builtin "__main__.__loader__#opaque") (h:∀ tk,Q (.bool true) { s with toks:=tk }):wpAny (model prog w) A (call (.builtin "isinstance") [x,c]) Q E s :=
 call_isinstance (S:=fun _ R s=>(K.In s.heap/\H s.heap)/\∀ tk,R (.ok (.ret (.bool true))) { s with toks:=tk })
  (fun prog w A R s hs=>isinstance_outer (aE1 ty e 0 _ prog w A R s hs) hx) ⟨⟨X,p⟩,h⟩
end
theorem yN {K:Frag} {t:Value}:kitOne K t t = some true:=by unfold kitOne;rw [if_pos (beq_self_eq_true t)]
def aGB (j:Nat) (a:Addr):DE:=fun ρ M Q=>ρ[j]? = some (some (.ref a))/\Q (.bl true) M
section
variable {X:Cx} {n c:Str} {C Cc a:Addr} {o:Obj} {p p1 p2 pos:Pos} {j:Nat}
theorem aIG {T:String} (ho:ExO o C) (hki:kitOne X.K (.ref C) (.type T) = some true) (hmi:X.mg "isinstance" = none) (hmc:X.mg c = none) (hv:bootBuiltins c = some (.type T):=by rfl) (hj:X.N[j]? = some n:=by rfl) (hnl:Vis X.env.scope n:=by first | exact Or.inl rfl | exact Or.inr (Or.inl rfl) | exact Or.inr (Or.inr rfl))
  (hgi:Gl X "isinstance":=by rfl) (hgc:Gl X c:=by rfl) (hnn:c ≠ "__name__":=by decide) (hd1:(n == ("__debug__":Str)) = false:=by decide) (hd2:(n == ("__classdict__":Str)) = false:=by decide) (hd3:(c == ("__debug__":Str)) = false:=by decide)
  (hs:∀ env:Env,starEach [.Name n p1,.Name c p2] env = (false,eval (.Name n p1) env) :: starEach [.Name c p2] env:=by intro _;rfl) (hs2:∀ env:Env,starEach [.Name c p2] env = (false,eval (.Name c p2) env) :: starEach [] env:=by intro _;rfl)
  (hpl:(backTo pos (starEach [.Name c p2] X.env)).any (·.1) = false:=by rfl) :
  PDE (Exc X a o) (.Call (.Name "isinstance" p) [.Name n p1,.Name c p2] [] pos) (aGB j a):=by
 have hc:jO (Exc X a o) (.builtin "isinstance") fun vs H Q=>vs = [.ref a,.ty T]/\Q (.bl true) H:=by
  intro pins s σ H xs us Q I rs ⟨e,q⟩
  subst e
  obtain ⟨u1,us1,rfl,r1,rs1⟩:∃ u1 us1,us = u1 :: us1/\cF (.ref a) u1/\bS [.ty T] us1:=by cases rs with | cons r t=>exact ⟨_,_,rfl,r,t⟩
  obtain ⟨u2,us2,rfl,r2,rs2⟩:∃ u2 us2,us1 = u2 :: us2/\cF (.ty T) u2/\bS [] us2:=by cases rs1 with | cons r t=>exact ⟨_,_,rfl,r,t⟩
  obtain rfl:us2 = []:=by cases rs2;rfl
  obtain rfl:u1 = Value.ref a:=r1
  obtain rfl:u2 = Value.type T:=r2
  have pn:=I.pin (a,o) (mem_append_left _ (mem_cons_self))
  exact aCb (K:=X.K) (H:=fun h=>h.get? a = some o) (fun M h e=>ho.1 ▸ (PySem.W.Looks.ld e).andThen .now) I.kIn pn.1 hki (fun z=>nomatch z) fun tk=>⟨.bl true,H,I.tok tk,rfl,q⟩
 refine bW (nA (X:=Exc X a o) hc hgi hmi rfl (jA (nW (X:=Exc X a o) (i:=j) hj hnl hd1 hd2) (jA (aAJ (X:=Exc X a o) (v:=.ty T) hgc hmc hv rfl hnn hd3) uD (hs2 _)) (hs _)) (by decide) (by decide) (hs _) hpl) fun σ H Q ⟨ρ,M,Q',re,hm,⟨e,q⟩,k⟩=>?_
 obtain ⟨v,e1,rv⟩:=re.get j _ e
 obtain rfl:=aV rv
 exact ⟨_,e1,rfl,k _ H ⟨_,M,cQ,hm,.refl H,q⟩⟩
end
section
open PySem.W PySem.Calls
variable {prog:Program} {w:World} {A:Around} {E:Value->Shared->Prop} {s:Shared} {K:Frag} {x C D:Addr} {ox:Obj}
theorem aEH {Q:Option Value->Shared->Prop} (X:K.In s.heap) (I:InstAt s.heap x ox D none) (hga:findIn K (.ref D) "__getattribute__" = some (some (.builtin "BaseException.__getattribute__")))
  (hgn:findIn K (.ref D) "__getattr__" = some none) (hcl:findIn K (.ref D) "__class__" = some (some (.builtin "object.__class__"))) (hcd:(clsIn K D).isSome = true) (hn:specialIn K (.builtin "object.__class__") "__get__" = some (some (.builtin "getset_descriptor.__get__"))) (htk:takesIn K (.builtin "object.__class__") = some true) (hm:mroIn K D (.type "object") = some true) (hmb:mroIn K D (.type "BaseException") = some true)
  (h:Q (some (.ref D)) { s with toks:=s.toks + 1 }):wpAny (model prog w) A (getAttr? (.ref x) "__class__") Q E s:=by
 obtain ⟨hh,g,d,t,os⟩:=s
 have L0:=I.type (M:=model prog w)
 have L1:=looks_findIn (M:=model prog w) X hga
 unfold getAttr? getAttrBy? getAttrBy
 refine wpAny_bind (wpAny_mkText (wpAny_bind (wpAny_attempt (wpAny_holding (wpAny_bind (L0.at (wpAny_bind (L1.at ?_))))))))
 have hx2:(onTheHeap (Value.ref D) && Value.builtin "BaseException.__getattribute__" == Value.builtin "object.__getattribute__") = false:=by
  rw [show (Value.builtin "BaseException.__getattribute__" == Value.builtin "object.__getattribute__") = false by decide +kernel,Bool.and_false]
 dsimp only
 rw [if_neg (by rw [hx2];exact Bool.false_ne_true)]
 have f3:=PySem.F.attr_ValueError.ga.bind (.ref x)
 have L2:=looks_findIn (M:=model prog w) X hgn
 have L3:=looks_mroIn (M:=model prog w) X hmb
 have hf:findObj K D none "__class__" = some (.bind (.builtin "getset_descriptor.__get__") (.builtin "object.__class__")):=by
  obtain ⟨cd,hc⟩:=Option.isSome_iff_exists.mp hcd
  unfold findObj
  rw [hc,Option.bind_some,hcl,Option.bind_some]
  simp [hn,htk]
 have L4:=looks_find (M:=model prog w) X I hf
 unfold getAttrByItsOwn hookBefore callGetattribute
 refine wpAny_bind ?_
 rw [if_pos (show onTheHeap (Value.ref D) = true from rfl)]
 refine L2.at ?_
 refine wpAny_bind (wpAny_attempt (wpAny_holding ?_))
 rw [if_neg (by simp)]
 unfold boundAndCalled
 rw [f3]
 refine wpAny_bind (wpAny_pure ?_)
 dsimp only [cons_append,nil_append]
 have hk:builtinKind "BaseException.__getattribute__" = some .slot:=by decide +kernel
 have hsplit:splitId "BaseException.__getattribute__" = some ("BaseException","__getattribute__"):=by decide +kernel
 have ha:=PySem.F.args_bexc_ga (.ref x) (.str "__class__" t)
 refine wpAny_call (codeAny_call_builtin PySem.F.attr_ValueError.ga.plain PySem.F.entry_bexc_ga ?_)
 simp only [checkBuiltinCall,hk,hsplit]
 refine wpAny_bind ?_
 unfold isInstance
 refine wpAny_bind (L0.at ?_)
 refine L3.at ?_
 simp only [Bool.not_true,Bool.false_eq_true,if_false]
 repeat (any_goals (first | assumption | (with_reducible refine L0.at ?_) | (with_reducible refine L4.at ?_) | wp_step))
 refine class_get (ox:=ox) (od:=none) X I hm ?_
 repeat (any_goals (first | assumption | exact h | wp_step))
structure nR (K:Frag) (D:Addr):Prop where
 ga:findIn K (.ref D) "__getattribute__" = some (some (.builtin "BaseException.__getattribute__"))
 gn:findIn K (.ref D) "__getattr__" = some none
 cl:findIn K (.ref D) "__class__" = some (some (.builtin "object.__class__"))
 nn:specialIn K (.builtin "object.__class__") "__get__" = some (some (.builtin "getset_descriptor.__get__"))
 tk:takesIn K (.builtin "object.__class__") = some true
 mo:mroIn K D (.type "object") = some true
 mb:mroIn K D (.type "BaseException") = some true
theorem nR.cd (e:nR K D):∃ cd,clsIn K D = some cd:=by
 obtain ⟨cd,a,_⟩:=Option.bind_eq_some_iff.mp e.mo
 exact ⟨cd,a⟩
theorem aB3 {o:Obj} (e:nR K D) (ho:ExO o D):KitX K (.ref x) (.ref D) (fun h=>h.get? x = some o) where
 ty:=fun _ _ _ q=>ho.1 ▸ (Looks.ld q).andThen .now
 it:=fun _ _ X _=>by
  obtain ⟨cdD,hcD⟩:=e.cd
  unfold clsIn at hcD
  split at hcD
  ·rename_i c' d' cd' sl' hk
   intro A' Q' E' s' k q
   unfold isType loadHead
   exact wpAny_bind (wpAny_loadPart (k _ _ (X _ _ hk)) (wpAny_pure q))
  ·cases hcD
 ne:=fun h tp dd its n sl X htp=>by
  obtain ⟨cdD,hcD⟩:=e.cd
  refine Bool.eq_false_iff.mpr fun q=>?_
  have ee:D = tp:=Value.ref.inj (beq_iff_eq.mp q)
  subst ee
  unfold clsIn at hcD
  split at hcD
  ·rename_i c' d' cd' sl' hk
   have z:=(X _ _ hk).symm.trans htp
   cases z
  ·cases hcD
 ca:=fun {_ _ _ _ _ s} X q k=>by
  obtain ⟨h1,h2,vs,h3⟩:=ho
  have I:InstAt s.heap x o D none:=⟨q,h1,by unfold notCls;rw [h3],by rw [h2];trivial⟩
  exact aEH X I e.ga e.gn e.cl (by obtain ⟨cd,z⟩:=e.cd;rw [z];rfl) e.nn e.tk e.mo e.mb k
end
section
variable {X:Cx} {a C:Addr} {o:Obj}
def aGZ (K:Frag) (C a:Addr):DSp:=fun ds M Q=>∃ (cs:List Addr) (b:Bool),ds = [.ref a,.tup (cs.map D.ref)]/\kitAny K (.ref C) (cs.map Value.ref) = some b/\Q (.bl b) M
theorem uE {K:Frag} {H:Hp}:∀ {cs:List Addr} {xs:List V} {its:List Value},bT K H (cs.map D.ref) xs->bS xs its->its = cs.map Value.ref
 | [],xs,its,r,v=>by rw [bD r] at v;cases v;rfl
 | c :: cs,xs,its,r,v=>by
  obtain ⟨v0,r0,rfl,hv,hr⟩:=aR r
  obtain rfl:=aV hv
  cases v with
  | cons r1 t1=>rw [uE hr t1];rw [show _ = Value.ref c from r1];rfl
theorem aIA (ho:ExO o C) (ek:nR X.K C):fV (Exc X a o) (.builtin "isinstance") (aGZ X.K C a):=by
 intro pins s σ H xs us Q I rs ⟨ds,M,Q',r1,hm,⟨cs,b,e,hk,q⟩,k⟩
 subst e
 obtain ⟨v1,r2,rfl,hv1,r3⟩:=aR r1
 obtain rfl:=aV hv1
 obtain ⟨v2,r4,rfl,hv2,r5⟩:=aR r3
 obtain rfl:=bD r5
 obtain ⟨tp,ys,rfl,sq,ry⟩:=cE hv2
 obtain ⟨u1,us1,rfl,w1,rs1⟩:∃ u1 us1,us = u1 :: us1/\cF (.ref a) u1/\bS [.ref tp] us1:=by cases rs with | cons r t=>exact ⟨_,_,rfl,r,t⟩
 obtain ⟨u2,us2,rfl,w2,rs2⟩:∃ u2 us2,us1 = u2 :: us2/\cF (.ref tp) u2/\bS [] us2:=by cases rs1 with | cons r t=>exact ⟨_,_,rfl,r,t⟩
 obtain rfl:us2 = []:=by cases rs2;rfl
 obtain rfl:u1 = Value.ref a:=w1
 obtain rfl:u2 = Value.ref tp:=w2
 have pn:=I.pin (a,o) (mem_append_left _ (mem_cons_self))
 obtain ⟨its,hv,⟨ot,h1,h2,nn,h3⟩,_⟩:=I.tuple sq
 obtain rfl:=uE ry hv
 obtain ⟨oc,od,oda,osl⟩:=ot
 dsimp only at h2 h3
 subst h2 h3
 exact PySem.W.kia_tup (aB3 ek ho) I.kIn pn.1 h1 hk (fun z=>nomatch z) fun tk=>⟨.bl b,H,I.tok tk,rfl,k _ H ⟨_,M,cQ,hm,.refl H,q⟩⟩
end
section
open PySem.SeqAt
open PySem.AutoSeq1 (wpAny_loadPart')
open PySem.MeetsSeq PySem.MeetsSeq2 PySem.MeetsSeq3
end
section
variable {X:Cx} {j:Nat}
theorem aJk {K:Frag} {H:Hp} {a b:Int} {xs:List V} {its:List Value} (r:bT K H [.int a,.int b] xs) (v:bS xs its):∃ t u,its = [.int a t,.int b u]:=by
 obtain ⟨v1,r1,rfl,h1,r1'⟩:=aR r
 obtain rfl:=aU h1
 obtain ⟨v2,r2,rfl,h2,r2'⟩:=aR r1'
 obtain rfl:=aU h2
 obtain rfl:=bD r2'
 cases v with
 | cons q1 w1 =>
  cases w1 with
  | cons q2 w2 =>
   cases w2
   obtain ⟨t,rfl⟩:=q1
   obtain ⟨u,rfl⟩:=q2
   exact ⟨t,u,rfl⟩
end
def aLQ (t u:DS):DS:=fun D ρ M=>∃ R:cL->DM->Prop,t { D with nx:=R } ρ M/\∀ ρ' M',R ρ' M'->u D ρ' M'
section
variable {X:Cx} {st:Stmt} {dD:List Stmt} {t u:DS}
theorem aH7 (h1:PDS X st t) (h2:kE X dD u):kE X (st :: dD) (aLQ t u) :=
 aA7 (aBT h1 h2) fun E σ H ⟨ρ,M,D,re,hm,⟨R,q,k2⟩,k⟩ =>
  ⟨ρ,M,{ D with nx:=R },re,hm,q,⟨fun σ' H' ⟨ρ',M',re',hm',ex,r⟩=>⟨ρ',M',D,re',hm',k2 ρ' M' r,k.at ex⟩,k.rt,k.bk,k.ct⟩⟩
end
section
variable {X:Cx} {e:Expr} {es:List Expr} {t:DA} {x f cm:Str} {ps:List Str} {sp:DSp} {cond:List D->DM->Prop} {C Cm:Addr} {k1 k2 k i:Nat} {ts:DS} {b0:Stmt} {suite:List Stmt} {px pf pc pa pcm ph pos:Pos}
end
@[irreducible] def ZE (X:Cx) (e:Expr) (t:DE):Prop:=PDE X e t
theorem ZE.o {X:Cx} {e:Expr} {t:DE} (h:ZE X e t):PDE X e t:=by unfold ZE at h;exact h
theorem ZE.i {X:Cx} {e:Expr} {t:DE} (h:PDE X e t):ZE X e t:=by unfold ZE;exact h
@[irreducible] def ZT (X:Cx) (e:Expr) (t:DT):Prop:=PDT X e t
theorem ZT.o {X:Cx} {e:Expr} {t:DT} (h:ZT X e t):PDT X e t:=by unfold ZT at h;exact h
theorem ZT.i {X:Cx} {e:Expr} {t:DT} (h:PDT X e t):ZT X e t:=by unfold ZT;exact h
@[irreducible] def ZW (X:Cx) (e:Expr) (t:DT):Prop:=PDW X e t
theorem ZW.o {X:Cx} {e:Expr} {t:DT} (h:ZW X e t):PDW X e t:=by unfold ZW at h;exact h
theorem ZW.i {X:Cx} {e:Expr} {t:DT} (h:PDW X e t):ZW X e t:=by unfold ZW;exact h
@[irreducible] def ZA (X:Cx) (e:List Expr) (t:DA):Prop:=PDA X e t
theorem ZA.o {X:Cx} {e:List Expr} {t:DA} (h:ZA X e t):PDA X e t:=by unfold ZA at h;exact h
theorem ZA.i {X:Cx} {e:List Expr} {t:DA} (h:PDA X e t):ZA X e t:=by unfold ZA;exact h
@[irreducible] def ZS (X:Cx) (e:Stmt) (t:DS):Prop:=PDS X e t
theorem ZS.o {X:Cx} {e:Stmt} {t:DS} (h:ZS X e t):PDS X e t:=by unfold ZS at h;exact h
theorem ZS.i {X:Cx} {e:Stmt} {t:DS} (h:PDS X e t):ZS X e t:=by unfold ZS;exact h
@[irreducible] def ZSs (X:Cx) (e:List Stmt) (t:DS):Prop:=kE X e t
theorem ZSs.o {X:Cx} {e:List Stmt} {t:DS} (h:ZSs X e t):kE X e t:=by unfold ZSs at h;exact h
theorem ZSs.i {X:Cx} {e:List Stmt} {t:DS} (h:kE X e t):ZSs X e t:=by unfold ZSs;exact h
@[irreducible] def ZG (X:Cx) (e:Expr) (t:DG):Prop:=PDG X e t
theorem ZG.o {X:Cx} {e:Expr} {t:DG} (h:ZG X e t):PDG X e t:=by unfold ZG at h;exact h
theorem ZG.i {X:Cx} {e:Expr} {t:DG} (h:PDG X e t):ZG X e t:=by unfold ZG;exact h
@[irreducible] def ZGs (X:Cx) (e:List Expr) (t:DGs):Prop:=aAy X e t
theorem ZGs.o {X:Cx} {e:List Expr} {t:DGs} (h:ZGs X e t):aAy X e t:=by unfold ZGs at h;exact h
theorem ZGs.i {X:Cx} {e:List Expr} {t:DGs} (h:aAy X e t):ZGs X e t:=by unfold ZGs;exact h
@[irreducible] def ZO (X:Cx) (e:Option Expr) (t:DO):Prop:=PO X e (xQ X.K t)
theorem ZO.o {X:Cx} {e:Option Expr} {t:DO} (h:ZO X e t):PO X e (xQ X.K t):=by unfold ZO at h;exact h
theorem ZO.i {X:Cx} {e:Option Expr} {t:DO} (h:PO X e (xQ X.K t)):ZO X e t:=by unfold ZO;exact h
section
variable {K:Frag} {H H':Hp}
end
section
variable {K:Frag} {H H':Hp} {M M':DM}
end
section
variable {K:Frag} {H H':Hp} {ρ:cL} {σ:L2.St}
end
section
variable {K:Frag} {H H1:Hp}
end
section
variable {X:Cx} {e:Expr} {st:Stmt} {sts:List Stmt}
end
section
variable {X:Cx} {a b c e:Expr} {es:List Expr} {ta tb tc te:DE} {tA tB:DT} {t:DA} {pos:Pos}
theorem aB (i:Nat) {x:Str} {pos:Pos} (hN:X.N[i]? = some x:=by rfl) (hv:Vis X.env.scope x:=by first | exact Or.inl rfl | exact Or.inr (Or.inl rfl) | exact Or.inr (Or.inr rfl)) (hd:(x == ("__debug__":Str)) = false:=by decide) (hcd:(x == ("__classdict__":Str)) = false:=by decide):ZE X (.Name x pos) (aIT i):=.i (aKT i hN hv hd hcd)
theorem aD {i j pos}:ZE X (.Constant (.int i) j pos) (dC (.int i)):=.i (aK9 (i:=i) (j:=j) (pos:=pos))
theorem fF {i j pos}:ZE X (.Constant (.bool i) j pos) (dC (.bl i)):=.i (aNC (i:=i) (j:=j) (pos:=pos))
theorem cN {j pos}:ZE X (.Constant .none j pos) (dC .non):=.i (aJO (j:=j) (pos:=pos))
theorem aO {x j pos}:ZE X (.Constant (.str x) j pos) (dC (.str x)):=.i (aLC)
theorem aQ {op:Operator} {r:D2} (ho:OpD X (binaryOp op) r) (ha:ZE X a ta) (hb:ZE X b tb):ZE X (.BinOp a op b pos) (dOp r ta tb):=.i (aNs (op:=op) ho ha.o hb.o)
theorem eG {op:CmpOp} {r:D2} (ho:OpD X (compareOp op) r) (ha:ZE X a ta) (hb:ZE X b tb) (hm:behindInMarks op b = false:=by exact aBd _):ZE X (.Compare a [op] [b] pos) (dOp r ta tb):=.i (aJ2 (op:=op) ho ha.o hb.o hm)
theorem aP {op:CmpOp} {r:D2} (ho:OpD X (compareOp op) r) (ha:ZE X a ta) (hb:ZE X b tb) (hm:behindInMarks op b = false:=by exact aBd _):ZT X (.Compare a [op] [b] pos) (aAe (dOp r ta tb)):=.i (aLk (op:=op) ho ha.o hb.o hm)
theorem bY (h:ZE X e te) (he:∀ whole,isTrue e X.env whole = (do let v <- whole;standAt e.pos;holding [v] (truthy v)):=by intro _;rfl):ZT X e (aAe te):=.i (aKj h.o he)
variable {dD:List Expr}
theorem fK (ha:ZT X a tA):ZW X (.BoolOp .And [a] pos) tA:=.i (aH8 ha.o)
theorem dS (ha:ZT X a tA):ZW X (.BoolOp .Or [a] pos) tA:=.i (aKP ha.o)
theorem hZ (ha:ZT X a tA) (hb:ZW X (.BoolOp .And (b :: dD) pos) tB):ZW X (.BoolOp .And (a :: b :: dD) pos) (aJy tA tB):=.i (aKR ha.o hb.o)
theorem dU (ha:ZT X a tA) (hb:ZW X (.BoolOp .Or (b :: dD) pos) tB):ZW X (.BoolOp .Or (a :: b :: dD) pos) (dOr tA tB):=.i (aNW ha.o hb.o)
theorem eF (h:ZW X e tA):ZT X e tA:=.i (aOi h.o)
theorem gC (ha:ZT X a tA):ZT X (.UnaryOp .Not a pos) (aKU tA):=.i (aLp ha.o)
theorem gM {op} (h:ZE X a ta):ZE X (.BoolOp op [a] pos) ta:=.i (aLs (op:=op) h.o)
theorem gO (ha:ZE X a ta) (hb:ZE X (.BoolOp .And (b :: dD) pos) tb):ZE X (.BoolOp .And (a :: b :: dD) pos) (aGN ta tb):=.i (aLG ha.o hb.o)
theorem aCC (ha:ZE X a ta) (hb:ZE X (.BoolOp .Or (b :: dD) pos) tb):ZE X (.BoolOp .Or (a :: b :: dD) pos) (aLy ta tb):=.i (aN0 ha.o hb.o)
theorem aBa (ha:ZE X a ta):ZE X (.UnaryOp .Not a pos) (aES ta):=.i (aLR ha.o)
theorem dF (hc:ZT X c tA) (ha:ZE X a ta) (hb:ZE X b tb):ZE X (.IfExp c a b pos) (aLm tA ta tb):=.i (aFW hc.o ha.o hb.o)
theorem aC :ZA X [] lG:=.i (lA)
theorem aA (ha:ZE X e te) (hr:ZA X es t) (hs:starEach (e :: es) X.env = (false,eval e X.env) :: starEach es X.env:=by rfl):ZA X (e :: es) (iN te t):=.i (iU ha.o hr.o hs)
theorem aM {x1} (h:ZA X es t):ZE X (.Tuple es x1 pos) (aIt t):=.i (aJX h.o)
theorem bX (h:ZA X es t):ZE X (.List es pos) (aKH t):=.i (aKZ h.o)
end
section
variable {X:Cx} {st:Stmt} {dD:List Stmt} {t u:DS} {e:Expr} {te:DE} {pos:Pos}
theorem aY :ZSs X [] aGY:=.i (aHT)
theorem aF (h1:ZS X st t) (h2:ZSs X dD u):ZSs X (st :: dD) (aKn t u):=.i (aEU h1.o h2.o)
theorem aE (h1:ZS X st t):ZSs X [st] t:=.i (aIQ h1.o)
theorem dL (he:ZE X e te) (hs:swapsWith e none pos.line X.env = pure false:=by rfl):ZS X (.Expr e pos) (aFB te):=.i (aHZ he.o hs)
theorem aK (he:ZE X e te):ZS X (.Return (some e) pos) (aJ6 te):=.i (aL4 he.o)
theorem bA {c:Expr} {a b:List Stmt} {tc:DT} (hc:ZT X c tc) (ha:ZSs X a t) (hb:ZSs X b u):ZS X (.If c a b pos) (aKD tc t u):=.i (aMw hc.o ha.o hb.o)
theorem mY :ZS X st aCu:=.i (aGu)
end
section
variable {X:Cx} {pos:Pos} {e tg:Expr} {es:List Expr} {te:DE}
theorem aZ {i:Nat} {x:Str} (hN:X.N.Nodup) (hi:X.N[i]? = some x:=by rfl) (hx:Loc X.env.scope x:=by first | exact Or.inl rfl | exact Or.inr rfl) (hf:X.fn x = true ∨ X.env.scope.names.lookup x = some .local:=by first | exact .inl rfl | exact .inr rfl | assumption):ZG X (.Name x pos) (gN i):=.i (aH2 (i:=i) hN hi hx hf)
theorem gZ :ZGs X [] gNl:=.i (aIC)
theorem bZ {t:DG} {u:DGs} (h1:ZG X e t) (h2:ZGs X es u) (hs:(assignEach (e :: es) X.env).map (·.2) = assign e X.env :: (assignEach es X.env).map (·.2):=by rfl):ZGs X (e :: es) (gCn t u):=.i (aGp h1.o h2.o hs)
theorem lJ {g:DG} (he:ZE X e te) (hg:ZG X tg g) (hs:swapsWithSole [tg] e pos.line X.env = pure false:=by rfl) (hw:swappedStores [tg] e X.env = pure none:=by rfl) (h1:(assignEach [tg] X.env).map (·.2) = [assign tg X.env]:=by rfl):ZS X (.Assign [tg] e pos) (aEu te g):=.i (aJw he.o hg.o hs hw h1)
theorem aN {i:Nat} {x:Str} {pos':Pos} (hN:X.N.Nodup) (he:ZE X e te) (hi:X.N[i]? = some x:=by rfl) (hx:Loc X.env.scope x:=by first | exact Or.inl rfl | exact Or.inr rfl) (hs:swapsWith e (some (.Name x pos')) pos.line X.env = pure false:=by rfl) (hf:X.fn x = true ∨ X.env.scope.names.lookup x = some .local:=by first | exact .inl rfl | exact .inr rfl | assumption):ZS X (.Assign [.Name x pos'] e pos) (aEu te (gN i)):=.i (aMa (i:=i) hN he.o hi hx hs hf)
theorem aI0 {i j:Nat} {x y:Str} {a b:Expr} {ta:DA} {px py pt:Pos} {kt k2 pt2} (hc:X.calm = true) (hN:X.N.Nodup) (ha:ZA X [a,b] ta) (hi:X.N[i]? = some x:=by rfl) (hj:X.N[j]? = some y:=by rfl) (hij:i ≠ j:=by decide) (hx:X.env.scope.names.lookup x = some .local:=by rfl) (hy:X.env.scope.names.lookup y = some .local:=by rfl) (hw:swappedStores [.Tuple [.Name x px,.Name y py] kt pt] (.Tuple [a,b] k2 pt2) X.env = pure (some [x,y]):=by rfl) (hs:swapsWithSole [.Tuple [.Name x px,.Name y py] kt pt] (.Tuple [a,b] k2 pt2) pos.line X.env = pure false:=by rfl):ZS X (.Assign [.Tuple [.Name x px,.Name y py] kt pt] (.Tuple [a,b] k2 pt2) pos) (aK1 i j ta):=.i (aMf (i:=i) (j:=j) hc hN ha.o hi hj hij hx hy hw hs)
end
section
variable {X:Cx} {pos:Pos}
theorem tM {c:Expr} {body:List Stmt} {tc:DT} {tb:DS} (hp:PassesOwn (model X.prog X.w) X.A X.env X.xe) (hc:ZT X c tc) (hb:ZSs X body tb):ZS X (.While c body [] pos) (aCR tc tb):=.i (aFk hp hc.o hb.o)
variable {iter tg:Expr} {body:List Stmt} {tl:DE} {g:DG} {tb:DS}
end
section
variable {X:Cx} {pos:Pos} {iter tg:Expr} {body:List Stmt} {tl:DE} {g:DG} {tb:DS} {ta:DA}
theorem jS (hp:PassesOwn (model X.prog X.w) X.A X.env X.xe) (hc:X.calm = true) (hi:ZE X iter tl) (hg:ZG X tg g) (hb:ZSs X body tb) (hs:∀ x,foldedSetIterable iter X.env x = pure x:=by intro _;rfl):ZS X (.For tg iter body [] pos) (aEV tl g tb):=.i (aHE hp hc hi.o hg.o hb.o hs)
theorem aBH (hp:PassesOwn (model X.prog X.w) X.A X.env X.xe) (hc:X.calm = true) (hi:ZE X iter tl) (hg:ZG X tg g) (hb:ZSs X body tb) (hs:∀ x,foldedSetIterable iter X.env x = pure x:=by intro _;rfl):ZS X (.For tg iter body [] pos) (aFH tl g tb):=.i (aH3 hp hc hi.o hg.o hb.o hs)
theorem aF2 {a:Expr} {p pos':Pos} (hp:PassesOwn (model X.prog X.w) X.A X.env X.xe) (hc:X.calm = true) (hmg:X.mg "range" = none) (ha:ZA X [a] ta) (hg:ZG X tg g) (hb:ZSs X body tb) (hgl:Gl X "range":=by rfl) (hse:starEach [a] X.env = [(false,eval a X.env)]:=by rfl) (hs:∀ x,foldedSetIterable (.Call (.Name "range" p) [a] [] pos') X.env x = pure x:=by intro _;rfl):ZS X (.For tg (.Call (.Name "range" p) [a] [] pos') body [] pos) (aFT ta g tb):=.i (aH9 hp hc hmg ha.o hg.o hb.o hgl hse hs)
end
section
variable {X:Cx} {pins:List (Addr × Obj)} {σ:L2.St} {H:Hp} {s:Shared}
end
section
variable {X:Cx} {a b e o:Expr} {es:List Expr} {ta tb te to:DE} {t:DA} {pos:Pos}
theorem eR (ha:ZE X a ta):ZE X (.UnaryOp .USub a pos) (aJ0 ta):=.i (aLe ha.o)
theorem aJ (ha:ZE X a ta) (hb:ZE X b tb) (hs:sP b:=by exact fun _ _=>rfl):ZE X (.Subscript a b pos) (dOp oP ta tb):=.i (aMH ha.o hb.o hs)
theorem qF :ZO X none aKS:=.i (aHw)
theorem pY (h:ZE X e te):ZO X (some e) (dPt te):=.i (aIZ h.o)
variable {lo hi:Option Expr} {tl th:DO} {p2:Pos}
theorem aEv (he:ZE X e te) (hl:ZO X lo tl) (hu:ZO X hi th):ZE X (.Subscript e (.Slice lo hi none p2) pos) (dSl te tl th):=.i (aF9 he.o hl.o hu.o)
variable {CX:CXT} {k:Nat} {f:Addr} {fd:FuncData} {ps:List Str} {sp:DSp} {E:XK} {x:Str} {p:Pos}
theorem cO {id:String} {r:DSp} (hc:fV X (.builtin id) r) (hm:X.mg x = none) (ha:ZA X (e :: es) t) (hv:bootBuiltins x = some (.builtin id):=by rfl) (hg:Gl X x:=by rfl) (hn:x ≠ "__name__":=by decide) (hdb:(x == ("__debug__":Str)) = false:=by decide) (he:starEach (e :: es) X.env = (false,eval e X.env) :: starEach es X.env:=by rfl) (hpl:(backTo pos (starEach es X.env)).any (·.1) = false:=by rfl):ZE X (.Call (.Name x p) (e :: es) [] pos) (oJ r t):=.i (aFS (id:=id) hc hm ha.o hv hg hn hdb he hpl)
theorem dJ {T:String} {r:DSp} (hc:fV X (.type T) r) (hm:X.mg x = none) (ha:ZA X (e :: es) t) (hv:bootBuiltins x = some (.type T):=by rfl) (hg:Gl X x:=by rfl) (hn:x ≠ "__name__":=by decide) (hdb:(x == ("__debug__":Str)) = false:=by decide) (he:starEach (e :: es) X.env = (false,eval e X.env) :: starEach es X.env:=by rfl) (hpl:(backTo pos (starEach es X.env)).any (·.1) = false:=by rfl):ZE X (.Call (.Name x p) (e :: es) [] pos) (oJ r t):=.i (aEb (T:=T) hc hm ha.o hv hg hn hdb he hpl)
end
section
variable {X:Cx} {a b e o:Expr} {es:List Expr} {ta tb te to:DE} {t:DA} {pos:Pos}
theorem eD {apos cpos:Pos} (ho:ZE X o to) (he:ZE X e te) (hse:starEach [e] X.env = (false,eval e X.env) :: starEach [] X.env:=by rfl) (hbase:attributeBase o "append" X.env (eval o X.env) = eval o X.env:=by rfl) (hfew:((backTo cpos (starEach [e] X.env)).all (fun x=>!x.1) && (backToKw cpos (keywordEach [] X.env)).all (fun x=>x.1.isSome)
   && decide ([e].length + ([]:List Keyword).length + (if ([]:List Keyword).isEmpty then 0 else 1) < 30)) = true:=by rfl) (hline:(apos.endLine == cpos.line) = true:=by rfl) (hplain:(backTo cpos (starEach [] X.env)).any (·.1) = false:=by rfl):ZE X (.Call (.Attribute o "append" apos) [e] [] cpos) (aBn to te):=.i (aEJ ho.o he.o hse hbase hfew hline hplain)
theorem mZ {T:String} {x:Str} {p p2:Pos} (he:ZE X e te) (hm:X.mg "isinstance" = none) (hmx:X.mg x = none) (hv:bootBuiltins x = some (.type T):=by rfl) (hg:Gl X "isinstance":=by rfl) (hgx:Gl X x:=by rfl) (hn:x ≠ "__name__":=by decide) (hdb:(x == ("__debug__":Str)) = false:=by decide) (hse:starEach [e,.Name x p2] X.env = (false,eval e X.env) :: starEach [.Name x p2] X.env:=by rfl) (hse2:starEach [.Name x p2] X.env = (false,eval (.Name x p2) X.env) :: starEach [] X.env:=by rfl) (hpl:(backTo pos (starEach [.Name x p2] X.env)).any (·.1) = false:=by rfl):ZE X (.Call (.Name "isinstance" p) [e,.Name x p2] [] pos) (dIs X.K (.type T) te):=.i (aHD (T:=T) he.o hm hmx hv hg hgx hn hdb hse hse2 hpl)
end
section
variable {P:Program} {w:World} {K:Frag} {mg:Str->Option Value} {base:Heap}
end
section
variable {P:Program} {w:World} {K:Frag} {mg:Str->Option Value} {base:Heap}
end
section
variable {X:Cx} {a b c e:Expr} {es:List Expr} {ta tb te:DE} {t:DA} {pos p:Pos} {x:Str} {ps:List Str} {sp:DSp} {k j:Nat}
theorem aG (h:Has X.prog X.w X.K X.mg X.base k x ps sp) (hr:cZ j X.A) (hkj:k<=j) (ha:ZA X (e :: es) t) (hg:Gl X x:=by rfl) (hdb:(x == ("__debug__":Str)) = false:=by decide) (he:starEach (e :: es) X.env = (false,eval e X.env) :: starEach es X.env:=by rfl) (hpl:(backTo pos (starEach es X.env)).any (·.1) = false:=by rfl):ZE X (.Call (.Name x p) (e :: es) [] pos) (oJ sp t):=.i (aG0 h hr hkj ha.o hg hdb he hpl)
theorem aDg (h:Has X.prog X.w X.K X.mg X.base k x ps sp) (hr:cZ j X.A) (hkj:k<=j) (hg:Gl X x:=by rfl) (hdb:(x == ("__debug__":Str)) = false:=by decide):ZE X (.Call (.Name x p) [] [] pos) (oJ sp lG):=.i (aEi h hr hkj hg hdb)
theorem aW {d:D} (h:eJ X.K X.mg x d) (hg:Gl X x:=by rfl) (hd:(x == ("__debug__":Str)) = false:=by decide):ZE X (.Name x pos) (dC d):=.i (aGV h hg hd)
theorem oU {i:Nat} {op:Operator} {g:Int->Int->Int} {pos':Pos} (ho:PIp X op (ipI g)) (hN:X.N.Nodup) (he:ZE X e te) (hi:X.N[i]? = some x:=by rfl) (hx:Loc X.env.scope x:=by first | exact Or.inl rfl | exact Or.inr rfl) (hf:X.fn x = true ∨ X.env.scope.names.lookup x = some .local:=by first | exact .inl rfl | exact .inr rfl | assumption):ZS X (.AugAssign (.Name x pos') op e pos) (aHF i te g):=.i (aIO (i:=i) (op:=op) ho hN he.o hi hx hf)
end
section
variable {prog:Program} {w:World} {A:Around} {E:Value->Shared->Prop} {s:Shared}
end
section
variable {X:Cx} {pos:Pos} {e a b:Expr} {es:List Expr} {te ta tb:DE}
theorem lQ {k:Nat} {t:DGs} {n:Nat} (hc:X.calm = true) (h:ZGs X es t) (hn:(assignEach es X.env).length = n:=by rfl) (hst:(assignEach es X.env).findIdx? (·.1) = none:=by rfl):ZG X (.Tuple es k pos) (gU n t):=.i (aJK (n:=n) hc h.o hn hst)
end
section
variable {M:DM} {Q:DQ} {g:Bool->Bool} {ds:List D} {i:Int} {a:Addr} {α:Type} {x0 x1 x2 x3 x4 x5:α} {l:List α}
end
section
variable {K:Frag} {H:Hp} {ρ:cL} {σ:L2.St}
end
section
variable {X:Cx} {g:DG} {te:DE}
variable {elt iter tg:Expr} {scope:Scope} {pos:Pos} {N':List Str} {fr:List (Option Nat)} {tl:DE} {ta:DA} {oN:List Str} {osc:Scope}
theorem aDG (B:nB oN osc N' fr scope) (hc:X.calm = true) (hi:ZE X iter tl) (hg:∀ C s H fp pins,ZG (X.blk N' scope C s H fp pins) tg g) (he:∀ C s H fp pins,ZE (X.blk N' scope C s H fp pins) elt te) (hN:X.N = oN:=by rfl) (ho:X.env.scope = osc:=by rfl) (hs:∀ x,foldedSetIterable iter X.env x = pure x:=by intro _;rfl):ZE X (.ListComp elt [⟨tg,iter,[],0⟩] scope pos) (aKI tl fr g te):=.i (aLH B hc hi.o (fun C s H fp pins=>(hg C s H fp pins).o) (fun C s H fp pins=>(he C s H fp pins).o) hN ho hs)
theorem aAO {a:Expr} {p pos':Pos} (B:nB oN osc N' fr scope) (hc:X.calm = true) (hmg:X.mg "range" = none) (ha:ZA X [a] ta) (hg:∀ C s H fp pins,ZG (X.blk N' scope C s H fp pins) tg g) (he:∀ C s H fp pins,ZE (X.blk N' scope C s H fp pins) elt te) (hN:X.N = oN:=by rfl) (ho:X.env.scope = osc:=by rfl) (hgl:Gl X "range":=by rfl) (hse:starEach [a] X.env = [(false,eval a X.env)]:=by rfl) (hs:∀ x,foldedSetIterable (.Call (.Name "range" p) [a] [] pos') X.env x = pure x:=by intro _;rfl):ZE X (.ListComp elt [⟨tg,.Call (.Name "range" p) [a] [] pos',[],0⟩] scope pos) (aJt ta fr g te):=.i (aLI B hc hmg ha.o (fun C s H fp pins=>(hg C s H fp pins).o) (fun C s H fp pins=>(he C s H fp pins).o) hN ho hgl hse hs)
theorem nC {i:Nat} {y:Str} {spos py:Pos} (B:nB oN osc N' fr scope) (hc:X.calm = true) (hNd:X.N.Nodup) (hi:ZE X iter tl) (hg:∀ C s H fp pins,ZG (X.blk N' scope C s H fp pins) tg g) (he:∀ C s H fp pins,ZE (X.blk N' scope C s H fp pins) elt te) (hy:X.N[i]? = some y:=by rfl) (hx:Loc X.env.scope y:=by first | exact Or.inl rfl | exact Or.inr rfl) (hsw:swapsWith (.ListComp elt [⟨tg,iter,[],0⟩] scope pos) (some (.Name y py)) spos.line X.env = pure true:=by rfl) (hf:X.fn y = true ∨ X.env.scope.names.lookup y = some .local:=by first | exact .inl rfl | exact .inr rfl | assumption) (hN:X.N = oN:=by rfl) (ho:X.env.scope = osc:=by rfl) (hs:∀ x,foldedSetIterable iter X.env x = pure x:=by intro _;rfl):ZS X (.Assign [.Name y py] (.ListComp elt [⟨tg,iter,[],0⟩] scope pos) spos) (aCr i (aKb tl fr g te)):=.i (aEt (i:=i) B hc hNd hi.o (fun C s H fp pins=>(hg C s H fp pins).o) (fun C s H fp pins=>(he C s H fp pins).o) hy hx hsw hf hN ho hs)
end
variable {X:Cx}
section
variable {g:DG} {te:DE} {tb:DS} {Q:DQ} {ρ0:cL}
end
section
variable {e:Expr} {te:DE} {pos:Pos}
end
section
variable {X:Cx} {e:Expr} {te:DE} {pos p2:Pos} {lo hi:Option Expr} {tl th:DO}
end
section
variable {X:Cx} {a n:Expr} {ta:DE} {tn:DA} {pos p pos':Pos}
end
section
variable {X:Cx} {a b c e o:Expr} {es:List Expr} {ta tb tc te to:DE} {pos:Pos}
theorem aAk {op op':CmpOp} {r r':D2} (ho:OpD X (compareOp op) r) (ho':OpD X (compareOp op') r') (ha:ZE X a ta) (hb:ZE X b tb) (hc:ZE X c tc) (hm:lastMarks [op,op'] [b,c] = false:=by with_unfolding_all rfl):ZE X (.Compare a [op,op'] [b,c] pos) (aBj r r' ta tb tc):=.i (aGz (op:=op) (op':=op') ho ho' ha.o hb.o hc.o hm)
theorem aCI {apos cpos:Pos} (ho:ZE X o to) (he:ZE X e te) (hse:starEach [e] X.env = (false,eval e X.env) :: starEach [] X.env:=by rfl) (hbase:attributeBase o "extend" X.env (eval o X.env) = eval o X.env:=by rfl) (hfew:((backTo cpos (starEach [e] X.env)).all (fun x=>!x.1) && (backToKw cpos (keywordEach [] X.env)).all (fun x=>x.1.isSome)
   && decide ([e].length + ([]:List Keyword).length + (if ([]:List Keyword).isEmpty then 0 else 1) < 30)) = true:=by rfl) (hline:(apos.endLine == cpos.line) = true:=by rfl) (hplain:(backTo cpos (starEach [] X.env)).any (·.1) = false:=by rfl):ZE X (.Call (.Attribute o "extend" apos) [e] [] cpos) (aBe to te):=.i (aEE ho.o he.o hse hbase hfew hline hplain)
end
section
variable {X:Cx} {e k:Expr} {te tk:DE} {pos p2:Pos}
end
section
variable {X:Cx} {pos:Pos} {iter tg:Expr} {body:List Stmt} {tl:DE} {g:DG} {tb:DS} {ta:DA}
end
section
variable {X:Cx} {x:Str} {V:DM->Prop} {e:Expr} {es:List Expr} {t:DA} {np cpos pos:Pos}
theorem aEN (R:sF X x V) (ha:ZA X (e :: es) t) (hg:Gl X x:=by rfl) (hd:(x == ("__debug__":Str)) = false:=by decide) (he:starEach (e :: es) X.env = (false,eval e X.env) :: starEach es X.env:=by rfl) (hpl:(backTo cpos (starEach es X.env)).any (·.1) = false:=by rfl):ZS X (.Raise (some (.Call (.Name x np) (e :: es) [] cpos)) none pos) (aDc V t):=.i (aF6 R ha.o hg hd he hpl)
end
section
variable {P:Program} {w:World} {K:Frag} {mg:Str->Option Value} {base:Heap}
end
section
variable {X:Cx} {pins:List (Addr × Obj)} {σ:L2.St} {H:Hp} {s:Shared} {a:Addr} {o:Obj}
end
section
variable {X:Cx} {a:Expr} {e:Expr} {es:List Expr} {t:DA} {x f n cm:Str} {ps:List Str} {sp:DSp} {cond:List D->DM->Prop} {C Cm:Addr} {k1 k2 k i j:Nat} {ts:Addr->DS} {b0:Stmt} {suite:List Stmt} {px pf pc pa pcm ph pos:Pos}
end
section
end
section
variable {X:Cx} {n c:Str} {C Cc a:Addr} {o:Obj} {p p1 p2 pos:Pos} {j:Nat}
theorem aEX {T:String} (ho:ExO o C) (hki:kitOne X.K (.ref C) (.type T) = some true) (hmi:X.mg "isinstance" = none) (hmc:X.mg c = none) (hv:bootBuiltins c = some (.type T):=by rfl) (hj:X.N[j]? = some n:=by rfl) (hnl:Vis X.env.scope n:=by first | exact Or.inl rfl | exact Or.inr (Or.inl rfl) | exact Or.inr (Or.inr rfl)) (hgi:Gl X "isinstance":=by rfl) (hgc:Gl X c:=by rfl) (hnn:c ≠ "__name__":=by decide) (hd1:(n == ("__debug__":Str)) = false:=by decide) (hd2:(n == ("__classdict__":Str)) = false:=by decide) (hd3:(c == ("__debug__":Str)) = false:=by decide) (hs:∀ env:Env,starEach [.Name n p1,.Name c p2] env = (false,eval (.Name n p1) env) :: starEach [.Name c p2] env:=by intro _;rfl) (hs2:∀ env:Env,starEach [.Name c p2] env = (false,eval (.Name c p2) env) :: starEach [] env:=by intro _;rfl) (hpl:(backTo pos (starEach [.Name c p2] X.env)).any (·.1) = false:=by rfl):ZE (Exc X a o) (.Call (.Name "isinstance" p) [.Name n p1,.Name c p2] [] pos) (aGB j a):=.i (aIG (T:=T) ho hki hmi hmc hv hj hnl hgi hgc hnn hd1 hd2 hd3 hs hs2 hpl)
end
section
variable {prog:Program} {w:World} {A:Around} {E:Value->Shared->Prop} {s:Shared} {K:Frag} {x C D:Addr} {ox:Obj}
end
section
variable {X:Cx} {a C:Addr} {o:Obj}
end
section
end
section
variable {X:Cx} {j:Nat}
end
section
variable {X:Cx} {st:Stmt} {dD:List Stmt} {t u:DS}
theorem kT (h1:ZS X st t) (h2:ZSs X dD u):ZSs X (st :: dD) (aLQ t u):=.i (aH7 h1.o h2.o)
end
section
variable {X:Cx} {e:Expr} {es:List Expr} {t:DA} {x f cm:Str} {ps:List Str} {sp:DSp} {cond:List D->DM->Prop} {C Cm:Addr} {k1 k2 k i:Nat} {ts:DS} {b0:Stmt} {suite:List Stmt} {px pf pc pa pcm ph pos:Pos}
end
section
variable {P:Program} {w:World} {K:Frag} {mg:Str->Option Value} {base:Heap}
theorem Fun.okZ {x qual:Str} {st:Stmt} {f:Addr} {fd:FuncData} {N ps:List Str} {k:Nat} {sp:DSp} (F:L2.Fun K x qual st f fd) (S:aS N ps (aI st)) (len:∀ ds M Q,sp ds M Q->ds.length = ps.length)
  (hbody:∀ (cdv:Value) (A:Around) (outer:List Env) (s:Shared) (H:Hp) (ds:List D) (M:DM) (Q:DQ) (E:XK),cZ k (A.deeper (envOfC qual (aI st) s.heap.objs.size f cdv))->sp ds M Q ->
   ∃ t,ZSs (jC CX0 P w K mg base N qual (aI st) f cdv A outer s H E).nox (eO st) t/\t { nx:=fun _ M'=>Dn Q .non M',rt:=Dn Q } (gW N ds) M):jV P w K mg base CX0 (k + 1) f fd ps (pP K sp) :=
 Fun.okD F S len fun cdv A outer s H ds M Q E hr h=>let ⟨t,h1,h2⟩:=hbody cdv A outer s H ds M Q E hr h;⟨t,h1.o,h2⟩
theorem Has.mkZ {x:Str} {st:Stmt} {N ps:List Str} {k:Nat} {sp:DSp} (h:cK K mg x st ps) (S:aS N ps (aI st)) (len:∀ ds M Q,sp ds M Q->ds.length = ps.length)
  (hbody:∀ (f:Addr) (cdv:Value) (A:Around) (outer:List Env) (s:Shared) (H:Hp) (ds:List D) (M:DM) (Q:DQ) (E:XK),cZ k (A.deeper (envOfC x (aI st) s.heap.objs.size f cdv))->sp ds M Q ->
   ∃ t,ZSs (jC CX0 P w K mg base N x (aI st) f cdv A outer s H E).nox (eO st) t/\t { nx:=fun _ M'=>Dn Q .non M',rt:=Dn Q } (gW N ds) M):Has P w K mg base (k + 1) x ps sp :=
 Has.mk h S len fun f cdv A outer s H ds M Q E hr h=>let ⟨t,h1,h2⟩:=hbody f cdv A outer s H ds M Q E hr h;⟨t,h1.o,h2⟩
end
section
variable {P:Program} {w:World} {K:Frag} {mg:Str->Option Value} {base:Heap}
end
end Dd
namespace Mz
open PySem
def Bd (n:Nat) (x:Int):Prop:=x.natAbs < 2 ^ n
theorem Bd.mono {m n:Nat} {x:Int} (h:Bd m x) (l:m<=n):Bd n x:=Nat.lt_of_lt_of_le h (Nat.pow_le_pow_right (by decide) l)
theorem Bd.neg {n:Nat} {x:Int} (h:Bd n x):Bd n (-x):=by unfold Bd at *;rw [Int.natAbs_neg];exact h
theorem Bd.add {m:Nat} {x y:Int} (h:Bd m x) (h2:Bd m y):Bd (m + 1) (x + y):=by
 unfold Bd at *
 have:=Int.natAbs_add_le x y
 rw [Nat.pow_succ]
 omega
theorem Bd.sub {m:Nat} {x y:Int} (h:Bd m x) (h2:Bd m y):Bd (m + 1) (x - y):=by
 rw [Int.sub_eq_add_neg];exact h.add h2.neg
theorem Bd.mul {m n:Nat} {x y:Int} (h:Bd m x) (h2:Bd n y):Bd (m + n) (x * y):=by
 unfold Bd at *
 rw [Int.natAbs_mul,Nat.pow_add]
 exact Nat.mul_lt_mul'' h h2
theorem Bd.of {n:Nat} {x:Int} (h1:-(2 ^ n:Nat) < x) (h2:x < (2 ^ n:Nat)):Bd n x:=by unfold Bd;omega
theorem Bd.log {n:Nat} {x:Int} (h:Bd n x) (h0:0 < n):x.natAbs.log2 < n:=by
 rcases Nat.eq_zero_or_pos x.natAbs with e | e
 ·rw [e];simpa using h0
 ·exact (Nat.log2_lt (Nat.ne_of_gt e)).mpr h
theorem Bd.bits {n:Nat} {x:Int} (h:Bd n x):Builtin.Int.intBits x<=n + 1:=by
 unfold Builtin.Int.intBits
 split
 ·exact Nat.zero_le _
 ·rcases Nat.eq_zero_or_pos n with e | e
  ·subst e
   have:x.natAbs < 1:=h
   have:x.natAbs = 0:=by omega
   rw [this];decide
  ·have:=h.log e
   omega
theorem fP {m n:Nat} {x y:Int} (h:Bd m x) (h2:Bd n y) (l:m + n<=100000000:=by decide):IntMulOk x y:=IntMulOk.of_le h.bits h2.bits (by omega)
theorem aLb {x y:Int} (h:Bd 63 x):IntMulOk x y:=IntMulOk.of_left (by have:=h.bits;omega)
theorem xL {x y:Int} (h:Bd 63 y):IntMulOk x y:=IntMulOk.of_right (by have:=h.bits;omega)
theorem aID {a b:Int} (h:b ≠ 0):(a.fmod b).natAbs < b.natAbs:=by
 rcases Int.lt_or_lt_of_ne h with hb | hb
 ·have e:=Int.fmod_eq_emod (a:=a) (b:=b)
  have h1:=Int.emod_nonneg a h
  have h2:=Int.emod_lt_of_neg a hb
  by_cases hd:b ∣ a
  ·rw [if_pos (.inr hd)] at e
   have:=Int.emod_eq_zero_of_dvd hd
   omega
  ·rw [if_neg (by omega)] at e
   have h3:a % b ≠ 0:=fun z=>hd (Int.dvd_of_emod_eq_zero z)
   omega
 ·have h1:=Int.fmod_nonneg_of_pos a hb
  have h2:=Int.fmod_lt_of_pos a hb
  omega
theorem aGA (a b:Int):Int.gcd b (a.fmod b) = Int.gcd a b:=by
 rw [Int.fmod_def,Int.mul_comm b,Int.gcd_sub_mul_right_right,Int.gcd_comm]
noncomputable def sg (t b:Int):Int:=if b < 0 then -(Int.gcd t b:Int) else (Int.gcd t b:Int)
noncomputable def fT (t b:Int):Int:=t.fdiv (sg t b)
noncomputable def fB (t b:Int):Int:=b.fdiv (sg t b)
theorem oG {t b:Int} (h:b ≠ 0):0 < Int.gcd t b:=Nat.pos_of_ne_zero fun z=>h (Int.gcd_eq_zero_iff.mp z).2
theorem pB (t b:Int):sg t b ∣ t:=by
 have h:=Int.gcd_dvd_left t b
 unfold sg
 split
 ·exact Int.neg_dvd.mpr h
 ·exact h
theorem pG (t b:Int):sg t b ∣ b:=by
 have h:=Int.gcd_dvd_right t b
 unfold sg
 split
 ·exact Int.neg_dvd.mpr h
 ·exact h
theorem aJR {t b:Int} (h:b ≠ 0):fT t b * sg t b = t:=by
 unfold fT;rw [Int.fdiv_eq_ediv_of_dvd (pB t b)];exact Int.ediv_mul_cancel (pB t b)
theorem aFL {t b:Int} (h:b ≠ 0):fB t b * sg t b = b:=by
 unfold fB;rw [Int.fdiv_eq_ediv_of_dvd (pG t b)];exact Int.ediv_mul_cancel (pG t b)
theorem aJC {t b:Int} (h:b ≠ 0):0 < fB t b:=by
 have e:=aFL (t:=t) h
 have hg:=oG (t:=t) h
 rcases Int.lt_trichotomy (fB t b) 0 with z | z | z
 ·exfalso
  unfold sg at e
  split at e
  ·rename_i hb
   have:=Int.mul_pos_of_neg_of_neg z (show -(Int.gcd t b:Int) < 0 by omega)
   omega
  ·rename_i hb
   have:=Int.mul_neg_of_neg_of_pos z (show 0 < (Int.gcd t b:Int) by omega)
   omega
 ·rw [z] at e;omega
 ·exact z
theorem aMc {t b:Int} (h:b ≠ 0):fT t b * b = fB t b * t:=by
 have e1:=aJR (t:=t) h
 have e2:=aFL (t:=t) h
 have:fT t b * (fB t b * sg t b) = fB t b * (fT t b * sg t b):=by grind
 rw [e1,e2] at this
 exact this
theorem aEF (t b:Int):(sg t b).natAbs = Int.gcd t b:=by unfold sg;split<;>simp
theorem aOp {t b:Int} (h:b ≠ 0):Int.gcd (fT t b) (fB t b) = 1:=by
 unfold fT fB
 rw [Int.fdiv_eq_ediv_of_dvd (pB t b),Int.fdiv_eq_ediv_of_dvd (pG t b),Int.gcd_ediv (pB t b) (pG t b),aEF]
 exact Nat.div_self (oG h)
theorem Bd.fT {n:Nat} {t b:Int} (h:Bd n t):Bd n (fT t b):=by
 unfold Bd at *;unfold Mz.fT;rw [Int.fdiv_eq_ediv_of_dvd (pB t b)]
 exact Nat.lt_of_le_of_lt (Int.natAbs_ediv_le_natAbs _ _) h
theorem Bd.fB {n:Nat} {t b:Int} (h:Bd n b):Bd n (fB t b):=by
 unfold Bd at *;unfold Mz.fB;rw [Int.fdiv_eq_ediv_of_dvd (pG t b)]
 exact Nat.lt_of_le_of_lt (Int.natAbs_ediv_le_natAbs _ _) h
theorem xU {a b c:Int} (h:b ∣ a * c) (g:Int.gcd b a = 1):b ∣ c:=by
 have h':b.natAbs ∣ a.natAbs * c.natAbs:=by rw [<- Int.natAbs_mul];exact Int.natAbs_dvd_natAbs.mpr h
 exact Int.natAbs_dvd_natAbs.mp (Nat.Coprime.dvd_of_dvd_mul_left g h')
theorem qW {t b t' b':Int} (h:0 < b) (h':0 < b') (g:Int.gcd t b = 1) (g':Int.gcd t' b' = 1) (e:t * b' = t' * b):t = t'/\b = b':=by
 have d1:b ∣ b':=by
  have:b ∣ t * b':=⟨t',by rw [e];exact Int.mul_comm _ _⟩
  exact xU this (by rw [Int.gcd_comm];exact g)
 have d2:b' ∣ b:=by
  have:b' ∣ t' * b:=⟨t,by rw [<- e];exact Int.mul_comm _ _⟩
  exact xU this (by rw [Int.gcd_comm];exact g')
 have e1:b = b':=Int.le_antisymm (Int.le_of_dvd h' d1) (Int.le_of_dvd h d2)
 subst e1
 exact ⟨Int.eq_of_mul_eq_mul_right (by omega) e,rfl⟩
theorem den_pos (q:Rat):(0:Int) < (q.den:Int):=by have:=q.den_pos;omega
theorem fY (q:Rat):(q.den:Int) ≠ 0:=by have:=q.den_pos;omega
theorem aCT (q:Rat):((q.den:Int):Rat) ≠ 0:=by
 intro h
 have:(q.den:Int) = 0:=by exact_mod_cast h
 exact fY q this
theorem aHN (q:Rat):(q.num:Rat) / ((q.den:Int):Rat) = q:=by
 have h:=Rat.num_divInt_den q
 rw [Rat.divInt_eq_div] at h
 exact h
theorem mL (q:Rat):(q.num:Rat) = q * ((q.den:Int):Rat):=by
 have h:=aHN q
 have h2:=aCT q
 grind
theorem aHn {t b:Int} (h:b ≠ 0):fT t b = ((t:Rat) / (b:Rat)).num/\fB t b = ((((t:Rat) / (b:Rat)).den:Nat):Int):=by
 have hb:(b:Rat) ≠ 0:=by exact_mod_cast h
 refine qW (aJC h) (den_pos _) (aOp h) ?_ ?_
 ·have:=((t:Rat) / (b:Rat)).reduced
  unfold Nat.Coprime at this
  rw [<- this]
  rfl
 ·have e1:=aMc (t:=t) h
  have e2:=mL ((t:Rat) / (b:Rat))
  have e3:((fT t b:Int):Rat) * b = (fB t b:Int) * (t:Rat):=by rw [<- Rat.intCast_mul,<- Rat.intCast_mul,e1]
  have e4:((fT t b:Int):Rat) * ((((t:Rat) / (b:Rat)).den:Int):Rat) = ((((t:Rat) / (b:Rat)).num:Int):Rat) * (fB t b:Int):=by
   rw [e2]
   grind
  rw [<- Rat.intCast_mul,<- Rat.intCast_mul] at e4
  exact Rat.intCast_inj.mp e4
def BQ (n:Nat) (q:Rat):Prop:=Bd n q.num/\Bd n (q.den:Int)
theorem BQ.mono {m n:Nat} {q:Rat} (h:BQ m q) (l:m<=n):BQ n q:=⟨h.1.mono l,h.2.mono l⟩
theorem BQ.make {n:Nat} {t b:Int} (h:b ≠ 0) (h1:Bd n t) (h2:Bd n b):BQ n ((t:Rat) / (b:Rat)):=by
 obtain ⟨e1,e2⟩:=aHn (t:=t) h
 exact ⟨e1 ▸ h1.fT,e2 ▸ h2.fB⟩
theorem aOq (p q:Rat):(((p.num * q.den - q.num * p.den:Int)):Rat) / ((p.den * q.den:Int):Rat) = p - q:=by
 have h1:=aCT p
 have h2:=aCT q
 have e1:=mL p
 have e2:=mL q
 rw [Rat.intCast_sub,Rat.intCast_mul,Rat.intCast_mul,Rat.intCast_mul,e1,e2]
 grind
theorem BQ.sub {m n:Nat} {p q:Rat} (h:BQ m p) (h2:BQ n q):BQ (m + n + 1) (p - q):=by
 rw [<- aOq]
 exact .make (Int.mul_ne_zero (fY p) (fY q)) ((h.1.mul h2.2).sub ((h2.1.mul h.2).mono (by omega))) ((h.2.mul h2.2).mono (by omega))
theorem BQ.int {m:Nat} {z:Int} (h:Bd m z) (h0:0 < m):BQ m (z:Rat):=⟨by rw [Rat.num_intCast];exact h,by rw [Rat.den_intCast];unfold Bd;exact Nat.one_lt_two_pow (by omega)⟩
theorem ltQ (p q:Rat):(p.num * q.den < q.num * p.den) ↔ p < q:=(Rat.lt_iff p q).symm
theorem aHp {q:Rat}:0 < q.num ↔ 0 < q:=by
 have:=Rat.lt_iff 0 q
 simp at this
 exact this.symm
theorem aI8 {t b:Int} {q:Rat} (hb:0 < b) (hg:Int.gcd t b = 1) (e:(t:Rat) = q * (b:Rat)):t = q.num/\b = (q.den:Int):=by
 refine qW hb (den_pos q) hg ?_ ?_
 ·have:=q.reduced
  unfold Nat.Coprime at this
  rw [<- this]
  rfl
 ·have e2:=mL q
  have:((t * (q.den:Int):Int):Rat) = ((q.num * b:Int):Rat):=by
   rw [Rat.intCast_mul,Rat.intCast_mul,e,e2]
   grind
  exact Rat.intCast_inj.mp this
theorem nP {a b c:Int} (h:Int.gcd a b = 1) (h2:Int.gcd a c = 1):Int.gcd a (b * c) = 1:=by
 unfold Int.gcd at *
 rw [Int.natAbs_mul]
 exact Nat.Coprime.mul_right h h2
theorem eM {a b:Int} (h:Int.gcd a b = 1):Int.gcd b a = 1:=by rw [Int.gcd_comm];exact h
theorem lR {a a' b:Int} (h:a ∣ a') (h2:Int.gcd a' b = 1):Int.gcd a b = 1:=by
 unfold Int.gcd at *
 exact Nat.Coprime.coprime_dvd_left (Int.natAbs_dvd_natAbs.mpr h) h2
theorem red (q:Rat):Int.gcd q.num (q.den:Int) = 1:=by
 have:=q.reduced
 unfold Nat.Coprime at this
 rw [<- this]
 rfl
theorem qH {x y:Int} (h:y ≠ 0):∃ a b:Int,x = (Int.gcd x y:Int) * a/\y = (Int.gcd x y:Int) * b/\Int.gcd a b = 1/\x.fdiv (Int.gcd x y:Int) = a/\y.fdiv (Int.gcd x y:Int) = b:=by
 have hp:0 < Int.gcd x y:=oG h
 obtain ⟨a,ha⟩:=Int.gcd_dvd_left x y
 obtain ⟨b,hb⟩:=Int.gcd_dvd_right x y
 have e1:x.fdiv (Int.gcd x y:Int) = a:=by
  rw [Int.fdiv_eq_ediv_of_dvd (Int.gcd_dvd_left x y)]
  exact Int.ediv_eq_of_eq_mul_right (by omega) ha
 have e2:y.fdiv (Int.gcd x y:Int) = b:=by
  rw [Int.fdiv_eq_ediv_of_dvd (Int.gcd_dvd_right x y)]
  exact Int.ediv_eq_of_eq_mul_right (by omega) hb
 refine ⟨a,b,ha,hb,?_,e1,e2⟩
 rw [<- e1,<- e2,Int.fdiv_eq_ediv_of_dvd (Int.gcd_dvd_left x y),Int.fdiv_eq_ediv_of_dvd (Int.gcd_dvd_right x y),Int.gcd_ediv (Int.gcd_dvd_left x y) (Int.gcd_dvd_right x y)]
 simp
 exact Nat.div_self hp
theorem aOf (p q:Rat):∀ g a t l:Int,g = (Int.gcd p.den q.den:Int)->a = (p.den:Int).fdiv g->t = p.num * (q.den:Int).fdiv g + q.num * a->l = (Int.gcd t g:Int) ->
  g ≠ 0/\l ≠ 0/\g ∣ (p.den:Int)/\l ∣ g/\t.fdiv l = (p + q).num/\a * (q.den:Int).fdiv l = ((p + q).den:Int):=by
 intro g a t l hg ha ht hl
 have d1:=den_pos p
 have d2:=den_pos q
 obtain ⟨a',b,e1,e2,cab,f1,f2⟩:=qH (x:=p.den) (y:=q.den) (fY q)
 rw [<- hg] at e1 e2 f1 f2
 rw [f1] at ha
 subst ha
 rw [f2] at ht
 have g0:0 < g:=by have:=oG (t:=(p.den:Int)) (fY q);omega
 have a0:0 < a:=by
  rcases Int.lt_trichotomy a 0 with z | z | z
  ·have:=Int.mul_neg_of_pos_of_neg g0 z;omega
  ·subst z;omega
  ·exact z
 have b0:0 < b:=by
  rcases Int.lt_trichotomy b 0 with z | z | z
  ·have:=Int.mul_neg_of_pos_of_neg g0 z;omega
  ·subst z;omega
  ·exact z
 obtain ⟨t',g',e3,e4,ctg,f3,f4⟩:=qH (x:=t) (y:=g) (by omega)
 rw [<- hl] at e3 e4 f3 f4
 have l0:0 < l:=by have:=oG (t:=t) (b:=g) (by omega);omega
 have g'0:0 < g':=by
  rcases Int.lt_trichotomy g' 0 with z | z | z
  ·have:=Int.mul_neg_of_pos_of_neg l0 z;omega
  ·subst z;omega
  ·exact z
 have f5:(q.den:Int).fdiv l = g' * b:=by
  have e:(q.den:Int) = l * (g' * b):=by rw [e2,e4];grind
  rw [Int.fdiv_eq_ediv_of_dvd ⟨_,e⟩]
  exact Int.ediv_eq_of_eq_mul_right (by omega) e
 refine ⟨by omega,by omega,⟨a,e1⟩,⟨g',e4⟩,?_⟩
 rw [f3,f5]
 have ca:Int.gcd t a = 1:=by
  have c1:Int.gcd p.num a = 1:=eM (lR ⟨g,by rw [e1];grind⟩ (eM (red p)))
  have:Int.gcd a (p.num * b) = 1:=nP (eM c1) cab
  rw [ht,Int.gcd_comm,Int.gcd_add_mul_right_right]
  exact this
 have cb:Int.gcd t b = 1:=by
  have c1:Int.gcd q.num b = 1:=eM (lR ⟨g,by rw [e2];grind⟩ (eM (red q)))
  have:Int.gcd b (q.num * a) = 1:=nP (eM c1) (eM cab)
  rw [ht,Int.gcd_comm,Int.add_comm,Int.gcd_add_mul_right_right]
  exact this
 have hd:t' ∣ t:=⟨l,by rw [e3];grind⟩
 refine aI8 (q:=p + q) (Int.mul_pos a0 (Int.mul_pos g'0 b0)) (nP (lR hd ca) (nP ctg (lR hd cb))) ?_
 have n1:=mL p
 have n2:=mL q
 have r1:=aCT p
 have r2:=aCT q
 have k1:((p.den:Int):Rat) = (l:Rat) * g' * a:=by rw [e1,e4,Rat.intCast_mul,Rat.intCast_mul]
 have k2:((q.den:Int):Rat) = (l:Rat) * g' * b:=by rw [e2,e4,Rat.intCast_mul,Rat.intCast_mul]
 have k3:(l:Rat) * t' = (p.num:Rat) * b + (q.num:Rat) * a:=by rw [<- Rat.intCast_mul,<- e3,ht,Rat.intCast_add,Rat.intCast_mul,Rat.intCast_mul]
 have k4:(l:Rat) ≠ 0:=fun z=>by
                     have:l = 0:=by exact_mod_cast z
                     omega
 rw [n1,n2,k1,k2] at k3
 rw [Rat.intCast_mul,Rat.intCast_mul]
 have:(l:Rat) * (t':Rat) = l * ((p + q) * ((a:Rat) * (g' * b))):=by rw [k3];grind
 grind
theorem aMO (p q:Rat):∀ f r:Int,f = (Int.gcd p.num q.den:Int)->r = (Int.gcd q.num p.den:Int) ->
  f ≠ 0/\r ≠ 0/\f ∣ (q.den:Int)/\r ∣ (p.den:Int)/\p.num.fdiv f * q.num.fdiv r = (p * q).num/\(p.den:Int).fdiv r * (q.den:Int).fdiv f = ((p * q).den:Int):=by
 intro f r hf hr
 have d1:=den_pos p
 have d2:=den_pos q
 obtain ⟨x,v,e1,e2,c1,f1,f2⟩:=qH (x:=p.num) (y:=q.den) (fY q)
 obtain ⟨y,u,e3,e4,c2,f3,f4⟩:=qH (x:=q.num) (y:=p.den) (fY p)
 rw [<- hf] at e1 e2 f1 f2
 rw [<- hr] at e3 e4 f3 f4
 have f0:0 < f:=by have:=oG (t:=p.num) (fY q);omega
 have r0:0 < r:=by have:=oG (t:=q.num) (fY p);omega
 have v0:0 < v:=by
  rcases Int.lt_trichotomy v 0 with z | z | z
  ·have:=Int.mul_neg_of_pos_of_neg f0 z;omega
  ·subst z;omega
  ·exact z
 have u0:0 < u:=by
  rcases Int.lt_trichotomy u 0 with z | z | z
  ·have:=Int.mul_neg_of_pos_of_neg r0 z;omega
  ·subst z;omega
  ·exact z
 refine ⟨by omega,by omega,⟨v,e2⟩,⟨u,e4⟩,?_⟩
 rw [f1,f2,f3,f4]
 have cxu:Int.gcd x u = 1:=lR ⟨f,by rw [e1];grind⟩ (eM (lR ⟨r,by rw [e4];grind⟩ (eM (red p))))
 have cyv:Int.gcd y v = 1:=lR ⟨r,by rw [e3];grind⟩ (eM (lR ⟨f,by rw [e2];grind⟩ (eM (red q))))
 refine aI8 (q:=p * q) (Int.mul_pos u0 v0) ?_ ?_
 ·exact eM (nP (eM (nP cxu c1)) (eM (nP c2 cyv)))
 have n1:=mL p
 have n2:=mL q
 have r1:=aCT p
 have r2:=aCT q
 have k1:((p.den:Int):Rat) = (r:Rat) * u:=by rw [e4,Rat.intCast_mul]
 have k2:((q.den:Int):Rat) = (f:Rat) * v:=by rw [e2,Rat.intCast_mul]
 have k3:(p.num:Rat) = (f:Rat) * x:=by rw [e1,Rat.intCast_mul]
 have k4:(q.num:Rat) = (r:Rat) * y:=by rw [e3,Rat.intCast_mul]
 have k5:(f:Rat) ≠ 0:=fun z=>by
                     have:f = 0:=by exact_mod_cast z
                     omega
 have k6:(r:Rat) ≠ 0:=fun z=>by
                     have:r = 0:=by exact_mod_cast z
                     omega
 rw [Rat.intCast_mul,Rat.intCast_mul]
 have:(f:Rat) * r * ((x:Rat) * y) = f * r * ((p * q) * ((u:Rat) * v)):=by
  have z1:(f:Rat) * x = p * (r * u):=by rw [<- k3,<- k1];exact n1
  have z2:(r:Rat) * y = q * (f * v):=by rw [<- k4,<- k2];exact n2
  grind
 grind
theorem Bd.dvd {n:Nat} {x y:Int} (h:Bd n y) (d:x ∣ y) (h0:y ≠ 0):Bd n x:=by
 unfold Bd at *
 have:=Nat.le_of_dvd (by omega) (Int.natAbs_dvd_natAbs.mpr d)
 omega
theorem Bd.fdiv {n:Nat} {x y:Int} (h:Bd n x) (d:y ∣ x):Bd n (x.fdiv y):=by
 unfold Bd at *
 rw [Int.fdiv_eq_ediv_of_dvd d]
 exact Nat.lt_of_le_of_lt (Int.natAbs_ediv_le_natAbs _ _) h
noncomputable def sgn (q:Rat):Int:=if 0 < q then 1 else if q < 0 then -1 else 0
noncomputable def vv (t:Rat):Rat:=(t + t) / (1 + t * t)
noncomputable def tb (t h u:Int):Int:=(t + h * u).fmod 4
end Mz
namespace Dd
open PySem PySem.Spec PyProof.Rows L2 Mz
noncomputable def FQ (q:Rat):D:=.tup [.int q.num,.int (q.den:Int)]
def dO:DSp:=fun ds M Q=>∃ a b,ds = [.int a,.int b]/\Q (.int (Int.gcd a b:Int)) M
def aAz (g:Rat->Rat->D) (C:Rat->Prop:=fun _=>True):DSp:=fun ds M Q=>∃ p q m n,ds = [FQ p,FQ q]/\C q/\BQ m p/\BQ n q/\m + n<=8998/\Q (g p q) M
def aDP:DSp:=aAz fun p q=>FQ (p + q)
def aE0:DSp:=aAz fun p q=>FQ (p * q)
def aCg:DSp:=aAz fun p q=>.bl (decide (p < q))
theorem aAS {g:Rat->Rat->D} {C:Rat->Prop} (ds:List D) (M:DM) (Q:DQ) (h:aAz g C ds M Q):ds.length = 2:=by obtain ⟨a,b,m,n,rfl,_⟩:=h;rfl
theorem vY {n:Nat} {x y z:Int} (h:Bd n y) (l:n<=9000) (d:z ∣ y) (h0:y ≠ 0) (hz:z ≠ 0):CFd x z:=⟨hz,by
 rcases Nat.eq_zero_or_pos n with e | e
 ·subst e
  have:y.natAbs < 1:=h
  omega
 ·exact Nat.lt_of_lt_of_le ((h.dvd d h0).log e) l⟩
theorem aIs (q:Rat):(D.tup [.int (-q.num),.int (q.den:Int)]) = FQ (-q):=by
 unfold FQ
 rw [Rat.neg_num,Rat.neg_den]
noncomputable def PQ (x y:Rat):D:=.tup [FQ x,FQ y]
theorem aAY (p q:Rat):eqD (FQ p) (FQ q) = decide (p = q):=by
 show (p.num == q.num && ((p.den:Int) == (q.den:Int) && true)) = decide (p = q)
 by_cases h:p = q
 ·subst h;simp
 ·rw [decide_eq_false h]
  by_cases h1:p.num = q.num
  ·have h2:¬ ((p.den:Int) = (q.den:Int)):=fun z=>h (Rat.ext h1 (by exact_mod_cast z))
   simp [h1,h2]
  ·simp [h1]
theorem aGG (x y u v:Rat):eqD (PQ x y) (PQ u v) = (decide (x = u) && decide (y = v)):=by
 show (eqD (FQ x) (FQ u) && (eqD (FQ y) (FQ v) && true)) = _
 rw [aAY,aAY,Bool.and_true]
def jH:DSp:=fun ds M Q=>∃ x y,ds = [PQ x y]/\BQ 900 x/\BQ 900 y/\∀ X Y d:Int,0 < d->(X:Rat) = x * (d:Rat)->(Y:Rat) = y * (d:Rat)->Bd 1800 X->Bd 1800 Y->Bd 1800 d->Q (.tup [.int X,.int Y,.int d]) M
def aBo:DSp:=fun ds M Q=>∃ z:Int,ds = [.int z]/\Q (.int (sgn (z:Rat))) M
theorem aIF {d:Int} (h:0 < d):(0:Rat) < (d:Rat):=by exact_mod_cast h
structure Adv (M M':DM) (a:Addr):Prop where
 l:∀ b:Addr,b ≠ a->M' (.l b) = M (.l b)
 d:∀ b:Addr,M' (.d b) = M (.d b)
instance {M M':DM} {a:Addr}:CoeFun (Adv M M' a) (fun _=>∀ b:Addr,b ≠ a->M' (.l b) = M (.l b)):=⟨Adv.l⟩
theorem Adv.trans {M M1 M2:DM} {a:Addr} (h:Adv M M1 a) (h2:Adv M1 M2 a):Adv M M2 a:=⟨fun b n=>(h2.l b n).trans (h.l b n),fun b=>(h2.d b).trans (h.d b)⟩
noncomputable def aCG:D:=.tup [.int 1,.int 1]
theorem aKm {x y:Rat} {g:DG} {te:DE} {Q:DQ} {ρ0:cL} {M:DM}:itT (PQ x y) ρ0 g te M Q = aA9 none [FQ x,FQ y] ρ0 g te M Q:=rfl
theorem aLn {q:Rat} {g:DG} {te:DE} {Q:DQ} {ρ0:cL} {M:DM}:itT (FQ q) ρ0 g te M Q = aA9 none [.int q.num,.int (q.den:Int)] ρ0 g te M Q:=rfl
theorem aKB {x y:Rat} {g:DG} {tb:DS} {E:gA} {ρ:cL} {M:DM}:foT (PQ x y) g tb E ρ M = dIt none [FQ x,FQ y] g tb E ρ M:=rfl
theorem aMM {q:Rat} {M:DM} {Q:DQ}:oP (FQ q) (.int 0) M Q = Q (.int q.num) M:=rfl
theorem aM2 {q:Rat} {M:DM} {Q:DQ}:oP (FQ q) (.int 1) M Q = Q (.int (q.den:Int)) M:=rfl
theorem aMI {x y:Rat} {M:DM} {Q:DQ}:oP (PQ x y) (.int 0) M Q = Q (FQ x) M:=rfl
theorem aNe {x y:Rat} {M:DM} {Q:DQ}:oP (PQ x y) (.int 1) M Q = Q (FQ y) M:=rfl
theorem aNB {x y:Rat} {n:Nat} {t:DGs} {ρ:cL} {M:DM} {R:cL->DM->Prop}:gU n t (PQ x y) ρ M R = (([FQ x,FQ y]:List D).length = n/\t [FQ x,FQ y] ρ M R):=rfl
theorem aNL {q:Rat} {n:Nat} {t:DGs} {ρ:cL} {M:DM} {R:cL->DM->Prop}:gU n t (FQ q) ρ M R = (([.int q.num,.int (q.den:Int)]:List D).length = n/\t [.int q.num,.int (q.den:Int)] ρ M R):=rfl
theorem aGU {g:Bool->Bool} {p q:Rat} {M:DM} {Q:DQ}:dEq g (FQ p) (FQ q) M Q = Q (.bl (g (decide (p = q)))) M:=by
 show (bN 60 (FQ p) = true/\bN 60 (FQ q) = true/\Q (.bl (g (eqD (FQ p) (FQ q)))) M) = _
 rw [aAY]
 exact propext ⟨fun h=>h.2.2,fun h=>⟨rfl,rfl,h⟩⟩
theorem aGc {g:Bool->Bool} {x y u v:Rat} {M:DM} {Q:DQ}:dEq g (PQ x y) (PQ u v) M Q = Q (.bl (g (decide (x = u/\y = v)))) M:=by
 show (bN 60 (PQ x y) = true/\bN 60 (PQ u v) = true/\Q (.bl (g (eqD (PQ x y) (PQ u v)))) M) = _
 have e:(decide (x = u) && decide (y = v)) = decide (x = u/\y = v):=by by_cases h1:x = u<;>by_cases h2:y = v<;>simp [h1,h2]
 rw [aGG,e]
 exact propext ⟨fun h=>h.2.2,fun h=>⟨rfl,rfl,h⟩⟩
theorem eW {M:DM} {p b:Addr} {ds:List D} (h:bG M p ds b = none):b ≠ p/\M b = none:=by
 by_cases e:b = p
 ·subst e;rw [aH] at h;cases h
 ·rw [aX e] at h;exact ⟨e,h⟩
noncomputable def sI:D:=.tup [.tup [.int 0,.int 1],.tup [.int 0,.int 1]]
noncomputable def FR (px py:Rat) (t h:Int) (s:Rat):D:=.tup [PQ px py,.int t,.int h,FQ s]
theorem aMR {px py s:Rat} {i h:Int} {n:Nat} {t:DGs} {ρ:cL} {M:DM} {R:cL->DM->Prop}:gU n t (FR px py i h s) ρ M R = (([PQ px py,.int i,.int h,FQ s]:List D).length = n/\t [PQ px py,.int i,.int h,FQ s] ρ M R):=rfl
theorem aMq {px py s:Rat} {t h:Int} {M:DM} {Q:DQ}:oP (FR px py t h s) (.int 0) M Q = Q (PQ px py) M:=rfl
theorem aMB {px py s:Rat} {t h:Int} {M:DM} {Q:DQ}:oP (FR px py t h s) (.int 1) M Q = Q (.int t) M:=rfl
theorem aNM {px py s:Rat} {t h:Int} {M:DM} {Q:DQ}:oP (FR px py t h s) (.int 2) M Q = Q (.int h) M:=rfl
theorem aMr {px py s:Rat} {t h:Int} {M:DM} {Q:DQ}:oP (FR px py t h s) (.int 3) M Q = Q (FQ s) M:=rfl
theorem aJx (px py s px' py' s':Rat) (t h t' h':Int):eqD (FR px py t h s) (FR px' py' t' h' s') = decide (px = px'/\py = py'/\t = t'/\h = h'/\s = s'):=by
 show (eqD (PQ px py) (PQ px' py') && (t == t' && (h == h' && (eqD (FQ s) (FQ s') && true)))) = _
 rw [aGG,aAY]
 by_cases h1:px = px'<;>by_cases h2:py = py'<;>by_cases h3:t = t'<;>by_cases h4:h = h'<;>by_cases h5:s = s'<;>simp [h1,h2,h3,h4,h5]
theorem aKY {g:Bool->Bool} {px py s px' py' s':Rat} {t h t' h':Int} {M:DM} {Q:DQ}:dEq g (FR px py t h s) (FR px' py' t' h' s') M Q = Q (.bl (g (decide (px = px'/\py = py'/\t = t'/\h = h'/\s = s')))) M:=by
 show (bN 60 (FR px py t h s) = true/\bN 60 (FR px' py' t' h' s') = true/\Q (.bl (g (eqD (FR px py t h s) (FR px' py' t' h' s')))) M) = _
 rw [aJx]
 exact propext ⟨fun z=>z.2.2,fun z=>⟨rfl,rfl,z⟩⟩
def wU (n:Nat) (L:List D):Prop:=L.length = n/\∀ d ∈ L,∃ z:Int,d = .int z/\0<=z/\z < 1000000
theorem wU.at {n:Nat} {L:List D} (h:wU n L) {i:Nat} (hi:i < n):∃ z:Int,atI L (i:Int) = some (.int z)/\0<=z/\z < 1000000:=by
 have hl:i < L.length:=by rw [h.1];exact hi
 obtain ⟨z,e,z0,z1⟩:=h.2 L[i] (List.getElem_mem hl)
 exact ⟨z,aHJ (by rw [List.getElem?_eq_getElem hl,e]),z0,z1⟩
theorem aHQ {x y:Rat} {M:DM} {Q:DQ}:sW [PQ x y] M Q = Q (.int 2) M:=rfl
theorem aIj {q:Rat} {M:DM} {Q:DQ}:sW [FQ q] M Q = Q (.int 2) M:=rfl
theorem aIa {px py s:Rat} {t h:Int} {M:DM} {Q:DQ}:sW [FR px py t h s] M Q = Q (.int 4) M:=rfl
theorem aGo {a:Addr} {M:DM} {Q:DQ}:sW [.ref a] M Q = ∃ xs,M a = some xs/\Q (.int (xs.length:Int)) M:=rfl
section
variable {M:DM} {Q:DQ} {a b c d e f:D}
theorem aLE {i:Int}:aMl [.int i] M Q = Q (.int (if i < 0 then -i else i)) M:=rfl
theorem aIw {xs:List D}:sW [.fz xs] M Q = Q (.int xs.length) M:=rfl
theorem aHi:sW [.tup []] M Q = Q (.int 0) M:=rfl
theorem aHM:sW [.tup [a]] M Q = Q (.int 1) M:=rfl
theorem aH6:sW [.tup [a,b]] M Q = Q (.int 2) M:=rfl
theorem aIb:sW [.tup [a,b,c]] M Q = Q (.int 3) M:=rfl
theorem aIB:sW [.tup [a,b,c,d]] M Q = Q (.int 4) M:=rfl
theorem aHq:sW [.tup [a,b,c,d,e]] M Q = Q (.int 5) M:=rfl
end
structure Fm where
 (px py:Rat) (t h:Int) (s:Rat)
noncomputable def FmD (f:Fm):D:=FR f.px f.py f.t f.h f.s
noncomputable def Fm.one:Fm:=⟨0,0,0,1,1⟩
def Fm.Ok (f:Fm):Prop:=0<=f.t/\f.t < 4/\(f.h = 1 ∨ f.h = -1)
theorem Fm.ok_one:Fm.one.Ok:=⟨by decide,by decide,.inl rfl⟩
theorem aMt {f:Fm} {M:DM} {Q:DQ}:oP (FmD f) (.int 0) M Q = Q (PQ f.px f.py) M:=rfl
theorem aNv {f:Fm} {M:DM} {Q:DQ}:oP (FmD f) (.int 1) M Q = Q (.int f.t) M:=rfl
theorem aMS {f:Fm} {M:DM} {Q:DQ}:oP (FmD f) (.int 2) M Q = Q (.int f.h) M:=rfl
theorem aND {f:Fm} {M:DM} {Q:DQ}:oP (FmD f) (.int 3) M Q = Q (FQ f.s) M:=rfl
theorem aLJ {f:Fm} {n:Nat} {t:DGs} {ρ:cL} {M:DM} {R:cL->DM->Prop}:gU n t (FmD f) ρ M R = (([PQ f.px f.py,.int f.t,.int f.h,FQ f.s]:List D).length = n/\t [PQ f.px f.py,.int f.t,.int f.h,FQ f.s] ρ M R):=rfl
theorem aGe {f:Fm} {M:DM} {Q:DQ}:sW [FmD f] M Q = Q (.int 4) M:=rfl
section
variable {X:Cx} {pins:List (Addr × Obj)} {σ:L2.St} {H:Hp} {s:Shared} {M:DM}
end
def aMz (g:Bool->Bool):D2:=fun x y M Q=>match x,y with
 | .int k,.tup ys=>∃ ns:List Int,ys = ns.map D.int/\Q (.bl (g (ns.any (· == k)))) M
 | .str k,.tup ys=>∃ ns:List Str,ys = ns.map D.str/\Q (.bl (g (ns.any (· == k)))) M
 | _,_=>False
section
variable {X:Cx}
theorem aLc:OpD X (compareOp .In) (aMz id):=fun pins s σ H x y v u Q I rx ry ⟨dx,dy,M,Q',r1,r2,hm,q,k⟩=>by
 cases dx with
 | int z =>
  cases dy with
  | tup ys =>
   obtain ⟨ns,rfl,q⟩:=q
   obtain rfl:=aU r1
   obtain ⟨a,us,rfl,sq,ru⟩:=cE r2
   obtain ⟨its,rv,ht⟩:=kN I sq
   obtain ⟨t,rfl⟩:=rx
   cases ry
   exact in_tuple_ints ht (rQ ru rv) ⟨.bl _,H,I,rfl,k _ H ⟨_,M,cQ,hm,.refl H,q⟩⟩
  | _=>exact q.elim
 | str z =>
  cases dy with
  | tup ys =>
   obtain ⟨ns,rfl,q⟩:=q
   obtain rfl:=bF r1
   obtain ⟨a,us,rfl,sq,ru⟩:=cE r2
   obtain ⟨its,rv,ht⟩:=kN I sq
   obtain ⟨t,rfl⟩:=rx
   cases ry
   exact in_tuple_strs ht (rZ ru rv) ⟨.bl _,H,I,rfl,k _ H ⟨_,M,cQ,hm,.refl H,q⟩⟩
  | _=>exact q.elim
 | _=>cases dy<;>exact q.elim
end
end Dd
namespace L2
open PySem PySem.Spec PyProof.Rows
section
variable {prog:Program} {w:World} {A:Around} {R:Result->Shared->Prop} {s:Shared}
theorem oQ {elt target iter c:Expr} {scope:Scope} {pos:Pos} {it acc:Value} {env:Env} (I:Nat->Shared->Prop)
  (turn:∀ n s,I n s->wpAny (model prog w) A (pyNext it) (fun r s₁=>match r with
   | none=>R (.ok .next) s₁
   | some v=>wpAny (model prog w) A (letOwnedTupleGo target it v) (fun _ s₁'=>wpAny (model prog w) A (assign target env v) (fun _ s₂=>wpAny (model prog w) A (isTrue c env (eval c env)) (fun b s₂'=>if b = true then wpAny (model prog w) A (eval elt env) (fun x s₃ =>
     wpAny (model prog w) A (call (.builtin "list.append") [acc,x]) (fun _ s₄=>∃ m,m < n/\I m s₄) (fun _ _=>False) s₃)
     (fun _ _=>False) s₂' else ∃ m,m < n/\I m s₂') (fun _ _=>False) s₂) (fun _ _=>False) s₁') (fun _ _=>False) s₁) (fun _ _=>False) s)
  (n:Nat) (h:I n s):codeAny (model prog w) A (.compLoop (.ListComp elt [⟨target,iter,[c],0⟩] scope pos) 0 it acc env) R s:=by
 refine codeAny_loop rfl I (fun n s hI=>?_) n h
 show wpAny _ _ ((compTurn (.ListComp elt [⟨target,iter,[c],0⟩] scope pos) 0 it acc env).onRaise (fun x=>do noteFrame x env;theTreesLotGoes x)) _ _ s
 refine wpAny_noted ?_
 rw [compTurn_list]
 refine wpAny_bind (wpAny_standAt (wpAny_bind (wpAny_mono (turn n s hI) (fun r s₁ h₁=>?_) fun _ _ h'=>h'.elim)))
 cases r with
 | none=>exact wpAny_pure h₁
 | some v =>
  refine wpAny_bind (wpAny_mono h₁ (fun _ s₁' h₁'=>wpAny_bind (wpAny_mono h₁' (fun _ s₂ h₂=>?_) fun _ _ h'=>h'.elim)) fun _ _ h'=>h'.elim)
  refine wpAny_bind (wpAny_tests_one (wpAny_mono h₂ (fun b s₂' h₂'=>?_) fun _ _ h'=>h'.elim))
  cases b with
  | false=>exact wpAny_pure ⟨rfl,h₂'⟩
  | true =>
   exact wpAny_bind (wpAny_bind (wpAny_mono h₂' (fun x s₃ h₃=>wpAny_bind (wpAny_mono h₃ (fun _ s₄ h₄=>wpAny_pure (wpAny_pure ⟨rfl,h₄⟩)) fun _ _ h'=>h'.elim)) fun _ _ h'=>h'.elim))
end
def aMX (wi:TI) (fr:List (Option Nat)) (g:TG) (tc:TT) (te:TE):TE:=fun σ H Q=>wi σ H fun J H1=>∃ W:Nat->Nat->List V->Hp->Prop,(∃ m,W 0 m [] H1)/\∀ i m ys H,W i m ys H ->
 (J.stop i H/\ys.length<=sizeLine/\∀ p,H p = none->Q (.ref p) (upd H p (.lst ys))) ∨
 (J.go i H/\ys.length<=sizeLine/\∀ x H',J.yld i H x H'->g x (oO fr σ) H' fun σ2 H2=>tc σ2 H2 fun b H2'=>if b = true then te σ2 H2' fun y H3=>∃ m',m' < m/\W (i + 1) m' (ys ++ [y]) H3 else ∃ m',m' < m/\W (i + 1) m' ys H2')
theorem aGI {X:Cx} {elt iter tg cnd:Expr} {scope:Scope} {pos pos2:Pos} {N':List Str} {fr:List (Option Nat)} {wi:TI} {g:TG} {tc:TT} {te:TE} (S:eT X N' fr scope) (hc:X.calm = true) (hi:PI X tg iter wi)
  (hg:∀ C s H fp pins,PG (X.blk N' scope C s H fp pins) tg g) (hcc:∀ C s H fp pins,PT (X.blk N' scope C s H fp pins) cnd tc) (he:∀ C s H fp pins,PE (X.blk N' scope C s H fp pins) elt te) (hs:∀ x,foldedSetIterable iter X.env x = pure x)
  {pins:List (Addr × Obj)} {s:Shared} {σ:St} {H:Hp} {Q:VK} (I:Inv X pins σ H s) (h:aMX wi fr g tc te σ H Q) (use:Option (Value->Sem Unit)) (Post:Value->Shared->Prop)
  (fin:∀ D C H' s4 m,Inv X pins σ H' s4->s4.heap.Ns C m->CF X pins H' C->Q (.ref D) H'->compPost (model X.prog X.w) X.A X.xe use Post (.ref D) C (.ok .next) s4) :
  wpAny (model X.prog X.w) X.A (comprehension (.ListComp elt [⟨tg,iter,[cnd],0⟩] scope pos) scope X.env pos2 (newList []) false (eval iter X.env) use) Post X.xe s:=by
 refine wpAny_comprehension_free (use:=use) rfl hs (vL (S.hasC I.ok)) S.kind S.names ?_
 show wpAny _ _ (eval iter X.env) _ _ s
 refine thn (hi pins s σ H _ I h) fun v s1 h1=>thn h1 fun itv s2 h2=>?_
 obtain ⟨it,fp,tn,J,H2,e,I2,T,st2,f2,W,⟨m0,w0⟩,turn⟩:=h2
 subst e
 refine wpAny_newObj_type (wpAny_newFunctionEnv S.nocell (by intro y hy;simp at hy) (fun h₁ hns₁ hsb₁=>?_) S.kind)
 dsimp only at hns₁ hsb₁ ⊢
 generalize hHp:s2.heap.push { cls:=.type "list",dict:=none,data:=.seq ([]:List Value).toArray } = HP at hns₁ hsb₁ ⊢
 have hC:HP.objs.size = s2.heap.objs.size + 1:=by rw [<- hHp,Heap.size_push]
 generalize hCe:HP.objs.size = C at hns₁ hsb₁ ⊢
 generalize hDe:s2.heap.objs.size = D at hC ⊢
 have hDC:D ≠ C:=by omega
 have hCle:s2.heap.objs.size<=C:=by omega
 have old:∀ b o,s2.heap.get? b = some o->h₁.get? b = some o:=fun b o e=>hsb₁.extBut b o (Nat.ne_of_lt (Nat.lt_of_lt_of_le (Heap.lt_size e) hCle)) (Heap.get?_push_of_some _ (hHp ▸ Heap.get?_push_of_some _ e))
 have hD1:h₁.PlainList D #[]:=⟨_,by
  refine hsb₁.extBut _ _ hDC (Heap.get?_push_of_some _ ?_)
  rw [<- hHp,<- hDe]
  exact Heap.get?_push_size _ rfl⟩
 have ltf:∀ b ∈ fp,b < D:=fun b hb=>by
  obtain ⟨o,e,_⟩:=T.obj _ _ st2 b hb
  exact Nat.lt_of_lt_of_eq (Heap.lt_size e) hDe
 have J0:=aDB (s1:={ s2 with heap:=h₁,toks:=s2.toks + ([]:List (Str × Value)).length }) S I2 f2 (fun b hb=>let ⟨o,e,_⟩:=T.obj _ _ st2 b hb;⟨o,e⟩) rfl rfl hCle old hns₁
 have ltC:∀ b,b < D->b ≠ C:=fun b hb=>Nat.ne_of_lt (Nat.lt_of_lt_of_le hb (by rw [<- hDe];exact hCle))
 have old2:∀ b o,s2.heap.get? b = some o->b < D:=fun b o e=>Nat.lt_of_lt_of_eq (Heap.lt_size e) hDe
 have neD:∀ b o,s2.heap.get? b = some o->b ≠ D:=fun b o e=>Nat.ne_of_lt (old2 b o e)
 have hDs:s2.heap.objs.size<=D:=Nat.le_of_eq hDe
 have hDfs:D ∉ frs X.stack:=fun hb=>by
  rcases List.mem_cons.mp (I2.stkSub D hb) with z | z
  ·have:=I2.lt
   rw [<- z] at this
   exact absurd (Nat.lt_of_lt_of_le this hDs) (Nat.lt_irrefl _)
  ·exact I2.nofs hDs z
 have cellD:∀ x c,X.env.cells.lookup x = some c->c ≠ D/\c ≠ C:=fun x c e=>by
  obtain ⟨v,o,ho,_⟩:=I2.cell x c e
  exact ⟨neD c o ho,ltC c (old2 c o ho)⟩
 have pinD:∀ p ∈ X.pn ++ pins,p.1 ≠ D/\p.1 ≠ C:=fun p hp=>by
  have e:=(I2.pin p hp).1
  exact ⟨neD _ _ e,ltC _ (old2 _ _ e)⟩
 have fpok:∀ (pl:List (Addr × Obj)) (H':Hp),(∀ b ∈ fp,H' b = none)->(∀ p ∈ pl,∀ b ∈ fp,p.1 ≠ b)->∀ b ∈ fp,yH (X.blk N' scope C s2 H2 fp pins) pl H' b:=fun pl H' hn hpl b hb=>by
  refine ⟨hn b hb,ltC b (ltf b hb),J0.ok.exfs b hb,.inl hb,(J0.ok.exf b hb).2,fun p hp=>?_⟩
  rcases List.mem_append.mp hp with z | z
  ·exact (f2 b hb).2.2.2.2.2 p z
  ·exact hpl p z b hb
 have loop:codeAny (model X.prog X.w) X.A (.compLoop (.ListComp elt [⟨tg,iter,[cnd],0⟩] scope pos) 0 (.ref it) (.ref D) (compEnvC scope (clo X.env.cells scope.names []) C X.env))
   (compPost (model X.prog X.w) X.A X.xe use Post (.ref D) C) { s2 with heap:=h₁,toks:=s2.toks + ([]:List (Str × Value)).length }:=by
  refine oQ (fun n s'=>∃ i H' ys its,Inv (X.blk N' scope C s2 H2 fp pins) [] (oO fr σ) H' s'/\tn i s'.heap/\(∀ b ∈ fp,H' b = none)/\s'.heap.PlainList D its/\H' D = none/\bS ys its.toList/\W i n ys H') ?_ m0
   ⟨0,H2,[],#[],J0,T.keep _ _ _ st2 fun b hb o e=>old b o e,fun b hb=>(f2 b hb).1,hD1,I2.hok.fresh hDs,.nil,w0⟩
  rintro n s3 ⟨i,H3,ys,its,I3,st3,fr3,⟨nn,pl3⟩,hD3,rv3,w3⟩
  have I3p:Inv (X.blk N' scope C s2 H2 fp pins) [(D,{ cls:=.type "list",data:=.seq its nn })] (oO fr σ) H3 s3:=I3.pins_of fun p hp=>by
   have e:=List.mem_singleton.mp hp
   subst e
   exact ⟨pl3,hD3,hDC,hDfs,fun v z=>by cases z⟩
  have pf:∀ p ∈ [((D,{ cls:=.type "list",data:=.seq its nn }):Addr × Obj)],∀ b ∈ fp,p.1 ≠ b:=fun p hp b hb=>by
   have e:=List.mem_singleton.mp hp
   subst e
   exact (Nat.ne_of_lt (ltf b hb)).symm
  rcases turn i n ys H3 w3 with ⟨stop,hz,q⟩ | ⟨go,hz,step⟩
  ·refine thn (T.done (X.blk N' scope C s2 H2 fp pins) rfl rfl rfl hc i _ s3 _ H3 (fun _ _=>False) I3p (fpok _ H3 fr3 pf) st3 stop) fun r s4 ⟨hr,I4⟩=>?_
   subst hr
   obtain ⟨mm,hn4,_⟩:=id I4.loc
   have pD:=(I4.pin _ (mem_append_right _ mem_cons_self)).1
   have IX:Inv X pins σ H3 s4:=I2.call' I4.os I4.base I4.hok I4.bare fun b hb=>⟨(f2 b hb).2.2.2.1,(f2 b hb).2.1,(f2 b hb).2.2.2.2.1,(f2 b hb).2.2.2.2.2⟩
   have CL:C ≠ X.env.locals:=(Nat.ne_of_lt (Nat.lt_of_lt_of_le I2.lt hCle)).symm
   have DL:D ≠ X.env.locals:=(Nat.ne_of_lt (Nat.lt_of_lt_of_le I2.lt hDs)).symm
   refine fin D C (upd H3 D (.lst ys)) s4 mm (IX.track hD3 (Nat.le_trans I2.sz hDs) DL (fun x c e=>(cellD x c e).1) (fun p hp=>(pinD p hp).1) ⟨hz,its.toList,nn,rv3,pD⟩) hn4 ⟨by rw [bR (Ne.symm hDC)];exact I4.free,CL,Nat.le_trans I2.sz hCle,fun x c e=>(cellD x c e).2,fun p hp=>(pinD p hp).2⟩ (q D hD3)
  ·refine thn (T.item (X.blk N' scope C s2 H2 fp pins) rfl rfl rfl hc i _ s3 _ H3 (fun _ _=>False) I3p (fpok _ H3 fr3 pf) st3 go) fun r s4 ⟨u,hr,h4⟩=>?_
   subst hr
   refine thn h4 fun _ s5 ⟨x,H5,I5,r5,y5,st5,fr5⟩=>?_
   have I5':=I5.pinned (fpok _ H5 fr5 pf) (T.obj _ _ st5)
   refine thn (hg C s2 H2 fp pins _ s5 _ H5 x u _ I5' r5 (step x H5 y5)) fun _ s6 ⟨σ6,H6,I6,q6⟩=>?_
   refine thn (hcc C s2 H2 fp pins _ s6 σ6 H6 _ I6 q6) fun bb s6' ⟨H6',I6',q6'⟩=>?_
   cases bb with
   | false =>
    obtain ⟨m',hm,w7⟩:=q6'
    obtain ⟨pD,nD,_⟩:=I6'.pin _ (mem_append_right _ (mem_append_left _ mem_cons_self))
    have I7a:Inv (X.blk N' scope C s2 H2 fp pins) [] σ6 H6' s6':=I6'.pins_of fun p hp=>nomatch hp
    refine ⟨m',hm,i + 1,H6',ys,its,tV S I2 I7a,?_,fun b hb=>?_,⟨nn,pD⟩,nD,rv3,w7⟩
    ·refine T.keep _ _ _ st5 fun b hb o e=>(I6'.pin (b,o) (mem_append_right _ (mem_append_right _ (gF hb e)))).1
    ·obtain ⟨o,e,d⟩:=T.obj _ _ st5 b hb
     exact (I6'.pin (b,o) (mem_append_right _ (mem_append_right _ (gF hb e)))).2.1
   | true =>
   refine thn (he C s2 H2 fp pins _ s6' σ6 H6' _ I6' q6') fun yv s7 ⟨y,H7,I7,ry,m',hm,w7⟩=>?_
   obtain ⟨pD,nD,_⟩:=I7.pin _ (mem_append_right _ (mem_append_left _ mem_cons_self))
   have lz:its.size<=sizeLine:=by
    have e:ys.length = its.size:=by rw [rv3.length];simp
    rw [<- e];exact hz
   refine wpAny_list_append_plain (hsz:=lz) ⟨nn,pD⟩ fun h8 pl8 sb8=>?_
   have I7a:Inv (X.blk N' scope C s2 H2 fp pins) [] σ6 H7 s7:=I7.pins_of fun p hp=>nomatch hp
   have I8:Inv (X.blk N' scope C s2 H2 fp pins) [] σ6 H7 { s7 with heap:=h8,toks:=s7.toks }:=I7a.turned (it:=D) (fun b o hb e=>sb8.extBut b o hb e) nD hDC (.inr hDs) (fun x c e=>(cellD x c (S.sub I2.ok e)).1) fun p hp=>by
    rw [append_nil] at hp
    exact (pinD p hp).1
   refine ⟨m',hm,i + 1,H7,ys ++ [y],its.push yv,tV S I2 I8,?_,fun b hb=>?_,pl8,nD,?_,w7⟩
   ·refine T.keep _ _ _ st5 fun b hb o e=>sb8.extBut b o (Nat.ne_of_lt (ltf b hb)) (I7.pin (b,o) (mem_append_right _ (mem_append_right _ (gF hb e)))).1
   ·obtain ⟨o,e,d⟩:=T.obj _ _ st5 b hb
    exact (I7.pin (b,o) (mem_append_right _ (mem_append_right _ (gF hb e)))).2.1
   ·rw [Array.toList_push]
    exact rv3.append (.cons ry .nil)
 exact codeAny_compStart_list loop (T.self _ _ _ _ _ (T.keep _ _ _ st2 fun b hb o e=>old b o e) loop)
theorem aLP {X:Cx} {elt iter tg cnd:Expr} {scope:Scope} {pos:Pos} {N':List Str} {fr:List (Option Nat)} {wi:TI} {g:TG} {tc:TT} {te:TE} (S:eT X N' fr scope) (hc:X.calm = true) (hi:PI X tg iter wi)
  (hg:∀ C s H fp pins,PG (X.blk N' scope C s H fp pins) tg g) (hcc:∀ C s H fp pins,PT (X.blk N' scope C s H fp pins) cnd tc) (he:∀ C s H fp pins,PE (X.blk N' scope C s H fp pins) elt te) (hs:∀ x,foldedSetIterable iter X.env x = pure x:=by intro _;rfl) :
  PE X (.ListComp elt [⟨tg,iter,[cnd],0⟩] scope pos) (aMX wi fr g tc te):=by
 intro pins s σ H Q I h
 rw [eval_ListComp]
 refine aGI S hc hi hg hcc he hs I h none (EP X pins σ Q) fun D C H' s4 m J hn F q=>⟨m,hn,fun h' sb=>?_⟩
 exact ⟨.ref D,H',J.turned (t':=s4.toks) (it:=C) (fun b o hb e=>sb.extBut b o hb e) F.none F.loc (.inr F.sz) F.cel F.pin,rfl,q⟩
end L2
namespace Dd
open PySem PySem.Spec PyProof.Rows L2
def aJe (at':Option Addr) (ds:List D) (ρ0:cL) (g:DG) (tc:DT) (te:DE) (M:DM) (Q:DQ):Prop:=ds.length<=1000/\∃ Pv:Nat->List D->DM->Prop,Pv 0 [] M /\
 (∀ i ys M,i<=ds.length->Pv i ys M->∀ a,at' = some a->M a = some ds) /\
 (∀ i d ys M,ds[i]? = some d->Pv i ys M->g d ρ0 M fun ρ2 M2=>tc ρ2 M2 fun b M2'=>if b = true then te ρ2 M2' fun y M3=>Pv (i + 1) (ys ++ [y]) M3 else Pv (i + 1) ys M2') /\
 ∀ ys M,ys.length<=ds.length->Pv ds.length ys M->∀ p:Addr,M p = none->Q (.ref p) (bG M p ys)
def aE2 (tl:DE) (fr:List (Option Nat)) (g:DG) (tc:DT) (te:DE):DE:=fun ρ M Q=>tl ρ M fun d M1=>match d with
 | .tup ds=>aJe none ds (qR fr ρ) g tc te M1 Q
 | _=>False
section
variable {X:Cx} {g:DG} {tc:DT} {te:DE}
theorem aHl {K:Frag} {a':Option Addr} {ds:List D} {fr:List (Option Nat)} {σ:L2.St} {ρ:cL} {M:DM} {H0 H:Hp} {J:It} {Q:VK} {Q':DQ} (ex0:Ext H0 H) (re:fH K H ρ σ) (hm:bV K M H) (h:aJe a' ds (qR fr ρ) g tc te M Q') (kq:∀ v H',LQ K H0 Q' v H'->Q v H')
  (seq:∀ H',Ext H H'->(∀ M',bV K M' H'->(∀ a,a' = some a->M' a = some ds)->∃ xs,bT K H' ds xs/\(∀ i,xs.length<=i->J.stop i H')/\(∀ i,i < xs.length->J.go i H')/\∀ i x H2,J.yld i H' x H2->H2 = H'/\xs[i]? = some x)) :
  ∃ W:Nat->Nat->List V->Hp->Prop,(∃ m,W 0 m [] H)/\∀ i m ys H,W i m ys H ->
   (J.stop i H/\ys.length<=sizeLine/\∀ p,H p = none->Q (.ref p) (upd H p (.lst ys))) ∨
   (J.go i H/\ys.length<=sizeLine/\∀ x H',J.yld i H x H'->vS K g x (oO fr σ) H' fun σ2 H2=>aFo K tc σ2 H2 fun b H2'=>if b = true then low K te σ2 H2' fun y H3=>∃ m',m' < m/\W (i + 1) m' (ys ++ [y]) H3 else ∃ m',m' < m/\W (i + 1) m' ys H2'):=by
 obtain ⟨hl,Pv,p0,hat,step,done⟩:=h
 refine ⟨fun i m ysV H'=>∃ ys M',bT K H' ys ysV/\bV K M' H'/\Ext H H'/\m = ds.length - i/\i<=ds.length/\ys.length<=i/\Pv i ys M',⟨ds.length,[],M,cG,hm,.refl H,rfl,Nat.zero_le _,Nat.le_refl _,p0⟩,?_⟩
 rintro i m ysV H1 ⟨ys,M1,ry,hm1,e1,rfl,hi,ly,w1⟩
 obtain ⟨xs,rs,hst,hgo,hy⟩:=seq H1 e1 M1 hm1 (hat i ys M1 hi w1)
 have hll:=rs.length
 have lz:ysV.length<=sizeLine:=by rw [<- ry.length];exact Nat.le_of_lt (eK (by omega))
 by_cases hlt:i < ds.length
 ·refine .inr ⟨hgo i (by omega),lz,fun x H' y=>?_⟩
  obtain ⟨rfl,hx⟩:=hy i x H' y
  obtain ⟨d,hd,rd⟩:=rs.getV hx
  refine ⟨d,qR fr ρ,M1,_,rd,wT (re.ext e1) fr,hm1,step i d ys M1 hd w1,fun σ2 H2 ⟨ρ2,M2,re2,hm2,e2,q2⟩=>?_⟩
  refine ⟨ρ2,M2,_,re2,hm2,q2,fun bb H2' ⟨M2',hm2',e2',q2'⟩=>?_⟩
  cases bb with
  | false=>exact ⟨ds.length - (i + 1),by omega,ys,M2',ry.ext (e2.trans e2'),hm2',(e1.trans e2).trans e2',rfl,hlt,by omega,q2'⟩
  | true =>
   refine ⟨ρ2,M2',_,re2.ext e2',hm2',q2',fun v H3 ⟨dy,M3,rdy,hm3,e3,q3⟩=>?_⟩
   exact ⟨ds.length - (i + 1),by omega,ys ++ [dy],M3,(ry.ext ((e2.trans e2').trans e3)).append (bH rdy cG),hm3,((e1.trans e2).trans e2').trans e3,rfl,hlt,by rw [length_append];exact Nat.succ_le_succ ly,q3⟩
 ·have e:i = ds.length:=by omega
  subst e
  exact .inl ⟨hst _ (by omega),lz,fun p hp=>kq _ _ ⟨.ref p,_,eS,hm1.lnew hp ry,(ex0.trans e1).trans (Ext.new hp _),done ys M1 ly w1 p (hm1.fresh hp)⟩⟩
variable {elt iter tg cnd:Expr} {scope:Scope} {pos:Pos} {N':List Str} {fr:List (Option Nat)} {tl:DE} {ta:DA} {oN:List Str} {osc:Scope}
theorem aIN (B:nB oN osc N' fr scope) (hc:X.calm = true) (hi:PDE X iter tl) (hg:∀ C s H fp pins,PG (X.blk N' scope C s H fp pins) tg (vS X.K g)) (hcc:∀ C s H fp pins,PT (X.blk N' scope C s H fp pins) cnd (aFo X.K tc)) (he:∀ C s H fp pins,PE (X.blk N' scope C s H fp pins) elt (low X.K te)) (hN:X.N = oN:=by rfl) (ho:X.env.scope = osc:=by rfl) (hs:∀ x,foldedSetIterable iter X.env x = pure x:=by intro _;rfl) :
  PDE X (.ListComp elt [⟨tg,iter,[cnd],0⟩] scope pos) (aE2 tl fr g tc te) :=
 bW (aLP (B.scope hN ho) hc (aCF hi) hg hcc he hs) fun σ H Q ⟨ρ,M,Q',re,hm,q,k⟩=>⟨ρ,M,_,re,hm,q,fun v H1 ⟨d,M1,rd,hm1,ex,q1⟩=>by
  cases d with
  | tup ds =>
   obtain ⟨a,xs,rfl,sq,rs⟩:=cE rd
   exact ⟨a,rfl,⟨xs,sq⟩,aHl ex (re.ext ex) hm1 q1 k fun H' e' M' hm' _=>⟨xs,rs.ext e',fun i hi=>⟨xs,jM e' sq,hi⟩,fun i hi=>⟨xs,xs[i],jM e' sq,by simp [hi]⟩,fun i x H2 y=>⟨y.1,y.2 xs (jM e' sq)⟩⟩⟩
  | _=>exact q1.elim⟩
end
open Mz
section
variable {X:Cx} {o e f:Expr} {to te tf:DE}
end
section
variable {X:Cx} {pins:List (Addr × Obj)} {σ:L2.St} {H:Hp} {s:Shared}
end
section
variable {X:Cx} {o:Expr} {to:DE}
def aK3 (to:DE):DE:=fun ρ M Q=>to ρ M fun x M1=>match x with
 | .ref p=>∃ ds y,M1 p = some ds/\ds[ds.length - 1]? = some y/\Q y (bG M1 p ds.dropLast)
 | _=>False
theorem zE {K:Frag} {H:Hp} {ds:List D} {vs:List V} (h:bT K H ds vs):bT K H ds.dropLast vs.dropLast:=by
 rw [List.dropLast_eq_take,List.dropLast_eq_take,h.length]
 exact h.take _
theorem aL8 {apos cpos:Pos} (ho:PDE X o to) (hbase:attributeBase o "pop" X.env (eval o X.env) = eval o X.env:=by rfl) (hline:(apos.endLine == cpos.line) = true:=by rfl) :
  PDE X (.Call (.Attribute o "pop" apos) [] [] cpos) (aK3 to) :=
 bW (aC5 PySem.F.plainAttrs_list PySem.F.slot_list_pop PySem.F.type_list_pop aK6 ho hbase hline) fun σ H Q ⟨ρ,M,Q',re,hm,q,k⟩=>⟨ρ,M,_,re,hm,q,fun v H1 ⟨d,M1,rd,hm1,e1,q1⟩=>by
  cases d with
  | ref p =>
   obtain rfl:=aV rd
   obtain ⟨ds,y,hp,hy,q1⟩:=q1
   obtain ⟨us,hu,ru⟩:=hm1.l p ds hp
   obtain ⟨w,hw,rw'⟩:=ru.get hy
   refine ⟨.inl ⟨rfl,us,.of hu⟩,p,us,w,rfl,rfl,hu,by rw [<- ru.length];exact hw,k _ _ ⟨y,_,rw'.ext (Ext.put hu _),hm1.put hu (zE ru),e1.trans (Ext.put hu _),q1⟩⟩
  | _=>exact q1.elim⟩
end
section
variable {X:Cx} {g:DG} {tc:DT} {te:DE}
variable {elt iter tg cnd:Expr} {scope:Scope} {pos:Pos} {N':List Str} {fr:List (Option Nat)} {tl:DE} {ta:DA} {oN:List Str} {osc:Scope}
theorem aFf (B:nB oN osc N' fr scope) (hc:X.calm = true) (hi:ZE X iter tl) (hg:∀ C s H fp pins,ZG (X.blk N' scope C s H fp pins) tg g) (hcc:∀ C s H fp pins,ZT (X.blk N' scope C s H fp pins) cnd tc) (he:∀ C s H fp pins,ZE (X.blk N' scope C s H fp pins) elt te) (hN:X.N = oN:=by rfl) (ho:X.env.scope = osc:=by rfl) (hs:∀ x,foldedSetIterable iter X.env x = pure x:=by intro _;rfl):ZE X (.ListComp elt [⟨tg,iter,[cnd],0⟩] scope pos) (aE2 tl fr g tc te):=.i (aIN B hc hi.o (fun C s H fp pins=>(hg C s H fp pins).o) (fun C s H fp pins=>(hcc C s H fp pins).o) (fun C s H fp pins=>(he C s H fp pins).o) hN ho hs)
end
section
variable {X:Cx} {o e f:Expr} {to te tf:DE}
end
section
variable {X:Cx} {pins:List (Addr × Obj)} {σ:L2.St} {H:Hp} {s:Shared}
end
section
variable {X:Cx} {o:Expr} {to:DE}
theorem wC {apos cpos:Pos} (ho:ZE X o to) (hbase:attributeBase o "pop" X.env (eval o X.env) = eval o X.env:=by rfl) (hline:(apos.endLine == cpos.line) = true:=by rfl):ZE X (.Call (.Attribute o "pop" apos) [] [] cpos) (aK3 to):=.i (aL8 ho.o hbase hline)
end
section
variable {P:Program} {w:World} {K:Frag} {mg:Str->Option Value} {base:Heap}
end
section
variable {X:Cx} {n x:Str} {C a:Addr} {o:Obj} {p p1 pos:Pos} {j k k':Nat} {sp:Addr->DM->DQ->Prop}
end
section
open PySem.SeqAt
open PySem.AutoSeq1 (wpAny_loadPart')
open PySem.MeetsSeq PySem.MeetsSeq2 PySem.MeetsSeq3
end
section
variable {prog:Program} {w:World} {A:Around} {E:Value->Shared->Prop} {s:Shared}
end
section
variable {X:Cx} {j:Nat}
end
theorem us0 {us:List Value} (h:us.length = 0):us = []:=List.length_eq_zero_iff.mp h
theorem us1 {us:List Value} (h:us.length = 1):∃ a,us = [a]:=List.length_eq_one_iff.mp h
theorem us2 {us:List Value} (h:us.length = 2):∃ a b,us = [a,b]:=by
 cases us with
 | nil=>cases h
 | cons a r=>obtain ⟨b,rfl⟩:=us1 (us:=r) (Nat.succ.inj h);exact ⟨a,b,rfl⟩
theorem us3 {us:List Value} (h:us.length = 3):∃ a b c,us = [a,b,c]:=by
 cases us with
 | nil=>cases h
 | cons a r=>obtain ⟨b,c,rfl⟩:=us2 (us:=r) (Nat.succ.inj h);exact ⟨a,b,c,rfl⟩
noncomputable instance aOO:DecidableEq D:=fun a b=>Classical.propDecidable (a = b)
noncomputable def aNH:Nat->D->Bool
 | _,.int _=>true
 | _,.str _=>true
 | n + 1,.tup ds=>ds.all (aNH n)
 | _,_=>false
mutual
def IsK (h:Heap):D->Value->Prop
 | .int i,v=>∃ t,v = .int i t
 | .str x,v=>∃ t,v = .str x t
 | .tup ds,v=>∃ a its,v = .ref a/\IsTup h a its/\uP h ds its.toList
 | _,_=>False
def uP (h:Heap):List D->List Value->Prop
 | [],vs=>vs = []
 | d :: ds,vs=>∃ v r,vs = v :: r/\IsK h d v/\uP h ds r
end
theorem aEI {h:Heap} {d:D} {ds:List D} {vs:List Value} (x:uP h (d :: ds) vs):∃ v r,vs = v :: r/\IsK h d v/\uP h ds r:=by unfold uP at x;exact x
theorem aHC {h:Heap} {ds:List D} {v:Value} (x:IsK h (.tup ds) v):∃ a its,v = .ref a/\IsTup h a its/\uP h ds its.toList:=by unfold IsK at x;exact x
section
variable {prog:Program} {w:World}
end
mutual
theorem IsK.keep {h h':Heap} (k:∀ a its,IsTup h a its->IsTup h' a its):∀ {x:D} {v:Value},IsK h x v->IsK h' x v
 | .int _,_,a=>by unfold IsK at a ⊢;exact a
 | .str _,_,a=>by unfold IsK at a ⊢;exact a
 | .tup ds,_,a=>by
  obtain ⟨p,its,rfl,ht,hs⟩:=aHC a
  unfold IsK
  exact ⟨p,its,rfl,k p its ht,uP.keep k hs⟩
 | .non,_,a=>by unfold IsK at a;exact a.elim
 | .bl _,_,a=>by unfold IsK at a;exact a.elim
 | .fz _,_,a=>by unfold IsK at a;exact a.elim
 | .ref _,_,a=>by unfold IsK at a;exact a.elim
theorem uP.keep {h h':Heap} (k:∀ a its,IsTup h a its->IsTup h' a its):∀ {xs:List D} {vs:List Value},uP h xs vs->uP h' xs vs
 | [],_,a=>by unfold uP at a ⊢;exact a
 | x :: xs,_,a=>by
  obtain ⟨v,r,rfl,a1,a2⟩:=aEI a
  unfold uP
  exact ⟨v,r,rfl,a1.keep k,uP.keep k a2⟩
end
section
variable {prog:Program} {w:World} {A:Around} {E:Value->Shared->Prop} {s:Shared} {it d:Addr} {i ep:Nat} {es:Array DictEntry}
end
structure TK (kvs:List (D × D)):Prop where
 key:∀ p ∈ kvs,(∃ ds,p.1 = .tup ds)/\aNH 6 p.1 = true
 nd:(kvs.map (·.1)).Nodup
theorem TK.nil:TK []:=⟨(fun _ h=>(nomatch h)),List.nodup_nil⟩
def KX (K:Frag) (H:Hp) (p:D × D) (x:D × Addr × Value):Prop:=p.1 = x.1/\Rep K H p.1 (.ref x.2.1)/\∃ vv,cF vv x.2.2/\Rep K H p.2 vv
section
variable {X:Cx} {pins:List (Addr × Obj)} {σ:L2.St} {H:Hp} {s:Shared}
theorem Paired.len {α β:Type} {F:α->β->Prop}:∀ {l:List α} {l':List β},Paired F l l'->l.length = l'.length
 | _,_,.nil=>rfl
 | _,_,.cons _ t=>by rw [length_cons,length_cons,Paired.len t]
end
section
variable {X:Cx} {pos:Pos}
end
open PySem.W
section
variable {n:Nat} {lt:Nat->Nat->Bool} {p:Array Nat}
end
section
variable {n:Nat} {p:Array Nat}
end
section
variable {prog:Program} {w:World} {A:Around} {E:Value->Shared->Prop} {s:Shared}
end
section
variable {X:Cx} {pins:List (Addr × Obj)} {σ:L2.St} {H:Hp} {s:Shared}
end
end Dd
namespace L2
open PySem PySem.Spec PyProof.Rows
end L2
namespace Dd
open PySem PySem.Spec PyProof.Rows L2
section
variable {X:Cx} {pos:Pos} {iter tg:Expr} {body:List Stmt} {tl:DE} {g:DG} {tb:DS} {ta:DA}
theorem aOs {CX:CXT} {P:Program} {w:World} {K:Frag} {mg:Str->Option Value} {base:Heap} {N:List Str} {qual:Str} {scope:Scope} {f:Addr} {cd:Value} {A:Around} {outer:List Env} {s:Shared} {H:Hp} {E:XK}:(jC CX P w K mg base N qual scope f cd A outer s H E).w = w:=rfl
end
end Dd
namespace L2
open PySem PySem.Spec PyProof.Rows
section
variable {prog:Program} {w:World} {A:Around} {E:Value->Shared->Prop} {s:Shared}
end
end L2
namespace Dd
open PySem PySem.Spec PyProof.Rows L2
section
variable {X:Cx} {pos:Pos} {iter tg:Expr} {body:List Stmt} {tl:DE} {g:DG} {tb:DS} {ta:DA}
end
end Dd
namespace L2
open PySem PySem.Spec PyProof.Rows
noncomputable def ItE (K:Frag) (l:Addr):It :=
 ⟨
  fun i H=>∃ xs x,SqL K H l xs/\xs[i]? = some x,
  fun i H v H'=>∃ p x,v = .ref p/\H p = none/\H' = upd H p (.tup [.int i,x])/\∀ xs,SqL K H l xs->xs[i]? = some x,
  fun i H=>∃ xs,SqL K H l xs/\xs.length<=i⟩
theorem aEj {P:Program} {w:World} {K:Frag} {elts:List Expr} {kk:Nat} {tpos:Pos} {e it l:Addr} (ne:e ≠ it) :
  aFc P w K (.Tuple elts kk tpos) (ItE K l) [e,it] e (fun i h=>(∃ old,IsEnum h e it i old)/\h.IsListIter it l i) where
 mem:=by simp
 obj:=fun i h st b hb=>by
  obtain ⟨⟨old,he⟩,⟨o1,e1,c1,d1⟩⟩:=st
  simp only [mem_cons,not_mem_nil,or_false] at hb
  rcases hb with rfl | rfl
  ·exact ⟨_,he,fun v z=>by cases z⟩
  ·exact ⟨o1,e1,fun v z=>by rw [d1] at z;cases z⟩
 keep:=fun i h h' st k=>by
  obtain ⟨⟨old,he⟩,t1⟩:=st
  exact ⟨⟨old,k e (by simp) _ he⟩,t1.at fun o x=>k it (by simp) o x⟩
 item:=by
  intro X hP hw hK hc i pins s σ H E I hf st hg
  subst hP hw hK
  obtain ⟨xs,x,hq,hx⟩:=hg
  obtain ⟨⟨old,he⟩,t1⟩:=st
  obtain ⟨its,rv,p,hz⟩:=I.list hq
  obtain ⟨u,hu,ru⟩:=rv.get hx
  refine wpAny_pyNext_enum_item he t1 p.isList (x:=u) (by simpa using hu) ne fun h' a1 a2 a3 a4 a5=>?_
  refine ⟨_,rfl,wpAny_letOwnedTupleGo_enum (s:={ s with heap:=h',toks:=s.toks + 1 }) a1 fun h2 b1 b2=>?_⟩
  have lte:=Heap.lt_size he
  have nz:s.heap.objs.size ≠ e:=Nat.ne_of_gt lte
  have k2:∀ b o,b ∉ [e,it]->s.heap.get? b = some o->h2.get? b = some o:=fun b o hb z=>b2.extBut _ _ (fun q=>hb (by simp [q])) (a5 b o (fun q=>hb (by simp [q])) (fun q=>hb (by simp [q])) z)
  have e1:h2.IsListIter it l (i + 1):=a2.extBut b2.extBut (Ne.symm ne)
  have I2:Inv X pins σ (upd H s.heap.objs.size (.tup [.int i,x])) { s with heap:=h2 }:=I.turnedT (its:=[.int i s.toks,u]) k2 hf (Nat.le_refl _) (by show 2<=sizeLine;decide) (.cons ⟨_,rfl⟩ (.cons ru .nil)) ⟨_,b2.extBut _ _ nz a3,rfl,_,rfl⟩ fun b hb=>by
   simp only [mem_cons,not_mem_nil,or_false] at hb
   rcases hb with rfl | rfl
   ·exact ⟨_,b1⟩
   ·obtain ⟨o,e,_⟩:=e1;exact ⟨o,e⟩
  have I3:=I2.kept (t':=s.toks + 1) (h':=h2) fun b u z=>z
  refine ⟨.ref s.heap.objs.size,_,I3,rfl,⟨_,x,rfl,I.hok.fresh (Nat.le_refl _),rfl,fun xs' q1=>by rw [I.list_inj q1 hq];exact hx⟩,⟨⟨_,b1⟩,e1⟩,fun b hb=>?_⟩
  rw [bR]
  ·exact (hf b hb).1
  ·intro q
   subst q
   simp only [mem_cons,not_mem_nil,or_false] at hb
   obtain ⟨o1,g1,_⟩:=t1
   rcases hb with q | q
   ·exact nz q
   ·exact absurd (Heap.lt_size g1) (by rw [<- q];exact Nat.lt_irrefl _)
 done:=by
  intro X hP hw hK hc i pins s σ H E I hf st hg
  subst hP hw hK
  obtain ⟨xs,hq,hend⟩:=hg
  obtain ⟨⟨old,he⟩,t1⟩:=st
  obtain ⟨its,rv,p,hz⟩:=I.list hq
  have w1:=rv.length
  exact wpAny_pyNext_enum_end (I.ok.hd hc) he t1 p.isList (by simp;omega) fun h' k=>⟨rfl,I.turnedL (fun b o hb z=>k b o (fun q=>hb (by simp [q])) z) hf⟩
 self:=fun _ _ _ _ _ st h=>by obtain ⟨⟨old,he⟩,_⟩:=st;exact wpAny_pyIter_enum he h
noncomputable def aMi (K:Frag) (ta:TA):TI:=fun σ H R=>ta σ H fun vs H1=>∃ a xs,vs = [.ref a]/\SqL K H1 a xs/\R (ItE K a) H1
theorem aIi {X:Cx} {elts:List Expr} {kk:Nat} {tpos:Pos} {a:Expr} {ta:TA} {p pos:Pos} (hg:Gl X "enumerate") (hm:X.mg "enumerate" = none) (ha:PA X [a] ta) (hs:starEach [a] X.env = [(false,eval a X.env)]:=by rfl) :
  PI X (.Tuple elts kk tpos) (.Call (.Name "enumerate" p) [a] [] pos) (aMi X.K ta):=by
 intro pins s σ H R I h
 refine Call_ (uX I hg hm (show bootBuiltins "enumerate" = some (.type "enumerate") from rfl) (PyProof.Rows.callWith_type1 (thn (ha pos pins s σ H _ I h) fun us s1 ⟨vs,H1,I1,r1,q1⟩=>?_) (by rw [hs];rfl) (by rfl)))
 obtain ⟨l,xs,rfl,hq,q⟩:=q1
 obtain ⟨u1,rfl,e1⟩:=r1.one
 cases e1
 obtain ⟨its,rv,p,hz⟩:=I1.list hq
 refine call_enumerate_list p.isList fun h' b1 b2 b3 b4=>?_
 refine wpAny_pyIter_enum (s:={ s1 with heap:=h' }) b1 ?_
 refine ⟨s1.heap.objs.size + 1,[s1.heap.objs.size + 1,s1.heap.objs.size],_,_,H1,rfl,I1.kept (t':=s1.toks) b4,aEj (l:=l) (Nat.succ_ne_self _),⟨⟨_,b1⟩,b2⟩,fun b hb=>?_,q⟩
 have hb':s1.heap.objs.size<=b:=by
  simp only [mem_cons,not_mem_nil,or_false] at hb
  rcases hb with rfl | rfl<;>omega
 exact I1.fpOk hb' (I1.hok.fresh hb')
end L2
namespace Dd
open PySem PySem.Spec PyProof.Rows L2
section
variable {X:Cx} {pos:Pos} {iter tg elt:Expr} {body:List Stmt} {tl te:DE} {g:DG} {tb:DS} {ta:DA}
def aMn (a:Addr) (ds:List D) (g:DG) (tb:DS):DS:=fun E ρ M=>∃ Pv:Nat->cL->DM->Prop,Pv 0 ρ M /\
 (∀ i ρ M,i<=ds.length->Pv i ρ M->M a = some ds) /\
 (∀ i d ρ M,ds[i]? = some d->Pv i ρ M->g (.tup [.int i,d]) ρ M fun ρ2 M2=>tb { E with nx:=Pv (i + 1),ct:=Pv (i + 1),bk:=E.nx } ρ2 M2)/\∀ ρ M,Pv ds.length ρ M->E.nx ρ M
def aMQ (K:Frag) (a:Addr) (ds:List D) (J:It) (H:Hp):Prop:=∀ H' M',Ext H H'->bV K M' H'->M' a = some ds->(∀ i,ds.length<=i->J.stop i H')/\(∀ i,i < ds.length->J.go i H')/\∀ i x H2,J.yld i H' x H2->Ext H' H2/\(∀ M',bV K M' H'->bV K M' H2)/\(i < ds.length->∃ d,ds[i]? = some d/\Rep K H2 (.tup [.int i,d]) x)
theorem aOb {K:Frag} {l:Addr} {ds:List D} {H:Hp}:aMQ K l ds (ItE K l) H:=fun H' M' e' hm' b1=>by
 obtain ⟨us,hu,r1⟩:=hm'.l l ds b1
 have n1:=r1.length
 refine ⟨fun i hi=>⟨us,.of hu,by omega⟩,fun i hi=>⟨us,us[i]'(by omega),.of hu,by simp⟩,fun i x H2 ⟨pp,vx,e1,hn,e2,all⟩=>?_⟩
 subst e1 e2
 refine ⟨Ext.new hn _,fun M' h=>h.new hn _,fun hi=>?_⟩
 obtain ⟨dx,hdx,rdx⟩:=r1.getV (all us (.of hu))
 exact ⟨dx,hdx,cJ (.of dB) (bH bO (bH (rdx.ext (Ext.new hn _)) cG))⟩
theorem aKL {K:Frag} {a:Addr} {ds:List D} {E:pN} {Dn:gA} {σ:L2.St} {ρ:cL} {M:DM} {H0 H:Hp} {J:It} (ex0:Ext H0 H) (re:fH K H ρ σ) (hm:bV K M H) (k:jF K H0 Dn E) (h:aMn a ds g tb Dn ρ M) (seq:aMQ K a ds J H) :
  ∃ W:Nat->Nat->L2.St->Hp->Prop,(∃ m,W 0 m σ H)/\∀ i m σ H,W i m σ H ->
   (J.stop i H/\E.nx σ H) ∨ (J.go i H/\∃ N:L2.St->Hp->Prop,(∀ σ' H',N σ' H'->∃ m',m' < m/\W (i + 1) m' σ' H')/\∀ x H',J.yld i H x H'->vS K g x σ H' fun σ2 H2=>aEA K tb { E with nx:=N,ct:=N,bk:=E.nx } σ2 H2):=by
 obtain ⟨Pv,p0,hat,step,done⟩:=h
 refine ⟨fun i m σ' H'=>∃ ρ' M',fH K H' ρ' σ'/\bV K M' H'/\Ext H H'/\m = ds.length - i/\i<=ds.length/\Pv i ρ' M',⟨ds.length,ρ,M,re,hm,.refl H,rfl,Nat.zero_le _,p0⟩,?_⟩
 rintro i m σ1 H1 ⟨ρ1,M1,re1,hm1,e1,rfl,hi,w1⟩
 obtain ⟨hst,hgo,hy⟩:=seq H1 M1 e1 hm1 (hat i ρ1 M1 hi w1)
 by_cases hlt:i < ds.length
 ·refine .inr ⟨hgo i hlt,fun σ' H'=>∃ ρ' M',fH K H' ρ' σ'/\bV K M' H'/\Ext H H'/\Pv (i + 1) ρ' M',fun σ' H' ⟨ρ',M',a,b,c,d⟩=>⟨ds.length - (i + 1),by omega,ρ',M',a,b,c,rfl,hlt,d⟩,fun x H' y=>?_⟩
  obtain ⟨ey,hmy,hd⟩:=hy i x H' y
  obtain ⟨d,hd,rd⟩:=hd hlt
  refine ⟨_,ρ1,M1,_,rd,re1.ext ey,hmy _ hm1,step i d ρ1 M1 hd w1,fun σ2 H2 ⟨ρ2,M2,re2,hm2,e2,q2⟩=>⟨ρ2,M2,_,re2,hm2,q2,?_⟩⟩
  have ex:=(e1.trans ey).trans e2
  exact ⟨fun σ' H' ⟨ρ',M',a,b,c,d⟩=>⟨ρ',M',a,b,ex.trans c,d⟩,fun v H' z=>k.rt v H' (z.back (ex0.trans ex)),fun σ' H' z=>k.nx σ' H' (z.back (ex0.trans ex)),fun σ' H' ⟨ρ',M',a,b,c,d⟩=>⟨ρ',M',a,b,ex.trans c,d⟩⟩
 ·have e:i = ds.length:=by omega
  subst e
  exact .inl ⟨hst _ (Nat.le_refl _),k.nx σ1 H1 ⟨ρ1,M1,re1,hm1,ex0.trans e1,done ρ1 M1 w1⟩⟩
def aGb (ta:DA) (g:DG) (tb:DS):DS:=fun E ρ M=>ta ρ M fun ds M1=>match ds with
 | [.ref a]=>∃ xs,M1 a = some xs/\aMn a xs g tb E ρ M1
 | _=>False
theorem aHH {elts:List Expr} {kk:Nat} {tpos:Pos} {a:Expr} {p pos':Pos} (hp:PassesOwn (model X.prog X.w) X.A X.env X.xe) (hc:X.calm = true) (hmg:X.mg "enumerate" = none) (ha:PDA X [a] ta) (hg:PDG X (.Tuple elts kk tpos) g) (hb:kE X body tb) (hgl:Gl X "enumerate":=by rfl) (hse:starEach [a] X.env = [(false,eval a X.env)]:=by rfl)
  (hs:∀ x,foldedSetIterable (.Call (.Name "enumerate" p) [a] [] pos') X.env x = pure x:=by intro _;rfl):PDS X (.For (.Tuple elts kk tpos) (.Call (.Name "enumerate" p) [a] [] pos') body [] pos) (aGb ta g tb) :=
 jD (aA6 hp hc (aIi hgl hmg ha hse) hg hb hs) fun E σ H ⟨ρ,M,Dn,re,hm,q,k⟩=>⟨ρ,M,_,re,hm,q,fun vs H1 ⟨ds,M1,rs,hm1,ex,q1⟩=>by
  match ds,q1 with
  | [.ref l],q1 =>
   obtain ⟨xs,a1,q1⟩:=q1
   obtain ⟨v1,rfl,rv1⟩:=dR rs
   obtain rfl:=aV rv1
   obtain ⟨us,hu,r1⟩:=hm1.l l xs a1
   exact ⟨l,us,rfl,.of hu,aKL ex (re.ext ex) hm1 k q1 aOb⟩⟩
variable {scope:Scope} {N':List Str} {fr:List (Option Nat)} {oN:List Str} {osc:Scope}
end
section
variable {prog:Program} {w:World} {A:Around} {E:Value->Shared->Prop} {s:Shared}
end
section
variable {X:Cx} {pos:Pos}
theorem xM:∀ {ns:List Int} {vs:List V} {us:List Value} {K:Frag} {H:Hp},bT K H (ns.map D.int) vs->bS vs us->∃ ps:List (Int × Tok),us = ps.map (fun p=>Value.int p.1 p.2)/\ps.map (·.1) = ns
 | [],vs,us,K,H,r,v=>by
  rw [bD r] at v
  cases v
  exact ⟨[],rfl,rfl⟩
 | n :: ns,vs,us,K,H,r,v=>by
  obtain ⟨x,rr,rfl,rx,rs⟩:=aR r
  cases v with
  | cons q1 q2 =>
   obtain ⟨ps,e1,e2⟩:=xM rs q2
   rw [aU rx] at q1
   obtain ⟨t,rfl⟩:=q1
   exact ⟨(n,t) :: ps,by rw [e1];rfl,by rw [map_cons,e2]⟩
def aIH (w:World) (K:Frag) (mg:Str->Option Value) (x:Str) (names:List (Str × Str)):Prop :=
 ∃ a es ep,mg x = some (.ref a)/\K.lookup a = some ⟨.type "dict",none,.dict es ep,#[]⟩/\KeysLit w.params es.toList/\∀ k n,names.lookup k = some n->∃ f,nsIn K a k = some (some (.ref f))/\mg n = some (.ref f)
def aLN (mg:Str->Option Value) (names:List (Str × Str)) (ti:DE):DE:=fun ρ M Q=>ti ρ M fun d M1=>match d with
 | .str k=>∃ n,names.lookup k = some n/\∀ f,mg n = some (.ref f)->Q (.ref f) M1
 | _=>False
theorem aKp {x:Str} {names:List (Str × Str)} {p:Pos} {i:Expr} {ti:DE} (T:aIH X.w X.K X.mg x names) (hi:PDE X i ti) (hg:Gl X x:=by rfl) (hd:(x == ("__debug__":Str)) = false:=by decide) (hs:sP i:=by intro _ _;rfl) :
  PDE X (.Subscript (.Name x p) i pos) (aLN X.mg names ti):=by
 obtain ⟨a,es,ep,hm,hk,ks,look⟩:=T
 intro pins s σ H Q I ⟨ρ,M,Q',re,hm',q,kq⟩
 refine Subscript_ (hJ I hg hm ?_ hd)
 refine thn (hi pins s σ H (LQ X.K H fun d M1=>match d with
  | .str k=>∃ n,names.lookup k = some n/\∀ f,X.mg n = some (.ref f)->Q' (.ref f) M1
  | _=>False) I ⟨ρ,M,_,re,hm',q,fun _ _ z=>z⟩) fun u s1 ⟨y,H1,I1,ry,d1,M1,r1,hm1,e1,q1⟩=>?_
 cases d1 with
 | str k =>
  obtain ⟨n,hn,q1⟩:=q1
  obtain ⟨f,hf,hmf⟩:=look k n hn
  rw [bF r1] at ry
  obtain ⟨t,rfl⟩:=ry
  have mo:=mapOf_K (prog:=X.prog) (w:=X.w) I1.kIn hk ks
  refine subscriptTail_builtinR (x:=.ref f) (T:="dict") mo.typeIs PySem.F.slot_dict_getitem.lookup (wpAny_getItem_of (strKind_is X.prog X.w k t) mo (find_K hk hf) ⟨rfl,?_⟩) (hs _ _)
  exact ⟨.ref f,H1,I1.tok _,rfl,kq _ _ ⟨.ref f,M1,eS,hm1,e1,q1 f hmf⟩⟩
 | _=>exact q1.elim
def aDd (P:Program) (w:World) (K:Frag) (mg:Str->Option Value) (base:Heap) (j:Nat) (tf:DE) (ta:DA):DE:=fun ρ M Q=>tf ρ M fun d M1=>match d with
 | .ref f=>∃ n ps sp,mg n = some (.ref f)/\Has P w K mg base j n ps sp/\ta ρ M1 fun ds M2=>sp ds M2 Q
 | _=>False
theorem aGr {x:Str} {p:Pos} {e:Expr} {es:List Expr} {tf:DE} {ta:DA} {j k:Nat} (hf:PDE X (.Name x p) tf) (hr:cZ k X.A) (hjk:j<=k) (ha:PDA X (e :: es) ta)
  (he:starEach (e :: es) X.env = (false,eval e X.env) :: starEach es X.env:=by rfl) (hpl:(backTo pos (starEach es X.env)).any (·.1) = false:=by rfl):PDE X (.Call (.Name x p) (e :: es) [] pos) (aDd X.prog X.w X.K X.mg X.base j tf ta):=by
 intro pins s σ H Q I ⟨ρ,M,Q',re,hm',q,kq⟩
 refine wpAny_Call_Name_kw (thn (hf pins s σ H _ I ⟨ρ,M,_,re,hm',q,fun _ _ z=>z⟩) fun u s1 ⟨y,H1,I1,ry,d1,M1,r1,hm1,e1,q1⟩=>?_)
 cases d1 with
 | ref f =>
  obtain ⟨n,ps,sp,hm,⟨f',fd,F,hm2,hk,hb⟩,q1⟩:=q1
  obtain rfl:f = f':=by rw [hm] at hm2;cases hm2;rfl
  rw [aV r1] at ry
  cases ry
  refine callWith_K (h₀:=X.base) I1.ok.mod.kin hk (thn (ha pos pins s1 σ H1 _ I1 ⟨ρ,M1,_,re.ext e1,hm1,q1,fun _ _ z=>z⟩) fun us s2 ⟨vs,H2,I2,r2,ds,M2,rs,hm2,e2,q2⟩=>⟨I2.kIn,?_⟩) he hpl
  exact aCM F (hr.mono hjk) hb .nil aEY I2 r2 ⟨ds,M2,Q',by rw [append_nil];exact rs,hm2,q2,fun v H' z=>kq v H' (z.back (e1.trans e2))⟩
 | _=>exact q1.elim
end
section
variable {P:Program} {w:World} {K:Frag} {mg:Str->Option Value} {base:Heap}
theorem gY.mkZ {x c:Str} {C:Addr} {st:Stmt} {N ps:List Str} {k:Nat} {cond:List D->DM->Prop} (h:cK K mg x st ps) (hc:aAX K mg c C) (S:aS N ps (aI st)) (len:∀ ds M,cond ds M->ds.length = ps.length)
  (hbody:∀ (f:Addr) (cdv:Value) (A:Around) (outer:List Env) (s:Shared) (H:Hp) (ds:List D) (M:DM) (E:XK),cZ k (A.deeper (envOfC x (aI st) s.heap.objs.size f cdv))->cond ds M ->
   sF (jC (CXr P w) P w K mg base N x (aI st) f cdv A outer s H E) c (bB M) ->
   ∃ t,ZSs (jC (CXr P w) P w K mg base N x (aI st) f cdv A outer s H E) (eO st) t/\t { nx:=fun _ _=>False,rt:=fun _ _=>False } (gW N ds) M):gY P w K mg base (k + 1) x ps C cond :=
 gY.mk h hc S len fun f cdv A outer s H ds M E hr h hRO=>let ⟨t,h1,h2⟩:=hbody f cdv A outer s H ds M E hr h hRO;⟨t,h1.o,h2⟩
end
end Dd
namespace HT
open PySem PyProof.Rows
section
variable {prog:Program} {w:World} {A:Around} {E:Value->Shared->Prop} {s:Shared}
theorem getItem_tuple_whole {t sl:Addr} {items:Array Value} {vl vu:Value} {lo hi:Option Int} {Q:Value->Shared->Prop} (ht:IsTup s.heap t items) (hs:s.heap.IsSliceOf sl vl vu .none) (pl:IsPart vl lo) (pu:IsPart vu hi)
  (hw:sIx items.size 0 lo = 0/\sIx items.size items.size hi = items.size)
  (h:Q (.ref t) s):wpAny (model prog w) A (getItem (.ref t) (.ref sl)) Q E s:=by
 obtain ⟨os,hos,hcs,hds⟩:=id hs
 have hTs:s.TypeIs (.ref sl) "slice":=⟨os,hos,hcs⟩
 unfold getItem
 try with_reducible refine wpAny_holding ?_
 first | refine wpAny_bind (wpAny_pure ?_) | skip
 refine wpAny_bind (wpAny_sequenceKey ht.typeIs (by decide) ?_)
 refine wpAny_bind (wpAny_callSpecial?_slot (name:=Str.ofString "__getitem__") ht.typeIs PyProof.Rows.slot_tuple_getitem
  (wpAny_call_entry PyProof.Rows.slot_tuple_getitem ht.typeIs entry_tuple_getitem ?_ (args_tuple_getitem _ _)))
 show wpAny _ _ (Builtin.Tuple.tupleItemsOf (.ref t) >>= _) _ _ s
 refine wpAny_bind (tupleItemsOf_ ht ?_)
 refine wpAny_bind (wpAny_typeOf hTs ?_)
 rw [if_pos (by decide)]
 refine wpAny_bind (mW hs pl pu ?_)
 have hyes:(((sIx items.size 0 lo:Nat):Int) == 0 && (1:Int) == 1 && (sIx items.size items.size hi - sIx items.size 0 lo) == items.size) = true:=by
  rw [hw.1,hw.2];simp
 show wpAny _ _ (if (((sIx items.size 0 lo:Nat):Int) == 0 && (1:Int) == 1 && (sIx items.size items.size hi - sIx items.size 0 lo) == items.size) = true then _ else _) _ _ s
 rw [if_pos hyes]
 obtain ⟨ot,hot,hct,n,hdt⟩:=id ht
 wp_walk
 first
  | exact ⟨_,rfl,wpAny_pure h⟩
  | exact ⟨_,rfl,h⟩
  | exact h
end
end HT
namespace L2
open PySem PySem.Spec PyProof.Rows
variable {X:Cx}
def aN5 (K:Frag):V->Option Int->Option Int->Hp->VK->Prop:=fun x lo hi H Q=>∃ a xs,x = .ref a/\SqT K H a xs /\
 (HT.sIx xs.length 0 lo = 0/\HT.sIx xs.length xs.length hi = xs.length)/\Q (.ref a) H
theorem aF0:SlR X (aN5 X.K):=by
 intro pins s σ H x v vl vu lo hi sl Q I rx hs pl pu h
 obtain ⟨a,xs,rfl,hx,hw,q⟩:=h
 cases rx
 obtain ⟨its,r,ht,hz⟩:=I.tuple hx
 have hlen:its.toArray.size = xs.length:=by rw [size_toArray];exact r.length.symm
 refine ⟨"tuple",_,PyProof.Rows.slot_tuple_getitem.lookup,ht.typeIs,?_⟩
 exact HT.getItem_tuple_whole ht hs pl pu (by rw [hlen];exact hw) ⟨.ref a,H,I,rfl,q⟩
end L2
namespace Dd
open PySem PySem.Spec PyProof.Rows L2
section
variable {X:Cx} {e:Expr} {te:DE} {pos p2:Pos} {lo hi:Option Expr} {tl th:DO}
def aJj (x:D) (lo hi:Option Int) (M:DM) (Q:DQ):Prop:=match x with
 | .tup ds=>Q (.tup (cutD ds lo hi)) M
 | _=>False
def aJ1 (te:DE) (tl th:DO):DE:=fun ρ M Q=>te ρ M fun x M1=>tl ρ M1 fun l M2=>th ρ M2 fun h M3=>aJj x l h M3 Q
theorem aEg {ds:List D} {lo hi:Option Int} (h:HT.sIx ds.length 0 lo = 0/\HT.sIx ds.length ds.length hi = ds.length):cutD ds lo hi = ds:=by
 unfold cutD
 rw [h.1,h.2];simp
theorem aEs (he:PDE X e te) (hl:PO X lo (xQ X.K tl)) (hu:PO X hi (xQ X.K th)):PDE X (.Subscript e (.Slice lo hi none p2) pos) (aJ1 te tl th) :=
 bW (wW (SlR.or aL0 aF0) he hl hu) fun σ H Q ⟨ρ,M,Q',re,hm,q,k⟩=>⟨ρ,M,_,re,hm,q,fun v H1 ⟨d,M1,rd,hm1,e1,q1⟩=>⟨ρ,M1,_,re.ext e1,hm1,q1,fun l H2 ⟨M2,hm2,e2,q2⟩=>⟨ρ,M2,_,(re.ext e1).ext e2,hm2,q2,fun h H3 ⟨M3,hm3,e3,q3⟩=>by
  have rd3:=(rd.ext e2).ext e3
  have ex:=(e1.trans e2).trans e3
  cases d with
  | tup ds =>
   obtain ⟨a,us,rfl,sq,ru⟩:=cE rd3
   have l1:=ru.length
   have q3:Q' (.tup (cutD ds l h)) M3:=q3
   by_cases hw:HT.sIx ds.length 0 l = 0/\HT.sIx ds.length ds.length h = ds.length
   ·rw [aEg hw] at q3
    exact .inr ⟨a,us,rfl,sq,by rw [<- l1];exact hw,k _ _ ⟨.tup ds,M3,cJ sq ru,hm3,ex,q3⟩⟩
   ·exact .inl ⟨a,us,rfl,sq,by rw [<- l1];exact hw,fun p hp=>k _ _ ⟨.tup _,M3,cJ (.of dB) ((xD ru l h).ext (Ext.new hp _)),hm3.new hp _,ex.trans (Ext.new hp _),q3⟩⟩
  | _=>exact q3.elim⟩⟩⟩
end
section
variable {X:Cx} {pins:List (Addr × Obj)} {σ:L2.St} {H:Hp} {s:Shared} {M:Model} {A:Around} {E:Value->Shared->Prop} {e T:Addr} {cls:Value}
theorem aC7 {Q:Unit->Shared->Prop} (I:Inv X pins σ H s) (hs:X.stack = X.env :: X.outer) (hf:X.env.frame = some X.env.locals) (hex:X.ex = []) (hA:A.frames = some X.stack) (t:Tr s.heap e cls T .none) (fe:FpN X pins H e) (fT:FpN X pins H T)
  (h:∀ s' T',Inv X pins σ H s'->Tr s'.heap e cls T' .none->FpN X pins H T'->Q () s'):wpAny M A (leaving X.env (.ref e)) Q E s:=by
 unfold leaving
 exact wpAny_bind (zW I hs hf hex hA t fe fT fun s1 T1 I1 t1 f1=>oB I1 t1 f1 fun s2 I2 t2=>h s2 T1 I2 t2 f1)
end
def aAo (X:Cx) (C:Addr) (V:DM->Prop):Prop:=X.ex = [] /\
 ∀ pins σ H s a T M',Inv X pins σ H s->Tr s.heap a (.ref C) T .none->FpN X pins H a->FpN X pins H T->bV X.K M' H->V M'->X.xe (.ref a) s
def aFz (V:DM->Prop) (cond:List D->DM->Prop) (t:DA):DE:=fun ρ M _=>t ρ M fun ds M1=>cond ds M1/\∀ M',bB M1 M'->V M'
section
variable {X:Cx} {e:Expr} {es:List Expr} {t:DA} {f:Str} {ps:List Str} {cond:List D->DM->Prop} {C:Addr} {k1 k:Nat} {V:DM->Prop} {pf pc:Pos}
theorem aHe (hH:gY X.prog X.w X.K X.mg X.base k1 f ps C cond) (hr:cZ k X.A) (hk1:k1<=k) (PO:aAo X C V) (ha:PDA X (e :: es) t) (hg:Gl X f:=by rfl) (hdb:(f == ("__debug__":Str)) = false:=by decide)
  (he:starEach (e :: es) X.env = (false,eval e X.env) :: starEach es X.env:=by rfl) (hpl:(backTo pc (starEach es X.env)).any (·.1) = false:=by rfl) :
  PDE X (.Call (.Name f pf) (e :: es) [] pc) (aFz V cond t):=by
 intro pins s σ H Q I ⟨ρ,M,Q',re,hm,q,k'⟩
 obtain ⟨hex,fly⟩:=PO
 obtain ⟨f1,fd,F,hmf,hk,hb⟩:=id hH
 refine wpAny_Call_Name_kw (hJ I hg hmf ?_ hdb)
 refine callWith_K (h₀:=X.base) I.ok.mod.kin hk (thn (ha pc pins s σ H (LA X.K H _) I ⟨ρ,M,_,re,hm,q,fun vs H' z=>z⟩) fun us s1 ⟨vs,H1,I1,rv,ds,M1,rs,hm1,ex,q1,q2⟩=>⟨I1.kIn,?_⟩) he hpl
 have hsp:spX X.K C cond vs H1 (fun _ _=>False) (fun c _ H'=>c = .ref C/\∃ M',bV X.K M' H'/\bB M1 M'):=⟨ds,M1,rs,hm1,q1,fun M' H' a b=>⟨rfl,M',a,b⟩⟩
 have hl:(us ++ []).length = ps.length:=by rw [append_nil,<- rv.length];exact F.len _ _ _ _ hsp
 have hbb:=hb s1 us I1.kIn hl
 rw [append_nil] at hbb
 refine wpAny_call (codeAny_mono (F.run X.A X.stack s1 H1 ⟨us,[]⟩ us vs _ _ (hr.mono hk1) I1.env0 hbb rv hsp) fun r s' hq=>?_)
 cases r with
 | error ev =>
  obtain ⟨a,cls,T,H',rfl,os,bare,un,hok,tr,na,nT,ha',hT,rfl,M',hm',sub⟩:=(show CXr X.prog X.w X.stack H1 s1 (fun c _ H'=>c = .ref C/\∃ M',bV X.K M' H'/\bB M1 M') ev s' from hq)
  have I2:Inv X pins σ H' s':=I1.call' (ch:=[]) os un hok bare (fun b z=>absurd z (by simp))
  exact fly pins σ H' s' a T M' I2 tr (I1.fpN hex na ha') (I1.fpN hex nT hT) hm' (q2 M' sub)
 | ok fl =>
  cases fl with
  | ret u=>obtain ⟨_,_,_,_,_,_,_,z⟩:=(show CE _ _ _ _ _ _ _ _ from hq);exact z.elim
  | next=>exact False.elim hq
  | brk=>exact False.elim hq
  | cont=>exact False.elim hq
end
section
variable {P:Program} {w:World} {K:Frag} {mg:Str->Option Value} {base:Heap}
theorem gY.mkP {x:Str} {C:Addr} {st:Stmt} {N ps:List Str} {k:Nat} {cond:List D->DM->Prop} (h:cK K mg x st ps) (S:aS N ps (aI st)) (len:∀ ds M,cond ds M->ds.length = ps.length)
  (hbody:∀ (f:Addr) (cdv:Value) (A:Around) (outer:List Env) (s:Shared) (H:Hp) (ds:List D) (M:DM) (E:XK),cZ k (A.deeper (envOfC x (aI st) s.heap.objs.size f cdv))->cond ds M ->
   aAo (jC (CXr P w) P w K mg base N x (aI st) f cdv A outer s H E) C (bB M) ->
   ∃ t,ZSs (jC (CXr P w) P w K mg base N x (aI st) f cdv A outer s H E) (eO st) t/\t { nx:=fun _ _=>False,rt:=fun _ _=>False } (gW N ds) M):gY P w K mg base (k + 1) x ps C cond:=by
 obtain ⟨f,fd,F,hm,hb⟩:=h
 refine ⟨f,fd,?_,hm,F.kp,hb⟩
 obtain ⟨oc,od,kV,doc,pm,an,cdv,ct,osl,rfl,lk,hcd⟩:=F.ex
 refine aDv lk hcd S (fun vs H Q E ⟨ds,M,rs,hm,q,_⟩=>by rw [<- rs.length];exact len ds M q) fun A outer s H vs Q E hr ⟨ds,M,rs,hm,q,k'⟩=>?_
 have PO:aAo (jC (CXr P w) P w K mg base N x (aI st) f cdv A outer s H E) C (bB M) :=
  ⟨rfl,fun pins σ H' s1 a T M' I t fe fT hm' sub =>
   aC7 (X:=jC (CXr P w) P w K mg base N x (aI st) f cdv A outer s H E) I rfl rfl rfl I.ok.frames t fe fT fun s' T' I' t' fT' =>
    ⟨a,.ref C,T',H',rfl,I'.os,I'.bare,I'.base,I'.hok,t',fe.2.2.1,fT'.2.2.1,fe.1,fT'.1,k' M' H' hm' sub⟩⟩
 obtain ⟨t,h1,h2⟩:=hbody f cdv A outer s H ds M E hr q PO
 exact ⟨_,h1.o,gW N ds,M,_,nN rs N,hm,h2,⟨fun σ' H' ⟨_,_,_,_,_,z⟩=>z.elim,fun v H' ⟨_,_,_,_,_,z⟩=>z.elim,fun σ' H' ⟨_,_,_,_,_,z⟩=>z.elim,fun σ' H' ⟨_,_,_,_,_,z⟩=>z.elim⟩⟩
theorem Has.never {x:Str} {st:Stmt} {N ps:List Str} (h:cK K mg x st ps) (S:aS N ps (aI st)) (k:Nat):Has P w K mg base (k + 1) x ps (fun _ _ _=>False) :=
 Has.mk h S (fun _ _ _ z=>z.elim) fun _ _ _ _ _ _ _ _ _ _ _ z=>z.elim
theorem Has.mono {x:Str} {ps:List Str} {k k':Nat} {sp:DSp} (h:Has P w K mg base k x ps sp) (l:k<=k'):Has P w K mg base k' x ps sp:=by
 obtain ⟨f,fd,F,hm,hk,hb⟩:=h
 exact ⟨f,fd,F.mono l,hm,hk,hb⟩
end
section
variable {X:Cx} {a:Expr} {e tg:Expr} {es:List Expr} {t:DA} {g:DG} {f n cm:Str} {ps:List Str} {sp:DSp} {cond:List D->DM->Prop} {C Cm:Addr} {k1 k2 k j:Nat} {ts:Addr->DS} {b0:Stmt} {suite:List Stmt} {pf pc pa pcm ph pos:Pos}
end
open PySem.AutoSeq1 (wpAny_loadPart')
theorem aBr (l b:Addr) (items items2:Array Value) (n n2:Nat) (dd dd2:Option Addr) (sl sl2:Array (Option Value)) (hc0:items.isEmpty = true) :
  Meets (Builtin.«tuple.__add__» ⟨[.ref l,.ref b],[]⟩) (fun _ R s=>s.heap.get? l = some { cls:=.type "tuple",dict:=dd,data:=.seq items n,slots:=sl }/\s.heap.get? b = some { cls:=.type "tuple",dict:=dd2,data:=.seq items2 n2,slots:=sl2 }/\R (.ok (.ret (Value.ref b))) { s with heap:=s.heap,toks:=s.toks }) :=
 .of_wp fun prog w A R s h=>by obtain ⟨hp,g,d,tk,os⟩:=s;obtain ⟨hl,hb,h⟩:=h;have f1:=AutoSeq1.idx_int;have f2:=AutoSeq1.sub_tuple_tuple;have f3:=AutoSeq1.sub_list_list;have f4:=AutoSeq1.sub_tuple_list;have f5:=AutoSeq1.sub_list_tuple;wp_walk using wpAny_loadPart' hl,wpAny_loadPart' hb;exact ⟨_,rfl,h⟩
section
variable {X:Cx}
def aGd:D2:=fun x y M Q=>match x,y with
 | .tup xs,.tup ys=>xs.length + ys.length<=1000/\Q (.tup (xs ++ ys)) M
 | _,_=>False
theorem fJ:OpD X (binaryOp .Add) aGd:=by
 intro pins s σ H x y v u Q I rx ry ⟨dx,dy,M,Q',r1,r2,hm,q,k⟩
 match dx,dy,q with
 | .tup xs,.tup ys,q =>
  obtain ⟨hl,q⟩:=q
  obtain ⟨a,us,rfl,sq,ru⟩:=cE r1
  obtain ⟨b,ws,rfl,sq2,rw'⟩:=cE r2
  have l3:=ru.length
  have l4:=rw'.length
  by_cases n1:us = []
  ·have nx:xs = []:=List.length_eq_zero_iff.mp (by rw [l3,n1];rfl)
   rw [nx] at q
   cases rx
   cases ry
   obtain ⟨its,r5,p1,_⟩:=I.tuple sq
   obtain ⟨its2,r6,p2,_⟩:=I.tuple sq2
   obtain ⟨⟨cls,dd,data,sl⟩,ho,hc,n,hd⟩:=id p1
   obtain ⟨⟨cls2,dd2,data2,sl2⟩,ho2,hc2,n2,hd2⟩:=id p2
   simp only at hc hd hc2 hd2
   subst hc hd hc2 hd2
   have e0:its = []:=List.length_eq_zero_iff.mp (by rw [<- r5.length,n1];rfl)
   exact concat_meets ⟨_,ho,rfl⟩ ⟨_,ho2,rfl⟩ noFill_tuple_add seq_tuple_add PySem.F.slot_tuple_add PySem.F.entry_tuple_add (PySem.F.args_tuple_add_2 _ _)
    (aBr a b its.toArray its2.toArray n n2 dd dd2 sl sl2 (by rw [e0];rfl)) ⟨ho,ho2,.ref b,H,I,rfl,k _ H ⟨.tup ys,M,cJ sq2 rw',hm,.refl H,q⟩⟩
  ·refine aDS pins s σ H _ _ v u Q I rx ry ?_
   refine ⟨a,b,us,ws,rfl,rfl,sq,sq2,n1,by rw [<- l3,<- l4];exact Nat.le_of_lt (eK hl),fun z=>?_,fun _ p hp=>k _ _ ⟨.tup _,M,cJ (.of dB) ((ru.append rw').ext (Ext.new hp _)),hm.new hp _,Ext.new hp _,q⟩⟩
   have ny:ys = []:=List.length_eq_zero_iff.mp (by rw [l4,z];rfl)
   rw [ny,append_nil] at q
   exact k _ H ⟨.tup xs,M,cJ sq ru,hm,.refl H,q⟩
end
section
variable {X:Cx} {pins:List (Addr × Obj)} {σ:L2.St} {H:Hp} {s:Shared}
end
section
variable {X:Cx} {pos:Pos}
end
section
variable {X:Cx} {pos:Pos} {iter tg:Expr} {body:List Stmt} {tl:DE} {g:DG} {tb:DS} {ta:DA}
end
section
variable {X:Cx} {pos:Pos} {iter tg:Expr} {body:List Stmt} {tl:DE} {g:DG} {tb:DS} {ta:DA}
end
section
variable {X:Cx} {pos:Pos} {iter tg elt:Expr} {body:List Stmt} {tl te:DE} {g:DG} {tb:DS} {ta:DA}
theorem aB0 {elts:List Expr} {kk:Nat} {tpos:Pos} {a:Expr} {p pos':Pos} (hp:PassesOwn (model X.prog X.w) X.A X.env X.xe) (hc:X.calm = true) (hmg:X.mg "enumerate" = none) (ha:ZA X [a] ta) (hg:ZG X (.Tuple elts kk tpos) g) (hb:ZSs X body tb) (hgl:Gl X "enumerate":=by rfl) (hse:starEach [a] X.env = [(false,eval a X.env)]:=by rfl) (hs:∀ x,foldedSetIterable (.Call (.Name "enumerate" p) [a] [] pos') X.env x = pure x:=by intro _;rfl):ZS X (.For (.Tuple elts kk tpos) (.Call (.Name "enumerate" p) [a] [] pos') body [] pos) (aGb ta g tb):=.i (aHH hp hc hmg ha.o hg.o hb.o hgl hse hs)
variable {scope:Scope} {N':List Str} {fr:List (Option Nat)} {oN:List Str} {osc:Scope}
end
section
variable {prog:Program} {w:World} {A:Around} {E:Value->Shared->Prop} {s:Shared}
end
section
variable {X:Cx} {pos:Pos}
theorem aIm {x:Str} {names:List (Str × Str)} {p:Pos} {i:Expr} {ti:DE} (T:aIH X.w X.K X.mg x names) (hi:ZE X i ti) (hg:Gl X x:=by rfl) (hd:(x == ("__debug__":Str)) = false:=by decide) (hs:sP i:=by intro _ _;rfl):ZE X (.Subscript (.Name x p) i pos) (aLN X.mg names ti):=.i (aKp (i:=i) T hi.o hg hd hs)
theorem aEm {x:Str} {p:Pos} {e:Expr} {es:List Expr} {tf:DE} {ta:DA} {j k:Nat} (hf:ZE X (.Name x p) tf) (hr:cZ k X.A) (hjk:j<=k) (ha:ZA X (e :: es) ta) (he:starEach (e :: es) X.env = (false,eval e X.env) :: starEach es X.env:=by rfl) (hpl:(backTo pos (starEach es X.env)).any (·.1) = false:=by rfl):ZE X (.Call (.Name x p) (e :: es) [] pos) (aDd X.prog X.w X.K X.mg X.base j tf ta):=.i (aGr (j:=j) (k:=k) hf.o hr hjk ha.o he hpl)
end
section
variable {P:Program} {w:World} {K:Frag} {mg:Str->Option Value} {base:Heap}
end
section
variable {X:Cx} {e:Expr} {te:DE} {pos p2:Pos} {lo hi:Option Expr} {tl th:DO}
theorem rP (he:ZE X e te) (hl:ZO X lo tl) (hu:ZO X hi th):ZE X (.Subscript e (.Slice lo hi none p2) pos) (aJ1 te tl th):=.i (aEs he.o hl.o hu.o)
end
section
variable {X:Cx} {pins:List (Addr × Obj)} {σ:L2.St} {H:Hp} {s:Shared} {M:Model} {A:Around} {E:Value->Shared->Prop} {e T:Addr} {cls:Value}
end
section
variable {X:Cx} {e:Expr} {es:List Expr} {t:DA} {f:Str} {ps:List Str} {cond:List D->DM->Prop} {C:Addr} {k1 k:Nat} {V:DM->Prop} {pf pc:Pos}
theorem zR (hH:gY X.prog X.w X.K X.mg X.base k1 f ps C cond) (hr:cZ k X.A) (hk1:k1<=k) (PO:aAo X C V) (ha:ZA X (e :: es) t) (hg:Gl X f:=by rfl) (hdb:(f == ("__debug__":Str)) = false:=by decide) (he:starEach (e :: es) X.env = (false,eval e X.env) :: starEach es X.env:=by rfl) (hpl:(backTo pc (starEach es X.env)).any (·.1) = false:=by rfl):ZE X (.Call (.Name f pf) (e :: es) [] pc) (aFz V cond t):=.i (aHe hH hr hk1 PO ha.o hg hdb he hpl)
end
section
variable {P:Program} {w:World} {K:Frag} {mg:Str->Option Value} {base:Heap}
end
section
variable {X:Cx} {a:Expr} {e tg:Expr} {es:List Expr} {t:DA} {g:DG} {f n cm:Str} {ps:List Str} {sp:DSp} {cond:List D->DM->Prop} {C Cm:Addr} {k1 k2 k j:Nat} {ts:Addr->DS} {b0:Stmt} {suite:List Stmt} {pf pc pa pcm ph pos:Pos}
end
section
variable {X:Cx}
end
section
variable {X:Cx} {pins:List (Addr × Obj)} {σ:L2.St} {H:Hp} {s:Shared}
def aNP:D2:=fun x y M Q=>match x,y with
 | .ref a,.ref b=>∃ xs,M a = some xs/\M b = some []/\Q (.bl (!xs.isEmpty)) M
 | _,_=>False
theorem aAG {k:Nat} (hr:cZ k X.A):OpD X (compareOp .NotEq) aNP:=fun pins s σ H x y v u Q I rx ry ⟨dx,dy,M,Q',r1,r2,hm,q,k⟩=>by
 match dx,dy,q with
 | .ref a,.ref b,q =>
  obtain ⟨xs,ha,hb,q⟩:=q
  obtain rfl:=aV r1
  obtain rfl:=aV r2
  cases rx
  cases ry
  have un:=hr.un
  obtain ⟨us,hua,ru⟩:=hm.l a xs ha
  obtain ⟨ws,hub,rw'⟩:=hm.l b [] hb
  obtain ⟨z,its,nn,rr,hl,e⟩:=I.lstM hua
  obtain ⟨z2,its2,n2,r3,hl2,ee2⟩:=I.lstM hub
  have i1:s.heap.IsList a its.toArray:=⟨_,e,rfl,_,rfl⟩
  have i2:s.heap.IsList b its2.toArray:=⟨_,ee2,rfl,_,rfl⟩
  have l3:=ru.length
  have l4:=rw'.length
  have l5:=rr.length
  have l6:=r3.length
  have l7:its2.length = 0:=by rw [<- l6,<- l4];rfl
  have fin:Q (.bl (!xs.isEmpty)) H:=k _ H ⟨_,M,cQ,hm,.refl H,q⟩
  cases xs with
  | nil =>
   have l8:its.length = 0:=by rw [<- l5,<- l3];rfl
   have:=SeqAt.RcNeAt.lists (A:=X.A) (e:=fun _=>true) i1 i2 (by rw [size_toArray,size_toArray];omega) (by omega) fun j j1 _=>absurd j1 (by rw [size_toArray];omega)
   rw [show (range its.toArray.size).all (fun _=>true) = true by simp] at this
   exact this X.prog X.w X.xe _ ⟨.bl (!true),H,I,rfl,fin⟩
  | cons d ds =>
   have l8:its.length = ds.length + 1:=by rw [<- l5,<- l3];rfl
   have:=SeqAt.RcNeAt.lists_lengths (A:=X.A) i1 i2 (by rw [size_toArray,size_toArray];simp;omega) (by omega)
   exact this X.prog X.w X.xe _ ⟨.bl (!false),H,I,rfl,fin⟩
end
def Cm (M:DM):Nat->D->D->Bool->Prop
 | 0,d,d',b=>bN 0 d = true/\bN 0 d' = true/\b = eqD d d'
 | n + 1,d,d',b=>match d,d' with
  | .tup xs,.tup ys=>∃ e:Nat->Bool,(∀ j x y,xs[j]? = some x->ys[j]? = some y->Cm M n x y (e j))/\b = ((range (min xs.length ys.length)).all e && xs.length == ys.length)
  | .ref a,.ref a'=>∃ xs ys,M a = some xs/\M a' = some ys/\a ≠ a'/\(xs.length = ys.length->∃ e:Nat->Bool,(∀ j x y,xs[j]? = some x->ys[j]? = some y->Cm M n x y (e j))/\b = (range xs.length).all e)/\(xs.length ≠ ys.length->b = false)
  | d,d'=>bN 0 d = true/\bN 0 d' = true/\b = eqD d d'
section
variable {X:Cx} {pins:List (Addr × Obj)} {σ:L2.St} {H:Hp} {s:Shared} {M:DM}
end
section
variable {X:Cx}
end
noncomputable def aMo (w:World) (kvs:List (Str × D)):List D:=kvs.map fun p=>.tup [.int (hashStr w p.1),.str p.1,p.2]
section
variable {X:Cx} {pins:List (Addr × Obj)} {σ:L2.St} {H:Hp} {s:Shared}
end
section
variable {X:Cx} {pos:Pos}
end
section
variable {X:Cx} {pins:List (Addr × Obj)} {σ:L2.St} {H:Hp} {s:Shared}
end
section
variable {X:Cx} {pos:Pos}
end
def FK (K:Frag) (x:Str) (f:Addr) (st:Stmt):Prop:=nsIn K mainGlobals x = some (some (.ref f))/\∃ fd,L2.Fun K x x st f fd
theorem FK.has {K:Frag} {mg:Str->Option Value} {h:Heap} {x:Str} {f:Addr} {st:Stmt} {ps:List Str} (b:FK K x f st) (X:K.In h) (G:h.Ns mainGlobals mg)
  (r:∀ (kV doc pm:Value) (an:Option Addr) (cdv ct:Value) (us:List Value),us.length = ps.length->bindArgs (fnOf x x (oE st) (eO st) (aI st) .none kV doc pm an cdv ct) ⟨us,[]⟩ = pure (ps.zip us)):cK K mg x st ps :=
 let ⟨a,_,F⟩:=b;⟨_,_,F,mg_of X G a,F.binds r⟩
section
variable {X:Cx} {pos:Pos} {st:Stmt} {t1 t2:DS} {iter tg:Expr} {body:List Stmt} {tl:DE} {g:DG} {tb:DS}
theorem PDS.or (h1:PDS X st t1) (h2:PDS X st t2):PDS X st (fun E ρ M=>t1 E ρ M ∨ t2 E ρ M) :=
 fun a b c d e f ⟨ρ,M,Dn,re,hm,q,k⟩=>q.elim (fun q=>h1 a b c d e f ⟨ρ,M,Dn,re,hm,q,k⟩) fun q=>h2 a b c d e f ⟨ρ,M,Dn,re,hm,q,k⟩
end
section
variable {X:Cx} {pos:Pos} {st:Stmt} {t1 t2:DS} {iter tg:Expr} {body:List Stmt} {tl:DE} {g:DG} {tb:DS}
end
open Mz
section
variable {prog:Program} {w:World} {A:Around} {I S:Addr} {fp wr:List Addr} {n:Nat} {P:Nat->Value->Prop} {St:Nat->Heap->Prop} {R:Result->Shared->Prop} {dv:Value}
end
section
variable {prog:Program} {w:World} {A:Around} {E:Value->Shared->Prop} {s:Shared} {l:Addr} {xs:Array (Int × Tok)} {dv:Value}
end
section
variable {X:Cx} {pos p kp:Pos} {e d:Expr} {te td:DE}
end
section
variable {X:Cx} {pos:Pos} {iter tg:Expr} {body:List Stmt} {te:DE}
end
section
variable {prog:Program} {w:World} {A:Around} {I S:Addr} {fp wr:List Addr} {n:Nat} {P:Nat->Value->Prop} {St:Nat->Heap->Prop} {R:Result->Shared->Prop} {dv:Value}
end
section
variable {prog:Program} {w:World} {A:Around} {E:Value->Shared->Prop} {s:Shared} {l:Addr} {xs:Array (Int × Tok)} {dv:Value}
end
section
variable {X:Cx} {pos p kp:Pos} {e d:Expr} {te td:DE}
end
section
variable {X:Cx} {pos:Pos} {iter tg:Expr} {body:List Stmt} {te:DE}
end
section
variable {X:Cx} {pos:Pos} {elt iter tg cnd:Expr} {scope:Scope} {N':List Str} {fr:List (Option Nat)} {tl:DE} {oN:List Str} {osc:Scope} {g:DG} {tc:DT} {te:DE} {e:Expr} {t1 t2:DE}
end
section
variable {X:Cx} {pos:Pos} {elt iter tg cnd:Expr} {scope:Scope} {N':List Str} {fr:List (Option Nat)} {tl:DE} {oN:List Str} {osc:Scope} {g:DG} {tc:DT} {te:DE} {e:Expr} {t1 t2:DE}
end
section
variable {X:Cx} {a:Expr} {e:Expr} {es:List Expr} {t:DA} {f n cm:Str} {ps:List Str} {sp:DSp} {cond:List D->DM->Prop} {C Cm:Addr} {k1 k2 k j:Nat} {ts:Addr->DS} {b0:Stmt} {suite:List Stmt} {pf pc pa pcm ph pos:Pos}
end
def aB6 (b:Bool) (j:Nat) (a:Addr):DE:=fun ρ M Q=>ρ[j]? = some (some (.ref a))/\Q (.bl b) M
section
variable {X:Cx} {n c:Str} {C Cc a:Addr} {o:Obj} {p p1 p2 pos:Pos} {j:Nat}
end
def aJJ (t1 t2:DS):DS:=fun E ρ M=>t1 E ρ M ∨ t2 E ρ M
section
variable {X:Cx} {st:Stmt} {t1 t2:DS}
theorem aNQ (h1:PDS X st t1) (h2:PDS X st t2):PDS X st (aJJ t1 t2):=PDS.or h1 h2
end
section
variable {prog:Program} {w:World} {A:Around} {E:Value->Shared->Prop} {s:Shared}
end
section
variable {X:Cx}
end
def aNy (i:Nat) (te:DE):DS:=fun E ρ M=>match ρ[i]? with
 | some (some d)=>te ρ M fun y M1=>aGd d y M1 fun r M2=>E.nx (ρ.set i (some r)) M2
 | _=>False
section
variable {X:Cx} {e:Expr} {te:DE} {x:Str} {pos:Pos}
end
section
variable {X:Cx} {a:Expr} {e:Expr} {es:List Expr} {t:DA} {f n cm:Str} {ps:List Str} {sp:DSp} {cond:List D->DM->Prop} {C Cm:Addr} {k1 k2 k j:Nat} {ts:Addr->DS} {b0:Stmt} {suite:List Stmt} {pf pc pa pcm ph pos:Pos}
end
section
variable {X:Cx} {n c:Str} {C Cc a:Addr} {o:Obj} {p p1 p2 pos:Pos} {j:Nat}
end
section
variable {X:Cx} {st:Stmt} {t1 t2:DS}
theorem aBg (h1:ZS X st t1) (h2:ZS X st t2):ZS X st (aJJ t1 t2):=.i (aNQ h1.o h2.o)
end
section
variable {prog:Program} {w:World} {A:Around} {E:Value->Shared->Prop} {s:Shared}
end
section
variable {X:Cx}
end
section
variable {X:Cx} {e:Expr} {te:DE} {x:Str} {pos:Pos}
end
section
variable {prog:Program} {w:World} {A:Around} {E:Value->Shared->Prop} {s:Shared}
end
def aMD:DSp:=fun ds M Q=>match ds with
 | [.tup [.int a,.int b]]=>Q (.int (if b > a then b else a)) M
 | _=>False
section
variable {X:Cx}
end
section
variable {X:Cx} {o e:Expr} {to te:DE} {pos:Pos}
def aGH (to te:DE):DE:=fun ρ M Q=>to ρ M fun x M1=>match x with
 | .ref p=>(∃ ds,M1 p = some ds)/\iN te lG ρ M1 fun ys M2=>∃ ds y,ys = [y]/\M2 p = some ds/\ds.length < 10000000/\Q .non (bG M2 p (ds ++ [y]))
 | _=>False
def aFZ (to te:DE):DE:=fun ρ M Q=>to ρ M fun x M1=>match x with
 | .ref p=>(∃ ds,M1 p = some ds)/\iN te lG ρ M1 fun ys M2=>∃ ds q es,ys = [.ref q]/\M2 p = some ds/\M2 q = some es/\ds.length + es.length<=10000000/\Q .non (bG M2 p (ds ++ es))
 | _=>False
end
section
variable {X:Cx} {pos:Pos}
def aJM:D2:=fun x y M Q=>match x,y with
 | .tup ds,.int k=>-(2 ^ 62)<=k/\k < 2 ^ 62/\ds.length * k.toNat<=10000000/\Q (.tup (replicate k.toNat ds).flatten) M
 | _,_=>False
def aFK:D2:=fun x y M Q=>match x,y with
 | .tup xs,.tup ys=>xs.length + ys.length<=10000000/\Q (.tup (xs ++ ys)) M
 | _,_=>False
end
section
variable {X:Cx}
end
def aL5 (i:Nat) (te:DE):DS:=fun E ρ M=>match ρ[i]? with
 | some (some d)=>te ρ M fun y M1=>aFK d y M1 fun r M2=>E.nx (ρ.set i (some r)) M2
 | _=>False
section
variable {X:Cx} {e:Expr} {te:DE} {x:Str} {pos:Pos}
end
section
variable {X:Cx} {o e:Expr} {to te:DE} {pos:Pos}
end
section
variable {X:Cx} {pos:Pos}
end
section
variable {X:Cx}
end
section
variable {X:Cx} {e:Expr} {te:DE} {x:Str} {pos:Pos}
end
open PySem.W (InstAt findIn clsIn takerIn mroIn looks_findIn looks_clsIn looks_mroIn)
open PySem.Builtin PySem.Builtin.ObjectAttr
noncomputable def aFU:List Value->Bool
 | .ref _ :: r=>aFU r
 | l=>l == bmV
theorem vI (self:Value):∀ {l:List Value},aFU l = true->refuseLoop self "__setattr__" l = pure ()
 | .ref c :: r,e=>by rw [refuseLoop_ref];exact vI self (l:=r) e
 | [],e=>by cases (show (([]:List Value) == bmV) = true from e)
 | .none :: r,e=>by cases (show ((Value.none :: r) == bmV) = true from e)
 | .ellipsis :: r,e=>by cases (show ((Value.ellipsis :: r) == bmV) = true from e)
 | .notImplemented :: r,e=>by cases (show ((Value.notImplemented :: r) == bmV) = true from e)
 | .bool b :: r,e=>by cases (show ((Value.bool b :: r) == bmV) = true from e)
 | .int i t :: r,e=>by cases (show ((Value.int i t :: r) == bmV) = true from e)
 | .float i t :: r,e=>by cases (show ((Value.float i t :: r) == bmV) = true from e)
 | .str i t :: r,e=>by cases (show ((Value.str i t :: r) == bmV) = true from e)
 | .bytes i t :: r,e=>by cases (show ((Value.bytes i t :: r) == bmV) = true from e)
 | .builtin n :: r,e=>by cases (show ((Value.builtin n :: r) == bmV) = true from e)
 | .type n :: r,e=>by
  have z:(Value.type n :: r) = bmV:=beq_iff_eq.mp e
  rw [z]
  exact PySem.F.store_ValueError.passes self
structure vW (K:Frag) (C:Addr) (f:Str):Prop where
 sa:findIn K (.ref C) "__setattr__" = some (some (.builtin "object.__setattr__"))
 cd:∃ cd,clsIn K C = some cd/\aFU cd.mro = true/\cd.hasDict = true
 mo:mroIn K C (.type "object") = some true
 no:findIn K (.ref C) f = some none
section
variable {K:Frag} {prog:Program} {w:World} {A:Around} {E:Value->Shared->Prop} {s:Shared} {x C:Addr} {ox:Obj} {name:Str} {v:Value}
theorem aIk {tk:Tok} {R:Result->Shared->Prop} (X:K.In s.heap) (I:InstAt s.heap x ox C none) (hk:vW K C name)
  (h:∀ b,wpAny (model prog w) A.in1 (storeInOwnDict (.ref x) (.ref C) (.str name tk) name v b)
   (fun fin s'=>match fin with | .done f=>R (.ok f) s' | .again c'=>c'.quiet = true/\codeAny (model prog w) A c' R s') (fun e s'=>R (.error e) s') s) :
  codeAny (model prog w) A (.call (.builtin "object.__setattr__") ⟨[.ref x,.str name tk,v],[]⟩) R s:=by
 have SF:=PySem.F.store_object
 obtain ⟨cd,hc,ho,_⟩:=hk.cd
 have sub:PySem.W.Looks (model prog w) s.heap (isInstance (.ref x) (.type "object")) true:=I.type.andThen (looks_mroIn X hk.mo)
 refine codeAny_call_builtin SF.slot.plain SF.entry (@PySem.W.check_slot (model prog w) _ _ s "object.__setattr__" "object" "__setattr__" (.ref x) [.str name tk,v] [] _ SF.kind SF.split sub (SF.args (.ref x) (.str name tk) v) ?_)
 have hm:PySem.W.Looks (model prog w) s.heap (mroOf (.ref C)) cd.mro:=(looks_clsIn X hc).andThen .now
 rw [PySem.W.osa_eq,refuse_eq]
 refine wpAny_bind (wpAny_bind (I.type.here (wpAny_bind (hm.here ?_))))
 rw [vI _ ho]
 exact wpAny_pure (wpAny_bind (I.type.here (wpAny_bind ((looks_findIn X hk.no).here (wpAny_bind (wpAny_pure (h _)))))))
theorem aKE {Q:Unit->Shared->Prop} (X:K.In s.heap) (I:InstAt s.heap x ox C none) (hk:vW K C name) (hd:ox.dict = none)
  (h:∀ h' tk oD,h'.get? s.heap.objs.size = some oD->h'.Ns1 s.heap.objs.size (fun y=>if y = name then some v else none)->h'.get? x = some { ox with dict:=some s.heap.objs.size }->(∀ b o,b ≠ x->s.heap.get? b = some o->h'.get? b = some o)->Q () { s with heap:=h',toks:=tk }) :
  wpAny (model prog w) A (setAttr (.ref x) name v) Q E s:=by
 refine PySem.W.set_plain X I hk.sa (aIk (s:={ s with toks:=s.toks + 1 }) X I hk fun b=>?_)
 obtain ⟨cd,hc,_,hcd⟩:=hk.cd
 obtain ⟨hx,hcl,hn,-⟩:=I
 obtain ⟨hh,g,d,t,os⟩:=s
 obtain ⟨oc,odi,oda,osl⟩:=ox
 dsimp only at hcl hd hx h
 subst hcl hd
 have hxs:x ≠ hh.objs.size:=Nat.ne_of_lt (Heap.lt_size hx)
 refine wpAny_bind (wpAny_pure (wpAny_bind (wpAny_bind (wpAny_loadPart hx (wpAny_bind (PySem.W.Looks.here (s:=⟨hh,g,d,t + 1,os⟩) (looks_clsIn X hc) ?_))))))
 rw [hcd]
 have nc:∀ c,oda ≠ .cls c:=fun c z=>by
  unfold PySem.W.notCls at hn
  rw [z] at hn;cases hn
 rw [if_neg (by decide)]
 dsimp only
 rw [if_neg (by simp [typeHasDict])]
 split
 ·exact absurd rfl (nc _)
 have hx1:(hh.push { cls:=.type "dict",data:=.dict #[] }).get? x = some ⟨.ref C,none,oda,osl⟩:=Heap.get?_push_of_some _ hx
 refine wpAny_bind (wpAny_alloc' (wpAny_bind (wpAny_update' hx1 (wpAny_pure ?_))))
 have hgd:((hh.push { cls:=.type "dict",data:=.dict #[] }).update x fun o=>{ cls:=o.cls,dict:=some hh.objs.size,data:=o.data,slots:=o.slots }).get? hh.objs.size = some { cls:=.type "dict",data:=.dict #[] } :=
  (Heap.get?_update_ne _ _ _ _ (Ne.symm hxs)).trans (Heap.get?_push_at rfl rfl)
 have hgx:((hh.push { cls:=.type "dict",data:=.dict #[] }).update x fun o=>{ cls:=o.cls,dict:=some hh.objs.size,data:=o.data,slots:=o.slots }).get? x = some ⟨.ref C,some hh.objs.size,oda,osl⟩:=by
  refine Heap.get?_update_self _ hx1 ?_
  have hfr:=(Heap.get?_some_iff.mp hx).2
  cases oda<;>first | rfl | exact hfr
 have hgb:∀ b o,b ≠ x->hh.get? b = some o->((hh.push { cls:=.type "dict",data:=.dict #[] }).update x fun o=>{ cls:=o.cls,dict:=some hh.objs.size,data:=o.data,slots:=o.slots }).get? b = some o:=fun b o n e =>
  (Heap.get?_update_ne _ _ _ _ n).trans (Heap.get?_push_of_some _ e)
 generalize (hh.push { cls:=.type "dict",data:=.dict #[] }).update x _ = h1 at hgd hgx hgb ⊢
 have hnd:h1.Ns hh.objs.size (fun _=>none):=⟨_,#[],_,hgd,rfl,fun e he=>absurd he (by simp),fun _=>rfl⟩
 show wpAny _ _ (storeInDict hh.objs.size (.str name t) name v) _ _ _
 unfold storeInDict newKeyGuard
 refine wpAny_bind (wpAny_pure (wpAny_bind (wpAny_nsSet1 (Heap.Ns1.of_empty hnd) fun h' hn' hs=>?_)))
 obtain ⟨oD,esD,epD,hoD,hdD,hcD⟩:=hn'.count (PySem.Within.cons name v PySem.Within.nil)
 refine wpAny_bind (wpAny_lookBehind hoD (by rw [hdD];exact pastItsLine_dict (Nat.le_trans hcD (by rw [length_cons,length_nil,sizeLine_eq];omega))) ?_)
 wp_walk
 exact h h' _ oD hoD hn' ((hs.2 x hxs).trans hgx) fun b o n e=>(hs.2 b (Nat.ne_of_lt (Heap.lt_size e))).trans (hgb b o n e)
theorem aNF {expr:Bool} {oD:Obj} {Q:Value->Shared->Prop} (X:K.In s.heap) (I:InstAt s.heap x ox C (some oD)) (ek:nR K C) (hk:vW K C name) (hl:lookIn name oD = some (some v)) (hv:handedOut v = pure v)
  (h:∀ tk,Q v { s with toks:=tk }):wpAny (model prog w) A (getAttr (.ref x) name expr) Q E s:=by
 obtain ⟨hh,g,d,t,os⟩:=s
 obtain ⟨cd,hc,_,hcd⟩:=hk.cd
 have L0:=I.type (M:=model prog w)
 have L1:=looks_findIn (M:=model prog w) X ek.ga
 unfold getAttr getAttrBy
 refine wpAny_bind (wpAny_mkText ?_)
 refine wpAny_holding (wpAny_bind (L0.at (wpAny_bind (L1.at ?_))))
 have hx2:(onTheHeap (Value.ref C) && Value.builtin "BaseException.__getattribute__" == Value.builtin "object.__getattribute__") = false:=by
  rw [show (Value.builtin "BaseException.__getattribute__" == Value.builtin "object.__getattribute__") = false by decide +kernel,Bool.and_false]
 dsimp only
 rw [if_neg (by rw [hx2];exact Bool.false_ne_true)]
 have f3:=PySem.F.attr_ValueError.ga.bind (.ref x)
 have L2:=looks_findIn (M:=model prog w) X ek.gn
 have L3:=looks_mroIn (M:=model prog w) X ek.mb
 have hf:PySem.W.findObj K C (some oD) name = some (.value v):=by
  unfold PySem.W.findObj PySem.W.ownOf
  rw [hc,Option.bind_some,hk.no,Option.bind_some]
  simp [hcd,hl]
 have L4:=PySem.W.looks_find (M:=model prog w) X I hf
 unfold getAttrByItsOwn hookBefore callGetattribute
 refine wpAny_bind ?_
 rw [if_pos (show onTheHeap (Value.ref C) = true from rfl)]
 refine L2.at ?_
 refine wpAny_bind (wpAny_attempt (wpAny_holding ?_))
 rw [if_neg (by simp [onTheHeap])]
 unfold boundAndCalled
 rw [f3]
 refine wpAny_bind (wpAny_pure ?_)
 dsimp only [cons_append,nil_append]
 have hk1:builtinKind "BaseException.__getattribute__" = some .slot:=by decide +kernel
 have hsplit:splitId "BaseException.__getattribute__" = some ("BaseException","__getattribute__"):=by decide +kernel
 have ha:=PySem.F.args_bexc_ga (.ref x) (.str name t)
 refine wpAny_call (codeAny_call_builtin PySem.F.attr_ValueError.ga.plain PySem.F.entry_bexc_ga ?_)
 simp only [checkBuiltinCall,hk1,hsplit]
 refine wpAny_bind ?_
 unfold isInstance
 refine wpAny_bind (L0.at ?_)
 refine L3.at ?_
 simp only [Bool.not_true,Bool.false_eq_true,if_false]
 repeat (any_goals (first | assumption | (with_reducible refine L0.at ?_) | (with_reducible refine L4.at ?_) | wp_step))
 exact h _
end
noncomputable def mK (C t:Addr) (od:Option Addr):Obj:={ cls:=.ref C,dict:=od,data:=.fields #[.ref t,.none,.none,.none,.bool false,.none] }
def XO (e C:Addr) (od:Option Addr):Heap->Prop:=fun h=>∃ t,h.get? e = some (mK C t od)
theorem aJr {P:Program} {w:World} {H:Hp} {h:Heap} {e C:Addr} {od:Option Addr} (x:XO e C od h):gB P w H h e (.ext (XO e C od)) :=
 ⟨x,let ⟨t,q⟩:=x;⟨_,q⟩,fun h1 h2 ⟨t,q⟩ k=>⟨t,k _ q⟩⟩
section
variable {X:Cx} {pins:List (Addr × Obj)} {σ:L2.St} {H:Hp} {s:Shared} {e C:Addr} {f:Str} {y:V} {u:Value}
noncomputable def delH (H:Hp) (e:Addr):Hp:=fun b=>if b = e then none else H b
theorem qL:delH H e e = none:=if_pos rfl
theorem jN {b:Addr} (h:b ≠ e):delH H e b = H b:=if_neg h
theorem _root_.L2.Inv.drop {φ:Heap->Prop} (I:Inv X pins σ H s) (h:H e = some (.ext φ)):Inv X pins σ (delH H e) s:=by
 have out:∀ b o,delH H e b = some o->b ≠ e/\H b = some o:=fun b o q=>by
  by_cases z:b = e
  ·rw [z,qL] at q;cases q
  ·rw [jN z] at q;exact ⟨z,q⟩
 have sub:∀ b,H b = none->delH H e b = none:=fun b q=>by
  unfold delH;split
  ·rfl
  ·exact q
 have nt:∀ b o,H b = some o->(∀ φ,o ≠ .ext φ)->delH H e b = some o:=fun b o q n=>by
  rw [jN (fun z=>by rw [z,h] at q;exact n φ (Option.some.inj q).symm)];exact q
 refine ⟨I.ok,I.os,I.bare,⟨I.base.keep,I.base.slot,fun b o q n hx=>sub b (I.base.free b o q n hx),I.base.there,fun b xs q=>nt b _ (I.base.tups b xs q) (fun φ z=>by cases z),fun b o v q=>nt b _ (I.base.frzs b o v q) (fun φ z=>by cases z),fun b ps q=>?_⟩,I.loc,I.cell,sub _ I.free,fun x c q=>sub c (I.freeC x c q),fun p hp=>?_,fun b o q=>?_,I.len⟩
 ·obtain ⟨m,z⟩:=I.base.tbls b ps q
  exact ⟨m,nt b _ z fun φ z=>by cases z⟩
 ·obtain ⟨a1,a2,a3,a4,a5⟩:=I.pin p hp
  exact ⟨a1,sub _ a2,a3,a4,a5⟩
 ·obtain ⟨ne,q⟩:=out b o q
  refine (I.hok b o q).stay (fun _ _ _ z=>z) (fun c z=>nt c _ z fun φ y=>by cases y) fun c xs z=>nt c _ z fun φ y=>by cases y
theorem aIz {A:Around} {E:Value->Shared->Prop} {Q:Unit->Shared->Prop} (I:Inv X pins σ H s) (h0:H e = some (.ext (XO e C none))) (hk:vW X.K C f) (ry:cF y u)
  (h:∀ s' dx,H dx = none->dx ≠ e->Inv X pins σ (upd (upd H dx (.xd [(f,y)])) e (.ext (XO e C (some dx)))) s'->Q () s'):wpAny (model X.prog X.w) A (setAttr (.ref e) f u) Q E s:=by
 obtain ⟨⟨t,he⟩,_,_⟩:=I.hok e _ h0
 have ia:InstAt s.heap e (mK C t none) C none:=⟨he,rfl,rfl,trivial⟩
 refine aKE I.kIn ia hk rfl fun h' tk oD hoD hns hx hb=>?_
 have hlt:e < s.heap.objs.size:=Heap.lt_size he
 have hne:s.heap.objs.size ≠ e:=Nat.ne_of_gt hlt
 have hn:H s.heap.objs.size = none:=I.hok.fresh (Nat.le_refl _)
 have nf:oD.isFreed = false:=(Heap.get?_some_iff.mp hoD).2
 have pg:(s.heap.push oD).get? s.heap.objs.size = some oD:=Heap.get?_push_size _ nf
 have n1:(s.heap.push oD).Ns1 s.heap.objs.size (fun z=>if z = f then some u else none):=by
  obtain ⟨o',es,ep,q1,q2⟩:=hns
  rw [hoD] at q1
  cases q1
  exact ⟨oD,es,ep,pg,q2⟩
 have rel:∀ g,aH5 (([(f,y)]:List (Str × V)).lookup g) (if g = f then some u else none):=fun g=>by
  by_cases z:g = f
  ·subst z
   rw [if_pos rfl,lookup_cons,beq_self_eq_true]
   exact ry
  ·rw [if_neg z,lookup_cons,beq_eq_false_iff_ne.mpr z]
   exact trivial
 have I1:Inv X pins σ (upd H s.heap.objs.size (.xd [(f,y)])) { s with heap:=s.heap.push oD,toks:=tk } :=
  I.laid (fun b v q=>Heap.get?_push_of_some _ q) (Nat.le_refl _) ⟨_,n1,rel⟩
 have e1:upd H s.heap.objs.size (.xd [(f,y)]) e = some (.ext (XO e C none)):=by rw [bR (Ne.symm hne)];exact h0
 have I2:=I1.write (h':=h') (t':=tk) (x:=e) (e:=e) (o:=.ext (XO e C (some s.heap.objs.size))) (by rw [e1];trivial) (.inl rfl) (fun b v nb q=>?_) ⟨_,hx⟩ (aJr ⟨t,hx⟩)
 ·exact h _ _ hn hne I2
 ·by_cases z:b = s.heap.objs.size
  ·rw [z,pg] at q
   cases q
   rw [z];exact hoD
  ·rw [Heap.get?_push_ne _ _ _ z] at q
   exact hb b v nb q
end
open PySem.W (InstAt findIn clsIn takerIn mroIn looks_findIn looks_clsIn looks_mroIn)
def aN4 (K:Frag) (ta tv:TE) (f:Str):TS:=fun D σ H=>tv σ H fun y H1=>ta σ H1 fun x H2=>∃ e C,x = .ref e/\H2 e = some (.ext (XO e C none))/\vW K C f/\∀ dx,H2 dx = none->dx ≠ e->D.nx σ (upd (upd H2 dx (.xd [(f,y)])) e (.ext (XO e C (some dx))))
section
variable {X:Cx} {o value:Expr} {f:Str} {pos pos':Pos} {ta tv:TE}
theorem aHB (ha:PE X o ta) (hv:PE X value tv) (hs:swapsWith value (some (.Attribute o f pos')) pos.line X.env = pure false):PS X (.Assign [.Attribute o f pos'] value pos) (aN4 X.K ta tv f):=by
 intro pins s σ H D I h
 refine plainObj_wpAny_Assign_Attribute (thn (hv pins s σ H _ I h) fun u s1 ⟨y,H1,I1,ry,q⟩=>thn (ha pins s1 σ H1 _ I1 q) fun ov s2 ⟨x,H2,I2,rx,e,C,ex,ea,fk,q2⟩=>?_) hs
 subst ex
 obtain rfl:ov = Value.ref e:=rx
 exact aIz I2 ea fk ry fun s3 dx n1 n2 I3=>⟨σ,_,I3,q2 dx n1 n2⟩
end
def spI (C:Addr) (f:Str):Sp:=fun vs H Q _=>∃ e y,vs = [.ref e,y]/\H e = some (.ext (XO e C none))/\∀ dx,H dx = none->dx ≠ e->Q .non (upd (upd H dx (.xd [(f,y)])) e (.ext (XO e C (some dx))))
section
variable {P:Program} {w:World} {K:Frag} {mg:Str->Option Value} {base:Heap}
theorem aDq {x qual a b f:Str} {st:Stmt} {fI C:Addr} {fd:FuncData} {p1 p2 p3 p4:Pos} (F:L2.Fun K x qual st fI fd) (S:aS [a,b] [a,b] (aI st)) (fk:vW K C f)
  (hb:eO st = [.Assign [.Attribute (.Name a p1) f p2] (.Name b p3) p4]) (va:Vis (aI st) a) (vb:Vis (aI st) b) (da:(a == ("__debug__":Str)) = false) (da':(a == ("__classdict__":Str)) = false) (db:(b == ("__debug__":Str)) = false) (db':(b == ("__classdict__":Str)) = false)
  (hs:∀ env:Env,swapsWith (.Name b p3) (some (.Attribute (.Name a p1) f p2)) p4.line env = pure false) (k:Nat):jV P w K mg base CX0 (k + 1) fI fd [a,b] (spI C f):=by
 refine F.ok S (fun vs H Q E ⟨e,y,z,_⟩=>by rw [z];rfl) fun cdv A outer s H vs Q E hr ⟨e,y,z,he,q⟩=>?_
 subst z
 rw [hb]
 exact ⟨_,aDk (aHB (nW (i:=0) rfl va da da') (nW (i:=1) rfl vb db db') (hs _)),_,rfl,_,rfl,e,C,rfl,he,fk,q⟩
end
section
variable {prog:Program} {w:World} {A:Around} {E:Value->Shared->Prop} {s:Shared} {K:Frag}
variable {nm qn:Str} {C N fI:Addr} {bs bm:List Value} {hdct:Bool} {sn:List Str} {sub:List Value} {ab:Bool} {col:Option Bool} {dd:Option Addr} {k0 k1 k2 k3 k5:Option Value}
theorem aHm {us:List Value} {Q:Value->Shared->Prop} (X:K.In s.heap) (T:OwnTail s.heap bmV bm) (cC:s.heap.get? C = some (excClassObj nm qn C N bs bm hdct sn sub ab col dd k0 k1 k2 k3 k5 "ValueError.__new__"))
  (hi:findIn K (.ref C) "__init__" = some (some (.ref fI))) (hf:typeIn K (.ref fI) = some (.type "function")) (hl:us.length<=sizeLine)
  (hq:wpAny (model prog w) (A.under (.builtin "type.__call__" ⟨.ref C :: us,[]⟩)) (call (.ref fI) (.ref (s.heap.objs.size + 1) :: us)) (fun r s'=>r = .none/\Q (.ref (s.heap.objs.size + 1)) s') E { s with heap:=(s.heap.push { cls:=.type "tuple",data:=.seq us.toArray }).push (mK C s.heap.objs.size none) }) :
  wpAny (model prog w) A (call (.ref C) us) Q E s:=by
 obtain ⟨hh,g,d,t,os⟩:=s
 have FB:=PySem.F.excBase_ValueError
 have g1:=tc_lookup
 have g2:=tc_bind (.ref C)
 have hT:(⟨hh,g,d,t,os⟩:Shared).TypeIs (.ref C) "type":=⟨_,cC,rfl⟩
 refine wpAny_call (codeAny_of_tree ?_)
 show wpAny _ _ (callAny (.ref C) _) _ _ _
 repeat (any_goals (first | assumption | (with_reducible refine wpAny_loadPart_at cC ?_) | wp_step))
 refine ⟨rfl,codeAny_call_builtin_at (Code.quiet_builtin _ (by decide +kernel)) entry_typeCall (wpAny_check_type_call_sub cC ?_)⟩
 repeat (first | (with_reducible refine wpAny_loadPart_at cC ?_) | (with_reducible refine wpAny_madeBy_exc cC ?_) | wp_step)
 refine codeAny_call_builtin_code (Code.quiet_builtin _ FB.quiet) (wpAny_check_new_subT FB T cC (codeAny_exc_new_subT FB T cC ?_ hl))
 show wpAny _ _ _ _ _ _
 have kp:∀ b o,hh.get? b = some o->((hh.push { cls:=.type "tuple",data:=.seq us.toArray }).push (mK C hh.objs.size none)).get? b = some o:=fun b o e=>Heap.get?_push_of_some _ (Heap.get?_push_of_some _ e)
 have X2:K.In ((hh.push { cls:=.type "tuple",data:=.seq us.toArray }).push (mK C hh.objs.size none)):=PySem.W.Frag.In.keeps (h:=hh) X kp
 have hg:((hh.push { cls:=.type "tuple",data:=.seq us.toArray }).push (mK C hh.objs.size none)).get? (hh.objs.size + 1) = some (mK C hh.objs.size none):=by
  have:=Heap.get?_push_size (hh.push { cls:=.type "tuple",data:=.seq us.toArray }) (o:=mK C hh.objs.size none) rfl
  rwa [Heap.size_push] at this
 have ia:InstAt ((hh.push { cls:=.type "tuple",data:=.seq us.toArray }).push (mK C hh.objs.size none)) (hh.objs.size + 1) (mK C hh.objs.size none) C none:=⟨hg,rfl,rfl,trivial⟩
 have cC2:=kp _ _ cC
 have L0:PySem.W.Looks (model prog w) ((hh.push { cls:=.type "tuple",data:=.seq us.toArray }).push (mK C hh.objs.size none)) (isInstance (.ref (hh.objs.size + 1)) (.ref C)) true:=by
  refine ia.type.andThen ?_
  intro A' Q' E' s' k' q'
  have:=wpAny_isSubtype_exc (M:=model prog w) (A:=A') (E:=E') (g:=s'.gens) (d:=s'.drawn) (t:=s'.toks) (os:=s'.os) (base:=.ref C) (Q:=Q') (k' _ _ cC2) (by rw [show (Value.ref C :: bm).contains (.ref C) = true by simp];exact q')
  exact this
 refine wpAny_bind (PySem.W.Looks.here (s:=⟨(hh.push { cls:=.type "tuple",data:=.seq us.toArray }).push (mK C hh.objs.size none),g,d,t,os⟩) L0 ?_)
 rw [if_neg (by decide)]
 refine wpAny_bind (wpAny_holding (PySem.W.special_fn (s:=⟨(hh.push { cls:=.type "tuple",data:=.seq us.toArray }).push (mK C hh.objs.size none),g,d,t,os⟩) X2 ia hi hf (wpAny_mono hq (fun r s' ⟨e1,q1⟩=>?_) fun e s' z=>z)))
 subst e1
 exact wpAny_pure q1
end
open PySem.W (InstAt findIn clsIn takerIn mroIn looks_findIn looks_clsIn looks_mroIn)
def NwY (od:Option Addr) (h:Heap) (e:Addr) (cls:Value):Prop:=∃ oe vs,h.get? e = some oe/\(oe.cls = cls/\oe.dict = od)/\oe.data = .fields vs/\vs[1]? = some Value.none
def TrY (od:Option Addr) (h:Heap) (e:Addr) (cls:Value) (T:Addr) (fl:Value):Prop :=
 ∃ oe vs oT ts,h.get? e = some oe/\(oe.cls = cls/\oe.dict = od)/\oe.data = .fields vs/\vs[1]? = some (.ref T)/\T ≠ e/\h.get? T = some oT/\oT.data = .fields ts/\ts[3]? = some fl
section
variable {X:Cx} {pins:List (Addr × Obj)} {σ:L2.St} {H:Hp} {s:Shared} {M:Model} {A:Around} {E:Value->Shared->Prop} {e T:Addr} {cls:Value} {od:Option Addr}
theorem xT {oe:Obj} {vs:Array Value} {head:Value} {hadNext:Bool} {Q:Unit->Shared->Prop} (I:Inv X pins σ H s) (hs:X.stack = X.env :: X.outer) (hf:X.env.frame = some X.env.locals) (hex:X.ex = [])
  (hA:A.frames = some X.stack) (he:s.heap.get? e = some oe) (hdi:oe.dict = od) (hd:oe.data = .fields vs) (hsz:1 < vs.size) (fe:FpN X pins H e)
  (h:∀ s' T,Inv X pins σ H s'->TrY od s'.heap e oe.cls T (rawInt X.env.locals)->FpN X pins H T->s.heap.get? T = none->Q () s') :
  wpAny M A (do let a <- frameOf X.env;let pl <- entryPlaceOf X.env.locals hadNext;let b <- EntryCells.newEntry head a .none (rawInt X.env.locals) .none pl;setField (.ref e) 1 b) Q E s:=by
 have hfr:A.frames = some (X.env :: X.outer):=by rw [hA,hs]
 have hl:s.heap.FunFrames X.base (X.env :: X.outer):=hs ▸ I.stack
 have hene:e ∉ (X.env :: X.outer).filterMap (·.frame):=fun hm=>by
  obtain ⟨_,o,ho,hnf⟩:=hl.mem hm
  rw [he] at ho;cases ho;exact hnf vs hd
 have hfs:frs X.stack = (X.env :: X.outer).filterMap (·.frame):=by rw [hs];rfl
 refine wpAny_bind (wpAny_frameOf_fun hfr hl hf fun h₁ hs₁=>?_)
 refine wpAny_bind (wpAny_entryPlaceOf fun pl hpl=>?_)
 unfold EntryCells.newEntry newFields
 refine wpAny_bind (wpAny_newObj_type ?_ (hpl.sizeOk5 _ _ _ _ _))
 have he₁:h₁.get? e = some oe:=(hs₁.2.1 e hene).trans he
 have he₂:=Heap.get?_push_of_some (h:=h₁) { cls:=.type "traceback",dict:=none,data:=.fields ([head,.ref X.env.locals,.none,rawInt X.env.locals,.none] ++ (if pl.isEmpty then replicate 6 Value.none else pl)).toArray } he₁
 refine wpAny_setField he₂ hd hsz ?_
 have hTe:h₁.objs.size ≠ e:=Nat.ne_of_gt (Heap.lt_size he₁)
 have hd₃:=Obj.data_mapFields hd (·.setIfInBounds 1 (Value.ref h₁.objs.size))
 have he₃:=Heap.get?_update_self (Obj.mapFields (·.setIfInBounds 1 (Value.ref h₁.objs.size))) he₂ (Obj.isFreed_of_fields hd₃)
 have hT₃:=(Heap.get?_update_other (h₁.push { cls:=.type "traceback",dict:=none,data:=.fields ([head,.ref X.env.locals,.none,rawInt X.env.locals,.none] ++ (if pl.isEmpty then replicate 6 Value.none else pl)).toArray })
  (Obj.mapFields (·.setIfInBounds 1 (Value.ref h₁.objs.size))) (Ne.symm hTe)).trans (Heap.get?_push_size h₁ rfl)
 have hTn:s.heap.get? h₁.objs.size = none:=Heap.get?_none_of_le (by rw [hs₁.1];exact Nat.le_refl _)
 refine h _ h₁.objs.size (L2.Inv.mark (s:=s) (ch:=[e]) I (fun b hb=>by rw [List.mem_singleton.mp hb];exact fe) (fun b o hb hc q=>?_) fun b o hc q=>?_) ?_ (L2.Inv.fpN (s:=s) I hex hTn (L2.Inv.untr (s:=s) I hTn)) hTn
 ·have hbe:b ≠ e:=fun z=>hc (by simp [z])
  rw [Heap.get?_update_other _ _ (Ne.symm hbe)]
  exact Heap.get?_push_of_some _ ((hs₁.2.1 b (by rw [<- hfs];exact hb)).trans q)
 ·have hbe:b ≠ e:=fun z=>hc (by simp [z])
  obtain ⟨sl,z⟩:=hs₁.2.2 b o q
  exact ⟨sl,by rw [Heap.get?_update_other _ _ (Ne.symm hbe)];exact Heap.get?_push_of_some _ z⟩
 ·exact ⟨_,_,_,_,he₃,⟨Obj.cls_mapFields _ _,(oW _ _).trans hdi⟩,hd₃,by simp [hsz],hTe,hT₃,rfl,by first | (simp;done) | (rcases hpl with rfl | ⟨_,_,_,_,_,_,_,rfl⟩<;>simp)⟩
theorem aEM {Q:Unit->Shared->Prop} (I:Inv X pins σ H s) (hs:X.stack = X.env :: X.outer) (hf:X.env.frame = some X.env.locals) (hex:X.ex = []) (hA:A.frames = some X.stack) (n:NwY od s.heap e cls) (fe:FpN X pins H e)
  (h:∀ s' T,Inv X pins σ H s'->TrY od s'.heap e cls T (rawInt X.env.locals)->FpN X pins H T->s.heap.get? T = none->Q () s'):wpAny M A (noteFrame (.ref e) X.env) Q E s:=by
 obtain ⟨oe,vs,he,⟨rfl,hdi⟩,hd,h1⟩:=n
 unfold noteFrame
 simp only [hf]
 refine wpAny_bind (wpAny_field he hd h1 ?_)
 rw [if_neg (by decide)]
 exact xT I hs hf hex hA he hdi hd (Array.getElem?_eq_some_iff.mp h1).1 fe h
theorem lO {fl:Value} {Q:Unit->Shared->Prop} (I:Inv X pins σ H s) (t:TrY od s.heap e cls T fl) (fT:FpN X pins H T) (h:∀ s',Inv X pins σ H s'->TrY od s'.heap e cls T .none->Q () s'):wpAny M A (setFlight (.ref e) none) Q E s:=by
 obtain ⟨oe,vs,oT,ts,he,hcls,hd,h1,hTe,hT,hdT,h3⟩:=t
 have hsz3:3 < ts.size:=(Array.getElem?_eq_some_iff.mp h3).1
 unfold setFlight
 refine wpAny_bind (wpAny_field he hd h1 ?_)
 rw [if_pos (show (Value.ref T != Value.none) = true from by simp)]
 refine wpAny_setField hT hdT hsz3 (h _ (wJ (ts:=ts) I fT hT) ?_)
 exact ⟨oe,vs,_,_,(Heap.get?_update_other _ _ hTe).trans he,hcls,hd,h1,hTe,Heap.get?_update_self _ hT (Obj.isFreed_of_fields (Obj.data_mapFields hdT _)),Obj.data_mapFields hdT _,by simp [hsz3]⟩
theorem wX {Q:Unit->Shared->Prop} (I:Inv X pins σ H s) (hs:X.stack = X.env :: X.outer) (hf:X.env.frame = some X.env.locals) (hex:X.ex = []) (hA:A.frames = some X.stack) (t:TrY od s.heap e cls T .none) (fe:FpN X pins H e) (fT:FpN X pins H T)
  (h:∀ s' T',Inv X pins σ H s'->TrY od s'.heap e cls T' (rawInt X.env.locals)->FpN X pins H T'->Q () s'):wpAny M A (noteFrame (.ref e) X.env) Q E s:=by
 obtain ⟨oe,vs,oT,ts,he,⟨rfl,hdi⟩,hd,h1,hTe,hT,hdT,h3⟩:=t
 unfold noteFrame
 simp only [hf]
 refine wpAny_bind (wpAny_field he hd h1 ?_)
 rw [if_pos (show (Value.ref T != Value.none) = true from by simp)]
 refine wpAny_bind (wpAny_field hT hdT h3 ?_)
 rw [if_neg (show ¬ ((Value.none == rawInt X.env.locals) = true) from by simp [rawInt])]
 refine wpAny_bind (wpAny_setField hT hdT (Array.getElem?_eq_some_iff.mp h3).1 ?_)
 exact xT (wJ (ts:=ts) I fT hT) hs hf hex hA ((Heap.get?_update_other _ _ hTe).trans he) hdi hd (Array.getElem?_eq_some_iff.mp h1).1 fe fun s' T' I' t' f' _=>h s' T' I' t' f'
theorem aCY {Q:Unit->Shared->Prop} (I:Inv X pins σ H s) (hs:X.stack = X.env :: X.outer) (hf:X.env.frame = some X.env.locals) (hex:X.ex = []) (hA:A.frames = some X.stack) (n:NwY od s.heap e cls) (fe:FpN X pins H e)
  (h:∀ s' T,Inv X pins σ H s'->TrY od s'.heap e cls T .none->FpN X pins H T->s.heap.get? T = none->Q () s'):wpAny M A (leaving X.env (.ref e)) Q E s:=by
 unfold leaving
 exact wpAny_bind (aEM I hs hf hex hA n fe fun s1 T I1 t1 f1 n1=>lO I1 t1 f1 fun s2 I2 t2=>h s2 T I2 t2 f1 n1)
theorem aBV {Q:Unit->Shared->Prop} (I:Inv X pins σ H s) (hs:X.stack = X.env :: X.outer) (hf:X.env.frame = some X.env.locals) (hex:X.ex = []) (hA:A.frames = some X.stack) (t:TrY od s.heap e cls T .none) (fe:FpN X pins H e) (fT:FpN X pins H T)
  (h:∀ s' T',Inv X pins σ H s'->TrY od s'.heap e cls T' .none->FpN X pins H T'->Q () s'):wpAny M A (leaving X.env (.ref e)) Q E s:=by
 unfold leaving
 exact wpAny_bind (wX I hs hf hex hA t fe fT fun s1 T1 I1 t1 f1=>lO I1 t1 f1 fun s2 I2 t2=>h s2 T1 I2 t2 f1)
end
noncomputable def CXy (P:Program) (w:World):CXT:=fun outer H s E e s'=>∃ (a:Addr) (cls:Value) (T:Addr) (H':Hp) (od:Option Addr),e = Value.ref a/\s'.os = s.os/\AllBare s'.gens/\Un (frs outer) [] H H' s.heap s'.heap/\HOk P w H' s'.heap /\
 TrY od s'.heap a cls T .none/\s.heap.get? a = none/\s.heap.get? T = none/\H' a = none/\H' T = none/\E cls od H'
structure lY (P:Program) (w:World) (K:Frag) (mg:Str->Option Value) (base:Heap) (x:Str) (C:Addr) (f:Str):Prop where
 nm:mg x = some (.ref C)
 kp:keepIn K (.ref C) = true
 ob:∃ M nm qn N bs hdct sn sub ab col dd k0 k1 k2 k3 k5,K.lookup C = some (excClassObj nm qn C N bs (.ref M :: bmV) hdct sn sub ab col dd k0 k1 k2 k3 k5 "ValueError.__new__")/\excIn K M bmV "ValueError.__new__" = true/\∃ cdM,clsIn K M = some cdM/\cdM.mro = .ref M :: bmV
 init:∃ fI fd a b,findIn K (.ref C) "__init__" = some (some (.ref fI))/\typeIn K (.ref fI) = some (.type "function")/\jV P w K mg base CX0 1 fI fd [a,b] (spI C f)/\mO K fd [a,b] []
theorem lY.tail {P:Program} {w:World} {K:Frag} {mg:Str->Option Value} {base h:Heap} {x f:Str} {C:Addr} (c:lY P w K mg base x C f) (X:K.In h) :
  ∃ bm nm qn N bs hdct sn sub ab col dd k0 k1 k2 k3 k5,h.get? C = some (excClassObj nm qn C N bs bm hdct sn sub ab col dd k0 k1 k2 k3 k5 "ValueError.__new__")/\OwnTail h bmV bm:=by
 obtain ⟨M,nm,qn,N,bs,hdct,sn,sub,ab,col,dd,k0,k1,k2,k3,k5,lk,hq,cdM,hcM,hm⟩:=c.ob
 obtain ⟨bm,N',nm',qn',bs',hdct',sn',sub',ab',col',dd',l0,l1,l2,l3,l5,mN,hC,hN,hni,T⟩:=aDi X hq
 refine ⟨_,nm,qn,N,bs,hdct,sn,sub,ab,col,dd,k0,k1,k2,k3,k5,X _ _ lk,?_⟩
 have e:bm = bmV:=by
  unfold clsIn at hcM
  split at hcM
  ·rename_i q
   have z:=(X _ _ q).symm.trans hC
   cases hcM
   cases z
   exact List.cons.inj hm |>.2
  ·cases hcM
 subst e
 exact .own hC hN hni T
def aAu (X:Cx) (x:Str) (V:Int->DM->Prop):Prop:=X.calm = true/\X.ex = []/\∃ C f,lY X.prog X.w X.K X.mg X.base x C f /\
 ∀ pins σ H s a M' dx i,Inv X pins σ H s->NwY (some dx) s.heap a (.ref C)->FpN X pins H a->bV X.K M' H->H dx = some (.xd [(f,.int i)])->V i M'->X.xe (.ref a) s
def aKo (V:Int->DM->Prop) (ds:List D) (M:DM):Prop:=match ds with
 | [.int i]=>V i M
 | _=>False
def aBp (V:Int->DM->Prop) (te:DE):DS:=fun _ ρ M=>iN te lG ρ M (aKo V)
theorem aEL {K:Frag} {M:DM} {H H':Hp} (h:bV K M H) (g:∀ b o,H b = some o->H' b = some o):bV K M H':=by
 have ex:Ext H H':=⟨fun a ys e=>g a _ e,fun a ob u e=>g a _ e⟩
 exact ⟨fun a ds q=>let ⟨xs,z,r⟩:=h.l a ds q;⟨xs,g _ _ z,r.ext ex⟩,fun a ds q=>let ⟨xs,z,r⟩:=h.d a ds q;⟨xs,g _ _ z,mP r ex⟩⟩
section
variable {X:Cx} {pins:List (Addr × Obj)} {σ:L2.St} {H:Hp} {s:Shared} {x f:Str} {C:Addr} {k:Nat} {i:Int}
theorem aEO {us:List Value} {Q:Value->Shared->Prop} (c:lY X.prog X.w X.K X.mg X.base x C f) (hr:cZ k X.A) (hk:2<=k) (hex:X.ex = []) (I:Inv X pins σ H s) (r:bS [V.int i] us)
  (h:∀ s' a t dx H',Inv X pins σ H' s'->s'.heap.get? a = some (mK C t (some dx))->FpN X pins H' a->H' dx = some (.xd [(f,.int i)])->(∀ b o,H b = some o->H' b = some o)->Q (.ref a) s') :
  wpAny (model X.prog X.w) X.A (call (.ref C) us) Q X.xe s:=by
 obtain ⟨bm,nm,qn,N,bs,hdct,sn,sub,ab,col,dd,k0,k1,k2,k3,k5,hC,T⟩:=c.tail I.kIn
 obtain ⟨fI,fd,a,b,hi,hf,F,hb⟩:=c.init
 have hl:us.length<=sizeLine:=by rw [<- r.length];show 1<=sizeLine;decide
 refine aHm I.kIn T hC hi hf hl ?_
 have hg:((s.heap.push { cls:=.type "tuple",data:=.seq us.toArray }).push (mK C s.heap.objs.size none)).get? (s.heap.objs.size + 1) = some (mK C s.heap.objs.size none):=by
  have:=Heap.get?_push_size (s.heap.push { cls:=.type "tuple",data:=.seq us.toArray }) (o:=mK C s.heap.objs.size none) rfl
  rwa [Heap.size_push] at this
 have hn:s.heap.get? (s.heap.objs.size + 1) = none:=Heap.get?_none_of_le (Nat.le_succ _)
 have hH:H (s.heap.objs.size + 1) = none:=I.untr hn
 have I1:Inv X pins σ (upd H (s.heap.objs.size + 1) (.ext (XO (s.heap.objs.size + 1) C none))) { s with heap:=(s.heap.push { cls:=.type "tuple",data:=.seq us.toArray }).push (mK C s.heap.objs.size none) } :=
  I.laid (t':=s.toks) (fun b u q=>Heap.get?_push_of_some _ (Heap.get?_push_of_some _ q)) (Nat.le_succ _) (aJr ⟨_,hg⟩)
 generalize (s.heap.push { cls:=.type "tuple",data:=.seq us.toArray }).push (mK C s.heap.objs.size none) = h1 at I1 hg ⊢
 generalize s.heap.objs.size + 1 = e at *
 have r2:bS (V.ref e :: [V.int i]) (Value.ref e :: us):=.cons rfl r
 have hlen:(Value.ref e :: us ++ []).length = [a,b].length:=by rw [append_nil,<- r2.length];rfl
 have hsp:spI C f (V.ref e :: [V.int i]) (upd H e (.ext (XO e C none))) (fun v H2=>v = .non/\∃ dx,upd H e (.ext (XO e C none)) dx = none/\dx ≠ e/\H2 = upd (upd (upd H e (.ext (XO e C none))) dx (.xd [(f,.int i)])) e (.ext (XO e C (some dx)))) (fun _ _ _=>False) :=
  ⟨e,.int i,rfl,dB,fun dx n1 n2=>⟨rfl,dx,n1,n2,rfl⟩⟩
 have hbb:=hb { s with heap:=h1 } (Value.ref e :: us) I1.kIn hlen
 rw [append_nil] at hbb
 refine wpAny_call (codeAny_mono (F.run _ X.stack _ _ ⟨Value.ref e :: us,[]⟩ (Value.ref e :: us) _ _ _ ((hr.mono hk).make C us []) (I1.env0.make C us []) hbb r2 hsp) fun r s' hq'=>?_)
 cases r with
 | error ev=>exact False.elim (by exact hq')
 | ok fl =>
  cases fl with
  | ret u =>
   obtain ⟨v,H2,I3,rv,ev,dx,n1,n2,e2⟩:=I1.after hq'
   subst ev e2
   refine ⟨rv,?_⟩
   have he2:upd (upd (upd H e (.ext (XO e C none))) dx (.xd [(f,.int i)])) e (.ext (XO e C (some dx))) e = some (.ext (XO e C (some dx))):=dB
   obtain ⟨⟨t,ht⟩,_,_⟩:=I3.hok e _ he2
   have hdx:H dx = none:=by rw [bR n2] at n1;exact n1
   refine h s' e t dx _ (I3.drop he2) ht (I.fpN hex hn qL) (by rw [jN n2,bR n2];exact dB) fun b o q=>?_
   have b1:b ≠ e:=bU q hH
   rw [jN b1,bR b1,bR (bU q hdx),bR b1];exact q
  | next=>exact False.elim hq'
  | brk=>exact False.elim hq'
  | cont=>exact False.elim hq'
end
section
variable {X:Cx} {x:Str} {V:Int->DM->Prop} {e:Expr} {te:DE} {np cpos pos:Pos} {k:Nat}
theorem aD6 (R:aAu X x V) (hr:cZ k X.A) (hk:2<=k) (he:PDE X e te) (hg:Gl X x:=by rfl) (hd:(x == ("__debug__":Str)) = false:=by decide)
  (hst:starEach [e] X.env = (false,eval e X.env) :: starEach [] X.env:=by rfl) (hpl:(backTo cpos (starEach [] X.env)).any (·.1) = false:=by rfl) :
  PDS X (.Raise (some (.Call (.Name x np) [e] [] cpos)) none pos) (aBp V te):=by
 intro pins s σ H D I ⟨ρ,M,D',re,hm,q,kk⟩
 obtain ⟨calm,hex,C,f,hc,fly⟩:=R
 rw [arm_exec_Raise]
 refine wpAny_bind (wpAny_standAt ?_)
 show wpAny _ _ (raiseStmt X.env (some (do let v <- eval (.Call (.Name x np) [e] [] cpos) X.env;standAt pos;pure v)) none) _ _ _
 have key:wpAny (model X.prog X.w) X.A (eval (.Call (.Name x np) [e] [] cpos) X.env) (fun v s1=>∃ a t dx,v = .ref a/\X.K.In s1.heap/\s1.heap.get? a = some (mK C t (some dx))/\X.xe (.ref a) s1) X.xe s:=by
  refine wpAny_Call_Name_kw (hJ I hg hc.nm ?_ hd)
  refine callWith_K (h₀:=X.base) I.ok.mod.kin hc.kp (thn ((iU he lA hst:PDA X [e] (iN te lG)) cpos pins s σ H (LA X.K H _) I ⟨ρ,M,aKo V,re,hm,?_,fun vs H' z=>z⟩) fun us s1 ⟨vs,H1,I1,rv,ds,M1,rs,hm1,ex,q1⟩=>⟨I1.kIn,?_⟩) hst hpl
  ·exact q
  ·match ds,q1 with
   | [.int i],q1 =>
    obtain ⟨v,rfl,r1⟩:=dR rs
    obtain rfl:=aU r1
    refine aEO hc hr hk hex I1 rv fun s' a t dx H' I' ht fe hx mono=>?_
    exact ⟨a,t,dx,rfl,I'.kIn,ht,fly pins σ H' s' a M1 dx i I' ⟨_,_,ht,⟨rfl,rfl⟩,rfl,rfl⟩ fe (aEL hm1 mono) hx q1⟩
 unfold raiseStmt
 refine wpAny_bind (wpAny_bind (wpAny_mono key (fun v s1 ⟨a,t,dx,ev,kin,h1,h4⟩=>wpAny_bind (wpAny_standAt (wpAny_pure ?_))) fun _ _ z=>z))
 subst ev
 obtain ⟨bm,nm,qn,N,bs,hdct,sn,sub,ab,col,dd,k0,k1,k2,k3,k5,cC,T⟩:=hc.tail kin
 have hcB:(Value.ref C :: bm).contains (.type "BaseException") = true:=by rw [List.contains_cons,T.hasType (X:="BaseException") (b:=true) (by decide +kernel),Bool.or_true]
 obtain ⟨hh,g,d,tk,os⟩:=s1
 dsimp only at cC h1
 unfold mK at h1
 repeat (first | (with_reducible refine wpAny_loadPart_at h1 ?_) | (with_reducible refine wpAny_loadPart_at cC ?_) | (with_reducible refine wpAny_isSubtype_exc cC ?_;rw [hcB]) | wp_step)
 exact wpAny_raiseNew_none (I.ok.hd calm) h4
end
open PySem.W (InstAt findIn clsIn takerIn mroIn looks_findIn looks_clsIn looks_mroIn)
def aLj (K:Frag) (C:Addr) (f:Str) (cond:List D->DM->Int->Prop):Sp:=fun vs H _ E=>∃ ds M i,bT K H ds vs/\bV K M H/\cond ds M i/\∀ M' H' dx,bV K M' H'->bB M M'->H' dx = some (.xd [(f,.int i)])->E (.ref C) (some dx) H'
def fE (P:Program) (w:World) (K:Frag) (mg:Str->Option Value) (base:Heap) (k:Nat) (x:Str) (ps:List Str) (C:Addr) (f:Str) (cond:List D->DM->Int->Prop):Prop :=
 ∃ fa fd,jV P w K mg base (CXy P w) k fa fd ps (aLj K C f cond)/\mg x = some (.ref fa)/\keepIn K (.ref fa) = true/\mO K fd ps []
def aDX (X:Cx) (C:Addr) (f:Str) (V:Int->DM->Prop):Prop:=X.ex = [] /\
 ∀ pins σ H s a T M' dx i,Inv X pins σ H s->TrY (some dx) s.heap a (.ref C) T .none->FpN X pins H a->FpN X pins H T->bV X.K M' H->H dx = some (.xd [(f,.int i)])->V i M'->X.xe (.ref a) s
def aCq (V:Int->DM->Prop) (cond:List D->DM->Int->Prop) (t:DA):DE:=fun ρ M _=>t ρ M fun ds M1=>∃ i,cond ds M1 i/\∀ M',bB M1 M'->V i M'
noncomputable def XW (K:Frag) (C:Addr) (f:Str) (M1:DM) (i:Int):XK:=fun c od H'=>c = .ref C/\∃ dx M',od = some dx/\bV K M' H'/\bB M1 M'/\H' dx = some (.xd [(f,.int i)])
section
variable {X:Cx} {e:Expr} {es:List Expr} {t:DA} {fn f:Str} {ps:List Str} {cond:List D->DM->Int->Prop} {C:Addr} {k1 k:Nat} {V:Int->DM->Prop} {pf pc:Pos}
theorem aGn (hH:fE X.prog X.w X.K X.mg X.base k1 fn ps C f cond) (hr:cZ k X.A) (hk1:k1<=k) (PO:aDX X C f V) (ha:PDA X (e :: es) t) (hg:Gl X fn:=by rfl) (hdb:(fn == ("__debug__":Str)) = false:=by decide)
  (he:starEach (e :: es) X.env = (false,eval e X.env) :: starEach es X.env:=by rfl) (hpl:(backTo pc (starEach es X.env)).any (·.1) = false:=by rfl) :
  PDE X (.Call (.Name fn pf) (e :: es) [] pc) (aCq V cond t):=by
 intro pins s σ H Q I ⟨ρ,M,Q',re,hm,q,k'⟩
 obtain ⟨hex,fly⟩:=PO
 obtain ⟨f1,fd,F,hmf,hk,hb⟩:=id hH
 refine wpAny_Call_Name_kw (hJ I hg hmf ?_ hdb)
 refine callWith_K (h₀:=X.base) I.ok.mod.kin hk (thn (ha pc pins s σ H (LA X.K H _) I ⟨ρ,M,_,re,hm,q,fun vs H' z=>z⟩) fun us s1 ⟨vs,H1,I1,rv,ds,M1,rs,hm1,ex,i,q1,q2⟩=>⟨I1.kIn,?_⟩) he hpl
 have hsp:aLj X.K C f cond vs H1 (fun _ _=>False) (XW X.K C f M1 i):=⟨ds,M1,i,rs,hm1,q1,fun M' H' dx a b c=>⟨rfl,dx,M',rfl,a,b,c⟩⟩
 have hl:(us ++ []).length = ps.length:=by rw [append_nil,<- rv.length];exact F.len _ _ _ _ hsp
 have hbb:=hb s1 us I1.kIn hl
 rw [append_nil] at hbb
 refine wpAny_call (codeAny_mono (F.run X.A X.stack s1 H1 ⟨us,[]⟩ us vs _ _ (hr.mono hk1) I1.env0 hbb rv hsp) fun r s' hq=>?_)
 cases r with
 | error ev =>
  obtain ⟨a,cls,T,H',od,rfl,os,bare,un,hok,tr,na,nT,ha',hT,rfl,dx,M',rfl,hm',sub,hx⟩:=(show CXy X.prog X.w X.stack H1 s1 (XW X.K C f M1 i) ev s' from hq)
  have I2:Inv X pins σ H' s':=I1.call' (ch:=[]) os un hok bare (fun b z=>absurd z (by simp))
  exact fly pins σ H' s' a T M' dx i I2 tr (I1.fpN hex na ha') (I1.fpN hex nT hT) hm' hx (q2 M' sub)
 | ok fl =>
  cases fl with
  | ret u=>obtain ⟨_,_,_,_,_,_,_,z⟩:=(show CE _ _ _ _ _ _ _ _ from hq);exact z.elim
  | next=>exact False.elim hq
  | brk=>exact False.elim hq
  | cont=>exact False.elim hq
end
section
variable {P:Program} {w:World} {K:Frag} {mg:Str->Option Value} {base:Heap}
theorem fE.mkZ {x c f:Str} {C:Addr} {st:Stmt} {N ps:List Str} {k:Nat} {cond:List D->DM->Int->Prop} (h:cK K mg x st ps) (hc:lY P w K mg base c C f) (S:aS N ps (aI st)) (len:∀ ds M i,cond ds M i->ds.length = ps.length)
  (hbody:∀ (fa:Addr) (cdv:Value) (A:Around) (outer:List Env) (s:Shared) (H:Hp) (ds:List D) (M:DM) (i:Int) (E:XK),cZ k (A.deeper (envOfC x (aI st) s.heap.objs.size fa cdv))->cond ds M i ->
   aAu (jC (CXy P w) P w K mg base N x (aI st) fa cdv A outer s H E) c (fun j M'=>j = i/\bB M M')->aDX (jC (CXy P w) P w K mg base N x (aI st) fa cdv A outer s H E) C f (fun j M'=>j = i/\bB M M') ->
   ∃ t,ZSs (jC (CXy P w) P w K mg base N x (aI st) fa cdv A outer s H E) (eO st) t/\t { nx:=fun _ _=>False,rt:=fun _ _=>False } (gW N ds) M):fE P w K mg base (k + 1) x ps C f cond:=by
 obtain ⟨fa,fd,F,hm,hb⟩:=h
 refine ⟨fa,fd,?_,hm,F.kp,hb⟩
 obtain ⟨oc,od,kV,doc,pm,an,cdv,ct,osl,rfl,lk,hcd⟩:=F.ex
 refine aDv lk hcd S (fun vs H Q E ⟨ds,M,i,rs,hm,q,_⟩=>by rw [<- rs.length];exact len ds M i q) fun A outer s H vs Q E hr ⟨ds,M,i,rs,hm,q,k'⟩=>?_
 have RO:aAu (jC (CXy P w) P w K mg base N x (aI st) fa cdv A outer s H E) c (fun j M'=>j = i/\bB M M') :=
  ⟨rfl,rfl,C,f,hc,fun pins σ H' s1 a M' dx j I n fe hm' hx ⟨ej,sub⟩ =>
   aCY (X:=jC (CXy P w) P w K mg base N x (aI st) fa cdv A outer s H E) I rfl rfl rfl I.ok.frames n fe fun s' T I' t' fT _ =>
    ⟨a,.ref C,T,H',some dx,rfl,I'.os,I'.bare,I'.base,I'.hok,t',fe.2.2.1,fT.2.2.1,fe.1,fT.1,k' M' H' dx hm' sub (by rw [<- ej];exact hx)⟩⟩
 have PO:aDX (jC (CXy P w) P w K mg base N x (aI st) fa cdv A outer s H E) C f (fun j M'=>j = i/\bB M M') :=
  ⟨rfl,fun pins σ H' s1 a T M' dx j I t fe fT hm' hx ⟨ej,sub⟩ =>
   aBV (X:=jC (CXy P w) P w K mg base N x (aI st) fa cdv A outer s H E) I rfl rfl rfl I.ok.frames t fe fT fun s' T' I' t' fT' =>
    ⟨a,.ref C,T',H',some dx,rfl,I'.os,I'.bare,I'.base,I'.hok,t',fe.2.2.1,fT'.2.2.1,fe.1,fT'.1,k' M' H' dx hm' sub (by rw [<- ej];exact hx)⟩⟩
 obtain ⟨t,h1,h2⟩:=hbody fa cdv A outer s H ds M i E hr q RO PO
 exact ⟨_,h1.o,gW N ds,M,_,nN rs N,hm,h2,⟨fun σ' H' ⟨_,_,_,_,_,z⟩=>z.elim,fun v H' ⟨_,_,_,_,_,z⟩=>z.elim,fun σ' H' ⟨_,_,_,_,_,z⟩=>z.elim,fun σ' H' ⟨_,_,_,_,_,z⟩=>z.elim⟩⟩
theorem fE.never {x c f:Str} {C:Addr} {st:Stmt} {N ps:List Str} (h:cK K mg x st ps) (hc:lY P w K mg base c C f) (S:aS N ps (aI st)) (k:Nat):fE P w K mg base (k + 1) x ps C f (fun _ _ _=>False) :=
 fE.mkZ h hc S (fun _ _ _ z=>z.elim) fun _ _ _ _ _ _ _ _ _ _ _ z=>z.elim
theorem fE.imp {x f:Str} {C:Addr} {ps:List Str} {k:Nat} {cond cond':List D->DM->Int->Prop} (h:fE P w K mg base k x ps C f cond) (g:∀ ds M i,cond' ds M i->cond ds M i):fE P w K mg base k x ps C f cond':=by
 obtain ⟨fa,fd,F,hm,hk,hb⟩:=h
 exact ⟨fa,fd,F.imp fun vs H Q E ⟨ds,M,i,a,b,c,d⟩=>⟨ds,M,i,a,b,g _ _ _ c,d⟩,hm,hk,hb⟩
end
def ExY (o:Obj) (C dx:Addr):Prop:=o.cls = .ref C/\o.dict = some dx/\∃ vs,o.data = .fields vs
noncomputable abbrev Pn (X:Cx) (a:Addr) (o:Obj):Cx:={ X with pn:=(a,o) :: X.pn }
section
variable {X:Cx} {pins:List (Addr × Obj)} {σ:L2.St} {H:Hp} {s:Shared} {a e:Addr} {o:Obj} {fs:List (Str × V)}
theorem aB4 (I:X.Ok):(Pn X a o).Ok:=⟨I.mod,I.kind,I.glob,I.blt,I.above,I.inj,I.has,I.cab,I.hd,I.frames,I.stk,I.exf,I.bs,I.bsz,I.noex,I.exfs,I.funs,I.frf⟩
theorem aAV (ok:X.Ok) (I:Inv (Pn X a o) pins σ H s):Inv X pins σ H s :=
 ⟨ok,I.os,I.bare,I.base,I.loc,I.cell,I.free,I.freeC,fun p hp=>I.pin p (mem_cons_of_mem _ hp),I.hok,I.len⟩
theorem Ext.delX (h:H e = some (.xd fs)):Ext H (Dd.delH H e) :=
 ⟨fun a ys q=>by rw [jN (xK q h (by intro z;cases z))];exact q,fun a ob u q=>by rw [jN (xK q h (by intro z;cases z))];exact q⟩
theorem aD8 {K:Frag} {M:DM} (h:bV K M H) (hp:H e = some (.xd fs)):bV K M (delH H e) where
 l:=fun a ds q=>by
  obtain ⟨xs,z,r⟩:=h.l a ds q
  exact ⟨xs,by rw [jN (xK z hp (by intro z;cases z))];exact z,r.ext (Ext.delX hp)⟩
 d:=fun a ds q=>by
  obtain ⟨xs,z,r⟩:=h.d a ds q
  exact ⟨xs,by rw [jN (xK z hp (by intro z;cases z))];exact z,mP r (Ext.delX hp)⟩
theorem _root_.L2.Inv.dropX (I:Inv X pins σ H s) (h:H e = some (.xd fs)):Inv X pins σ (delH H e) s:=by
 have out:∀ b o,delH H e b = some o->b ≠ e/\H b = some o:=fun b o q=>by
  by_cases z:b = e
  ·rw [z,qL] at q;cases q
  ·rw [jN z] at q;exact ⟨z,q⟩
 have sub:∀ b,H b = none->delH H e b = none:=fun b q=>by
  unfold delH;split
  ·rfl
  ·exact q
 have nt:∀ b o,H b = some o->(∀ φ,o ≠ .xd φ)->delH H e b = some o:=fun b o q n=>by
  rw [jN (fun z=>by rw [z,h] at q;exact n fs (Option.some.inj q).symm)];exact q
 refine ⟨I.ok,I.os,I.bare,⟨I.base.keep,I.base.slot,fun b o q n hx=>sub b (I.base.free b o q n hx),I.base.there,fun b xs q=>nt b _ (I.base.tups b xs q) (fun φ z=>by cases z),fun b o v q=>nt b _ (I.base.frzs b o v q) (fun φ z=>by cases z),fun b ps q=>?_⟩,I.loc,I.cell,sub _ I.free,fun x c q=>sub c (I.freeC x c q),fun p hp=>?_,fun b o q=>?_,I.len⟩
 ·obtain ⟨m,z⟩:=I.base.tbls b ps q
  exact ⟨m,nt b _ z fun φ z=>by cases z⟩
 ·obtain ⟨a1,a2,a3,a4,a5⟩:=I.pin p hp
  exact ⟨a1,sub _ a2,a3,a4,a5⟩
 ·obtain ⟨ne,q⟩:=out b o q
  refine (I.hok b o q).stay (fun _ _ _ z=>z) (fun c z=>nt c _ z fun φ y=>by cases y) fun c xs z=>nt c _ z fun φ y=>by cases y
theorem aME (I:Inv X pins σ H s) (h:H e = some (.xd fs)):∃ oD,Inv (Pn X e oD) pins σ (delH H e) s/\∀ f i,fs = [(f,.int i)]->∃ t,lookIn f oD = some (some (.int i t)):=by
 obtain ⟨mA,hns,rel⟩:=I.hok e _ h
 obtain ⟨oD,ho,hl⟩:=aAj hns
 have I':=I.dropX h
 have nl:e ≠ X.env.locals:=fun z=>by have:=I.free;rw [<- z,h] at this;cases this
 have nfr:e ∉ X.fs:=fun z=>by
  have m:e ∈ frs X.stack:=by
   rcases I.ok.stk with q | ⟨q,_⟩
   ·rw [q];exact z
   ·rw [q];unfold frs;rw [List.filterMap_cons]
    split
    ·exact z
    ·exact mem_cons_of_mem _ z
  have:=I.stkFree e m
  rw [h] at this;cases this
 refine ⟨oD,⟨aB4 I'.ok,I'.os,I'.bare,I'.base,I'.loc,I'.cell,I'.free,I'.freeC,fun p hp=>?_,I'.hok,I'.len⟩,fun f i ef=>?_⟩
 ·rcases List.mem_cons.mp hp with z | z
  ·subst z
   refine ⟨ho,qL,nl,nfr,fun v z=>?_⟩
   have:=hl "row"
   unfold lookIn at this
   dsimp only at z
   rw [z] at this
   cases this
  ·exact I'.pin p z
 ·have:=rel f
  rw [ef,lookup_cons,beq_self_eq_true] at this
  cases hm:mA f with
  | none=>rw [hm] at this;exact this.elim
  | some u =>
   rw [hm] at this
   obtain ⟨t,rfl⟩:=(show ∃ t,u = Value.int i t from this)
   exact ⟨t,by rw [hl,hm]⟩
end
def aNd (sp:DSp) (cond:List D->DM->Int->Prop) (j:Nat) (t:DA) (nx:gA->D->cL->DM->Prop) (ts:Addr->Int->DS):DS:=fun D ρ M=>t ρ M fun ds M1 =>
 (∃ i,cond ds M1 i/\∀ a,ts a i (D.un j) (ρ.set j (some (.ref a))) M1) ∨ sp ds M1 fun d M2=>nx D d ρ M2
section
variable {X:Cx} {a:Expr} {e:Expr} {es:List Expr} {t:DA} {x f n cm fl:Str} {ps:List Str} {sp:DSp} {cond:List D->DM->Int->Prop} {C Cm:Addr} {k1 k2 k i j:Nat} {ts:Addr->Int->DS} {b0:Stmt} {suite:List Stmt} {px pf pc pa pcm ph pos:Pos}
theorem aDr {pins:List (Addr × Obj)} {σ:L2.St} {H1:Hp} {s1 s':Shared} {M1:DM} {ρ:cL} {De:gA} {En:pN} {ev:Value} {i:Int} (ok:X.Ok) (hs:X.stack = X.env :: X.outer) (hf:X.env.frame = some X.env.locals) (hex:X.ex = [])
  (hX:∀ e s,X.xe e s->False) (hN:X.N.Nodup) (hj:X.N[j]? = some n) (hnl:X.env.scope.names.lookup n = some .local)
  (hcm:X.mg cm = some (.ref Cm)) (hgc:Gl X cm) (hdc:(cm == ("__debug__":Str)) = false) (hmt:exmOne X.K (.ref C) (.ref Cm) = some true)
  (hsu:∀ a o dx oD t,ExY o C dx->lookIn fl oD = some (some (.int i t))->kE (Exc (Pn X dx oD) a o) (b0 :: suite) (ts a i))
  (I1:Inv X pins σ H1 s1) (re:fH X.K H1 ρ σ) (k:jF X.K H1 De En) (q:∀ a,ts a i (De.un j) (ρ.set j (some (.ref a))) M1)
  (h:CXy X.prog X.w X.stack H1 s1 (XW X.K C fl M1 i) ev s') :
  wpAny (model X.prog X.w) X.A (noteFrame ev X.env) (fun _ s₂=>wpAny (model X.prog X.w) X.A (setFlight ev none)
   (fun _ s₃=>wpAny (model X.prog X.w) X.A (handleBy ev X.env [.ExceptHandler (some (.Name cm pcm)) (some n) (b0 :: suite) ph]) (SP X pins En) X.xe s₃) X.xe s₂) X.xe s':=by
 obtain ⟨a,cls,T,H',od,rfl,os,bare,un,hok,tr,na,nT,ha,hT,rfl,dx,M',rfl,hm',sub,hxd⟩:=h
 have I2:Inv X pins σ H' s':=I1.call' (ch:=[]) os un hok bare (fun b z=>absurd z (by simp))
 have fa:FpN X pins H' a:=I1.fpN hex na ha
 have fT:FpN X pins H' T:=I1.fpN hex nT hT
 have ex:Ext H1 H':=⟨un.tups,un.frzs⟩
 refine wX I2 hs hf hex I2.ok.frames tr fa fT fun s3 T3 I3 t3 f3=>?_
 refine lO I3 t3 f3 fun s4 I4 t4=>?_
 have noF:∀ {s:Shared} {oe:Obj} {vs:Array Value},Inv X pins σ H' s->s.heap.get? a = some oe->oe.data = .fields vs->a ∉ X.fs:=fun {s oe vs} I he hd hb=>by
  obtain ⟨_,o,ho,hnf⟩:=I.funs.mem hb
  rw [he] at ho;cases ho;exact hnf vs hd
 have inn:∀ {s:Shared} {T fl},Inv X pins σ H' s->TrY (some dx) s.heap a (.ref C) T fl->∃ oe,oe.cls = .ref C/\s.heap.get? a = some oe/\Inv (Exc X a oe) pins σ H' s:=fun {s T fl} I t=>by
  obtain ⟨oe,vs,oT,ts,he,hc,hd,_⟩:=t
  exact ⟨oe,hc.1,he,aAM I he ha fa.2.1 (noF I he hd) fun v z=>by rw [hd] at z;cases z⟩
 obtain ⟨o4,hc4,he4,J4⟩:=inn I4 t4
 refine wpAny_handleBy_cons (codeAny_handlers_test ?_) (by intro z;cases z)
 refine hJ (X:=Exc X a o4) J4 hgc hcm ?_ hdc
 have LT:∀ M:Model,PySem.W.Looks M s4.heap (typeOf (.ref a)) (.ref C):=fun M=>hc4 ▸ (PySem.W.Looks.ld he4).andThen .now
 refine (PySem.W.exm_one J4.kIn (LT _) hmt).here ?_
 simp only [if_true]
 refine codeAny_handlers_suite_as ?_
 refine lO I4 t4 f3 fun s5 I5 t5=>?_
 obtain ⟨oe,vs,oT,tts,he5,hc5,hd5,_⟩:=t5
 refine qJ (v:=.ref a) I5 hN hj (.inl hnl) rfl (fun s6 I6 ⟨b,hsb,hb⟩=>?_) (.inr hnl)
 have hne:a ≠ b:=by
  rcases hb with hb | hb
  ·rw [hb];exact fa.2.1
  ·exact fun z=>fa.2.2.2.1 n b hb z.symm
 have he6:s6.heap.get? a = some oe:=(hsb.2 a hne).trans he5
 obtain ⟨oD,I7,hlk⟩:=aME I6 hxd
 obtain ⟨tk,hlk⟩:=hlk fl i rfl
 have ha':delH H' dx a = none:=by
  unfold delH;split
  ·rfl
  ·exact ha
 have J6:Inv (Exc (Pn X dx oD) a oe) pins (σ.set j (some (.ref a))) (delH H' dx) s6:=aAM (X:=Pn X dx oD) I7 he6 ha' fa.2.1 (noF I5 he5 hd5) fun v z=>by rw [hd5] at z;cases z
 have ex2:=ex.trans (Ext.delX hxd)
 have run:=hsu a oe dx oD tk ⟨hc5.1,hc5.2,_,hd5⟩ hlk pins s6 (σ.set j (some (.ref a))) (delH H' dx) (aCH En j) J6 ⟨_,M1,De.un j,(re.ext ex2).set eS j,aD8 (hm'.sub sub) hxd,q a,(k.at ex2).un j⟩
 refine wpAny_mono run (fun fl s7 h7=>?_) fun x s7 h7=>(hX x s7 h7).elim
 cases fl with
 | next =>
  obtain ⟨σ',H7,I7,q7⟩:=h7
  exact iK (aAV ok (lK (aB4 ok) I7)) hN hj hnl fun s8 I8=>⟨_,H7,I8,q7⟩
 | brk =>
  obtain ⟨σ',H7,I7,q7⟩:=h7
  exact iK (aAV ok (lK (aB4 ok) I7)) hN hj hnl fun s8 I8=>⟨_,H7,I8,q7⟩
 | cont =>
  obtain ⟨σ',H7,I7,q7⟩:=h7
  exact iK (aAV ok (lK (aB4 ok) I7)) hN hj hnl fun s8 I8=>⟨_,H7,I8,q7⟩
 | ret u =>
  obtain ⟨v,σ',H7,I7,r7,q7⟩:=h7
  exact iK (aAV ok (lK (aB4 ok) I7)) hN hj hnl fun s8 I8=>⟨v,_,H7,I8,r7,q7⟩
theorem aGf {pins:List (Addr × Obj)} {σ:L2.St} {H1:Hp} {s1:Shared} {M1:DM} {ds:List D} {us:List Value} {vs:List V} {Q:Value->Shared->Prop} {E:Value->Shared->Prop} {f':Addr} {Q':DQ}
  (hH:fE X.prog X.w X.K X.mg X.base k1 f ps C fl cond) (hh:Has X.prog X.w X.K X.mg X.base k2 f ps sp) (hr:cZ k X.A) (hk1:k1<=k) (hk2:k2<=k) (hmf:X.mg f = some (.ref f'))
  (I1:Inv X pins σ H1 s1) (rv:bS vs us) (rs:bT X.K H1 ds vs) (hm1:bV X.K M1 H1)
  (q:(∃ i,cond ds M1 i/\∀ ev s',CXy X.prog X.w X.stack H1 s1 (XW X.K C fl M1 i) ev s'->E ev s') ∨ sp ds M1 Q')
  (hQ:∀ u s',EP X pins σ (LQ X.K H1 Q') u s'->Q u s'):wpAny (model X.prog X.w) X.A (call (.ref f') us) Q E s1:=by
 rcases q with ⟨i,q,hE⟩ | q
 ·obtain ⟨f1,fd,F,hm,_,hb⟩:=hH
  have hf:f1 = f':=by have:=hm.symm.trans hmf;cases this;rfl
  subst hf
  have hsp:aLj X.K C fl cond vs H1 (fun _ _=>False) (XW X.K C fl M1 i):=⟨ds,M1,i,rs,hm1,q,fun M' H' dx a b c=>⟨rfl,dx,M',rfl,a,b,c⟩⟩
  have hl:(us ++ []).length = ps.length:=by rw [append_nil,<- rv.length];exact F.len _ _ _ _ hsp
  have hbb:=hb s1 us I1.kIn hl
  rw [append_nil] at hbb
  refine wpAny_call (codeAny_mono (F.run X.A X.stack s1 H1 ⟨us,[]⟩ us vs _ _ (hr.mono hk1) I1.env0 hbb rv hsp) fun r s' hq=>?_)
  cases r with
  | error ev=>exact hE ev s' hq
  | ok fl =>
   cases fl with
   | ret u=>obtain ⟨_,_,_,_,_,_,_,z⟩:=(show CE _ _ _ _ _ _ _ _ from hq);exact z.elim
   | next=>exact False.elim hq
   | brk=>exact False.elim hq
   | cont=>exact False.elim hq
 ·obtain ⟨f1,fd,F,hm,_,hb⟩:=hh
  have hf:f1 = f':=by have:=hm.symm.trans hmf;cases this;rfl
  subst hf
  have hsp:pP X.K sp vs H1 (LQ X.K H1 Q') (fun _ _ _=>False):=⟨ds,M1,Q',rs,hm1,q,fun v H' z=>z⟩
  have hl:(us ++ []).length = ps.length:=by rw [append_nil,<- rv.length];exact F.len _ _ _ _ hsp
  have hbb:=hb s1 us I1.kIn hl
  rw [append_nil] at hbb
  refine wpAny_call (codeAny_mono (F.run X.A X.stack s1 H1 ⟨us,[]⟩ us vs _ _ (hr.mono hk2) I1.env0 hbb rv hsp) fun r s' hq=>?_)
  cases r with
  | error ev=>exact False.elim hq
  | ok fl =>
   cases fl with
   | ret u=>exact hQ u s' (I1.after hq)
   | next=>exact False.elim hq
   | brk=>exact False.elim hq
   | cont=>exact False.elim hq
end
def aJu (j:Nat) (a:Addr) (i:Int):DE:=fun ρ M Q=>ρ[j]? = some (some (.ref a))/\Q (.int i) M
section
variable {X:Cx} {n f:Str} {C a dx:Addr} {o oD:Obj} {p pos:Pos} {j:Nat} {i:Int} {tk:Tok}
theorem aKX (ho:ExY o C dx) (hl:lookIn f oD = some (some (.int i tk))) (ek:nR X.K C) (fk:vW X.K C f) (hj:X.N[j]? = some n:=by rfl) (hnl:Vis X.env.scope n:=by first | exact Or.inl rfl | exact Or.inr (Or.inl rfl) | exact Or.inr (Or.inr rfl))
  (hd1:(n == ("__debug__":Str)) = false:=by decide) (hd2:(n == ("__classdict__":Str)) = false:=by decide) (hb:attributeBase (.Name n p) f X.env (eval (.Name n p) X.env) = eval (.Name n p) X.env:=by rfl) :
  PDE (Exc (Pn X dx oD) a o) (.Attribute (.Name n p) f pos) (aJu j a i):=by
 intro pins s σ H Q I ⟨ρ,M,Q',re,hm,⟨e,q⟩,k⟩
 obtain ⟨v,e1,rv⟩:=re.get j _ e
 obtain rfl:=aV rv
 refine aIp (A:=X.A.mark (some (.ref a))) hb (thn (nW (X:=Exc (Pn X dx oD) a o) (i:=j) hj hnl hd1 hd2 pins s σ H (fun v H'=>v = .ref a/\H' = H) I ⟨_,e1,rfl,rfl⟩) fun u s1 ⟨v',H1,I1,rx,ev,eH⟩=>?_)
 subst ev eH
 obtain rfl:u = Value.ref a:=rx
 have p1:=I1.pin (a,o) (mem_append_left _ (mem_cons_self))
 have p2:=I1.pin (dx,oD) (mem_append_left _ (mem_cons_of_mem _ (mem_cons_self)))
 obtain ⟨h1,h2,vs,h3⟩:=ho
 have ia:InstAt s1.heap a o C (some oD):=⟨p1.1,h1,by unfold PySem.W.notCls;rw [h3],by rw [h2];exact p2.1⟩
 exact aNF I1.kIn ia ek fk hl rfl fun t'=>⟨.int i,H1,I1.tok t',⟨_,rfl⟩,k _ H1 ⟨.int i,M,bO,hm,.refl _,q⟩⟩
end
def aDA (w:World) (K:Frag) (mg:Str->Option Value) (x:Str) (tab:List (Str × Int)) (non:List Str):Prop :=
 ∃ a es ep,mg x = some (.ref a)/\(a == sysModules) = false/\K.lookup a = some ⟨.type "dict",none,.dict es ep,#[]⟩/\KeysLit w.params es.toList/\(∀ k n,tab.lookup k = some n->∃ t,nsIn K a k = some (some (.int n t)))/\∀ k ∈ non,nsIn K a k = some none
def aLU (tab:List (Str × Int)) (non:List Str) (Q:DQ) (ds:List D) (M1:DM):Prop:=match ds with
 | [.str k]=>(∃ n,tab.lookup k = some n/\Q (.int n) M1) ∨ (k ∈ non/\Q .non M1)
 | _=>False
def aFb (tab:List (Str × Int)) (non:List Str) (te:DE):DE:=fun ρ M Q=>iN te lG ρ M (aLU tab non Q)
section
variable {X:Cx} {x:Str} {tab:List (Str × Int)} {non:List Str} {p apos cpos:Pos} {e:Expr} {te:DE}
theorem aIS (T:aDA X.w X.K X.mg x tab non) (he:PDE X e te) (hg:Gl X x:=by rfl) (hd:(x == ("__debug__":Str)) = false:=by decide)
  (hbase:attributeBase (.Name x p) "get" X.env (eval (.Name x p) X.env) = eval (.Name x p) X.env:=by rfl)
  (hfew:((backTo cpos (starEach [e] X.env)).all (fun x=>!x.1) && (backToKw cpos (keywordEach [] X.env)).all (fun x=>x.1.isSome)
   && decide ([e].length + ([]:List Keyword).length + (if ([]:List Keyword).isEmpty then 0 else 1) < 30)) = true:=by rfl)
  (hline:(apos.endLine == cpos.line) = true:=by rfl) (hs:starEach [e] X.env = (false,eval e X.env) :: starEach [] X.env:=by rfl) (hplain:(backTo cpos (starEach [] X.env)).any (·.1) = false:=by rfl) :
  PDE X (.Call (.Attribute (.Name x p) "get" apos) [e] [] cpos) (aFb tab non te):=by
 obtain ⟨a,es,ep,hm,hsm,hk,ks,look,nol⟩:=T
 intro pins s σ H Q I ⟨ρ,M,Q',re,hm',q,kq⟩
 refine wpAny_Call_method_late hbase hfew hline rfl (hJ I hg hm ?_ hd)
 have mo:=mapOf_K (prog:=X.prog) (w:=X.w) I.kIn hk ks
 refine ⟨"dict","dict.get",PySem.F.plainAttrs_dict,PySem.F.slot_dict_get,PySem.F.type_dict_get,mo.typeIs,?_,?_⟩
 ·intro b e;cases e;exact ⟨_,I.kIn _ _ hk,rfl⟩
 ·have hA:=(iU he lA hs:PDA X [e] (iN te lG)) cpos pins s σ H (LA X.K H (aLU tab non Q')) I ⟨ρ,M,_,re,hm',q,fun vs H' z=>z⟩
  rw [hs] at hA ⊢
  refine Calls.callWith_builtin (by show (false || (backTo cpos (starEach [] X.env)).any (·.1)) = false;rw [hplain]<;>rfl) (Calls.evalArgs_plain (thn hA fun us s1 ⟨vs,H1,I1,rv,ds,M1,rs,hm1,ex,q1⟩=>?_))
  match ds,q1 with
  | [.str k],q1 =>
   obtain ⟨v,rfl,r1⟩:=dR rs
   obtain rfl:=bF r1
   obtain ⟨u,rfl,ru⟩:=pS rv
   obtain ⟨t,rfl⟩:=ru
   have mo1:=mapOf_K (prog:=X.prog) (w:=X.w) I1.kIn hk ks
   refine call_meetsIn PySem.F.slot_dict_get mo1.typeIs PySem.F.entry_dict_get (PySem.F.args_dict_get_2 _ _) (meets_dict_get (PySem.strKind X.prog X.w) a (strKind_is X.prog X.w k t) hsm) ⟨_,mo1,?_⟩
   rcases q1 with ⟨n,hn,q1⟩ | ⟨hn,q1⟩
   ·obtain ⟨t',hf⟩:=look k n hn
    rw [find_K hk hf]
    exact ⟨.int n,H1,I1.tok _,⟨_,rfl⟩,kq _ _ ⟨.int n,M1,bO,hm1,ex,q1⟩⟩
   ·rw [find_K hk (nol k hn)]
    exact ⟨.non,H1,I1.tok _,rfl,kq _ _ ⟨.non,M1,qP,hm1,ex,q1⟩⟩
end
section
variable {X:Cx} {pins:List (Addr × Obj)} {σ:L2.St} {H:Hp} {s:Shared} {M:Model} {A:Around} {E:Value->Shared->Prop} {e T:Addr} {cls:Value} {od:Option Addr}
end
section
variable {X:Cx} {pins:List (Addr × Obj)} {σ:L2.St} {H:Hp} {s:Shared} {x f:Str} {C:Addr} {k:Nat} {i:Int}
end
section
variable {X:Cx} {x:Str} {V:Int->DM->Prop} {e:Expr} {te:DE} {np cpos pos:Pos} {k:Nat}
theorem oC (R:aAu X x V) (hr:cZ k X.A) (hk:2<=k) (he:ZE X e te) (hg:Gl X x:=by rfl) (hd:(x == ("__debug__":Str)) = false:=by decide) (hst:starEach [e] X.env = (false,eval e X.env) :: starEach [] X.env:=by rfl) (hpl:(backTo cpos (starEach [] X.env)).any (·.1) = false:=by rfl):ZS X (.Raise (some (.Call (.Name x np) [e] [] cpos)) none pos) (aBp V te):=.i (aD6 R hr hk he.o hg hd hst hpl)
end
section
variable {X:Cx} {e:Expr} {es:List Expr} {t:DA} {fn f:Str} {ps:List Str} {cond:List D->DM->Int->Prop} {C:Addr} {k1 k:Nat} {V:Int->DM->Prop} {pf pc:Pos}
theorem uL (hH:fE X.prog X.w X.K X.mg X.base k1 fn ps C f cond) (hr:cZ k X.A) (hk1:k1<=k) (PO:aDX X C f V) (ha:ZA X (e :: es) t) (hg:Gl X fn:=by rfl) (hdb:(fn == ("__debug__":Str)) = false:=by decide) (he:starEach (e :: es) X.env = (false,eval e X.env) :: starEach es X.env:=by rfl) (hpl:(backTo pc (starEach es X.env)).any (·.1) = false:=by rfl):ZE X (.Call (.Name fn pf) (e :: es) [] pc) (aCq V cond t):=.i (aGn hH hr hk1 PO ha.o hg hdb he hpl)
end
section
variable {P:Program} {w:World} {K:Frag} {mg:Str->Option Value} {base:Heap}
end
section
variable {X:Cx} {pins:List (Addr × Obj)} {σ:L2.St} {H:Hp} {s:Shared} {a e:Addr} {o:Obj} {fs:List (Str × V)}
end
section
variable {X:Cx} {a:Expr} {e:Expr} {es:List Expr} {t:DA} {x f n cm fl:Str} {ps:List Str} {sp:DSp} {cond:List D->DM->Int->Prop} {C Cm:Addr} {k1 k2 k i j:Nat} {ts:Addr->Int->DS} {b0:Stmt} {suite:List Stmt} {px pf pc pa pcm ph pos:Pos}
end
section
variable {X:Cx} {n f:Str} {C a dx:Addr} {o oD:Obj} {p pos:Pos} {j:Nat} {i:Int} {tk:Tok}
theorem aDh (ho:ExY o C dx) (hl:lookIn f oD = some (some (.int i tk))) (ek:nR X.K C) (fk:vW X.K C f) (hj:X.N[j]? = some n:=by rfl) (hnl:Vis X.env.scope n:=by first | exact Or.inl rfl | exact Or.inr (Or.inl rfl) | exact Or.inr (Or.inr rfl)) (hd1:(n == ("__debug__":Str)) = false:=by decide) (hd2:(n == ("__classdict__":Str)) = false:=by decide) (hb:attributeBase (.Name n p) f X.env (eval (.Name n p) X.env) = eval (.Name n p) X.env:=by rfl):ZE (Exc (Pn X dx oD) a o) (.Attribute (.Name n p) f pos) (aJu j a i):=.i (aKX ho hl ek fk hj hnl hd1 hd2 hb)
end
section
variable {X:Cx} {x:Str} {tab:List (Str × Int)} {non:List Str} {p apos cpos:Pos} {e:Expr} {te:DE}
theorem aFQ (T:aDA X.w X.K X.mg x tab non) (he:ZE X e te) (hg:Gl X x:=by rfl) (hd:(x == ("__debug__":Str)) = false:=by decide) (hbase:attributeBase (.Name x p) "get" X.env (eval (.Name x p) X.env) = eval (.Name x p) X.env:=by rfl) (hfew:((backTo cpos (starEach [e] X.env)).all (fun x=>!x.1) && (backToKw cpos (keywordEach [] X.env)).all (fun x=>x.1.isSome)
   && decide ([e].length + ([]:List Keyword).length + (if ([]:List Keyword).isEmpty then 0 else 1) < 30)) = true:=by rfl) (hline:(apos.endLine == cpos.line) = true:=by rfl) (hs:starEach [e] X.env = (false,eval e X.env) :: starEach [] X.env:=by rfl) (hplain:(backTo cpos (starEach [] X.env)).any (·.1) = false:=by rfl):ZE X (.Call (.Attribute (.Name x p) "get" apos) [e] [] cpos) (aFb tab non te):=.i (aIS T he.o hg hd hbase hfew hline hs hplain)
end
def aM9 (w:World) (a:Addr) (Q:DQ) (ds:List D) (M2:DM):Prop:=match ds with
 | [.str k,dv]=>∃ kvs,M2 (.d a) = some (aMo w kvs)/\(kvs.map (·.1)).Nodup/\Q (((kvs.find? fun p=>decide (p.1 = k)).map (·.2)).getD dv) M2
 | _=>False
def aNn (w:World) (to te ti:DE):DE:=fun ρ M Q=>to ρ M fun x M1=>match x with
 | .ref a=>(∃ kvs,M1 (.d a) = some (aMo w kvs)/\(kvs.map (·.1)).Nodup)/\iN te (iN ti lG) ρ M1 (aM9 w a Q)
 | _=>False
section
variable {X:Cx} {o e e2:Expr} {to te ti:DE} {apos cpos pos:Pos}
end
section
open PySem.W PySem.Calls
variable {prog:Program} {w:World} {A:Around} {E:Value->Shared->Prop} {s:Shared} {K:Frag} {x C D:Addr} {ox:Obj} {od:Option Obj}
theorem aCE {Q:Option Value->Shared->Prop} (X:K.In s.heap) (I:InstAt s.heap x ox D od) (hga:findIn K (.ref D) "__getattribute__" = some (some (.builtin "BaseException.__getattribute__")))
  (hgn:findIn K (.ref D) "__getattr__" = some none) (hcl:findIn K (.ref D) "__class__" = some (some (.builtin "object.__class__"))) (hcd:(clsIn K D).isSome = true) (hn:specialIn K (.builtin "object.__class__") "__get__" = some (some (.builtin "getset_descriptor.__get__"))) (htk:takesIn K (.builtin "object.__class__") = some true) (hm:mroIn K D (.type "object") = some true) (hmb:mroIn K D (.type "BaseException") = some true)
  (h:Q (some (.ref D)) { s with toks:=s.toks + 1 }):wpAny (model prog w) A (getAttr? (.ref x) "__class__") Q E s:=by
 obtain ⟨hh,g,d,t,os⟩:=s
 have L0:=I.type (M:=model prog w)
 have L1:=looks_findIn (M:=model prog w) X hga
 unfold getAttr? getAttrBy? getAttrBy
 refine wpAny_bind (wpAny_mkText (wpAny_bind (wpAny_attempt (wpAny_holding (wpAny_bind (L0.at (wpAny_bind (L1.at ?_))))))))
 have hx2:(onTheHeap (Value.ref D) && Value.builtin "BaseException.__getattribute__" == Value.builtin "object.__getattribute__") = false:=by
  rw [show (Value.builtin "BaseException.__getattribute__" == Value.builtin "object.__getattribute__") = false by decide +kernel,Bool.and_false]
 dsimp only
 rw [if_neg (by rw [hx2];exact Bool.false_ne_true)]
 have f3:=PySem.F.attr_ValueError.ga.bind (.ref x)
 have L2:=looks_findIn (M:=model prog w) X hgn
 have L3:=looks_mroIn (M:=model prog w) X hmb
 have hf:findObj K D od "__class__" = some (.bind (.builtin "getset_descriptor.__get__") (.builtin "object.__class__")):=by
  obtain ⟨cd,hc⟩:=Option.isSome_iff_exists.mp hcd
  unfold findObj
  rw [hc,Option.bind_some,hcl,Option.bind_some]
  simp [hn,htk]
 have L4:=looks_find (M:=model prog w) X I hf
 unfold getAttrByItsOwn hookBefore callGetattribute
 refine wpAny_bind ?_
 rw [if_pos (show onTheHeap (Value.ref D) = true from rfl)]
 refine L2.at ?_
 refine wpAny_bind (wpAny_attempt (wpAny_holding ?_))
 rw [if_neg (by simp)]
 unfold boundAndCalled
 rw [f3]
 refine wpAny_bind (wpAny_pure ?_)
 dsimp only [cons_append,nil_append]
 have hk:builtinKind "BaseException.__getattribute__" = some .slot:=by decide +kernel
 have hsplit:splitId "BaseException.__getattribute__" = some ("BaseException","__getattribute__"):=by decide +kernel
 have ha:=PySem.F.args_bexc_ga (.ref x) (.str "__class__" t)
 refine wpAny_call (codeAny_call_builtin PySem.F.attr_ValueError.ga.plain PySem.F.entry_bexc_ga ?_)
 simp only [checkBuiltinCall,hk,hsplit]
 refine wpAny_bind ?_
 unfold isInstance
 refine wpAny_bind (L0.at ?_)
 refine L3.at ?_
 simp only [Bool.not_true,Bool.false_eq_true,if_false]
 repeat (any_goals (first | assumption | (with_reducible refine L0.at ?_) | (with_reducible refine L4.at ?_) | wp_step))
 refine class_get (ox:=ox) (od:=od) X I hm ?_
 repeat (any_goals (first | assumption | exact h | wp_step))
theorem zM {o oD:Obj} {dx:Addr} (e:nR K D) (ho:ExY o D dx):KitX K (.ref x) (.ref D) (fun h=>h.get? x = some o/\h.get? dx = some oD) where
 ty:=fun _ _ _ q=>ho.1 ▸ (Looks.ld q.1).andThen .now
 it:=fun _ _ X _=>by
  obtain ⟨cdD,hcD⟩:=e.cd
  unfold clsIn at hcD
  split at hcD
  ·rename_i c' d' cd' sl' hk
   intro A' Q' E' s' k q
   unfold isType loadHead
   exact wpAny_bind (wpAny_loadPart (k _ _ (X _ _ hk)) (wpAny_pure q))
  ·cases hcD
 ne:=fun h tp dd its n sl X htp=>by
  obtain ⟨cdD,hcD⟩:=e.cd
  refine Bool.eq_false_iff.mpr fun q=>?_
  have ee:D = tp:=Value.ref.inj (beq_iff_eq.mp q)
  subst ee
  unfold clsIn at hcD
  split at hcD
  ·rename_i c' d' cd' sl' hk
   have z:=(X _ _ hk).symm.trans htp
   cases z
  ·cases hcD
 ca:=fun {_ _ _ _ _ s} X q k=>by
  obtain ⟨h1,h2,vs,h3⟩:=ho
  have I:InstAt s.heap x o D (some oD):=⟨q.1,h1,by unfold notCls;rw [h3],by rw [h2];exact q.2⟩
  exact aCE X I e.ga e.gn e.cl (by obtain ⟨cd,z⟩:=e.cd;rw [z];rfl) e.nn e.tk e.mo e.mb k
end
section
variable {X:Cx} {n c:Str} {C Cc a dx:Addr} {o oD:Obj} {p p1 p2 pos:Pos} {j:Nat}
theorem aHG {b:Bool} (ho:ExY o C dx) (ek:nR X.K C) (hcc:X.mg c = some (.ref Cc)) (hki:kitOne X.K (.ref C) (.ref Cc) = some b) (hmi:X.mg "isinstance" = none) (hj:X.N[j]? = some n:=by rfl) (hnl:Vis X.env.scope n:=by first | exact Or.inl rfl | exact Or.inr (Or.inl rfl) | exact Or.inr (Or.inr rfl))
  (hgi:Gl X "isinstance":=by rfl) (hgc:Gl X c:=by rfl) (hd1:(n == ("__debug__":Str)) = false:=by decide) (hd2:(n == ("__classdict__":Str)) = false:=by decide) (hd3:(c == ("__debug__":Str)) = false:=by decide)
  (hs:∀ env:Env,starEach [.Name n p1,.Name c p2] env = (false,eval (.Name n p1) env) :: starEach [.Name c p2] env:=by intro _;rfl) (hs2:∀ env:Env,starEach [.Name c p2] env = (false,eval (.Name c p2) env) :: starEach [] env:=by intro _;rfl)
  (hpl:(backTo pos (starEach [.Name c p2] X.env)).any (·.1) = false:=by rfl) :
  PDE (Exc (Pn X dx oD) a o) (.Call (.Name "isinstance" p) [.Name n p1,.Name c p2] [] pos) (aB6 b j a):=by
 have hc:jO (Exc (Pn X dx oD) a o) (.builtin "isinstance") fun vs H Q=>vs = [.ref a,.ref Cc]/\Q (.bl b) H:=by
  intro pins s σ H xs us Q I rs ⟨e,q⟩
  subst e
  obtain ⟨u1,us1,rfl,r1,rs1⟩:∃ u1 us1,us = u1 :: us1/\cF (.ref a) u1/\bS [.ref Cc] us1:=by cases rs with | cons r t=>exact ⟨_,_,rfl,r,t⟩
  obtain ⟨u2,us2,rfl,r2,rs2⟩:∃ u2 us2,us1 = u2 :: us2/\cF (.ref Cc) u2/\bS [] us2:=by cases rs1 with | cons r t=>exact ⟨_,_,rfl,r,t⟩
  obtain rfl:us2 = []:=by cases rs2;rfl
  obtain rfl:u1 = Value.ref a:=r1
  obtain rfl:u2 = Value.ref Cc:=r2
  have pn1:=I.pin (a,o) (mem_append_left _ (mem_cons_self))
  have pn2:=I.pin (dx,oD) (mem_append_left _ (mem_cons_of_mem _ (mem_cons_self)))
  exact kia_one (zM ek ho) I.kIn ⟨pn1.1,pn2.1⟩ hki (fun z=>nomatch z) fun tk=>⟨.bl b,H,I.tok tk,rfl,q⟩
 refine bW (nA (X:=Exc (Pn X dx oD) a o) hc hgi hmi rfl (jA (nW (X:=Exc (Pn X dx oD) a o) (i:=j) hj hnl hd1 hd2) (jA (aA1 (X:=Exc (Pn X dx oD) a o) (v:=.ref Cc) hgc hcc rfl hd3) uD (hs2 _)) (hs _)) (by decide) (by decide) (hs _) hpl) fun σ H Q ⟨ρ,M,Q',re,hm,⟨e,q⟩,k⟩=>?_
 obtain ⟨v,e1,rv⟩:=re.get j _ e
 obtain rfl:=aV rv
 exact ⟨_,e1,rfl,k _ H ⟨_,M,cQ,hm,.refl H,q⟩⟩
theorem aGQ {T:String} (ho:ExY o C dx) (hki:kitOne X.K (.ref C) (.type T) = some true) (hmi:X.mg "isinstance" = none) (hmc:X.mg c = none) (hv:bootBuiltins c = some (.type T):=by rfl) (hj:X.N[j]? = some n:=by rfl) (hnl:Vis X.env.scope n:=by first | exact Or.inl rfl | exact Or.inr (Or.inl rfl) | exact Or.inr (Or.inr rfl))
  (hgi:Gl X "isinstance":=by rfl) (hgc:Gl X c:=by rfl) (hnn:c ≠ "__name__":=by decide) (hd1:(n == ("__debug__":Str)) = false:=by decide) (hd2:(n == ("__classdict__":Str)) = false:=by decide) (hd3:(c == ("__debug__":Str)) = false:=by decide)
  (hs:∀ env:Env,starEach [.Name n p1,.Name c p2] env = (false,eval (.Name n p1) env) :: starEach [.Name c p2] env:=by intro _;rfl) (hs2:∀ env:Env,starEach [.Name c p2] env = (false,eval (.Name c p2) env) :: starEach [] env:=by intro _;rfl)
  (hpl:(backTo pos (starEach [.Name c p2] X.env)).any (·.1) = false:=by rfl) :
  PDE (Exc (Pn X dx oD) a o) (.Call (.Name "isinstance" p) [.Name n p1,.Name c p2] [] pos) (aGB j a):=by
 have hc:jO (Exc (Pn X dx oD) a o) (.builtin "isinstance") fun vs H Q=>vs = [.ref a,.ty T]/\Q (.bl true) H:=by
  intro pins s σ H xs us Q I rs ⟨e,q⟩
  subst e
  obtain ⟨u1,us1,rfl,r1,rs1⟩:∃ u1 us1,us = u1 :: us1/\cF (.ref a) u1/\bS [.ty T] us1:=by cases rs with | cons r t=>exact ⟨_,_,rfl,r,t⟩
  obtain ⟨u2,us2,rfl,r2,rs2⟩:∃ u2 us2,us1 = u2 :: us2/\cF (.ty T) u2/\bS [] us2:=by cases rs1 with | cons r t=>exact ⟨_,_,rfl,r,t⟩
  obtain rfl:us2 = []:=by cases rs2;rfl
  obtain rfl:u1 = Value.ref a:=r1
  obtain rfl:u2 = Value.type T:=r2
  have pn:=I.pin (a,o) (mem_append_left _ (mem_cons_self))
  exact aCb (K:=X.K) (H:=fun h=>h.get? a = some o) (fun M h e=>ho.1 ▸ (PySem.W.Looks.ld e).andThen .now) I.kIn pn.1 hki (fun z=>nomatch z) fun tk=>⟨.bl true,H,I.tok tk,rfl,q⟩
 refine bW (nA (X:=Exc (Pn X dx oD) a o) hc hgi hmi rfl (jA (nW (X:=Exc (Pn X dx oD) a o) (i:=j) hj hnl hd1 hd2) (jA (aAJ (X:=Exc (Pn X dx oD) a o) (v:=.ty T) hgc hmc hv rfl hnn hd3) uD (hs2 _)) (hs _)) (by decide) (by decide) (hs _) hpl) fun σ H Q ⟨ρ,M,Q',re,hm,⟨e,q⟩,k⟩=>?_
 obtain ⟨v,e1,rv⟩:=re.get j _ e
 obtain rfl:=aV rv
 exact ⟨_,e1,rfl,k _ H ⟨_,M,cQ,hm,.refl H,q⟩⟩
theorem aBz (ho:ExY o C dx) (ek:nR X.K C):fV (Exc (Pn X dx oD) a o) (.builtin "isinstance") (aGZ X.K C a):=by
 intro pins s σ H xs us Q I rs ⟨ds,M,Q',r1,hm,⟨cs,b,e,hk,q⟩,k⟩
 subst e
 obtain ⟨v1,r2,rfl,hv1,r3⟩:=aR r1
 obtain rfl:=aV hv1
 obtain ⟨v2,r4,rfl,hv2,r5⟩:=aR r3
 obtain rfl:=bD r5
 obtain ⟨tp,ys,rfl,sq,ry⟩:=cE hv2
 obtain ⟨u1,us1,rfl,w1,rs1⟩:∃ u1 us1,us = u1 :: us1/\cF (.ref a) u1/\bS [.ref tp] us1:=by cases rs with | cons r t=>exact ⟨_,_,rfl,r,t⟩
 obtain ⟨u2,us2,rfl,w2,rs2⟩:∃ u2 us2,us1 = u2 :: us2/\cF (.ref tp) u2/\bS [] us2:=by cases rs1 with | cons r t=>exact ⟨_,_,rfl,r,t⟩
 obtain rfl:us2 = []:=by cases rs2;rfl
 obtain rfl:u1 = Value.ref a:=w1
 obtain rfl:u2 = Value.ref tp:=w2
 have pn1:=I.pin (a,o) (mem_append_left _ (mem_cons_self))
 have pn2:=I.pin (dx,oD) (mem_append_left _ (mem_cons_of_mem _ (mem_cons_self)))
 obtain ⟨its,hv,⟨ot,h1,h2,nn,h3⟩,_⟩:=I.tuple sq
 obtain rfl:=uE ry hv
 obtain ⟨oc,od,oda,osl⟩:=ot
 dsimp only at h2 h3
 subst h2 h3
 exact PySem.W.kia_tup (zM ek ho) I.kIn ⟨pn1.1,pn2.1⟩ h1 hk (fun z=>nomatch z) fun tk=>⟨.bl b,H,I.tok tk,rfl,k _ H ⟨_,M,cQ,hm,.refl H,q⟩⟩
end
theorem aAX.nm {K:Frag} {mg:Str->Option Value} {x:Str} {C:Addr} (h:aAX K mg x C):mg x = some (.ref C):=h.1
def aIc (g:Bool->Bool) (ta:DE) (tn:DA):DE:=fun ρ M Q=>ta ρ M fun x M1=>tn ρ M1 fun ds M2=>match x,ds with
 | .int k,[.int i,.int j]=>Q (.bl (g (decide (i<=k/\k < j)))) M2
 | _,_=>False
section
variable {X:Cx} {a n m:Expr} {ta:DE} {tn:DA} {pos p pos':Pos}
end
section
variable {X:Cx} {o e e2:Expr} {to te ti:DE} {apos cpos pos:Pos}
end
section
variable {prog:Program} {w:World} {A:Around} {E:Value->Shared->Prop} {s:Shared} {K:Frag} {x C D:Addr} {ox:Obj} {od:Option Obj}
end
section
variable {X:Cx} {n c:Str} {C Cc a dx:Addr} {o oD:Obj} {p p1 p2 pos:Pos} {j:Nat}
theorem mQ {b:Bool} (ho:ExY o C dx) (ek:nR X.K C) (hcc:X.mg c = some (.ref Cc)) (hki:kitOne X.K (.ref C) (.ref Cc) = some b) (hmi:X.mg "isinstance" = none) (hj:X.N[j]? = some n:=by rfl) (hnl:Vis X.env.scope n:=by first | exact Or.inl rfl | exact Or.inr (Or.inl rfl) | exact Or.inr (Or.inr rfl)) (hgi:Gl X "isinstance":=by rfl) (hgc:Gl X c:=by rfl) (hd1:(n == ("__debug__":Str)) = false:=by decide) (hd2:(n == ("__classdict__":Str)) = false:=by decide) (hd3:(c == ("__debug__":Str)) = false:=by decide) (hs:∀ env:Env,starEach [.Name n p1,.Name c p2] env = (false,eval (.Name n p1) env) :: starEach [.Name c p2] env:=by intro _;rfl) (hs2:∀ env:Env,starEach [.Name c p2] env = (false,eval (.Name c p2) env) :: starEach [] env:=by intro _;rfl) (hpl:(backTo pos (starEach [.Name c p2] X.env)).any (·.1) = false:=by rfl):ZE (Exc (Pn X dx oD) a o) (.Call (.Name "isinstance" p) [.Name n p1,.Name c p2] [] pos) (aB6 b j a):=.i (aHG ho ek hcc hki hmi hj hnl hgi hgc hd1 hd2 hd3 hs hs2 hpl)
theorem zQ {T:String} (ho:ExY o C dx) (hki:kitOne X.K (.ref C) (.type T) = some true) (hmi:X.mg "isinstance" = none) (hmc:X.mg c = none) (hv:bootBuiltins c = some (.type T):=by rfl) (hj:X.N[j]? = some n:=by rfl) (hnl:Vis X.env.scope n:=by first | exact Or.inl rfl | exact Or.inr (Or.inl rfl) | exact Or.inr (Or.inr rfl)) (hgi:Gl X "isinstance":=by rfl) (hgc:Gl X c:=by rfl) (hnn:c ≠ "__name__":=by decide) (hd1:(n == ("__debug__":Str)) = false:=by decide) (hd2:(n == ("__classdict__":Str)) = false:=by decide) (hd3:(c == ("__debug__":Str)) = false:=by decide) (hs:∀ env:Env,starEach [.Name n p1,.Name c p2] env = (false,eval (.Name n p1) env) :: starEach [.Name c p2] env:=by intro _;rfl) (hs2:∀ env:Env,starEach [.Name c p2] env = (false,eval (.Name c p2) env) :: starEach [] env:=by intro _;rfl) (hpl:(backTo pos (starEach [.Name c p2] X.env)).any (·.1) = false:=by rfl):ZE (Exc (Pn X dx oD) a o) (.Call (.Name "isinstance" p) [.Name n p1,.Name c p2] [] pos) (aGB j a):=.i (aGQ (T:=T) ho hki hmi hmc hv hj hnl hgi hgc hnn hd1 hd2 hd3 hs hs2 hpl)
end
section
variable {X:Cx} {a n m:Expr} {ta:DE} {tn:DA} {pos p pos':Pos}
end
end Dd
namespace Ty
open PySem PySem.Builtin PySem.Builtin.Str PySem.StrLaws
noncomputable abbrev cl (x:Str):List Nat:=x.cps.toList
noncomputable abbrev one (c:Nat):Str:=⟨#[c]⟩
theorem ext {x y:Str} (h:cl x = cl y):x = y:=Str.ext' (Array.toList_inj.mp h)
theorem len_cl (x:Str):x.length = (cl x).length:=rfl
theorem cl_app (x y:Str):cl (x ++ y) = cl x ++ cl y:=by
 show (x.cps ++ y.cps).toList = _
 rw [Array.toList_append]
theorem nG (x:Str) (c limit:Nat):∀ (l:List Nat) (st:Array Nat × Nat),(∀ i ∈ l,st.2<=i)->l.Pairwise (· < ·) ->
  (forIn l st (occBody x (one c) x.length limit)).run.fst.toList = st.1.toList ++ (l.filter fun i=>decide ((cl x)[i]? = some c)).take (limit - st.1.size)
 | [],st,_,_=>by
  rw [List.filter_nil,List.take_nil,append_nil];rfl
 | a :: l,st,hf,hp=>by
  rw [List.forIn_cons]
  unfold occBody
  have ha:=hf a (mem_cons_self ..)
  rw [List.pairwise_cons] at hp
  have so:=subAt_one x c a
  by_cases hc:(cl x)[a]? = some c
  ·have h1:=so.mpr hc
   rw [List.filter_cons_of_pos (by simpa using hc)]
   by_cases hs:st.1.size < limit
   ·rw [if_pos ⟨⟨⟨hs,ha⟩,h1.1⟩,h1.2⟩]
    have ih:=nG x c limit l (st.1.push a,a + (one c).length) (fun i hi=>hp.1 i hi) hp.2
    refine ih.trans ?_
    rw [Array.toList_push,Array.size_push,append_assoc,show limit - st.1.size = (limit - (st.1.size + 1)) + 1 by omega,List.take_succ_cons]
    rfl
   ·rw [if_neg fun z=>hs z.1.1.1]
    have ih:=nG x c limit l st (fun i hi=>hf i (mem_cons_of_mem _ hi)) hp.2
    refine ih.trans ?_
    rw [show limit - st.1.size = 0 by omega,take_zero,take_zero]
  ·rw [List.filter_cons_of_neg (by simpa using hc),if_neg fun z=>hc (so.mp ⟨z.1.2,z.2⟩)]
   exact nG x c limit l st (fun i hi=>hf i (mem_cons_of_mem _ hi)) hp.2
theorem aDt (x:Str) (c limit:Nat):occurrences x (one c) 0 x.length limit = ((range' 0 (x.length + 1)).filter fun i=>decide ((cl x)[i]? = some c)).take limit:=by
 rw [occ_eq]
 have:=nG x c limit (range' 0 (x.length + 1 - 0)) (#[],0) (fun _ _=>Nat.zero_le _) List.pairwise_lt_range'
 rw [this]
 rfl
theorem pJ (c:Nat):∀ (L:List Nat) (k:Nat),((range' k (L.length + 1)).filter fun i=>decide (L[i - k]? = some c)).length = L.count c
 | [],k=>by simp [range'_succ]
 | a :: L,k=>by
  rw [length_cons,range'_succ,List.filter_cons]
  have e:((range' (k + 1) (L.length + 1)).filter fun i=>decide ((a :: L)[i - k]? = some c)) = ((range' (k + 1) (L.length + 1)).filter fun i=>decide (L[i - (k + 1)]? = some c)):=by
   refine List.filter_congr fun i hi=>?_
   obtain ⟨h1,_⟩:=List.mem_range'_1.mp hi
   rw [show i - k = (i - (k + 1)) + 1 by omega,List.getElem?_cons_succ]
  rw [e,Nat.sub_self,List.getElem?_cons_zero,List.count_cons]
  by_cases h:a = c
  ·subst h
   rw [if_pos (by simp),length_cons,pJ a L (k + 1)]
   simp
  ·rw [if_neg (by simpa using h),pJ c L (k + 1),if_neg (by simpa using h)]
   rfl
theorem occ_count (x:Str) (c:Nat):(occurrences x (one c) 0 x.length (x.length + 1)).length = (cl x).count c:=by
 rw [aDt,length_take]
 have h:=pJ c (cl x) 0
 simp only [Nat.sub_zero] at h
 rw [len_cl,h]
 have:=List.count_le_length (a:=c) (l:=cl x)
 omega
noncomputable def jl (c:Nat):List (List Nat)->List Nat
 | []=>[]
 | [x]=>x
 | x :: y :: r=>x ++ c :: jl c (y :: r)
theorem aBM (c:Nat):∀ ss:List Str,cl (Str.join (one c) ss) = jl c (ss.map cl)
 | []=>rfl
 | [_]=>rfl
 | x :: y :: r=>by
  show cl (x ++ one c ++ Str.join (one c) (y :: r)) = _
  rw [cl_app,cl_app,aBM c (y :: r)]
  show cl x ++ [c] ++ jl c (map cl (y :: r)) = cl x ++ c :: jl c (map cl (y :: r))
  rw [append_assoc];rfl
theorem cl_join (c:Nat) (ss:List Str):cl (glued (one c) ss) = jl c (ss.map cl):=by rw [glued_eq_join,aBM]
theorem aB8 (c:Nat):∀ ps:List (List Nat),ps ≠ []->(jl c ps).count c + 1 = ps.length + (ps.map fun p=>p.count c).sum
 | [],h=>absurd rfl h
 | [x],_=>by
  show x.count c + 1 = 1 + (x.count c + 0)
  omega
 | x :: y :: r,_=>by
  have ih:=aB8 c (y :: r) (fun e=>nomatch e)
  show (x ++ c :: jl c (y :: r)).count c + 1 = _
  rw [List.count_append,List.count_cons_self,map_cons,sum_cons,length_cons]
  omega
theorem aGT {c:Nat}:∀ {a b u v:List Nat},c ∉ a->c ∉ b->a ++ c :: u = b ++ c :: v->a = b/\u = v
 | [],[],u,v,_,_,h=>⟨rfl,(List.cons.inj h).2⟩
 | [],y :: b,u,v,_,hb,h=>absurd (List.cons.inj h).1 (fun e=>hb (e ▸ mem_cons_self ..))
 | x :: a,[],u,v,ha,_,h=>absurd (List.cons.inj h).1 (fun e=>ha (e ▸ mem_cons_self ..))
 | x :: a,y :: b,u,v,ha,hb,h=>by
  obtain ⟨e,h⟩:=List.cons.inj h
  obtain ⟨e2,e3⟩:=aGT (fun z=>ha (mem_cons_of_mem _ z)) (fun z=>hb (mem_cons_of_mem _ z)) h
  exact ⟨by rw [e,e2],e3⟩
theorem jl_inj {c:Nat}:∀ {ps ss:List (List Nat)},ps ≠ []->ss ≠ []->(∀ p ∈ ps,c ∉ p)->(∀ s ∈ ss,c ∉ s)->jl c ps = jl c ss->ps = ss
 | [],_,h,_,_,_,_=>absurd rfl h
 | _,[],_,h,_,_,_=>absurd rfl h
 | [x],[y],_,_,_,_,h=>by rw [show x = y from h]
 | [x],y :: z :: r,_,_,hp,_,h=>by
  have h:x = y ++ c :: jl c (z :: r):=h
  exact absurd (by rw [h];simp) (hp x (mem_cons_self ..))
 | x :: y :: r,[z],_,_,_,hs,h=>by
  have h:x ++ c :: jl c (y :: r) = z:=h
  exact absurd (by rw [<- h];simp) (hs z (mem_cons_self ..))
 | x :: y :: r,x' :: y' :: r',_,_,hp,hs,h=>by
  have h:x ++ c :: jl c (y :: r) = x' ++ c :: jl c (y' :: r'):=h
  obtain ⟨e1,e2⟩:=aGT (hp x (mem_cons_self ..)) (hs x' (mem_cons_self ..)) h
  have e3:y :: r = y' :: r':=jl_inj (by simp) (by simp) (fun p m=>hp p (mem_cons_of_mem _ m)) (fun s m=>hs s (mem_cons_of_mem _ m)) e2
  rw [e1,e3]
theorem parts_len (x:Str) (cuts:List Nat) (w:Nat):(partsBetween x cuts w).length = cuts.length + 1:=by
 unfold partsBetween
 simp
theorem map_cl_inj:∀ {ps ss:List Str},ps.map cl = ss.map cl->ps = ss
 | [],[],_=>rfl
 | [],_ :: _,h=>nomatch h
 | _ :: _,[],h=>nomatch h
 | p :: ps,s :: ss,h=>by
  rw [map_cons,map_cons] at h
  obtain ⟨e,h⟩:=List.cons.inj h
  rw [ext e,map_cl_inj h]
theorem aBL:∀ {ns:List Nat},ns.sum = 0->∀ n ∈ ns,n = 0
 | n :: ns,h,m,hm=>by
  rw [sum_cons] at h
  rcases List.mem_cons.mp hm with rfl | hm
  ·omega
  ·exact aBL (by omega) m hm
theorem split_eq {x:Str} {c:Nat} {ss:List Str} (h:x = glued (one c) ss) (n0:ss ≠ []) (hn:∀ s ∈ ss,c ∉ cl s):partsBetween x (occurrences x (one c) 0 x.length (x.length + 1)) (one c).length = ss:=by
 have g:=glued_between_self x (one c) (x.length + 1)
 generalize hps:partsBetween x (occurrences x (one c) 0 x.length (x.length + 1)) (one c).length = ps at g ⊢
 have pl:ps.length = (cl x).count c + 1:=by rw [<- hps,parts_len,occ_count]
 have pn:ps ≠ []:=fun e=>by rw [e] at pl;cases pl
 have ej:jl c (ps.map cl) = cl x:=by rw [<- cl_join,g]
 have ct:=aB8 c (ps.map cl) (fun e=>pn (List.map_eq_nil_iff.mp e))
 rw [ej,length_map,pl] at ct
 have z:((ps.map cl).map fun p=>p.count c).sum = 0:=by omega
 refine map_cl_inj (jl_inj (c:=c) (fun e=>pn (List.map_eq_nil_iff.mp e)) (fun e=>n0 (List.map_eq_nil_iff.mp e)) (fun p hp=>?_) (fun s hs=>?_) ?_)
 ·have:=aBL z _ (mem_map_of_mem hp)
  exact List.count_eq_zero.mp this
 ·obtain ⟨t,ht,rfl⟩:=List.mem_map.mp hs
  exact hn t ht
 ·rw [ej,h,cl_join]
theorem wQ (c:Nat):∀ (a b:List Nat) (k:Nat),c ∉ a->∃ r,((range' k ((a ++ c :: b).length + 1)).filter fun i=>decide ((a ++ c :: b)[i - k]? = some c)) = (k + a.length) :: r
 | [],b,k,_=>by
  rw [nil_append,length_cons,range'_succ,List.filter_cons_of_pos (by simp)]
  exact ⟨_,rfl⟩
 | y :: a,b,k,h=>by
  obtain ⟨r,e⟩:=wQ c a b (k + 1) (fun z=>h (mem_cons_of_mem _ z))
  rw [cons_append,length_cons,range'_succ,List.filter_cons_of_neg (by
   rw [Nat.sub_self,List.getElem?_cons_zero]
   simp
   exact fun e=>h (e ▸ mem_cons_self ..))]
  refine ⟨r,?_⟩
  rw [show k + (y :: a).length = k + 1 + a.length by rw [length_cons];omega,<- e]
  refine List.filter_congr fun i hi=>?_
  obtain ⟨h1,_⟩:=List.mem_range'_1.mp hi
  rw [show i - k = (i - (k + 1)) + 1 by omega,List.getElem?_cons_succ]
theorem part_found {x:Str} {c:Nat} {a b:List Nat} (h:cl x = a ++ c :: b) (hn:c ∉ a):occurrences x (one c) 0 x.length 1 = [a.length]:=by
 rw [aDt,len_cl,h]
 obtain ⟨r,e⟩:=wQ c a b 0 hn
 simp only [Nat.sub_zero,Nat.zero_add] at e
 rw [e];rfl
theorem part_none {x:Str} {c:Nat} (h:c ∉ cl x):occurrences x (one c) 0 x.length 1 = []:=by
 have:=found_one x c
 rw [decide_eq_false h] at this
 cases e:occurrences x (one c) 0 x.length 1 with
 | nil=>rfl
 | cons i r=>rw [e] at this;cases this
theorem cl_sub (x:Str) (i j:Nat):cl (strSub x i j) = ((cl x).drop i).take (j - i):=strSub_toList x i j
end Ty
namespace Dd
open PySem PySem.Spec PyProof.Rows L2 Mz
open PySem.Builtin.Str (glued occurrences partsBetween strSub subAt)
theorem aEp {n:Nat} (h:n<=1000000):n<=sizeLine:=Nat.le_trans h (by decide)
def aNR:D2:=fun x y M Q=>match x,y with
 | .str i,.str j=>i.length + j.length<=1000000/\Q (.str (i ++ j)) M
 | _,_=>False
def aNb:D2:=fun x y M Q=>match x,y with
 | .str i,.int n=>(n = 0 ∨ n = 1)/\Q (.str (if n = 1 then i else Str.empty)) M
 | _,_=>False
def aNI:DSp:=fun ds M Q=>match ds with
 | [.int i]=>i.natAbs.log2 < 1920/\Q (.str (toString i)) M
 | _=>False
def aI2:DSp:=fun ds M Q=>match ds with
 | [.str x]=>∃ n,PySem.intText? x = some n/\x.length<=640/\Q (.int n) M
 | _=>False
section
variable {X:Cx}
theorem aJz:fV X (.type "str") aNI:=fV.of aAH fun vs H M ds Q rs hm q=>by
 match ds,q with
 | [.int i],q =>
  obtain ⟨hl,q⟩:=q
  obtain ⟨v,rfl,rv⟩:=dR rs
  obtain rfl:=aU rv
  exact ⟨i,rfl,hl,_,M,hG,hm,.refl H,q⟩
theorem aId:fV X (.type "int") aI2:=by
 intro pins s σ H xs us Q I rs ⟨ds,M,Q',r1,hm,q,k⟩
 match ds,q with
 | [.str x],q =>
  obtain ⟨n,hn,hl,q⟩:=q
  obtain ⟨v,rfl,rv⟩:=dR r1
  obtain rfl:=bF rv
  obtain ⟨u,rfl,ru⟩:=pS rs
  obtain ⟨t,rfl⟩:=ru
  exact PySem.W.KIN.call_text hn hl ⟨.int n,H,I.tok _,⟨_,rfl⟩,k _ H ⟨_,M,bO,hm,.refl H,q⟩⟩
theorem zN:∀ {ss:List Str} {its:List Value},bS (ss.map V.str) its->∃ l:List (Str × Tok),its = strValues l/\l.map (·.1) = ss
 | [],_,.nil=>⟨[],rfl,rfl⟩
 | x :: ss,_,.cons r rr=>by
  obtain ⟨t,rfl⟩:=r
  obtain ⟨l,e1,e2⟩:=zN rr
  exact ⟨(x,t) :: l,by rw [e1];rfl,by rw [map_cons,e2]⟩
theorem aAi:∀ (ss:List Str) (tk:Nat),bS (ss.map V.str) (strsFrom tk ss)
 | [],_=>.nil
 | x :: ss,tk=>.cons ⟨tk,rfl⟩ (aAi ss (tk + 1))
theorem aCc (n:Nat):∀ (ss:List Str) (a:Nat),ss.foldl (fun acc p=>acc + p.length + n) a = a + (ss.map (·.length)).sum + ss.length * n
 | [],a=>by simp
 | x :: ss,a=>by
  rw [foldl_cons,aCc n ss,map_cons,sum_cons,length_cons,Nat.add_mul]
  omega
def aMv:V->List V->Hp->VK->Prop:=fun x vs H Q=>∃ sep a ss,x = .str sep/\vs = [.ref a]/\H a = some (.lst (ss.map V.str))/\(ss.map (·.length)).sum + ss.length * sep.length<=1000000/\Q (.str (glued sep ss)) H
theorem aHW:MtM X "str.join" aMv:=by
 intro pins s σ H x vs v us Q I rx rv ⟨sep,a,ss,e1,e2,hH,hl,q⟩
 subst e1 e2
 obtain ⟨t,rfl⟩:=rx
 obtain ⟨u,rfl,ru⟩:=rv.one
 cases ru
 obtain ⟨z,its,n,r,hz,e⟩:=I.lstM hH
 obtain ⟨l,rfl,rfl⟩:=zN r
 refine call_meets PySem.F.slot_str_join (typeIs_str _ _ _) PySem.F.entry_str_join (PySem.F.args_str_join_2 _ _) (meets_str_join_list sep t a l ?_) ⟨⟨_,e,rfl,_,rfl⟩,?_⟩
 ·unfold Builtin.Str.tooLong
  rw [List.foldl_toArray,aCc]
  have:=aEp hl
  exact decide_eq_false (by omega)
 ·match l,q with
  | [p],q=>exact ⟨.str p.1,H,I,⟨_,rfl⟩,q⟩
  | [],q=>exact ⟨Nat.zero_le _,.str _,H,I.tok _,⟨_,rfl⟩,q⟩
  | p :: p2 :: l,q =>
   refine ⟨?_,.str _,H,I.tok _,⟨_,rfl⟩,q⟩
   refine aEp ?_
   rw [size_glued,length_map]
   rw [length_map] at hl
   rw [Nat.sub_mul]
   omega
def aKw:V->List V->Hp->VK->Prop:=fun x vs H Q=>∃ y c ss,x = .str y/\vs = [.str (Ty.one c)]/\y = glued (Ty.one c) ss/\ss ≠ []/\(∀ s ∈ ss,c ∉ Ty.cl s)/\c < 256/\y.length<=900000/\∀ p,H p = none->Q (.ref p) (upd H p (.lst (ss.map V.str)))
theorem aFj:MtM X "str.split" aKw:=by
 intro pins s σ H x vs v us Q I rx rv ⟨y,c,ss,e1,e2,hy,n0,hn,hc,hl,q⟩
 subst e1 e2
 obtain ⟨t,rfl⟩:=rx
 obtain ⟨u,rfl,ru⟩:=rv.one
 obtain ⟨t2,rfl⟩:=ru
 have sp:=Ty.split_eq hy n0 hn
 have lz:ss.length<=sizeLine:=by
  have:=Ty.parts_len y (occurrences y (Ty.one c) 0 y.length (y.length + 1)) (Ty.one c).length
  rw [sp] at this
  have h2:=PySem.StrLaws.occ_length_le y (Ty.one c) 0 y.length (y.length + 1)
  refine aEp ?_
  omega
 have fin:∀ (its:List Value) (tk:Nat),bS (ss.map V.str) its->EP X pins σ Q (.ref s.heap.objs.size) { s with heap:=s.heap.push { cls:=.type "list",data:=.seq its.toArray },toks:=tk }:=fun its tk hv =>
  ⟨.ref _,_,I.lnew hv (by rw [length_map];exact lz),rfl,q _ I.fresh⟩
 by_cases ho:(occurrences y (Ty.one c) 0 y.length (y.length + 1)).isEmpty = true
 ·have e0:occurrences y (Ty.one c) 0 y.length (y.length + 1) = []:=List.isEmpty_iff.mp ho
  have es:ss = [y]:=by
   rw [e0] at sp
   rw [<- sp]
   show [strSub y 0 y.length] = [y]
   rw [show strSub y 0 y.length = y from Ty.ext (by rw [Ty.cl_sub,drop_zero,Nat.sub_zero,Ty.len_cl,take_length])]
  have fin1:=fin [.str y t] s.toks (by rw [es];exact .cons ⟨t,rfl⟩ .nil)
  by_cases h1:(decide (y.length < (Ty.one c).length) || decide (Builtin.Str.strKind y < Builtin.Str.strKind (Ty.one c))) = true
  ·exact call_meets PySem.F.slot_str_split (typeIs_str _ _ _) PySem.F.entry_str_split (PySem.F.args_str_split_2 _ _) (meets_str_split_cannot_occur y (Ty.one c) t t2 h1) fin1
  ·exact call_meets PySem.F.slot_str_split (typeIs_str _ _ _) PySem.F.entry_str_split (PySem.F.args_str_split_2 _ _) (meets_str_split_not_found y (Ty.one c) t t2 (by simpa using h1) rfl ho) fin1
 ·have ho':(occurrences y (Ty.one c) 0 y.length (y.length + 1)).isEmpty = false:=by simpa using ho
  have l1:1<=y.length:=by
   have h2:=Ty.occ_count y c
   have h3:(occurrences y (Ty.one c) 0 y.length (y.length + 1)).length ≠ 0:=fun z=>ho (by rw [List.length_eq_zero_iff.mp z];rfl)
   have h4:=List.count_le_length (a:=c) (l:=Ty.cl y)
   rw [Ty.len_cl]
   omega
  have kc:Builtin.Str.strKind (Ty.one c) = 1:=by
   unfold Builtin.Str.strKind
   rw [if_pos (by simpa using hc)]
  have ky:1<=Builtin.Str.strKind y:=by
   unfold Builtin.Str.strKind
   split
   ·exact Nat.le_refl _
   ·split<;>decide
  have h1:(decide (y.length < (Ty.one c).length) || decide (Builtin.Str.strKind y < Builtin.Str.strKind (Ty.one c))) = false:=by
   rw [kc,decide_eq_false (show ¬ y.length < (Ty.one c).length by show ¬ y.length < 1;omega),decide_eq_false (by omega)];rfl
  refine call_meets PySem.F.slot_str_split (typeIs_str _ _ _) PySem.F.entry_str_split (PySem.F.args_str_split_2 _ _) (meets_str_split_sep y (Ty.one c) t t2 h1 rfl ho' (aEp (by omega)) (by rw [sp];exact lz)) ?_
  rw [sp]
  exact fin _ _ (aAi ss _)
def aMA:V->List V->Hp->VK->Prop:=fun x vs H Q=>∃ y c,x = .str y/\vs = [.str (Ty.one c)]/\y.length<=900000 /\
 (
  (c ∉ Ty.cl y/\∀ p,H p = none->Q (.ref p) (upd H p (.tup [.str y,.str Str.empty,.str Str.empty]))) ∨
  (∃ a b:Str,Ty.cl y = Ty.cl a ++ c :: Ty.cl b/\c ∉ Ty.cl a/\∀ p,H p = none->Q (.ref p) (upd H p (.tup [.str a,.str (Ty.one c),.str b]))))
theorem aHh:MtM X "str.partition" aMA:=by
 intro pins s σ H x vs v us Q I rx rv ⟨y,c,e1,e2,hl,q⟩
 subst e1 e2
 obtain ⟨t,rfl⟩:=rx
 obtain ⟨u,rfl,ru⟩:=rv.one
 obtain ⟨t2,rfl⟩:=ru
 refine call_meets PySem.F.slot_str_partition (typeIs_str _ _ _) PySem.F.entry_str_partition (PySem.F.args_str_partition_2 _ _) (meets_str_partition y (Ty.one c) t t2 rfl (aEp (by omega))) ?_
 rcases q with ⟨hc,q⟩ | ⟨a,b,hy,hc,q⟩
 ·rw [Ty.part_none hc]
  exact ⟨.ref _,_,I.laid (t':=s.toks + 1) (o:=.tup [.str y,.str Str.empty,.str Str.empty]) (fun b ob q=>Heap.get?_push_of_some _ q) (Nat.le_refl _) ⟨(show (3:Nat)<=sizeLine by decide),_,.cons ⟨_,rfl⟩ (.cons ⟨_,rfl⟩ (.cons ⟨_,rfl⟩ .nil)),IsTup.new _ _⟩,rfl,q _ I.fresh⟩
 ·rw [Ty.part_found hy hc]
  have ea:strSub y 0 (Ty.cl a).length = a:=Ty.ext (by rw [Ty.cl_sub,drop_zero,Nat.sub_zero,hy,List.take_left])
  have eb:strSub y ((Ty.cl a).length + (Ty.one c).length) y.length = b:=Ty.ext (by
   rw [Ty.cl_sub,hy,show (Ty.cl a).length + (Ty.one c).length = (Ty.cl a ++ [c]).length by rw [length_append];rfl,show Ty.cl a ++ c :: Ty.cl b = (Ty.cl a ++ [c]) ++ Ty.cl b by rw [append_assoc];rfl,List.drop_left]
   refine take_of_length_le ?_
   rw [Ty.len_cl,hy]
   rw [length_append,length_append,length_cons,length_cons,length_nil]
   omega)
  show EP X pins σ Q (.ref s.heap.objs.size) { s with toks:=s.toks + 1 + 1,heap:=s.heap.push { cls:=.type "tuple",data:=.seq [.str (strSub y 0 (Ty.cl a).length) s.toks,.str (Ty.one c) t2,.str (strSub y ((Ty.cl a).length + (Ty.one c).length) y.length) (s.toks + 1)].toArray } }
  rw [ea,eb]
  exact ⟨.ref _,_,I.laid (t':=s.toks + 1 + 1) (o:=.tup [.str a,.str (Ty.one c),.str b]) (fun b ob q=>Heap.get?_push_of_some _ q) (Nat.le_refl _) ⟨(show (3:Nat)<=sizeLine by decide),_,.cons ⟨_,rfl⟩ (.cons ⟨_,rfl⟩ (.cons ⟨_,rfl⟩ .nil)),IsTup.new _ _⟩,rfl,q _ I.fresh⟩
noncomputable def startB (x y:Str):Bool:=decide (0 + y.length<=x.length) && subAt x y 0
def aJZ:V->List V->Hp->VK->Prop:=fun x vs H Q=>∃ y z,x = .str y/\vs = [.str z]/\Q (.bl (startB y z)) H
theorem aFF:MtM X "str.startswith" aJZ:=by
 intro pins s σ H x vs v us Q I rx rv ⟨y,z,e1,e2,q⟩
 subst e1 e2
 obtain ⟨t,rfl⟩:=rx
 obtain ⟨u,rfl,ru⟩:=rv.one
 obtain ⟨t2,rfl⟩:=ru
 exact call_gives PySem.F.slot_str_startswith (typeIs_str _ _ _) PySem.F.entry_str_startswith (PySem.F.args_str_startswith_2 _ _) (gives_str_startswith y z t t2) ⟨.bl _,H,I,rfl,q⟩
noncomputable def ascB (x:Str):Bool:=x.cps.all (· < 128)
noncomputable def digB (x:Str):Bool:=x.length > 0 && x.cps.all Unicode.isDigit
def aOw:V->List V->Hp->VK->Prop:=fun x vs H Q=>∃ y,x = .str y/\vs = []/\Q (.bl (ascB y)) H
def aOJ:V->List V->Hp->VK->Prop:=fun x vs H Q=>∃ y,x = .str y/\vs = []/\Q (.bl (digB y)) H
theorem aKy:MtM X "str.isascii" aOw:=by
 intro pins s σ H x vs v us Q I rx rv ⟨y,e1,e2,q⟩
 subst e1 e2
 obtain ⟨t,rfl⟩:=rx
 obtain rfl:=rv.zero
 exact call_gives PySem.F.slot_str_isascii (typeIs_str _ _ _) PySem.F.entry_str_isascii (PySem.F.args_str_isascii_1 _) (gives_str_isascii y t) ⟨.bl _,H,I,rfl,q⟩
theorem aKi:MtM X "str.isdigit" aOJ:=by
 intro pins s σ H x vs v us Q I rx rv ⟨y,e1,e2,q⟩
 subst e1 e2
 obtain ⟨t,rfl⟩:=rx
 obtain rfl:=rv.zero
 exact call_gives PySem.F.slot_str_isdigit (typeIs_str _ _ _) PySem.F.entry_str_isdigit (PySem.F.args_str_isdigit_1 _) (gives_str_isdigit y t) ⟨.bl _,H,I,rfl,q⟩
theorem aHt:SlR X fun x lo hi H Q=>∃ y i,x = .str y/\lo = some i/\hi = none/\y.length<=1000000/\Q (.str (Txt.slice y (some i) none)) H:=by
 intro pins s σ H x v vl vu lo hi sl Q I rx hs pl pu ⟨y,i,e1,e2,e3,hl,q⟩
 subst e1 e2 e3
 obtain ⟨t,rfl⟩:=rx
 cases pl with
 | int _ tl =>
  cases pu
  exact ⟨"str",_,PySem.F.slot_str_getitem.lookup,typeIs_str _ _ _,wpAny_getItem_str_slice (l:=some (i,tl)) (u:=none) (st:=none) hs rfl (post_val_or_str ⟨Nat.le_trans (Txt.slice_le y _ _) (aEp hl),fun t' k=>⟨.str _,H,I.tok _,⟨_,rfl⟩,q⟩⟩)⟩
end
open PySem.Builtin.Str (glued)
section
variable {prog:Program} {w:World} {A:Around} {E:Value->Shared->Prop} {s:Shared}
theorem aCa (hh:A.handled = none) (I l:Addr) (hne:l ≠ I) (items:Array Value) (h1:1<=items.size) :
  Walks prog w A I [I,l] [I] (items.size - 1) (fun i v=>items[1 + i]? = some v) (fun i h=>h.IsListIter I l (1 + i)/\h.IsList l items) where
 sub:=fun b hb=>by simp at hb;simp [hb]
 frame:=fun _ _ _ x hk=>⟨x.1.at fun o e=>hk I (by simp) o e,x.2.at fun o e=>hk l (by simp) o e⟩
 item:=fun i s Q E hi x hQ=>by
  have hx:items[1 + i]? = some (items[1 + i]'(by omega)):=Array.getElem?_eq_getElem (by omega)
  refine wpAny_pyNext_list_item x.1 x.2 hx fun h' hit' hs'=>?_
  exact hQ _ h' s.toks hx ⟨hit',x.2.at fun o eo=>(hs'.2 l hne).trans eo⟩ fun b o hb eo=>hs'.extBut b o (fun h=>hb (by simp [h])) eo
 done:=fun s Q E x hQ=>by
  exact wpAny_pyNext_list_end hh x.1 x.2 (by rw [Array.getElem?_eq_none];omega) fun h' he'=>hQ h' s.toks fun b o hb eo=>he' b o (fun h=>hb (by simp [h])) eo
 self:=fun _ _ _ _ x hQ=>wpAny_pyIter_listiter x.1 hQ
theorem vR {t:Addr} {v0:Value} {vs:List Value} {Q:List Value->Shared->Prop} (hh:A.handled = none) (ht:s.heap.IsList t (v0 :: vs).toArray) (hz:vs.length<=sizeLine)
  (hQ:∀ (h':Heap) (tk:Nat),(∀ b o,s.heap.get? b = some o->h'.get? b = some o)->Q [v0,.ref h'.objs.size] { s with heap:=h'.push { cls:=.type "list",data:=.seq vs.toArray },toks:=tk }):wpAny (model prog w) A (unpackItems (.ref t) 2 (some 1)) Q E s:=by
 have hlt:t ≠ s.heap.objs.size:=by obtain ⟨o,ho,_⟩:=ht;exact Nat.ne_of_lt (Heap.lt_size ho)
 unfold unpackItems
 refine wpAny_bind ?_
 ·unfold notIterableAtAll
  refine wpAny_bind (wpAny_specialOf ht.typeIs slot_list_iter.lookup ?_)
  refine wpAny_pure ?_
  simp only [Bool.false_eq_true,if_false]
  refine wpAny_bind (wpAny_holding (wpAny_pyIter_list ht ?_))
  refine wpAny_bind (wpAny_holding (uW hlt 1 0 _ _ ⟨_,Heap.get?_push_size _ rfl,rfl,rfl⟩ (lN ht _) (by simp) fun h₁ hit₁ hs₁=>?_))
  have hall:List.take 1 (List.drop 0 (v0 :: vs).toArray.toList) = [v0]:=rfl
  rw [hall]
  rw [if_neg (by simp)]
  have ht₁:h₁.IsList t (v0 :: vs).toArray:=rG (lN ht _) hs₁ hlt
  have W:=(aCa (prog:=prog) (w:=w) (A:=A.in1) hh s.heap.objs.size t hlt (v0 :: vs).toArray (by simp)).toS
  refine wpAny_bind (wpAny_holding (wpAny_collect_iter (T:="list_iterator") (.inr (.inr (.inl rfl))) W ?_ ?_ ?_ (by simp) ?_ ?_))
  ·intro i s' x
   exact x.1.typeIs
  ·exact ⟨hit₁,ht₁⟩
  ·intro b hb
   have le:s.heap.objs.size < h₁.objs.size:=Heap.lt_size hit₁.choose_spec.1
   rcases List.mem_cons.mp hb with rfl | hb
   ·exact le
   ·rw [List.mem_singleton.mp hb]
    exact Heap.lt_size ht₁.choose_spec.1
  ·intro s' acc mv it
   have ea:acc.toList = vs:=by
    refine List.ext_getElem? fun j=>?_
    have hs:=it.1
    by_cases hj:j < acc.size
    ·have e1:acc[j]? = some acc[j]:=Array.getElem?_eq_getElem hj
     have e2:=it.2 j _ e1
     rw [Array.getElem?_toList,e1,<- e2,List.getElem?_toArray,Nat.add_comm 1 j,List.getElem?_cons_succ]
    ·have hl:acc.size = vs.length:=by rw [hs];simp
     rw [List.getElem?_eq_none (by rw [Array.length_toList];omega),List.getElem?_eq_none (by omega)]
   rw [ea]
   rw [if_neg (by omega),show 2 - 1 - 1 = 0 from rfl,Nat.sub_zero,take_length,List.drop_length]
   refine wpAny_bind (wpAny_newList ?_ hz)
   refine wpAny_pure ?_
   have es:s' = { s with heap:=s'.heap,toks:=s'.toks }:=by
    obtain ⟨hp,gg,dd,tt,oo⟩:=s'
    have g1:=mv.gens
    have g2:=mv.drawn
    have g3:=mv.os
    dsimp only at g1 g2 g3
    subst g1 g2 g3
    rfl
   rw [es]
   refine hQ s'.heap s'.toks fun b o e=>?_
   have nb:b ≠ s.heap.objs.size:=Nat.ne_of_lt (Heap.lt_size e)
   exact mv.heap b o (by simp [nb]) (hs₁.extBut b o nb (Heap.get?_push_of_some _ e))
  ·simp;exact hz
end
section
variable {X:Cx} {pos:Pos} {e a b o e1 e2 e3:Expr} {es:List Expr} {te ta tb to t1 t2 t3:DE} {apos cpos:Pos}
def aFh (t:DGs):DG:=fun d ρ M Q=>match d with
 | .ref a=>∃ d0 ds,M a = some (d0 :: ds)/\∀ p:Addr,M p = none->t [d0,.ref p] ρ (bG M p ds) Q
 | _=>False
theorem aIf {k:Nat} {t:DGs} {ps:Pos} (hc:X.calm = true) (h:aAy X [e1,e2] t) (heq:(assignEach [e1,.Starred e2 ps] X.env).map (·.2) = (assignEach [e1,e2] X.env).map (·.2):=by rfl)
  (hn:(assignEach [e1,.Starred e2 ps] X.env).length = 2:=by rfl) (hst:(assignEach [e1,.Starred e2 ps] X.env).findIdx? (·.1) = some 1:=by rfl):PDG X (.Tuple [e1,.Starred e2 ps] k pos) (aFh t):=by
 intro pins s σ H v u Q I r ⟨d,ρ,M,Q',rd,re,hm,q,k'⟩
 match d,q with
 | .ref p,q =>
  obtain ⟨d0,ds,hp,q⟩:=q
  obtain rfl:=aV rd
  cases r
  obtain ⟨us,hu,ru⟩:=hm.l p _ hp
  obtain ⟨u0,us',rfl,ru0,ru'⟩:=aR ru
  obtain ⟨z,its,nn,rv,hlen,e1'⟩:=I.lstM hu
  obtain ⟨v0,vs,rfl,rv0,rvs⟩:∃ v0 vs,its = v0 :: vs/\cF u0 v0/\bS us' vs:=by cases rv with | cons r t=>exact ⟨_,_,rfl,r,t⟩
  rw [assign_Tuple]
  refine wpAny_bind (wpAny_standAt ?_)
  unfold unpack
  rw [hn,hst]
  have hz:us'.length<=sizeLine:=by rw [length_cons] at z;omega
  refine wpAny_bind (wpAny_holding (vR (I.ok.hd hc) ⟨_,e1',rfl,_,rfl⟩ (by rw [<- rvs.length];exact hz) fun h' tk hk=>?_))
  rw [heq]
  have I1:Inv X pins σ H { s with heap:=h',toks:=tk }:=I.kept (t':=tk) fun b o e=>hk b o e
  have I2:=I1.lnew (t':=tk) rvs hz
  have hn1:=I1.fresh
  exact h pins _ σ _ [u0,.ref h'.objs.size] [v0,.ref h'.objs.size] Q I2 (.cons rv0 (.cons rfl .nil)) ⟨[d0,.ref h'.objs.size],ρ,bG M h'.objs.size ds,Q',bH (ru0.ext (Ext.new hn1 _)) (bH eS cG),re.ext (Ext.new hn1 _),hm.lnew hn1 ru',q _ (hm.fresh hn1),fun σ' H' ⟨ρ2,M2,r2,hm2,ex2,q2⟩=>k' σ' H' ⟨ρ2,M2,r2,hm2,(Ext.new hn1 _).trans ex2,q2⟩⟩
theorem aAf {K:Frag} {H:Hp}:∀ {ss:List Str} {us:List V},bT K H (ss.map D.str) us->us = ss.map V.str
 | [],us,r=>by rw [bD r];rfl
 | x :: ss,us,r=>by
  obtain ⟨v,r2,rfl,hv,hr⟩:=aR r
  obtain rfl:=bF hv
  rw [aAf hr];rfl
theorem zV {K:Frag} {H:Hp}:∀ (ss:List Str),bT K H (ss.map D.str) (ss.map V.str)
 | []=>cG
 | x :: ss=>bH hG (zV ss)
def aJi (sep:Str) (Q:DQ) (ds:List D) (M2:DM):Prop:=match ds with
 | [.ref a]=>∃ ss:List Str,M2 a = some (ss.map D.str)/\(ss.map (·.length)).sum + ss.length * sep.length<=1000000/\Q (.str (glued sep ss)) M2
 | _=>False
def aFD (to te:DE):DE:=fun ρ M Q=>to ρ M fun x M1=>match x with
 | .str sep=>iN te lG ρ M1 (aJi sep Q)
 | _=>False
theorem aIv (ho:PDE X o to) (he:PDE X e te) (hse:starEach [e] X.env = (false,eval e X.env) :: starEach [] X.env:=by rfl)
  (hbase:attributeBase o "join" X.env (eval o X.env) = eval o X.env:=by rfl)
  (hfew:((backTo cpos (starEach [e] X.env)).all (fun x=>!x.1) && (backToKw cpos (keywordEach [] X.env)).all (fun x=>x.1.isSome)
   && decide ([e].length + ([]:List Keyword).length + (if ([]:List Keyword).isEmpty then 0 else 1) < 30)) = true:=by rfl)
  (hline:(apos.endLine == cpos.line) = true:=by rfl) (hplain:(backTo cpos (starEach [] X.env)).any (·.1) = false:=by rfl) :
  PDE X (.Call (.Attribute o "join" apos) [e] [] cpos) (aFD to te) :=
 bW (xW PySem.F.plainAttrs_str PySem.F.slot_str_join PySem.F.type_str_join aHW ho (iU he lA hse) hbase hfew hline hse hplain) fun σ H Q ⟨ρ,M,Q',re,hm,q,k⟩=>⟨ρ,M,_,re,hm,q,fun v H1 ⟨d,M1,rd,hm1,e1,q1⟩=>by
  match d,q1 with
  | .str sep,q1 =>
   obtain rfl:=bF rd
   refine ⟨rfl,ρ,M1,_,re.ext e1,hm1,q1,fun vs H2 ⟨dvs,M2,rs,hm2,e2,q2⟩=>?_⟩
   match dvs,q2 with
   | [.ref a],q2 =>
    obtain ⟨ss,ha,hl,q2⟩:=q2
    obtain ⟨w,rfl,rw'⟩:=dR rs
    obtain rfl:=aV rw'
    obtain ⟨us,hu,ru⟩:=hm2.l a _ ha
    obtain rfl:=aAf ru
    exact ⟨sep,a,ss,rfl,rfl,hu,hl,k _ _ ⟨_,M2,hG,hm2,e1.trans e2,q2⟩⟩⟩
def aFr (y:Str) (Q:DQ) (ds:List D) (M2:DM):Prop:=match ds with
 | [.str z]=>∃ c ss,z = Ty.one c/\y = glued (Ty.one c) ss/\ss ≠ []/\(∀ s ∈ ss,c ∉ Ty.cl s)/\c < 256/\y.length<=900000/\∀ p:Addr,M2 p = none->Q (.ref p) (bG M2 p (ss.map D.str))
 | _=>False
def aCV (to te:DE):DE:=fun ρ M Q=>to ρ M fun x M1=>match x with
 | .str y=>iN te lG ρ M1 (aFr y Q)
 | _=>False
theorem aGg (ho:PDE X o to) (he:PDE X e te) (hse:starEach [e] X.env = (false,eval e X.env) :: starEach [] X.env:=by rfl)
  (hbase:attributeBase o "split" X.env (eval o X.env) = eval o X.env:=by rfl)
  (hfew:((backTo cpos (starEach [e] X.env)).all (fun x=>!x.1) && (backToKw cpos (keywordEach [] X.env)).all (fun x=>x.1.isSome)
   && decide ([e].length + ([]:List Keyword).length + (if ([]:List Keyword).isEmpty then 0 else 1) < 30)) = true:=by rfl)
  (hline:(apos.endLine == cpos.line) = true:=by rfl) (hplain:(backTo cpos (starEach [] X.env)).any (·.1) = false:=by rfl) :
  PDE X (.Call (.Attribute o "split" apos) [e] [] cpos) (aCV to te) :=
 bW (xW PySem.F.plainAttrs_str PySem.F.slot_str_split PySem.F.type_str_split aFj ho (iU he lA hse) hbase hfew hline hse hplain) fun σ H Q ⟨ρ,M,Q',re,hm,q,k⟩=>⟨ρ,M,_,re,hm,q,fun v H1 ⟨d,M1,rd,hm1,e1,q1⟩=>by
  match d,q1 with
  | .str y,q1 =>
   obtain rfl:=bF rd
   refine ⟨rfl,ρ,M1,_,re.ext e1,hm1,q1,fun vs H2 ⟨dvs,M2,rs,hm2,e2,q2⟩=>?_⟩
   match dvs,q2 with
   | [.str z],q2 =>
    obtain ⟨c,ss,ez,ey,n0,hn,hc,hl,q2⟩:=q2
    obtain ⟨w,rfl,rw'⟩:=dR rs
    obtain rfl:=bF rw'
    exact ⟨y,c,ss,rfl,by rw [ez],ey,n0,hn,hc,hl,fun p hp=>k _ _ ⟨.ref p,_,eS,hm2.lnew hp (zV ss),(e1.trans e2).trans (Ext.new hp _),q2 p (hm2.fresh hp)⟩⟩⟩
def aI1 (y:Str) (Q:DQ) (ds:List D) (M2:DM):Prop:=match ds with
 | [.str z]=>∃ c,z = Ty.one c/\y.length<=900000/\((c ∉ Ty.cl y/\Q (.tup [.str y,.str Str.empty,.str Str.empty]) M2) ∨ (∃ a b:Str,Ty.cl y = Ty.cl a ++ c :: Ty.cl b/\c ∉ Ty.cl a/\Q (.tup [.str a,.str (Ty.one c),.str b]) M2))
 | _=>False
def aFP (to te:DE):DE:=fun ρ M Q=>to ρ M fun x M1=>match x with
 | .str y=>iN te lG ρ M1 (aI1 y Q)
 | _=>False
theorem aIJ (ho:PDE X o to) (he:PDE X e te) (hse:starEach [e] X.env = (false,eval e X.env) :: starEach [] X.env:=by rfl)
  (hbase:attributeBase o "partition" X.env (eval o X.env) = eval o X.env:=by rfl)
  (hfew:((backTo cpos (starEach [e] X.env)).all (fun x=>!x.1) && (backToKw cpos (keywordEach [] X.env)).all (fun x=>x.1.isSome)
   && decide ([e].length + ([]:List Keyword).length + (if ([]:List Keyword).isEmpty then 0 else 1) < 30)) = true:=by rfl)
  (hline:(apos.endLine == cpos.line) = true:=by rfl) (hplain:(backTo cpos (starEach [] X.env)).any (·.1) = false:=by rfl) :
  PDE X (.Call (.Attribute o "partition" apos) [e] [] cpos) (aFP to te) :=
 bW (xW PySem.F.plainAttrs_str PySem.F.slot_str_partition PySem.F.type_str_partition aHh ho (iU he lA hse) hbase hfew hline hse hplain) fun σ H Q ⟨ρ,M,Q',re,hm,q,k⟩=>⟨ρ,M,_,re,hm,q,fun v H1 ⟨d,M1,rd,hm1,e1,q1⟩=>by
  match d,q1 with
  | .str y,q1 =>
   obtain rfl:=bF rd
   refine ⟨rfl,ρ,M1,_,re.ext e1,hm1,q1,fun vs H2 ⟨dvs,M2,rs,hm2,e2,q2⟩=>?_⟩
   match dvs,q2 with
   | [.str z],q2 =>
    obtain ⟨c,ez,hl,q2⟩:=q2
    obtain ⟨w,rfl,rw'⟩:=dR rs
    obtain rfl:=bF rw'
    refine ⟨y,c,rfl,by rw [ez],hl,?_⟩
    rcases q2 with ⟨hc,q2⟩ | ⟨a,b,hy,hc,q2⟩
    ·exact .inl ⟨hc,fun p hp=>k _ _ ⟨.tup _,M2,cJ (.of dB) (bH hG (bH hG (bH hG cG))),hm2.new hp _,(e1.trans e2).trans (Ext.new hp _),q2⟩⟩
    ·exact .inr ⟨a,b,hy,hc,fun p hp=>k _ _ ⟨.tup _,M2,cJ (.of dB) (bH hG (bH hG (bH hG cG))),hm2.new hp _,(e1.trans e2).trans (Ext.new hp _),q2⟩⟩⟩
def aG1 (y:Str) (Q:DQ) (ds:List D) (M2:DM):Prop:=match ds with
 | [.str z]=>Q (.bl (startB y z)) M2
 | _=>False
def aCs (to te:DE):DE:=fun ρ M Q=>to ρ M fun x M1=>match x with
 | .str y=>iN te lG ρ M1 (aG1 y Q)
 | _=>False
theorem aGK (ho:PDE X o to) (he:PDE X e te) (hse:starEach [e] X.env = (false,eval e X.env) :: starEach [] X.env:=by rfl)
  (hbase:attributeBase o "startswith" X.env (eval o X.env) = eval o X.env:=by rfl)
  (hfew:((backTo cpos (starEach [e] X.env)).all (fun x=>!x.1) && (backToKw cpos (keywordEach [] X.env)).all (fun x=>x.1.isSome)
   && decide ([e].length + ([]:List Keyword).length + (if ([]:List Keyword).isEmpty then 0 else 1) < 30)) = true:=by rfl)
  (hline:(apos.endLine == cpos.line) = true:=by rfl) (hplain:(backTo cpos (starEach [] X.env)).any (·.1) = false:=by rfl) :
  PDE X (.Call (.Attribute o "startswith" apos) [e] [] cpos) (aCs to te) :=
 bW (xW PySem.F.plainAttrs_str PySem.F.slot_str_startswith PySem.F.type_str_startswith aFF ho (iU he lA hse) hbase hfew hline hse hplain) fun σ H Q ⟨ρ,M,Q',re,hm,q,k⟩=>⟨ρ,M,_,re,hm,q,fun v H1 ⟨d,M1,rd,hm1,e1,q1⟩=>by
  match d,q1 with
  | .str y,q1 =>
   obtain rfl:=bF rd
   refine ⟨rfl,ρ,M1,_,re.ext e1,hm1,q1,fun vs H2 ⟨dvs,M2,rs,hm2,e2,q2⟩=>?_⟩
   match dvs,q2 with
   | [.str z],q2 =>
    obtain ⟨w,rfl,rw'⟩:=dR rs
    obtain rfl:=bF rw'
    exact ⟨y,z,rfl,rfl,k _ _ ⟨_,M2,cQ,hm2,e1.trans e2,q2⟩⟩⟩
def aK4 (to:DE):DE:=fun ρ M Q=>to ρ M fun x M1=>match x with
 | .str y=>Q (.bl (ascB y)) M1
 | _=>False
def aLu (to:DE):DE:=fun ρ M Q=>to ρ M fun x M1=>match x with
 | .str y=>Q (.bl (digB y)) M1
 | _=>False
theorem aKK (ho:PDE X o to) (hbase:attributeBase o "isascii" X.env (eval o X.env) = eval o X.env:=by rfl) (hline:(apos.endLine == cpos.line) = true:=by rfl) :
  PDE X (.Call (.Attribute o "isascii" apos) [] [] cpos) (aK4 to) :=
 bW (aC5 PySem.F.plainAttrs_str PySem.F.slot_str_isascii PySem.F.type_str_isascii aKy ho hbase hline) fun σ H Q ⟨ρ,M,Q',re,hm,q,k⟩=>⟨ρ,M,_,re,hm,q,fun v H1 ⟨d,M1,rd,hm1,e1,q1⟩=>by
  match d,q1 with
  | .str y,q1 =>
   obtain rfl:=bF rd
   exact ⟨rfl,y,rfl,rfl,k _ _ ⟨_,M1,cQ,hm1,e1,q1⟩⟩⟩
theorem aJ5 (ho:PDE X o to) (hbase:attributeBase o "isdigit" X.env (eval o X.env) = eval o X.env:=by rfl) (hline:(apos.endLine == cpos.line) = true:=by rfl) :
  PDE X (.Call (.Attribute o "isdigit" apos) [] [] cpos) (aLu to) :=
 bW (aC5 PySem.F.plainAttrs_str PySem.F.slot_str_isdigit PySem.F.type_str_isdigit aKi ho hbase hline) fun σ H Q ⟨ρ,M,Q',re,hm,q,k⟩=>⟨ρ,M,_,re,hm,q,fun v H1 ⟨d,M1,rd,hm1,e1,q1⟩=>by
  match d,q1 with
  | .str y,q1 =>
   obtain rfl:=bF rd
   exact ⟨rfl,y,rfl,rfl,k _ _ ⟨_,M1,cQ,hm1,e1,q1⟩⟩⟩
end
section
variable {X:Cx} {pos p0 p1 p2 p3 p4:Pos} {e e1 e2:Expr} {te t1 t2:DE} {lo hi:Option Expr} {tl th:DO} {c:Str}
def aI7 (x:D) (lo hi:Option Int) (M:DM) (Q:DQ):Prop:=match x,lo,hi with
 | .str y,some i,none=>y.length<=1000000/\Q (.str (Txt.slice y (some i) none)) M
 | _,_,_=>False
def aLx (te:DE) (tl th:DO):DE:=fun ρ M Q=>te ρ M fun x M1=>tl ρ M1 fun l M2=>th ρ M2 fun h M3=>aI7 x l h M3 Q
theorem aD9 (he:PDE X e te) (hl:PO X lo (xQ X.K tl)) (hu:PO X hi (xQ X.K th)):PDE X (.Subscript e (.Slice lo hi none p2) pos) (aLx te tl th) :=
 bW (wW aHt he hl hu) fun σ H Q ⟨ρ,M,Q',re,hm,q,k⟩=>⟨ρ,M,_,re,hm,q,fun v H1 ⟨d,M1,rd,hm1,e1,q1⟩=>⟨ρ,M1,_,re.ext e1,hm1,q1,fun l H2 ⟨M2,hm2,e2,q2⟩=>⟨ρ,M2,_,(re.ext e1).ext e2,hm2,q2,fun h H3 ⟨M3,hm3,e3,q3⟩=>by
  match d,l,h,q3 with
  | .str y,some i,none,q3 =>
   obtain rfl:=bF rd
   exact ⟨y,i,rfl,rfl,rfl,q3.1,k _ _ ⟨.str _,M3,hG,hm3,(e1.trans e2).trans e3,q3.2⟩⟩⟩⟩⟩
def aOr (te:DE):DE:=fun ρ M Q=>te ρ M fun x M1=>match x with
 | .int i=>i.natAbs.log2 < 1920/\Q (.str (toString i)) M1
 | _=>False
def aOg (c:Str) (te:DE):DE:=fun ρ M Q=>te ρ M fun x M1=>match x with
 | .int i=>i.natAbs.log2 < 1920/\(c ++ Str.ofString (toString i)).length<=1000000/\Q (.str (c ++ Str.ofString (toString i))) M1
 | _=>False
def aOz (c:Str) (t1 t2:DE):DE:=fun ρ M Q=>t1 ρ M fun x M1=>match x with
 | .int i=>i.natAbs.log2 < 1920/\(Str.ofString (toString i) ++ c).length<=1000000/\t2 ρ M1 fun y M2=>match y with
  | .int n=>n.natAbs.log2 < 1920/\(Str.ofString (toString i) ++ c ++ Str.ofString (toString n)).length<=1000000/\Q (.str (Str.ofString (toString i) ++ c ++ Str.ofString (toString n))) M2
  | _=>False
 | _=>False
noncomputable def aDI:Value->Bool
 | .none=>true
 | _=>false
noncomputable def xJ:D->Bool
 | .non=>true
 | _=>false
def aNo (g:Bool->Bool):D2:=fun x y M Q=>match x,y with
 | .non,.ref a=>∃ ds,M a = some ds/\ds.all (bN 60) = true/\Q (.bl (g (ds.any xJ))) M
 | _,_=>False
theorem aCJ {H:Hp} {d:D} {w:V} {y:Value} (h:Rep X.K H d w) (r:cF w y) (p:bN 60 d = true):aDI y = xJ d/\eqD d .non = xJ d:=by
 cases d with
 | non=>rw [cX h] at r;cases (show y = Value.none from r);exact ⟨rfl,rfl⟩
 | bl b=>rw [cD h] at r;cases (show y = Value.bool b from r);exact ⟨rfl,rfl⟩
 | int i=>rw [aU h] at r;obtain ⟨t,rfl⟩:=r;exact ⟨rfl,rfl⟩
 | str i=>rw [bF h] at r;obtain ⟨t,rfl⟩:=r;exact ⟨rfl,rfl⟩
 | tup xs=>obtain ⟨a,us,rfl,sq,ru⟩:=cE h;cases r;exact ⟨rfl,rfl⟩
 | fz xs=>cases p
 | ref a=>cases p
theorem aDY {H:Hp}:∀ {ds:List D} {us:List V} {its:List Value},ds.all (bN 60) = true->bT X.K H ds us->bS us its->its.any aDI = ds.any xJ
 | [],us,its,_,r,rv=>by rw [bD r] at rv;cases rv;rfl
 | d :: ds,us,its,p,r,rv=>by
  obtain ⟨w,rr,rfl,hw,hr⟩:=aR r
  rw [all_cons,Bool.and_eq_true] at p
  cases rv with
  | cons q ws=>rw [any_cons,any_cons,(aCJ hw q p.1).1,aDY p.2 hr ws]
theorem aDK {H:Hp} {pins:List (Addr × Obj)} {σ:L2.St} {s:Shared} (I:Inv X pins σ H s) {A:Around} (hu:A.units + 60 < cLine):∀ {ds:List D} {us:List V} {its:List Value},ds.all (bN 60) = true->bT X.K H ds us->bS us its->∀ y ∈ its,SeqAt.EqAt A s y .none (aDI y)
 | [],us,its,_,r,rv,y,hy=>by rw [bD r] at rv;cases rv;exact nomatch hy
 | d :: ds,us,its,p,r,rv,y,hy=>by
  obtain ⟨w,rr,rfl,hw,hr⟩:=aR r
  rw [all_cons,Bool.and_eq_true] at p
  cases rv with
  | cons q ws =>
   rcases List.mem_cons.mp hy with rfl | hy
   ·have:=aGF I 60 hu (d:=d) (d':=.non) p.1 rfl hw qP q rfl
    rw [(aCJ hw q p.1).2] at this
    rw [(aCJ hw q p.1).1];exact this
   ·exact aDK I hu p.2 hr ws y hy
theorem zZ {k:Nat} (hr:cZ k X.A):OpD X (compareOp .NotIn) (aNo not):=fun pins s σ H x y v u Q I rx ry ⟨dx,dy,M,Q',r1,r2,hm,q,k⟩=>by
 match dx,dy,q with
 | .non,.ref a,q =>
  obtain ⟨ds,ha,hp,q⟩:=q
  obtain rfl:=cX r1
  cases (show v = Value.none from rx)
  obtain rfl:=aV r2
  cases ry
  obtain ⟨us,hu,ru⟩:=hm.l a _ ha
  obtain ⟨zz,its,nn,rv,hlen,e1⟩:=I.lstM hu
  have un:=hr.un
  refine SeqAt.notIn_listAt aDI ⟨_,e1,rfl,_,rfl⟩ (fun y hy=>aDK I (by show X.A.units + 1 + 60 < cLine;omega) hp ru rv y (by simpa using hy)) ?_
  rw [<- Array.any_toList,aDY hp ru rv]
  exact ⟨.bl _,H,I,rfl,k _ H ⟨_,M,cQ,hm,.refl H,q⟩⟩
def aN6 (K:Frag) (T1 T2:String) (te:DE):DE:=fun ρ M Q=>te ρ M fun d M1=>∃ T k,tyD d = some T/\kitAny K (.type T) [.type T1,.type T2] = some k/\Q (.bl k) M1
end
section
variable {prog:Program} {w:World} {A:Around} {E:Value->Shared->Prop} {s:Shared}
end
section
variable {X:Cx} {pos:Pos} {e a b o e1 e2 e3:Expr} {es:List Expr} {te ta tb to t1 t2 t3:DE} {apos cpos:Pos}
theorem aBy {k:Nat} {t:DGs} {ps:Pos} (hc:X.calm = true) (h:ZGs X [e1,e2] t) (heq:(assignEach [e1,.Starred e2 ps] X.env).map (·.2) = (assignEach [e1,e2] X.env).map (·.2):=by rfl) (hn:(assignEach [e1,.Starred e2 ps] X.env).length = 2:=by rfl) (hst:(assignEach [e1,.Starred e2 ps] X.env).findIdx? (·.1) = some 1:=by rfl):ZG X (.Tuple [e1,.Starred e2 ps] k pos) (aFh t):=.i (aIf hc h.o heq hn hst)
theorem aB9 (ho:ZE X o to) (he:ZE X e te) (hse:starEach [e] X.env = (false,eval e X.env) :: starEach [] X.env:=by rfl) (hbase:attributeBase o "join" X.env (eval o X.env) = eval o X.env:=by rfl) (hfew:((backTo cpos (starEach [e] X.env)).all (fun x=>!x.1) && (backToKw cpos (keywordEach [] X.env)).all (fun x=>x.1.isSome)
   && decide ([e].length + ([]:List Keyword).length + (if ([]:List Keyword).isEmpty then 0 else 1) < 30)) = true:=by rfl) (hline:(apos.endLine == cpos.line) = true:=by rfl) (hplain:(backTo cpos (starEach [] X.env)).any (·.1) = false:=by rfl):ZE X (.Call (.Attribute o "join" apos) [e] [] cpos) (aFD to te):=.i (aIv ho.o he.o hse hbase hfew hline hplain)
theorem kK (ho:ZE X o to) (he:ZE X e te) (hse:starEach [e] X.env = (false,eval e X.env) :: starEach [] X.env:=by rfl) (hbase:attributeBase o "split" X.env (eval o X.env) = eval o X.env:=by rfl) (hfew:((backTo cpos (starEach [e] X.env)).all (fun x=>!x.1) && (backToKw cpos (keywordEach [] X.env)).all (fun x=>x.1.isSome)
   && decide ([e].length + ([]:List Keyword).length + (if ([]:List Keyword).isEmpty then 0 else 1) < 30)) = true:=by rfl) (hline:(apos.endLine == cpos.line) = true:=by rfl) (hplain:(backTo cpos (starEach [] X.env)).any (·.1) = false:=by rfl):ZE X (.Call (.Attribute o "split" apos) [e] [] cpos) (aCV to te):=.i (aGg ho.o he.o hse hbase hfew hline hplain)
theorem aGL (ho:ZE X o to) (he:ZE X e te) (hse:starEach [e] X.env = (false,eval e X.env) :: starEach [] X.env:=by rfl) (hbase:attributeBase o "partition" X.env (eval o X.env) = eval o X.env:=by rfl) (hfew:((backTo cpos (starEach [e] X.env)).all (fun x=>!x.1) && (backToKw cpos (keywordEach [] X.env)).all (fun x=>x.1.isSome)
   && decide ([e].length + ([]:List Keyword).length + (if ([]:List Keyword).isEmpty then 0 else 1) < 30)) = true:=by rfl) (hline:(apos.endLine == cpos.line) = true:=by rfl) (hplain:(backTo cpos (starEach [] X.env)).any (·.1) = false:=by rfl):ZE X (.Call (.Attribute o "partition" apos) [e] [] cpos) (aFP to te):=.i (aIJ ho.o he.o hse hbase hfew hline hplain)
theorem zU (ho:ZE X o to) (he:ZE X e te) (hse:starEach [e] X.env = (false,eval e X.env) :: starEach [] X.env:=by rfl) (hbase:attributeBase o "startswith" X.env (eval o X.env) = eval o X.env:=by rfl) (hfew:((backTo cpos (starEach [e] X.env)).all (fun x=>!x.1) && (backToKw cpos (keywordEach [] X.env)).all (fun x=>x.1.isSome)
   && decide ([e].length + ([]:List Keyword).length + (if ([]:List Keyword).isEmpty then 0 else 1) < 30)) = true:=by rfl) (hline:(apos.endLine == cpos.line) = true:=by rfl) (hplain:(backTo cpos (starEach [] X.env)).any (·.1) = false:=by rfl):ZE X (.Call (.Attribute o "startswith" apos) [e] [] cpos) (aCs to te):=.i (aGK ho.o he.o hse hbase hfew hline hplain)
theorem aHS (ho:ZE X o to) (hbase:attributeBase o "isascii" X.env (eval o X.env) = eval o X.env:=by rfl) (hline:(apos.endLine == cpos.line) = true:=by rfl):ZE X (.Call (.Attribute o "isascii" apos) [] [] cpos) (aK4 to):=.i (aKK ho.o hbase hline)
theorem aIu (ho:ZE X o to) (hbase:attributeBase o "isdigit" X.env (eval o X.env) = eval o X.env:=by rfl) (hline:(apos.endLine == cpos.line) = true:=by rfl):ZE X (.Call (.Attribute o "isdigit" apos) [] [] cpos) (aLu to):=.i (aJ5 ho.o hbase hline)
end
section
variable {X:Cx} {pos p0 p1 p2 p3 p4:Pos} {e e1 e2:Expr} {te t1 t2:DE} {lo hi:Option Expr} {tl th:DO} {c:Str}
theorem aCX (he:ZE X e te) (hl:ZO X lo tl) (hu:ZO X hi th):ZE X (.Subscript e (.Slice lo hi none p2) pos) (aLx te tl th):=.i (aD9 he.o hl.o hu.o)
end
end Dd
namespace Ty
open PySem PySem.Builtin.Str PySem.NumText PyProof.Rows
noncomputable def nt (n:Int):Str:=Str.ofString (toString n)
noncomputable def dg (m:Nat):List Nat:=(Nat.toDigits 10 m).map Char.toNat
theorem dg_all (m:Nat):AllDigits (dg m):=fun c hc=>by
 obtain ⟨ch,hch,e⟩:=List.mem_map.mp hc
 have r:=digit_range (Nat.isDigit_of_mem_toDigits (by decide) (by decide) hch)
 rw [<- e];exact r
theorem dg_ne (m:Nat):dg m ≠ []:=fun e=>by
 have h:=toDigits_len_ge 10 m
 rw [List.map_eq_nil_iff.mp e] at h
 exact absurd h (by decide)
theorem aGm (m:Nat):digitsVal (dg m) = m:=PySem.W.KIN.val_back m
theorem aDo {m:Nat} (h:¬ m < 10):dg m = dg (m / 10) ++ dg (m % 10):=by
 have hm:m % 10 < 10:=Nat.mod_lt m (by decide)
 have t:Nat.toDigits 10 (m / 10) ++ Nat.toDigits 10 (m % 10) = Nat.toDigits 10 (10 * (m / 10) + m % 10):=Nat.toDigits_append_toDigits (by decide) (by omega) hm
 rw [Nat.div_add_mod] at t
 unfold dg
 rw [<- t,map_append]
theorem xY {m:Nat} (h:m < 10):dg m = [48 + m]:=by
 unfold dg
 rw [Nat.toDigits_of_lt_base h]
 have:∀ d:Nat,d < 10->(Nat.digitChar d).toNat = 48 + d:=by decide
 rw [map_cons,map_nil,this m h]
theorem dg_head (m:Nat):∀ c,(dg m).head? = some c->c = 48->m = 0:=by
 induction m using Nat.strongRecOn with
 | _ m ih =>
  intro c hc e
  by_cases h:m < 10
  ·rw [xY h] at hc
   have:48 + m = c:=Option.some.inj hc
   omega
  ·rw [aDo h] at hc
   obtain ⟨y,ys,ey⟩:=List.exists_cons_of_ne_nil (dg_ne (m / 10))
   rw [ey,cons_append,List.head?_cons] at hc
   replace hc:(dg (m / 10)).head? = some c:=by rw [ey,List.head?_cons];exact hc
   have:=ih (m / 10) (by omega) c hc e
   omega
theorem aLZ (m:Nat):∀ k,1<=k->m < 10 ^ k->(dg m).length<=k:=by
 induction m using Nat.strongRecOn with
 | _ m ih =>
  intro k hk hm
  by_cases h:m < 10
  ·rw [xY h];exact hk
  ·have k2:2<=k:=by
    rcases Nat.lt_or_ge 1 k with z | z
    ·exact z
    ·have:k = 1:=by omega
     rw [this] at hm
     omega
   rw [aDo h,length_append,xY (Nat.mod_lt m (by decide))]
   have:=ih (m / 10) (by omega) (k - 1) (by omega) (by
    refine Nat.div_lt_of_lt_mul ?_
    rw [Nat.mul_comm,<- Nat.pow_succ,Nat.succ_eq_add_one,show k - 1 + 1 = k by omega]
    exact hm)
   show (dg (m / 10)).length + 1<=k
   omega
theorem aKt (m:Nat):cl (nt (m:Int)) = dg m:=PySem.W.KIN.signs_num m
theorem aJL (m:Nat):cl (nt (Int.negSucc m)) = 45 :: dg (m + 1):=by
 show (Str.ofString (toString (Int.negSucc m))).cps.toList = _
 rw [signs_ofString]
 show ("-" ++ Nat.repr (m + 1)).toList.map Char.toNat = _
 rw [String.toList_append,map_append,Nat.toList_repr]
 rfl
theorem nt_cases (n:Int):(0<=n/\cl (nt n) = dg n.natAbs) ∨ (n < 0/\cl (nt n) = 45 :: dg n.natAbs):=by
 cases n with
 | ofNat m=>exact .inl ⟨Int.natCast_nonneg m,aKt m⟩
 | negSucc m=>exact .inr ⟨Int.negSucc_lt_zero m,aJL m⟩
theorem nt_not {n:Int} {c:Nat} (h:c ≠ 45) (h2:¬ (48<=c/\c<=57)):c ∉ cl (nt n):=fun z=>by
 rcases nt_cases n with ⟨_,e⟩ | ⟨_,e⟩
 ·rw [e] at z;exact h2 (dg_all _ c z)
 ·rw [e] at z
  rcases List.mem_cons.mp z with z | z
  ·exact h z
  ·exact h2 (dg_all _ c z)
theorem nt_len {n:Int} (h:n.natAbs < 2 ^ 120):(nt n).length<=38:=by
 have:=aLZ n.natAbs 37 (by decide) (Nat.lt_of_lt_of_le h (by decide))
 rw [len_cl]
 rcases nt_cases n with ⟨_,e⟩ | ⟨_,e⟩
 ·rw [e];omega
 ·rw [e,length_cons];omega
theorem nt_int {n:Int} (h:n.natAbs < 2 ^ 120):PySem.intText? (nt n) = some n:=by
 have hl:=nt_len h
 rcases nt_cases n with ⟨h0,e⟩ | ⟨h0,e⟩
 ·have hd:AllDigits (nt n).cps.toList:=by rw [show (nt n).cps.toList = dg n.natAbs from e];exact dg_all _
  have hn:(nt n).cps.toList ≠ []:=by rw [show (nt n).cps.toList = dg n.natAbs from e];exact dg_ne _
  have:=intText_digits hd hn (by omega)
  rw [this,show (nt n).cps.toList = dg n.natAbs from e,aGm]
  congr 1;omega
 ·have:=intText_neg (x:=nt n) e (dg_all _) (dg_ne _) (by omega)
  rw [this,aGm]
  congr 1;omega
theorem log_small {n:Int} (h:n.natAbs < 2 ^ 120):n.natAbs.log2 < 1920:=by
 by_cases z:n.natAbs = 0
 ·rw [z];decide
 ·exact Nat.lt_trans ((Nat.log2_lt z).mpr h) (by decide)
theorem ascii_dg {x:Str} {m:Nat} (h:cl x = dg m):Dd.ascB x = true/\Dd.digB x = true:=by
 have hd:=dg_all m
 have hn:=dg_ne m
 have isd:∀ c,48<=c->c<=57->Unicode.isDigit c = true:=fun c h1 h2=>by
  have:∀ k:Fin 10,Unicode.isDigit (48 + k.val) = true:=by decide +kernel
  have:=this ⟨c - 48,by omega⟩
  rw [show 48 + (c - 48) = c by omega] at this
  exact this
 constructor
 ·unfold Dd.ascB
  rw [<- Array.all_toList,show x.cps.toList = dg m from h,all_eq_true]
  intro c hc
  have:=hd c hc
  exact decide_eq_true (by omega)
 ·unfold Dd.digB
  have l0:x.length > 0:=by rw [len_cl,h];exact List.length_pos_iff.mpr hn
  rw [decide_eq_true l0,Bool.true_and,<- Array.all_toList,show x.cps.toList = dg m from h,all_eq_true]
  intro c hc
  have:=hd c hc
  exact isd c this.1 this.2
theorem start_one (x:Str) (c:Nat):Dd.startB x (one c) = decide ((cl x).head? = some c):=by
 unfold Dd.startB
 have so:=PySem.StrLaws.subAt_one x c 0
 rw [<- List.head?_eq_getElem?] at so
 by_cases h:(cl x).head? = some c
 ·rw [decide_eq_true h]
  obtain ⟨h1,h2⟩:=so.mpr h
  rw [decide_eq_true h1,h2];rfl
 ·rw [decide_eq_false h]
  refine Bool.eq_false_iff.mpr fun z=>h (so.mp ?_)
  rw [Bool.and_eq_true,decide_eq_true_eq] at z
  exact z
theorem cut_one {x:Str} {c:Nat} {r:List Nat} (h:cl x = c :: r):cl (Txt.slice x (some 1) none) = r:=by
 have hl:x.length = r.length + 1:=by rw [len_cl,h];rfl
 have e:=PyProof.Rows.slice_from_eq (x:=x) (i:=1) (b:=(x.length:Int)) (by decide) (by omega) rfl
 rw [e]
 show ((x.cps.toList.drop (1:Int).toNat).take ((x.length:Int) - 1).toNat).toArray.toList = r
 rw [show x.cps.toList = c :: r from h,List.toList_toArray,show (1:Int).toNat = 1 from rfl,List.drop_succ_cons,drop_zero]
 exact take_of_length_le (by omega)
end Ty
namespace Dd
open PySem PySem.Spec PyProof.Rows L2 Mz
section
variable {prog:Program} {w:World} {A:Around} {E:Value->Shared->Prop} {s:Shared}
end
section
variable {X:Cx} {x:Str} {e:Expr} {te:DE} {pos:Pos}
def aFI:D2:=fun x y M Q=>match x,y with
 | .ref l,.ref b=>∃ xs zs,M l = some xs/\M b = some zs/\xs.length + zs.length<=1000/\Q (.ref l) (bG M l (xs ++ zs))
 | _,_=>False
def aNG (i:Nat) (te:DE):DS:=fun E ρ M=>match ρ[i]? with
 | some (some z)=>te ρ M fun d M1=>aFI z d M1 fun r M2=>E.nx (ρ.set i (some r)) M2
 | _=>False
end
section
variable {prog:Program} {w:World} {A:Around} {E:Value->Shared->Prop} {s:Shared}
end
section
variable {X:Cx} {x:Str} {e:Expr} {te:DE} {pos:Pos}
end
inductive XC where
 | x (C:Addr)
 | y (C:Addr) (f:Str) (i:Int)
abbrev XV:=XC->cL->DM->Prop
def aOM (X:Cx) (H1:Hp) (s1:Shared) (M1:DM) (ev:Value) (s':Shared):XC->Prop
 | .x C=>CXr X.prog X.w X.stack H1 s1 (fun c _ H'=>c = .ref C/\∃ M',bV X.K M' H'/\bB M1 M') ev s'
 | .y C f i=>CXy X.prog X.w X.stack H1 s1 (XW X.K C f M1 i) ev s'
def XOk (X:Cx) (pins:List (Addr × Obj)) (H:Hp) (V:XV) (E':Value->Shared->Prop):Prop :=
 ∀ xc σ H1 s1 M1 ρ ev s',Inv X pins σ H1 s1->fH X.K H1 ρ σ->Ext H H1->V xc ρ M1->aOM X H1 s1 M1 ev s' xc->E' ev s'
theorem XOk.at {X:Cx} {pins:List (Addr × Obj)} {H H':Hp} {V:XV} {E':Value->Shared->Prop} (h:XOk X pins H V E') (e:Ext H H'):XOk X pins H' V E' :=
 fun xc σ H1 s1 M1 ρ ev s' I re ex v y=>h xc σ H1 s1 M1 ρ ev s' I re (e.trans ex) v y
def aNw (X:Cx) (t:XV->DS) (pins:List (Addr × Obj)) (En:pN) (E':Value->Shared->Prop) (σ:L2.St) (H:Hp):Prop :=
 ∃ ρ M De V,fH X.K H ρ σ/\bV X.K M H/\t V De ρ M/\jF X.K H De En/\XOk X pins H V E'
def PBt (X:Cx) (st:Stmt) (t:XV->DS):Prop:=∀ pins s σ H En (E':Value->Shared->Prop),Inv X pins σ H s->aNw X t pins En E' σ H->wpAny (model X.prog X.w) X.A (exec st X.env) (SP X pins En) E' s
def aCL (X:Cx) (sts:List Stmt) (t:XV->DS):Prop:=∀ pins s σ H En (E':Value->Shared->Prop),Inv X pins σ H s->aNw X t pins En E' σ H->wpAny (model X.prog X.w) X.A (execs sts X.env) (SP X pins En) E' s
@[irreducible] def ZBt (X:Cx) (st:Stmt) (t:XV->DS):Prop:=PBt X st t
theorem ZBt.o {X:Cx} {e:Stmt} {t:XV->DS} (h:ZBt X e t):PBt X e t:=by unfold ZBt at h;exact h
theorem ZBt.i {X:Cx} {e:Stmt} {t:XV->DS} (h:PBt X e t):ZBt X e t:=by unfold ZBt;exact h
@[irreducible] def zA (X:Cx) (st:List Stmt) (t:XV->DS):Prop:=aCL X st t
theorem zA.o {X:Cx} {e:List Stmt} {t:XV->DS} (h:zA X e t):aCL X e t:=by unfold zA at h;exact h
theorem zA.i {X:Cx} {e:List Stmt} {t:XV->DS} (h:aCL X e t):zA X e t:=by unfold zA;exact h
def aOG (t:DS):XV->DS:=fun _=>t
def aNY (t u:XV->DS):XV->DS:=fun V E ρ M=>t V { E with nx:=u V E } ρ M
def aJV (tc:DT) (t u:XV->DS):XV->DS:=fun V E ρ M=>tc ρ M fun c M1=>if c = true then t V E ρ M1 else u V E ρ M1
def jP (X:Cx) (k:Nat) (f:Str) (ps:List Str) (ds:List D) (M1:DM):XC->Prop
 | .x C=>∃ k1 cond,k1<=k/\gY X.prog X.w X.K X.mg X.base k1 f ps C cond/\cond ds M1
 | .y C fl i=>∃ k1 cond,k1<=k/\fE X.prog X.w X.K X.mg X.base k1 f ps C fl cond/\cond ds M1 i
def aDf (R:List D->DM->XC->Prop) (sp:DSp) (t:DA) (nx:gA->D->cL->DM->Prop):XV->DS:=fun V D ρ M=>t ρ M fun ds M1=>(∃ xc,R ds M1 xc/\V xc ρ M1) ∨ sp ds M1 fun d M2=>nx D d ρ M2
def aHc (i:Nat):gA->D->cL->DM->Prop:=fun D d ρ M=>D.nx (ρ.set i (some d)) M
def aNJ:gA->D->cL->DM->Prop:=fun D d _ M=>D.rt d M
section
variable {X:Cx} {st:Stmt} {dD a b:List Stmt} {t:DS} {tb ub:XV->DS} {c:Expr} {tc:DT} {pos:Pos}
theorem aHV (h:PBt X st tb):aCL X [st] tb:=fun pins s σ H En E' I hq=>by
 refine wpAny_execs_cons (thn (h pins s σ H En E' I hq) fun f s1 q=>?_)
 cases f with
 | next=>exact wpAny_execs_nil q
 | ret v=>exact q
 | brk=>exact q
 | cont=>exact q
theorem aMN (hc:PDT X c tc) (ha:aCL X a tb) (hb:aCL X b ub) (hX:∀ e s,X.xe e s->False:=by exact fun _ _ z=>z):PBt X (.If c a b pos) (aJV tc tb ub):=fun pins s σ H En E' I ⟨ρ,M,De,V,re,hm,q,k,xo⟩=>by
 refine wpAny_If (wpAny_mono (hc pins s σ H (LT X.K H _) I ⟨ρ,M,_,re,hm,q,fun _ _ z=>z⟩) (fun d s1 ⟨H1,I1,M1,hm1,ex,q1⟩=>?_) fun ev s' z=>(hX ev s' z).elim)
 cases d with
 | true=>exact ha pins s1 σ H1 En E' I1 ⟨ρ,M1,De,V,re.ext ex,hm1,q1,k.at ex,xo.at ex⟩
 | false=>exact hb pins s1 σ H1 En E' I1 ⟨ρ,M1,De,V,re.ext ex,hm1,q1,k.at ex,xo.at ex⟩
end
section
variable {X:Cx} {e:Expr} {es:List Expr} {t:DA} {x f:Str} {ps:List Str} {sp:DSp} {R:List D->DM->XC->Prop} {k2 k i:Nat} {px pf pc pa:Pos}
theorem aHz {pins:List (Addr × Obj)} {σ:L2.St} {H1:Hp} {s1:Shared} {M1:DM} {ds:List D} {us:List Value} {vs:List V} {Q:Value->Shared->Prop} {E:Value->Shared->Prop} {f':Addr} {Q':DQ}
  (hh:Has X.prog X.w X.K X.mg X.base k2 f ps sp) (hr:cZ k X.A) (hk2:k2<=k) (hmf:X.mg f = some (.ref f'))
  (I1:Inv X pins σ H1 s1) (rv:bS vs us) (rs:bT X.K H1 ds vs) (hm1:bV X.K M1 H1) (q:sp ds M1 Q')
  (hQ:∀ u s',EP X pins σ (LQ X.K H1 Q') u s'->Q u s'):wpAny (model X.prog X.w) X.A (call (.ref f') us) Q E s1:=by
 obtain ⟨f1,fd,F,hm,_,hb⟩:=hh
 have hf:f1 = f':=by have:=hm.symm.trans hmf;cases this;rfl
 subst hf
 have hsp:pP X.K sp vs H1 (LQ X.K H1 Q') (fun _ _ _=>False):=⟨ds,M1,Q',rs,hm1,q,fun v H' z=>z⟩
 have hl:(us ++ []).length = ps.length:=by rw [append_nil,<- rv.length];exact F.len _ _ _ _ hsp
 have hbb:=hb s1 us I1.kIn hl
 rw [append_nil] at hbb
 refine wpAny_call (codeAny_mono (F.run X.A X.stack s1 H1 ⟨us,[]⟩ us vs _ _ (hr.mono hk2) I1.env0 hbb rv hsp) fun r s' hq=>?_)
 cases r with
 | error ev=>exact False.elim hq
 | ok fl =>
  cases fl with
  | ret u=>exact hQ u s' (I1.after hq)
  | next=>exact False.elim hq
  | brk=>exact False.elim hq
  | cont=>exact False.elim hq
theorem aM3 {pins:List (Addr × Obj)} {σ:L2.St} {H H1:Hp} {s1:Shared} {M1:DM} {ds:List D} {us:List Value} {vs:List V} {ρ:cL} {V:XV} {Q:Value->Shared->Prop} {E':Value->Shared->Prop} {f':Addr} {Q':DQ}
  (hR:∀ ds M1 xc,R ds M1 xc->jP X k f ps ds M1 xc) (hh:Has X.prog X.w X.K X.mg X.base k2 f ps sp) (hr:cZ k X.A) (hk2:k2<=k) (hmf:X.mg f = some (.ref f'))
  (I1:Inv X pins σ H1 s1) (re:fH X.K H1 ρ σ) (ex:Ext H H1) (rv:bS vs us) (rs:bT X.K H1 ds vs) (hm1:bV X.K M1 H1) (xo:XOk X pins H V E')
  (q:(∃ xc,R ds M1 xc/\V xc ρ M1) ∨ sp ds M1 Q') (hQ:∀ u s',EP X pins σ (LQ X.K H1 Q') u s'->Q u s'):wpAny (model X.prog X.w) X.A (call (.ref f') us) Q E' s1:=by
 rcases q with ⟨xc,hr1,v⟩ | q
 ·cases xc with
  | x C =>
   obtain ⟨k1,cond,hk1,hH,hc⟩:=hR _ _ _ hr1
   exact aIP hH hh hr hk1 hk2 hmf I1 rv rs hm1 (Q':=fun _ _=>False) (.inl ⟨hc,fun ev s' y=>xo (.x C) σ H1 s1 M1 ρ ev s' I1 re ex v y⟩) fun u s' ⟨_,_,_,_,_,_,_,_,_,z⟩=>z.elim
  | y C fl j =>
   obtain ⟨k1,cond,hk1,hH,hc⟩:=hR _ _ _ hr1
   exact aGf hH hh hr hk1 hk2 hmf I1 rv rs hm1 (Q':=fun _ _=>False) (.inl ⟨j,hc,fun ev s' y=>xo (.y C fl j) σ H1 s1 M1 ρ ev s' I1 re ex v y⟩) fun u s' ⟨_,_,_,_,_,_,_,_,_,z⟩=>z.elim
 ·exact aHz hh hr hk2 hmf I1 rv rs hm1 q hQ
theorem aKO (hR:∀ ds M1 xc,R ds M1 xc->jP X k f ps ds M1 xc) (hh:Has X.prog X.w X.K X.mg X.base k2 f ps sp) (hr:cZ k X.A) (hk2:k2<=k) (hN:X.N.Nodup) (ha:PDA X (e :: es) t) (hi:X.N[i]? = some x:=by rfl) (hxl:X.env.scope.names.lookup x = some .local:=by rfl)
  (hX:∀ e s,X.xe e s->False:=by exact fun _ _ z=>z) (hg:Gl X f:=by rfl) (hdb:(f == ("__debug__":Str)) = false:=by decide)
  (he:starEach (e :: es) X.env = (false,eval e X.env) :: starEach es X.env:=by rfl) (hpl:(backTo pc (starEach es X.env)).any (·.1) = false:=by rfl)
  (hsw:swapsWith (.Call (.Name f pf) (e :: es) [] pc) (some (.Name x px)) pa.line X.env = pure false:=by rfl) :
  PBt X (.Assign [.Name x px] (.Call (.Name f pf) (e :: es) [] pc) pa) (aDf R sp t (aHc i)):=fun pins s σ H En E' I ⟨ρ,M,De,V,re,hm,q,k',xo⟩=>by
 obtain ⟨f',fd,F,hmf,hk,hb⟩:=id hh
 refine wpAny_Assign_Name (wpAny_Call_Name_kw (hJ I hg hmf ?_ hdb)) hsw
 refine callWith_K (h₀:=X.base) I.ok.mod.kin hk (wpAny_mono (ha pc pins s σ H (LA X.K H _) I ⟨ρ,M,_,re,hm,q,fun vs H' z=>z⟩) (fun us s1 ⟨vs,H1,I1,rv,ds,M1,rs,hm1,ex,q1⟩=>⟨I1.kIn,?_⟩) fun ev s' z=>(hX ev s' z).elim) he hpl
 refine aM3 hR hh hr hk2 hmf I1 (re.ext ex) ex rv rs hm1 xo q1 fun u s' ⟨v,H2,I2,rr,d,M2,rd,hm2,ex2,q2⟩=>?_
 exact mU I2 hN hi (.inl hxl) rr (fun s3 I3=>⟨_,H2,I3,k'.nx _ H2 ⟨_,M2,(re.ext (ex.trans ex2)).set rd i,hm2,ex.trans ex2,q2⟩⟩) (.inr hxl)
end
noncomputable def xV3 (CX:Addr) (C1:Addr) (f1:Str) (C2:Addr) (f2:Str) (j:Nat) (tX:Addr->DS) (t1 t2:Addr->Int->DS) (De:gA):XV:=fun xc ρ M=>match xc with
 | .x C=>C = CX/\∀ a,tX a (De.un j) (ρ.set j (some (.ref a))) M
 | .y C f i=>(C = C1/\f = f1/\∀ a,t1 a i (De.un j) (ρ.set j (some (.ref a))) M) ∨ (C = C2/\f = f2/\∀ a,t2 a i (De.un j) (ρ.set j (some (.ref a))) M)
def aG8 (tb:XV->DS) (v:gA->XV):DS:=fun De ρ M=>tb (v De) De ρ M
section
variable {X:Cx} {n cm f1 f2:Str} {CX C1 C2 Cm:Addr} {j:Nat} {tX:Addr->DS} {t1 t2:Addr->Int->DS} {body suite:List Stmt} {b0:Stmt} {tb:XV->DS} {pcm ph pos:Pos}
theorem aD5 (hb:aCL X body tb) (hN:X.N.Nodup) (hcm:X.mg cm = some (.ref Cm)) (hmX:exmOne X.K (.ref CX) (.ref Cm) = some true) (hm1:exmOne X.K (.ref C1) (.ref Cm) = some true) (hm2:exmOne X.K (.ref C2) (.ref Cm) = some true)
  (hsX:∀ a o,ExO o CX->kE (Exc X a o) (b0 :: suite) (tX a))
  (hs1:∀ i a o dx oD t,ExY o C1 dx->lookIn f1 oD = some (some (.int i t))->kE (Exc (Pn X dx oD) a o) (b0 :: suite) (t1 a i))
  (hs2:∀ i a o dx oD t,ExY o C2 dx->lookIn f2 oD = some (some (.int i t))->kE (Exc (Pn X dx oD) a o) (b0 :: suite) (t2 a i))
  (hj:X.N[j]? = some n:=by rfl) (hnl:X.env.scope.names.lookup n = some .local:=by rfl)
  (hs:X.stack = X.env :: X.outer:=by rfl) (hf:X.env.frame = some X.env.locals:=by rfl) (hex:X.ex = []:=by rfl) (hX:∀ e s,X.xe e s->False:=by exact fun _ _ z=>z)
  (hgc:Gl X cm:=by rfl) (hdc:(cm == ("__debug__":Str)) = false:=by decide) :
  PDS X (.Try body [.ExceptHandler (some (.Name cm pcm)) (some n) (b0 :: suite) ph] [] [] pos) (aG8 tb (xV3 CX C1 f1 C2 f2 j tX t1 t2)):=by
 intro pins s σ H En I ⟨ρ,M,De,re,hm,q,k'⟩
 refine wpAny_Try_except ?_
 refine wpAny_mono (hb pins s σ H En _ I ⟨ρ,M,De,_,re,hm,q,k',?_⟩) (fun f s1 z=>?_) fun _ _ z=>z
 ·intro xc σ' H1 s1 M1 ρ' ev s' I1 re1 ex v y
  cases xc with
  | x C =>
   obtain ⟨rfl,v⟩:=v
   exact aKM I.ok hs hf hex hX hN hj hnl hcm hgc hdc hmX hsX I1 re1 (k'.at ex) v y
  | y C f i =>
   rcases v with ⟨rfl,rfl,v⟩ | ⟨rfl,rfl,v⟩
   ·exact aDr I.ok hs hf hex hX hN hj hnl hcm hgc hdc hm1 (hs1 i) I1 re1 (k'.at ex) v y
   ·exact aDr I.ok hs hf hex hX hN hj hnl hcm hgc hdc hm2 (hs2 i) I1 re1 (k'.at ex) v y
 ·cases f with
  | next=>exact wpAny_execs_nil z
  | ret v=>exact z
  | brk=>exact z
  | cont=>exact z
theorem aG2 {e:Expr}:PDE X e (fun _ _ _=>False):=fun _ _ _ _ _ _ ⟨_,_,_,_,_,z,_⟩=>z.elim
end
section
variable {X:Cx} {o e:Expr} {to te:DE}
theorem xX:∀ {bs:List Bool} {its:List Value},bS (bs.map V.bl) its->its = bs.map Value.bool
 | [],_,.nil=>rfl
 | b :: bs,_,.cons r rs=>by
  cases r
  rw [xX rs];rfl
theorem wY {K:Frag} {H:Hp}:∀ {bs:List Bool} {us:List V},bT K H (bs.map D.bl) us->us = bs.map V.bl
 | [],us,r=>bD r
 | b :: bs,us,r=>by
  obtain ⟨w,rr,rfl,hw,hr⟩:=aR r
  rw [cD hw,wY hr];rfl
def aLA:V->List V->Hp->VK->Prop:=fun x vs H Q=>∃ l bs k,x = .ref l/\vs = [.bl k]/\H l = some (.lst (map V.bl bs))/\Q (.int ((List.countP (· == k) bs:Nat):Int)) H
theorem aG6:MtM X "list.count" aLA:=by
 intro pins s σ H x vs v us Q I rx rv ⟨l,bs,k,e1,e2,hH,q⟩
 subst e1 e2
 cases rx
 obtain ⟨u,rfl,ru⟩:=rv.one
 cases ru
 obtain ⟨z,its,n,r,hz,e⟩:=I.lstM hH
 obtain rfl:=xX r
 refine call_meets PySem.F.slot_list_count ⟨_,e,rfl⟩ PySem.F.entry_list_count (PySem.F.args_list_count_2 _ _) (SeqAt.list_countAt l _ n _ _ (.bool k) (isBoolOf k)) ⟨e,fun y hy=>?_,?_⟩
 ·obtain ⟨b,_,rfl⟩:=List.mem_map.mp (show y ∈ bs.map Value.bool by simpa using hy)
  exact SeqAt.EqAt.bool_bool b k
 ·have hc:∀ bs:List Bool,(bs.map Value.bool).countP (isBoolOf k) = bs.countP (· == k):=fun bs=>by
   rw [List.countP_map];rfl
  refine ⟨.int _,H,I.tok _,⟨_,rfl⟩,?_⟩
  show Q (.int (((bs.map Value.bool).countP (isBoolOf k):Nat):Int)) H
  rw [hc];exact q
def aFM (p:Addr) (Q:DQ) (ys:List D) (M2:DM):Prop:=match ys with
 | [.bl k]=>∃ bs:List Bool,M2 p = some (bs.map D.bl)/\Q (.int ((bs.countP (· == k):Nat):Int)) M2
 | _=>False
def aCQ (to te:DE):DE:=fun ρ M Q=>to ρ M fun x M1=>match x with
 | .ref p=>(∃ ds,M1 p = some ds)/\iN te lG ρ M1 (aFM p Q)
 | _=>False
theorem aE4 {apos cpos:Pos} (ho:PDE X o to) (he:PDE X e te) (hse:starEach [e] X.env = (false,eval e X.env) :: starEach [] X.env:=by rfl)
  (hbase:attributeBase o "count" X.env (eval o X.env) = eval o X.env:=by rfl)
  (hfew:((backTo cpos (starEach [e] X.env)).all (fun x=>!x.1) && (backToKw cpos (keywordEach [] X.env)).all (fun x=>x.1.isSome)
   && decide ([e].length + ([]:List Keyword).length + (if ([]:List Keyword).isEmpty then 0 else 1) < 30)) = true:=by rfl)
  (hline:(apos.endLine == cpos.line) = true:=by rfl) (hplain:(backTo cpos (starEach [] X.env)).any (·.1) = false:=by rfl) :
  PDE X (.Call (.Attribute o "count" apos) [e] [] cpos) (aCQ to te) :=
 bW (xW PySem.F.plainAttrs_list PySem.F.slot_list_count PySem.F.type_list_count aG6 ho (iU he lA hse) hbase hfew hline hse hplain) fun σ H Q ⟨ρ,M,Q',re,hm,q,k⟩=>⟨ρ,M,_,re,hm,q,fun v H1 ⟨d,M1,rd,hm1,e1,q1⟩=>by
  cases d with
  | ref p =>
   obtain rfl:=aV rd
   obtain ⟨⟨ds0,h0⟩,q1⟩:=q1
   obtain ⟨us0,hu0,_⟩:=hm1.l p ds0 h0
   refine ⟨.inl ⟨rfl,us0,.of hu0⟩,ρ,M1,_,re.ext e1,hm1,q1,fun vs H2 ⟨dvs,M2,rs,hm2,e2,q2⟩=>?_⟩
   match dvs,q2 with
   | [.bl b],q2 =>
    obtain ⟨bs,hp,q2⟩:=q2
    obtain ⟨w,rfl,rw'⟩:=dR rs
    obtain rfl:=cD rw'
    obtain ⟨us,hu,ru⟩:=hm2.l p _ hp
    obtain rfl:=wY ru
    exact ⟨p,bs,b,rfl,rfl,hu,k _ _ ⟨_,M2,bO,hm2,e1.trans e2,q2⟩⟩
  | _=>exact q1.elim⟩
end
section
variable {X:Cx} {n cm f1:Str} {CX C1 Cm:Addr} {j:Nat} {tX:Addr->DS} {t1:Addr->Int->DS} {body suite:List Stmt} {b0:Stmt} {tb:XV->DS} {pcm ph pos:Pos}
end
def rX (C:Addr) (cond:List D->DM->Prop):List D->DM->XC->Prop:=fun ds M xc=>xc = .x C/\cond ds M
def rY (C:Addr) (f:Str) (cond:List D->DM->Int->Prop):List D->DM->XC->Prop:=fun ds M xc=>∃ i,xc = .y C f i/\cond ds M i
def rOr (R1 R2:List D->DM->XC->Prop):List D->DM->XC->Prop:=fun ds M xc=>R1 ds M xc ∨ R2 ds M xc
section
variable {X:Cx} {f fl:Str} {ps:List Str} {C:Addr} {k k1:Nat} {R1 R2:List D->DM->XC->Prop}
theorem aBP {cond:List D->DM->Prop} (h:gY X.prog X.w X.K X.mg X.base k1 f ps C cond) (hk:k1<=k):∀ ds M1 xc,rX C cond ds M1 xc->jP X k f ps ds M1 xc:=fun ds M1 xc ⟨e,hc⟩=>by
 subst e
 exact ⟨k1,cond,hk,h,hc⟩
theorem aBu {cond:List D->DM->Int->Prop} (h:fE X.prog X.w X.K X.mg X.base k1 f ps C fl cond) (hk:k1<=k):∀ ds M1 xc,rY C fl cond ds M1 xc->jP X k f ps ds M1 xc:=fun ds M1 xc ⟨i,e,hc⟩=>by
 subst e
 exact ⟨k1,cond,hk,h,hc⟩
theorem aAd (h1:∀ ds M1 xc,R1 ds M1 xc->jP X k f ps ds M1 xc) (h2:∀ ds M1 xc,R2 ds M1 xc->jP X k f ps ds M1 xc):∀ ds M1 xc,rOr R1 R2 ds M1 xc->jP X k f ps ds M1 xc:=fun ds M1 xc h=>h.elim (h1 ds M1 xc) (h2 ds M1 xc)
end
section
variable {X:Cx} {n c:Str} {C Cc a:Addr} {o:Obj} {p p1 p2 pos:Pos} {j:Nat}
theorem aIo {b:Bool} (ho:ExO o C) (ek:nR X.K C) (hcc:X.mg c = some (.ref Cc)) (hki:kitOne X.K (.ref C) (.ref Cc) = some b) (hmi:X.mg "isinstance" = none) (hj:X.N[j]? = some n:=by rfl) (hnl:Vis X.env.scope n:=by first | exact Or.inl rfl | exact Or.inr (Or.inl rfl) | exact Or.inr (Or.inr rfl))
  (hgi:Gl X "isinstance":=by rfl) (hgc:Gl X c:=by rfl) (hd1:(n == ("__debug__":Str)) = false:=by decide) (hd2:(n == ("__classdict__":Str)) = false:=by decide) (hd3:(c == ("__debug__":Str)) = false:=by decide)
  (hs:∀ env:Env,starEach [.Name n p1,.Name c p2] env = (false,eval (.Name n p1) env) :: starEach [.Name c p2] env:=by intro _;rfl) (hs2:∀ env:Env,starEach [.Name c p2] env = (false,eval (.Name c p2) env) :: starEach [] env:=by intro _;rfl)
  (hpl:(backTo pos (starEach [.Name c p2] X.env)).any (·.1) = false:=by rfl) :
  PDE (Exc X a o) (.Call (.Name "isinstance" p) [.Name n p1,.Name c p2] [] pos) (aB6 b j a):=by
 have hc:jO (Exc X a o) (.builtin "isinstance") fun vs H Q=>vs = [.ref a,.ref Cc]/\Q (.bl b) H:=by
  intro pins s σ H xs us Q I rs ⟨e,q⟩
  subst e
  obtain ⟨u1,us1,rfl,r1,rs1⟩:∃ u1 us1,us = u1 :: us1/\cF (.ref a) u1/\bS [.ref Cc] us1:=by cases rs with | cons r t=>exact ⟨_,_,rfl,r,t⟩
  obtain ⟨u2,us2,rfl,r2,rs2⟩:∃ u2 us2,us1 = u2 :: us2/\cF (.ref Cc) u2/\bS [] us2:=by cases rs1 with | cons r t=>exact ⟨_,_,rfl,r,t⟩
  obtain rfl:us2 = []:=by cases rs2;rfl
  obtain rfl:u1 = Value.ref a:=r1
  obtain rfl:u2 = Value.ref Cc:=r2
  have pn:=I.pin (a,o) (mem_append_left _ (mem_cons_self))
  exact kia_one (aB3 ek ho) I.kIn pn.1 hki (fun z=>nomatch z) fun tk=>⟨.bl b,H,I.tok tk,rfl,q⟩
 refine bW (nA (X:=Exc X a o) hc hgi hmi rfl (jA (nW (X:=Exc X a o) (i:=j) hj hnl hd1 hd2) (jA (aA1 (X:=Exc X a o) (v:=.ref Cc) hgc hcc rfl hd3) uD (hs2 _)) (hs _)) (by decide) (by decide) (hs _) hpl) fun σ H Q ⟨ρ,M,Q',re,hm,⟨e,q⟩,k⟩=>?_
 obtain ⟨v,e1,rv⟩:=re.get j _ e
 obtain rfl:=aV rv
 exact ⟨_,e1,rfl,k _ H ⟨_,M,cQ,hm,.refl H,q⟩⟩
end
section
variable {X:Cx} {st:Stmt} {dD a b:List Stmt} {t:DS} {tb ub:XV->DS} {c:Expr} {tc:DT} {pos:Pos}
theorem wZ (h:ZBt X st tb):zA X [st] tb:=.i (aHV h.o)
theorem aMd (hc:ZT X c tc) (ha:zA X a tb) (hb:zA X b ub) (hX:∀ e s,X.xe e s->False:=by exact fun _ _ z=>z):ZBt X (.If c a b pos) (aJV tc tb ub):=.i (aMN hc.o ha.o hb.o hX)
end
section
variable {X:Cx} {e:Expr} {es:List Expr} {t:DA} {x f:Str} {ps:List Str} {sp:DSp} {R:List D->DM->XC->Prop} {k2 k i:Nat} {px pf pc pa:Pos}
theorem aDp (hR:∀ ds M1 xc,R ds M1 xc->jP X k f ps ds M1 xc) (hh:Has X.prog X.w X.K X.mg X.base k2 f ps sp) (hr:cZ k X.A) (hk2:k2<=k) (hN:X.N.Nodup) (ha:ZA X (e :: es) t) (hi:X.N[i]? = some x:=by rfl) (hxl:X.env.scope.names.lookup x = some .local:=by rfl) (hX:∀ e s,X.xe e s->False:=by exact fun _ _ z=>z) (hg:Gl X f:=by rfl) (hdb:(f == ("__debug__":Str)) = false:=by decide) (he:starEach (e :: es) X.env = (false,eval e X.env) :: starEach es X.env:=by rfl) (hpl:(backTo pc (starEach es X.env)).any (·.1) = false:=by rfl) (hsw:swapsWith (.Call (.Name f pf) (e :: es) [] pc) (some (.Name x px)) pa.line X.env = pure false:=by rfl):ZBt X (.Assign [.Name x px] (.Call (.Name f pf) (e :: es) [] pc) pa) (aDf R sp t (aHc i)):=.i (aKO hR hh hr hk2 hN ha.o hi hxl hX hg hdb he hpl hsw)
end
section
variable {X:Cx} {n cm f1 f2:Str} {CX C1 C2 Cm:Addr} {j:Nat} {tX:Addr->DS} {t1 t2:Addr->Int->DS} {body suite:List Stmt} {b0:Stmt} {tb:XV->DS} {pcm ph pos:Pos}
theorem aCD (hb:zA X body tb) (hN:X.N.Nodup) (hcm:X.mg cm = some (.ref Cm)) (hmX:exmOne X.K (.ref CX) (.ref Cm) = some true) (hm1:exmOne X.K (.ref C1) (.ref Cm) = some true) (hm2:exmOne X.K (.ref C2) (.ref Cm) = some true) (hsX:∀ a o,ExO o CX->ZSs (Exc X a o) (b0 :: suite) (tX a)) (hs1:∀ i a o dx oD t,ExY o C1 dx->lookIn f1 oD = some (some (.int i t))->ZSs (Exc (Pn X dx oD) a o) (b0 :: suite) (t1 a i)) (hs2:∀ i a o dx oD t,ExY o C2 dx->lookIn f2 oD = some (some (.int i t))->ZSs (Exc (Pn X dx oD) a o) (b0 :: suite) (t2 a i)) (hj:X.N[j]? = some n:=by rfl) (hnl:X.env.scope.names.lookup n = some .local:=by rfl) (hs:X.stack = X.env :: X.outer:=by rfl) (hf:X.env.frame = some X.env.locals:=by rfl) (hex:X.ex = []:=by rfl) (hX:∀ e s,X.xe e s->False:=by exact fun _ _ z=>z) (hgc:Gl X cm:=by rfl) (hdc:(cm == ("__debug__":Str)) = false:=by decide):ZS X (.Try body [.ExceptHandler (some (.Name cm pcm)) (some n) (b0 :: suite) ph] [] [] pos) (aG8 tb (xV3 CX C1 f1 C2 f2 j tX t1 t2)):=.i (aD5 hb.o hN hcm hmX hm1 hm2 (fun a o h=>(hsX a o h).o) (fun i a o dx oD t h1 h2=>(hs1 i a o dx oD t h1 h2).o) (fun i a o dx oD t h1 h2=>(hs2 i a o dx oD t h1 h2).o) hj hnl hs hf hex hX hgc hdc)
theorem qI {e:Expr}:ZE X e (fun _ _ _=>False):=.i (aG2)
end
section
variable {X:Cx} {o e:Expr} {to te:DE}
theorem uG {apos cpos:Pos} (ho:ZE X o to) (he:ZE X e te) (hse:starEach [e] X.env = (false,eval e X.env) :: starEach [] X.env:=by rfl) (hbase:attributeBase o "count" X.env (eval o X.env) = eval o X.env:=by rfl) (hfew:((backTo cpos (starEach [e] X.env)).all (fun x=>!x.1) && (backToKw cpos (keywordEach [] X.env)).all (fun x=>x.1.isSome)
   && decide ([e].length + ([]:List Keyword).length + (if ([]:List Keyword).isEmpty then 0 else 1) < 30)) = true:=by rfl) (hline:(apos.endLine == cpos.line) = true:=by rfl) (hplain:(backTo cpos (starEach [] X.env)).any (·.1) = false:=by rfl):ZE X (.Call (.Attribute o "count" apos) [e] [] cpos) (aCQ to te):=.i (aE4 ho.o he.o hse hbase hfew hline hplain)
end
section
variable {X:Cx} {n cm f1:Str} {CX C1 Cm:Addr} {j:Nat} {tX:Addr->DS} {t1:Addr->Int->DS} {body suite:List Stmt} {b0:Stmt} {tb:XV->DS} {pcm ph pos:Pos}
end
section
variable {X:Cx} {f fl:Str} {ps:List Str} {C:Addr} {k k1:Nat} {R1 R2:List D->DM->XC->Prop}
end
section
variable {X:Cx} {n c:Str} {C Cc a:Addr} {o:Obj} {p p1 p2 pos:Pos} {j:Nat}
theorem yQ {b:Bool} (ho:ExO o C) (ek:nR X.K C) (hcc:X.mg c = some (.ref Cc)) (hki:kitOne X.K (.ref C) (.ref Cc) = some b) (hmi:X.mg "isinstance" = none) (hj:X.N[j]? = some n:=by rfl) (hnl:Vis X.env.scope n:=by first | exact Or.inl rfl | exact Or.inr (Or.inl rfl) | exact Or.inr (Or.inr rfl)) (hgi:Gl X "isinstance":=by rfl) (hgc:Gl X c:=by rfl) (hd1:(n == ("__debug__":Str)) = false:=by decide) (hd2:(n == ("__classdict__":Str)) = false:=by decide) (hd3:(c == ("__debug__":Str)) = false:=by decide) (hs:∀ env:Env,starEach [.Name n p1,.Name c p2] env = (false,eval (.Name n p1) env) :: starEach [.Name c p2] env:=by intro _;rfl) (hs2:∀ env:Env,starEach [.Name c p2] env = (false,eval (.Name c p2) env) :: starEach [] env:=by intro _;rfl) (hpl:(backTo pos (starEach [.Name c p2] X.env)).any (·.1) = false:=by rfl):ZE (Exc X a o) (.Call (.Name "isinstance" p) [.Name n p1,.Name c p2] [] pos) (aB6 b j a):=.i (aIo ho ek hcc hki hmi hj hnl hgi hgc hd1 hd2 hd3 hs hs2 hpl)
end
section
variable {prog:Program} {w:World} {A:Around} {I S:Addr} {fp wr:List Addr} {n:Nat} {P:Nat->Value->Prop} {St:Nat->Heap->Prop} {R:Result->Shared->Prop} {dv:Value}
theorem aGx (W:Walks prog w A.in1 I fp wr n P St) {bt:Nat->Nat->Bool} (hc:CmpOf prog w A.in1 .Gt P bt) (num:Nat->Int) (hb0:∀ a b,bt a b = decide (num a > num b)) (hf:S ∉ fp):∀ (k j:Nat) (s:Shared) (its:Array Value) (c:Nat),n - j = k->j<=n->St j s.heap->((its = #[]/\j = 0) ∨ ∃ i v,P i v/\its = #[v,v]/\i < j/\∀ i' < j,num i'<=num i) ->
  s.heap.get? S = some { cls:=.type "list",dict:=none,data:=.seq its c,slots:=#[] }->(∀ v h' tk,((v = dv/\n = 0) ∨ ∃ i,P i v/\i < n/\∀ i' < n,num i'<=num i)->(∀ b o,b ∉ wr->b ≠ S->s.heap.get? b = some o->h'.get? b = some o)->R (.ok (.ret v)) { s with heap:=h',toks:=tk }) ->
  codeAny (model prog w) A (.builtin "max.loop" ⟨[.ref I,.none,.ref S],[("default",dv)]⟩) R s:=by
 have hw:S ∉ wr:=fun h=>hf (W.sub _ h)
 have nm:(toString "max" ++ toString ".loop":String) = "max.loop":=by decide
 intro k
 induction k with
 | zero =>
  intro j s its c e1 e2 st hi hS hR
  obtain rfl:j = n:=by omega
  refine codeAny_builtin F.entry_max_loop ?_
  rw [Around.under_plainId F.plain_max_loop _];show wpAny _ A.in1 (seqItems? (.ref S) >>= _) _ _ s
  refine wpAny_bind (wpAny_seqItems hS rfl ?_);show wpAny _ A.in1 (tryCatch (pyNext (.ref I)) _ >>= _) _ _ s
  refine wpAny_bind (wpAny_tryCatch (W.done s _ _ st fun h' tk kp=>?_))
  rcases hi with ⟨rfl,j0⟩ | ⟨i,v,pv,rfl,li,mi⟩
  ·show wpAny _ A.in1 (rule _ >>= _) _ _ _
   exact wpAny_bind (wpAny_rule (wpAny_pure (hR dv h' tk (.inl ⟨rfl,j0⟩) fun b o x _ e=>kp b o x e)))
  ·show wpAny _ A.in1 (updateSeq S (fun _=>#[]) >>= _) _ _ _
   refine wpAny_bind (wpAny_updateSeq (kp S _ hw hS) rfl (wpAny_bind (wpAny_letGo (wpAny_pure (hR v _ tk (.inr ⟨i,pv,li,mi⟩) fun b o x y e=>?_)))))
   exact (Heap.get?_update_other _ _ (Ne.symm y)).trans (kp b o x e)
 | succ k ih =>
  intro j s its c e1 e2 st hi hS hR
  refine codeAny_builtin F.entry_max_loop ?_
  rw [Around.under_plainId F.plain_max_loop _];show wpAny _ A.in1 (seqItems? (.ref S) >>= _) _ _ s
  refine wpAny_bind (wpAny_seqItems hS rfl ?_);show wpAny _ A.in1 (tryCatch (pyNext (.ref I)) _ >>= _) _ _ s
  refine wpAny_bind (wpAny_tryCatch (W.item j s _ _ (by omega) st fun v h' tk pv st' kp=>?_))
  have hS':=kp S _ hw hS
  have e3:n - (j + 1) = k:=by clear hi;omega
  have e4:j + 1<=n:=by clear hi;omega
  have go:∀ (h2:Heap) (its2:Array Value) (c2:Nat),((its2 = #[]/\j + 1 = 0) ∨ ∃ i v,P i v/\its2 = #[v,v]/\i < j + 1/\∀ i' < j + 1,num i'<=num i)->h2.get? S = some { cls:=.type "list",dict:=none,data:=.seq its2 c2,slots:=#[] }->(∀ b o,b ≠ S->h'.get? b = some o->h2.get? b = some o)->codeAny (model prog w) A (.builtin "max.loop" ⟨[.ref I,.none,.ref S],[("default",dv)]⟩) R { s with heap:=h2,toks:=tk }:=fun h2 its2 c2 z1 z2 z3 =>
   ih (j + 1) _ its2 c2 e3 e4 (W.frame _ _ _ st' fun b hb o e=>z3 b o (fun z=>hf (z ▸ hb)) e) z1 z2 fun v2 h3 tk3 q1 q2=>hR v2 h3 tk3 q1 fun b o x y e=>q2 b o x y (z3 b o y (kp b o x e))
  rcases hi with ⟨rfl,j0⟩ | ⟨i,u,pu,rfl,li,mi⟩
  ·have m0:∀ i' < j + 1,num i'<=num j:=fun i' h=>by
    have e:i' = j:=by omega
    rw [e];exact Int.le_refl _
   show wpAny _ A.in1 (updateSeq S (fun _=>#[v,v]) >>= _) _ _ _
   refine wpAny_bind (wpAny_updateSeq hS' rfl ?_)
   rw [nm]
   exact wpAny_pure ⟨plainId_quiet F.plain_max_loop _,go _ _ _ (.inr ⟨j,v,pv,rfl,Nat.lt_succ_self j,m0⟩) (Heap.get?_update_self _ hS' rfl) fun b o y e=>(Heap.get?_update_other _ _ (Ne.symm y)).trans e⟩
  ·show wpAny _ A.in1 (tryCatch (holding [v,v] (richCompare .Gt v u >>= _)) _ >>= _) _ _ _
   refine wpAny_bind (wpAny_tryCatch (wpAny_holding (wpAny_bind (hc j i v u _ _ _ pv pu (wpAny_bind (wpAny_holding (wpAny_truthy_bool (wpAny_bind (wpAny_letGo (wpAny_pure ?_))))))))))
   cases hb:bt j i with
   | true =>
    simp only [if_true]
    rw [hb0] at hb
    have hb:=of_decide_eq_true hb
    have m1:∀ i' < j + 1,num i'<=num j:=fun i' h=>by
     by_cases e:i' = j
     ·rw [e];exact Int.le_refl _
     ·have:=mi i' (by omega);omega
    refine wpAny_bind (wpAny_updateSeq hS' rfl (wpAny_bind (wpAny_letGo ?_)))
    rw [nm]
    exact wpAny_pure ⟨plainId_quiet F.plain_max_loop _,go _ _ _ (.inr ⟨j,v,pv,rfl,by omega,m1⟩) (Heap.get?_update_self _ hS' rfl) fun b o y e=>(Heap.get?_update_other _ _ (Ne.symm y)).trans e⟩
   | false =>
    simp only [Bool.false_eq_true,if_false]
    rw [hb0] at hb
    have hb:=of_decide_eq_false hb
    have m2:∀ i' < j + 1,num i'<=num i:=fun i' h=>by
     by_cases e:i' = j
     ·rw [e];omega
     ·exact mi i' (by omega)
    refine wpAny_bind (wpAny_letGo ?_)
    rw [nm]
    exact wpAny_pure ⟨plainId_quiet F.plain_max_loop _,go _ _ _ (.inr ⟨i,u,pu,rfl,by omega,m2⟩) hS' fun b o _ e=>e⟩
end
section
variable {prog:Program} {w:World} {A:Around} {E:Value->Shared->Prop} {s:Shared} {l:Addr} {xs:Array (Int × Tok)} {dv:Value}
theorem aG7 (a v:Value):argsOk "max" ⟨[a],[(Str.ofString "default",v)]⟩:=by unfold argsOk;kernel_rfl
theorem aFe {Q:Value->Shared->Prop} (hh:A.handled = none) (hl:s.heap.IsList l (intItems xs)) (h:∀ v h' tk,((v = dv/\xs.size = 0) ∨ ∃ m t,v = .int m t/\0 < xs.size/\∀ i < xs.size,numAt xs i<=m)->(∀ b o,s.heap.get? b = some o->h'.get? b = some o)->Q v { s with heap:=h',toks:=tk }):wpAny (model prog w) A (call (.builtin "max") [.ref l] [(Str.ofString "default",dv)]) Q E s:=by
 have nm:(toString "max" ++ toString ".loop":String) = "max.loop":=by decide
 refine kmk_tree PySem.F.kind_max PySem.F.plain_max PySem.F.entry_max (aG7 _ _) ?_
 show wpAny _ A.in1 (Builtin.Builtins.bindParams "max" ["key","default"] 0 ⟨[],[(Str.ofString "default",dv)]⟩ >>= _) _ _ s
 refine wpAny_bind (wpAny_of_eq (show _ = pure [none,some dv] from rfl) ?_)
 refine wpAny_bind (wpAny_pure (wpAny_bind (iter_intList hl fun s2 e st hfp hlI=>?_)))
 subst e
 have W:=Walks.list (prog:=prog) (w:=w) (A:=A.in1) hh _ l hlI (intItems xs)
 refine wpAny_bind (wpAny_newObj_type ?_)
 rw [nm]
 refine wpAny_pure ⟨plainId_quiet F.plain_max_loop _,aGx W (CmpOf.ints_gt (numAt xs) fun _ _=>intItems_at) (numAt xs) (fun _ _=>rfl) (fun hm=>Nat.lt_irrefl _ (hfp _ hm)) _ 0 _ #[] _ rfl (Nat.zero_le _) (W.frame _ _ _ st fun b _ o e=>Heap.get?_push_of_some _ e) (.inl ⟨rfl,rfl⟩) (Heap.get?_push_size _ rfl) fun v h' tk hv kp=>?_⟩
 have sz:(intItems xs).size = xs.size:=by simp [intItems]
 rw [sz] at hv
 refine h v h' tk (hv.imp id fun ⟨i,pv,li,mi⟩=>?_) (old_kept fun b o x e=>kp b o x (Nat.ne_of_lt (Heap.lt_size e)) (Heap.get?_push_of_some _ e))
 obtain ⟨t,e⟩:=intItems_at pv
 exact ⟨_,t,e,by omega,mi⟩
end
section
variable {X:Cx} {pos p kp:Pos} {e d:Expr} {te td:DE}
def aF5 (te td:DE):DE:=fun ρ M Q=>te ρ M fun x M1=>td ρ M1 fun y M2=>match x,y with
 | .ref a,.int k=>∃ ns:List Int,M2 a = some (ns.map D.int)/\∀ m:Int,(ns = []->m = k)->(∀ n ∈ ns,n<=m)->Q (.int m) M2
 | _,_=>False
theorem aHs (hc:X.calm = true) (hm:X.mg "max" = none) (he:PDE X e te) (hd:PDE X d td) (hg:Gl X "max":=by rfl) (hs:starEach [e] X.env = (false,eval e X.env) :: starEach [] X.env:=by rfl) (hb:backTo pos (starEach [e] X.env) = (false,eval e X.env) :: backTo pos (starEach [] X.env):=by rfl) (hp:(backTo pos (starEach [e] X.env)).any (·.1) = false:=by rfl):PDE X (.Call (.Name "max" p) [e] [⟨some "default",d,kp⟩] pos) (aF5 te td):=by
 intro pins s σ H Q I ⟨ρ,M,Q',re,hm',q,kq⟩
 refine wpAny_Call_Name_kw (uX I hg hm rfl ?_ (by decide) (by decide))
 refine callWith_kw (thn ((iU he lA hs:PDA X [e] (iN te lG)) pos pins s σ H _ I ⟨ρ,M,fun ds M1=>match ds with
  | [x]=>td ρ M1 fun y M2=>match x,y with
   | .ref a,.int k=>∃ ns:List Int,M2 a = some (ns.map D.int)/\∀ m:Int,(ns = []->m = k)->(∀ n ∈ ns,n<=m)->Q' (.int m) M2
   | _,_=>False
  | _=>False,re,hm',q,fun _ _ z=>z⟩) fun us s1 ⟨vs,H1,I1,r1,ds,M1,rs,hm1,ex,q1⟩=>?_) hb hp
 match ds,q1 with
 | [x],q1 =>
  refine kws_cons (thn (hd pins s1 σ H1 _ I1 ⟨ρ,M1,_,re.ext ex,hm1,q1,fun _ _ z=>z⟩) fun u s2 ⟨y,H2,I2,ry,d2,M2,r2,hm2,e2,q2⟩=>kws_nil ?_)
  match x,d2,q2 with
  | .ref a,.int k,⟨ns,ha,q3⟩ =>
   obtain ⟨v,rfl,rv⟩:=dR rs
   obtain rfl:=aV rv
   obtain ⟨u0,rfl,ru⟩:=pS r1
   cases ru
   rw [aU r2] at ry
   obtain ⟨t,rfl⟩:=ry
   obtain ⟨ws,hH,hr⟩:=hm2.l a _ ha
   obtain ⟨hz,its,n,hv,hl,e⟩:=I2.lstM hH
   obtain ⟨ps,e1,e2'⟩:=xM hr hv
   have hi:s2.heap.IsList a (intItems ps.toArray):=⟨_,e,rfl,n,by rw [e1];simp [intItems]⟩
   refine aFe (I2.ok.hd hc) hi fun w h' tk hw kp=>?_
   have fin:∀ (m:Int) (t:Tok),(ns = []->m = k)->(∀ n ∈ ns,n<=m)->EP X pins σ Q (.int m t) { s2 with heap:=h',toks:=tk }:=fun m t h1 h2=>⟨.int m,H2,I2.kept kp,⟨t,rfl⟩,kq _ _ ⟨.int m,M2,bO,hm2,ex.trans e2,q3 m h1 h2⟩⟩
   have ens:ns = ps.map (·.1):=by first | exact e2' | exact e2'.symm
   rcases hw with ⟨rfl,z⟩ | ⟨m,t',rfl,hpos,hmax⟩
   ·have:ns = []:=by
     rw [ens]
     have:ps.length = 0:=z
     rw [List.length_eq_zero_iff.mp this];rfl
    exact fin _ _ (fun _=>rfl) (fun n hn=>by rw [this] at hn;cases hn)
   ·refine fin _ _ (fun z=>?_) fun n hn=>?_
    ·rw [ens] at z
     have:ps.length = 0:=by rw [List.map_eq_nil_iff.mp z];rfl
     have hpos:0 < ps.length:=hpos
     omega
    ·rw [ens] at hn
     obtain ⟨x,hx,rfl⟩:=List.mem_map.mp hn
     obtain ⟨i,hi2,he⟩:=List.getElem_of_mem hx
     have:=hmax i (by simpa using hi2)
     simp [numAt,hi2,he] at this
     exact this
end
section
variable {prog:Program} {w:World} {A:Around} {I S:Addr} {fp wr:List Addr} {n:Nat} {P:Nat->Value->Prop} {St:Nat->Heap->Prop} {R:Result->Shared->Prop} {dv:Value}
end
section
variable {prog:Program} {w:World} {A:Around} {E:Value->Shared->Prop} {s:Shared} {l:Addr} {xs:Array (Int × Tok)} {dv:Value}
end
section
variable {X:Cx} {pos p kp:Pos} {e d:Expr} {te td:DE}
theorem aGi (hc:X.calm = true) (hm:X.mg "max" = none) (he:ZE X e te) (hd:ZE X d td) (hg:Gl X "max":=by rfl) (hs:starEach [e] X.env = (false,eval e X.env) :: starEach [] X.env:=by rfl) (hb:backTo pos (starEach [e] X.env) = (false,eval e X.env) :: backTo pos (starEach [] X.env):=by rfl) (hp:(backTo pos (starEach [e] X.env)).any (·.1) = false:=by rfl):ZE X (.Call (.Name "max" p) [e] [⟨some "default",d,kp⟩] pos) (aF5 te td):=.i (aHs hc hm he.o hd.o hg hs hb hp)
end
def aJd:DSp:=fun ds M Q=>match ds with
 | [.int i]=>i.natAbs.log2 < 1920/\Q (.str (toString i)) M
 | [.str x]=>Q (.str x) M
 | _=>False
section
variable {X:Cx}
theorem aHo:fV X (.type "str") aJd:=by
 intro pins s σ H xs us Q I rs ⟨ds,M,Q',r1,hm,q,k⟩
 match ds,q with
 | [.int i],q =>
  exact aJz pins s σ H xs us Q I rs ⟨[.int i],M,Q',r1,hm,q,k⟩
 | [.str x],q =>
  obtain ⟨v,rfl,rv⟩:=dR r1
  obtain rfl:=bF rv
  obtain ⟨u,rfl,ru⟩:=pS rs
  obtain ⟨t,rfl⟩:=ru
  exact PySem.P.str_of_str ⟨.str x,H,I,⟨_,rfl⟩,k _ H ⟨_,M,hG,hm,.refl H,q⟩⟩
theorem aKd {k:Nat} {A B:Around} (hr:cZ k A) (e:B.units = A.units:=by rfl):B.units + 60 < cLine:=by have:=hr.un;omega
theorem aCU (hu:X.A.units + 60 < cLine):OpD X (compareOp .NotEq) (dEq not):=(aC4 hu).2
end
end Dd
namespace Lw
open PySem PySem.Spec PyProof.Rows L2 Dd Mz
local macro_rules | `(tactic| ac_nf) => `(tactic| try dsimp only [aJd, aF5, aG8, aOG, aNY, aJV, aDf, aHc, aNJ, aCQ, aFM, aNG, aFI, aNR, aNb, aNI, aI2, aJi, aFD, aFr, aCV, aI1, aFP, aG1, aCs, aK4, aLu, aFh, aLx, aI7, aOr, aOg, aOz, aNo, aN6, aNn, aM9, aIc, aBp, aKo, aCq, aNd, aJu, aFb, aLU, aJJ, aGH, aFZ, aJM, aFK, aL5, aMD, aB6, aNy, gW, aDc, gA.un, aGB, aGZ, aLQ, List.map, List.length_cons, List.length_nil, Nat.reduceAdd, Nat.reduceSub, List.reduceReplicate, List.cons_append, List.nil_append, List.set_cons_zero, List.set_cons_succ, List.getElem?_cons_zero, List.getElem?_cons_succ, gCn, gN, gNl, aL3, aKg, aNB, aNL, aMR, aMq, aMB, aNM, aMr, aHQ, aIj, aIa, aGo, aLE, aIw, aHi, aHM, aH6, aIb, aIB, aHq, aGe, aLJ, aMt, aNv, aMS, aND, ixT, ixF, aOo, aMM, aM2, aMI, aNe, aJ6, oJ, iN, lG, dOp, aIT, dC, d2I, d2J, aMh, aAe, aJy, dOr, aKU, aGN, aLy, aES, aLm, aIt, aKH, aGY, aKn, aFB, aKD, aCu, aEu, aK1, aHf, aIV, aKB, aFH, aFT, aCr, aKb, aE2, aHL, aIg, aKm, aLn, aJt, goC, aMz, aNP, aK3, qR, Option.join_some, aN1, aJ0, aKS, dPt, aM1, dSl, aJ1, aJj, aLN, aDd, aFz, aGd, aNN, aBn, aBe, aBj, aNx, aFN, aNX, aGb, aOs, aLD, aHF, aGa, isV, aKJ, aLV, aKh, aKc, aJF, aL1, aJs, aLF, aKq, aLw, aKa, aKz, aJQ, aKu, aLW, aLo, aKG, aLg, aJN, aJ8, aLt, aJ4, aL6, aJP, aLT, aLO, aK5])
local macro_rules | `(tactic| simp_arith) => `(tactic| try simp only [aGU, aGc, aKY, cM, aL, id, decide_eq_true_eq, Bool.not_eq_true', decide_eq_false_iff_not])
noncomputable def top (i:Nat):Stmt:=PySem.Challenge.pw_arcmill_k23_sixty_rows.main.body.getD i (.Pass ⟨0,0,0,0⟩)
section
variable {P:Program} {w:World} {K:Frag} {mg:Str->Option Value} {base:Heap}
noncomputable abbrev iE:Stmt:=top 10
theorem kC:aS ["one","other"] ["one","other"] (aI iE):=⟨rfl,rfl,rfl,by decide +kernel,rfl,by decide +kernel,by decide +kernel⟩
theorem oR (hF:cK K mg "greatest_divisor" iE ["one","other"]) (yR:mg "abs" = none):Has P w K mg base 101 "greatest_divisor" ["one","other"] dO:=by
 refine Has.mkZ hF kC (fun ds M Q ⟨a,b,e,_⟩=>by rw [e];rfl) fun f cdv A outer s H ds M Q E hr h=>?_
 obtain ⟨a,b,rfl,q⟩:=h
 refine ⟨_,(aF (tM PassesOwn.never (aP (iO hr) (aB 1) aD) (aE (aI0 (i:=0) (j:=1) rfl kC.nd (aA (aB 1) (aA (aQ fZ (aB 0) (aB 1)) aC)))))
  (aE (aK (cO aCv yR (aA (aB 0) aC))))),?_⟩
 refine uR (fun m ρ M'=>M' = M/\∃ x y:Int,ρ = [some (.int x),some (.int y)]/\m = y.natAbs/\Int.gcd x y = Int.gcd a b) _ ⟨rfl,a,b,rfl,rfl,rfl⟩ ?_
 rintro m ρ M' ⟨rfl,x,y,rfl,rfl,g⟩
 refine ⟨rfl,rfl,aMj (fun c=>?_) (fun c=>?_)⟩
 ·have c:y ≠ 0:=by simpa [eqD] using c
  exact ⟨c,_,aID c,rfl,y,x.fmod y,rfl,rfl,(aGA x y).trans g⟩
 ·have c:y = 0:=by simpa [eqD] using c
  subst c
  refine ⟨M',.refl _,?_⟩
  have e:(if x < 0 then -x else x) = (Int.gcd a b:Int):=by rw [<- g,Int.gcd_zero_right];split<;>omega
  rw [e]
  exact q
noncomputable abbrev aCt:Stmt:=top 11
theorem tH:aS ["one","other","shared","part","top","left"] ["one","other"] (aI aCt):=⟨rfl,rfl,rfl,by decide +kernel,rfl,by decide +kernel,by decide +kernel⟩
theorem aFm (hF:cK K mg "plus" aCt ["one","other"]) (bC:Has P w K mg base 101 "greatest_divisor" ["one","other"] dO):Has P w K mg base 102 "plus" ["one","other"] aDP:=by
 refine Has.mkZ hF tH aAS fun f cdv A outer s H ds M Q E hr h=>?_
 obtain ⟨p,r,m,n,rfl,_,h1,h2,l,q⟩:=h
 refine ⟨_,(aF (aN (i:=2) tH.nd (aG bC hr (by decide) (aA (aJ (aB 0) aD) (aA (aJ (aB 1) aD) aC))))
  (aF (aN (i:=3) tH.nd (aQ fG (aJ (aB 0) aD) (aB 2)))
  (aF (aN (i:=4) tH.nd (aQ eU (aQ cV (aJ (aB 0) aD) (aQ fG (aJ (aB 1) aD) (aB 2))) (aQ cV (aJ (aB 1) aD) (aB 3))))
  (aF (aN (i:=5) tH.nd (aG bC hr (by decide) (aA (aB 4) (aA (aB 2) aC))))
  (aE (aK (aM (aA (aQ fG (aB 4) (aB 5)) (aA (aQ cV (aB 3) (aQ fG (aJ (aB 1) aD) (aB 5))) aC))))))))),?_⟩
 obtain ⟨g0,l0,gd,ld,e1,e2⟩:=aOf p r _ _ _ _ rfl rfl rfl rfl
 have gr:(Int.gcd p.den r.den:Int) ∣ (r.den:Int):=Int.gcd_dvd_right _ _
 have bg:Bd m (Int.gcd p.den r.den:Int):=h1.2.dvd gd (fY p)
 refine ⟨_,_,rfl,vY h1.2 (by omega) gd (fY p) g0,vY h1.2 (by omega) gd (fY p) g0,fP h1.1 (h2.2.fdiv gr) (by omega),fP h2.1 (h1.2.fdiv gd) (by omega),_,_,rfl,?_⟩
 refine ⟨vY bg (by omega) ld g0 l0,vY bg (by omega) ld g0 l0,fP (h1.2.fdiv gd) (h2.2.fdiv (Int.dvd_trans ld gr)) (by omega),by show (2:Nat)<=1000;decide,M,.refl _,?_⟩
 have q':Q (.tup [.int (p + r).num,.int ((p + r).den:Int)]) M:=q
 rw [<- e1,<- e2] at q'
 exact q'
noncomputable abbrev wD:Stmt:=top 12
theorem mR:aS ["one","other","falling","rising"] ["one","other"] (aI wD):=⟨rfl,rfl,rfl,by decide +kernel,rfl,by decide +kernel,by decide +kernel⟩
theorem aEo (hF:cK K mg "times" wD ["one","other"]) (bC:Has P w K mg base 101 "greatest_divisor" ["one","other"] dO):Has P w K mg base 102 "times" ["one","other"] aE0:=by
 refine Has.mkZ hF mR aAS fun f cdv A outer s H ds M Q E hr h=>?_
 obtain ⟨p,r,m,n,rfl,_,h1,h2,l,q⟩:=h
 refine ⟨_,(aF (aN (i:=2) mR.nd (aG bC hr (by decide) (aA (aJ (aB 0) aD) (aA (aJ (aB 1) aD) aC))))
  (aF (aN (i:=3) mR.nd (aG bC hr (by decide) (aA (aJ (aB 1) aD) (aA (aJ (aB 0) aD) aC))))
  (aE (aK (aM (aA (aQ cV (aQ fG (aJ (aB 0) aD) (aB 2)) (aQ fG (aJ (aB 1) aD) (aB 3))) (aA (aQ cV (aQ fG (aJ (aB 0) aD) (aB 3)) (aQ fG (aJ (aB 1) aD) (aB 2))) aC))))))),?_⟩
 obtain ⟨f0,r0,fd,rd,e1,e2⟩:=aMO p r _ _ rfl rfl
 have fl:(Int.gcd p.num r.den:Int) ∣ p.num:=Int.gcd_dvd_left _ _
 have rl:(Int.gcd r.num p.den:Int) ∣ r.num:=Int.gcd_dvd_left _ _
 refine ⟨_,_,rfl,_,_,rfl,vY h2.2 (by omega) fd (fY r) f0,vY h1.2 (by omega) rd (fY p) r0,fP (h1.1.fdiv fl) (h2.1.fdiv rl) (by omega),vY h1.2 (by omega) rd (fY p) r0,vY h2.2 (by omega) fd (fY r) f0,fP (h1.2.fdiv rd) (h2.2.fdiv fd) (by omega),by show (2:Nat)<=1000;decide,M,.refl _,?_⟩
 have q':Q (.tup [.int (p * r).num,.int ((p * r).den:Int)]) M:=q
 rw [<- e1,<- e2] at q'
 exact q'
noncomputable abbrev aA8:Stmt:=top 13
theorem aFq:aS ["one","other"] ["one","other"] (aI aA8):=⟨rfl,rfl,rfl,by decide +kernel,rfl,by decide +kernel,by decide +kernel⟩
theorem aEx (hF:cK K mg "below" aA8 ["one","other"]):Has P w K mg base 101 "below" ["one","other"] aCg:=by
 refine Has.mkZ hF aFq aAS fun f cdv A outer s H ds M Q E hr h=>?_
 obtain ⟨p,r,m,n,rfl,_,h1,h2,l,q⟩:=h
 refine ⟨_,(aE (aK (eG wO (aQ cV (aJ (aB 0) aD) (aJ (aB 1) aD)) (aQ cV (aJ (aB 1) aD) (aJ (aB 0) aD))))),?_⟩
 refine ⟨fP h1.1 h2.2 (by omega),fP h2.1 h1.2 (by omega),M,.refl _,?_⟩
 have e:decide (p.num * (r.den:Int) < r.num * (p.den:Int)) = decide (p < r):=decide_eq_decide.mpr (ltQ p r)
 show Q (.bl (decide (p.num * (r.den:Int) < r.num * (p.den:Int)))) M
 rw [e]
 exact q
noncomputable def oD (x y:Rat):Int:=if (x.den:Int) = (y.den:Int) then (x.den:Int) else (x.den:Int) * (y.den:Int)
noncomputable def oX (x y:Rat):Int:=if (x.den:Int) = (y.den:Int) then x.num else x.num * (y.den:Int)
noncomputable def oY (x y:Rat):Int:=if (x.den:Int) = (y.den:Int) then y.num else y.num * (x.den:Int)
theorem aC1 (x y:Rat):0 < oD x y:=by
 have h1:(0:Int) < x.den:=by have:=x.den_pos;omega
 have h2:(0:Int) < y.den:=by have:=y.den_pos;omega
 unfold oD;split
 ·exact h1
 ·exact Int.mul_pos h1 h2
theorem aI3 (x y:Rat):((oX x y:Int):Rat) = x * (oD x y:Int):=by
 have e:=mL x
 unfold oX oD;split
 ·rw [e]
 ·rw [Rat.intCast_mul,Rat.intCast_mul,e];grind
theorem aJf (x y:Rat):((oY x y:Int):Rat) = y * (oD x y:Int):=by
 have e:=mL y
 unfold oY oD;split
 ·rename_i h;rw [e,h]
 ·rw [Rat.intCast_mul,Rat.intCast_mul,e];grind
theorem aEa {x y:Rat} {n:Nat} (hx:BQ n x) (hy:BQ n y):Bd (n + n) (oX x y)/\Bd (n + n) (oY x y)/\Bd (n + n) (oD x y):=by
 unfold oX oY oD
 refine ⟨?_,?_,?_⟩
 ·split
  ·exact hx.1.mono (by omega)
  ·exact hx.1.mul hy.2
 ·split
  ·exact hy.1.mono (by omega)
  ·exact hy.1.mul hx.2
 ·split
  ·exact hx.2.mono (by omega)
  ·exact hx.2.mul hy.2
def jH:DSp:=fun ds M Q=>∃ x y n,ds = [PQ x y]/\BQ n x/\BQ n y/\n<=8998/\Q (.tup [.int (oX x y),.int (oY x y),.int (oD x y)]) M
noncomputable abbrev jU:Stmt:=top 16
theorem jI:aS ["p","x","y"] ["p"] (aI jU):=⟨rfl,rfl,rfl,by decide +kernel,rfl,by decide +kernel,by decide +kernel⟩
theorem sT (hF:cK K mg "on_one_bottom" jU ["p"]):Has P w K mg base 101 "on_one_bottom" ["p"] jH:=by
 refine Has.mkZ hF jI (fun ds M Q ⟨x,y,n,e,_⟩=>by rw [e];rfl) fun f cdv A outer s H ds M Q E hr h=>?_
 obtain ⟨x,y,n,rfl,hx,hy,hn,q⟩:=h
 refine ⟨_,(aF (lJ (aB 0) (lQ (n:=2) rfl (bZ (aZ (i:=1) jI.nd) (bZ (aZ (i:=2) jI.nd) gZ))))
  (aF (bA (aP (cT hr) (aJ (aB 1) aD) (aJ (aB 2) aD)) (aE (aK (aM (aA (aJ (aB 1) aD) (aA (aJ (aB 2) aD) (aA (aJ (aB 1) aD) aC)))))) aY)
  (aE (aK (aM (aA (aQ cV (aJ (aB 1) aD) (aJ (aB 2) aD)) (aA (aQ cV (aJ (aB 2) aD) (aJ (aB 1) aD)) (aA (aQ cV (aJ (aB 1) aD) (aJ (aB 2) aD)) aC)))))))),?_⟩
 unfold oX oY oD at q
 ac_nf
 rw [cM]
 refine ⟨rfl,dif (fun c=>?_) (fun c=>?_)⟩
 ·rw [if_pos c,if_pos c,if_pos c] at q
  exact ⟨by decide,M,.refl _,q⟩
 ·rw [if_neg c,if_neg c,if_neg c] at q
  exact ⟨fP hx.1 hy.2 (by omega),fP hy.1 hx.2 (by omega),fP hx.2 hy.2 (by omega),by decide,M,.refl _,q⟩
def aBo:DSp:=fun ds M Q=>∃ i,ds = [.int i]/\Q (.int (if 0 < i then 1 else if i = 0 then 0 else -1)) M
noncomputable abbrev aCS:Stmt:=top 17
theorem aHX:aS ["number"] ["number"] (aI aCS):=⟨rfl,rfl,rfl,by decide +kernel,rfl,by decide +kernel,by decide +kernel⟩
theorem aHd (hF:cK K mg "sign" aCS ["number"]):Has P w K mg base 101 "sign" ["number"] aBo:=by
 refine Has.mkZ hF aHX (fun ds M Q ⟨x,e,_⟩=>by rw [e];rfl) fun f cdv A outer s H ds M Q E hr h=>?_
 obtain ⟨i,rfl,q⟩:=h
 refine ⟨_,(aF (bA (aP lV (aB 0) aD) (aE (aK aD)) aY)
  (aE (aK (dF (aP (cT hr) (aB 0) aD) aD (eR aD))))),?_⟩
 ac_nf
 refine dif (fun c=>?_) (fun c=>?_)
 ·rw [if_pos c] at q
  exact ⟨M,.refl _,q⟩
 ·rw [if_neg c] at q
  rw [cM]
  refine dif (fun d=>?_) (fun d=>?_)
  ·rw [if_pos d] at q
   exact ⟨M,.refl _,q⟩
  ·rw [if_neg d] at q
   exact ⟨M,.refl _,q⟩
noncomputable def fS (cx cy px py:Rat):Int:=(oX px py * oD cx cy - oX cx cy * oD px py) * (oX px py * oD cx cy - oX cx cy * oD px py) + (oY px py * oD cx cy - oY cx cy * oD px py) * (oY px py * oD cx cy - oY cx cy * oD px py)
theorem aJm (cx cy px py:Rat):((fS cx cy px py:Int):Rat) = ((px - cx) * (px - cx) + (py - cy) * (py - cy)) * (((oD cx cy:Int):Rat) * ((oD px py:Int):Rat)) * (((oD cx cy:Int):Rat) * ((oD px py:Int):Rat)):=by
 unfold fS
 simp only [Rat.intCast_add,Rat.intCast_mul,Rat.intCast_sub]
 rw [aI3,aI3,aJf,aJf]
 grind
def qX:DSp:=fun ds M Q=>∃ cx cy px py n,ds = [PQ cx cy,PQ px py]/\BQ n cx/\BQ n cy/\BQ n px/\BQ n py/\n<=4000/\Q (.tup [.int (fS cx cy px py),.int (oD px py)]) M
noncomputable abbrev nY:Stmt:=top 19
theorem dA:aS ["c","p","cx","cy","cd","px","py","pd","x","y"] ["c","p"] (aI nY):=⟨rfl,rfl,rfl,by decide +kernel,rfl,by decide +kernel,by decide +kernel⟩
theorem xV (hF:cK K mg "scaled_far" nY ["c","p"]) (hU:Has P w K mg base 101 "on_one_bottom" ["p"] jH):Has P w K mg base 102 "scaled_far" ["c","p"] qX:=by
 refine Has.mkZ hF dA (fun ds M Q ⟨cx,cy,px,py,n,e,_⟩=>by rw [e];rfl) fun f cdv A outer s H ds M Q E hr h=>?_
 obtain ⟨cx,cy,px,py,n,rfl,h1,h2,h3,h4,hn,q⟩:=h
 refine ⟨_,(aF (lJ (aG hU hr (by decide) (aA (aB 0) aC)) (lQ (n:=3) rfl (bZ (aZ (i:=2) dA.nd) (bZ (aZ (i:=3) dA.nd) (bZ (aZ (i:=4) dA.nd) gZ)))))
  (aF (lJ (aG hU hr (by decide) (aA (aB 1) aC)) (lQ (n:=3) rfl (bZ (aZ (i:=5) dA.nd) (bZ (aZ (i:=6) dA.nd) (bZ (aZ (i:=7) dA.nd) gZ)))))
  (aF (aN (i:=8) dA.nd (aQ pE (aQ cV (aB 5) (aB 4)) (aQ cV (aB 2) (aB 7))))
  (aF (aN (i:=9) dA.nd (aQ pE (aQ cV (aB 6) (aB 4)) (aQ cV (aB 3) (aB 7))))
  (aE (aK (aM (aA (aQ eU (aQ cV (aB 8) (aB 8)) (aQ cV (aB 9) (aB 9))) (aA (aB 7) aC))))))))),?_⟩
 ac_nf
 obtain ⟨a1,a2,a3⟩:=aEa h1 h2
 obtain ⟨b1,b2,b3⟩:=aEa h3 h4
 have dX:Bd (n + n + (n + n) + 1) (oX px py * oD cx cy - oX cx cy * oD px py):=(b1.mul a3).sub (a1.mul b3)
 have dY:Bd (n + n + (n + n) + 1) (oY px py * oD cx cy - oY cx cy * oD px py):=(b2.mul a3).sub (a2.mul b3)
 refine ⟨cx,cy,n,rfl,h1,h2,by omega,?_⟩
 ac_nf
 refine ⟨rfl,px,py,n,rfl,h3,h4,by omega,?_⟩
 ac_nf
 exact ⟨rfl,fP b1 a3 (by omega),fP a1 b3 (by omega),fP b2 a3 (by omega),fP a2 b3 (by omega),fP dX dX (by omega),fP dY dY (by omega),by decide,M,.refl _,q⟩
noncomputable def jY (cx cy px py:Rat):Rat:=(px - cx) * (px - cx) + (py - cy) * (py - cy)
theorem aJo {cx cy px py:Rat} {n:Nat} (h1:BQ n cx) (h2:BQ n cy) (h3:BQ n px) (h4:BQ n py):Bd (8 * n + 3) (fS cx cy px py):=by
 obtain ⟨a1,a2,a3⟩:=aEa h1 h2
 obtain ⟨b1,b2,b3⟩:=aEa h3 h4
 have dX:Bd (n + n + (n + n) + 1) (oX px py * oD cx cy - oX cx cy * oD px py):=(b1.mul a3).sub (a1.mul b3)
 have dY:Bd (n + n + (n + n) + 1) (oY px py * oD cx cy - oY cx cy * oD px py):=(b2.mul a3).sub (a2.mul b3)
 exact ((dX.mul dX).add (dY.mul dY)).mono (by omega)
theorem aIU (cx cy px py qx qy:Rat):(0 < fS cx cy px py * oD qx qy * oD qx qy - fS cx cy qx qy * oD px py * oD px py ↔ jY cx cy qx qy < jY cx cy px py) /\
  (fS cx cy px py * oD qx qy * oD qx qy - fS cx cy qx qy * oD px py * oD px py = 0 ↔ jY cx cy px py = jY cx cy qx qy):=by
 have e:((fS cx cy px py * oD qx qy * oD qx qy - fS cx cy qx qy * oD px py * oD px py:Int):Rat) = (jY cx cy px py - jY cx cy qx qy) * ((((oD cx cy:Int):Rat) * ((oD px py:Int):Rat) * ((oD qx qy:Int):Rat)) * (((oD cx cy:Int):Rat) * ((oD px py:Int):Rat) * ((oD qx qy:Int):Rat))):=by
  simp only [Rat.intCast_mul,Rat.intCast_sub]
  rw [aJm,aJm]
  unfold jY
  grind
 have c1:(0:Rat) < ((oD cx cy:Int):Rat):=Rat.intCast_pos.mpr (aC1 _ _)
 have c2:(0:Rat) < ((oD px py:Int):Rat):=Rat.intCast_pos.mpr (aC1 _ _)
 have c3:(0:Rat) < ((oD qx qy:Int):Rat):=Rat.intCast_pos.mpr (aC1 _ _)
 have k0:(0:Rat) < (((oD cx cy:Int):Rat) * ((oD px py:Int):Rat) * ((oD qx qy:Int):Rat)) * (((oD cx cy:Int):Rat) * ((oD px py:Int):Rat) * ((oD qx qy:Int):Rat)):=Rat.mul_pos (Rat.mul_pos (Rat.mul_pos c1 c2) c3) (Rat.mul_pos (Rat.mul_pos c1 c2) c3)
 generalize (((oD cx cy:Int):Rat) * ((oD px py:Int):Rat) * ((oD qx qy:Int):Rat)) * (((oD cx cy:Int):Rat) * ((oD px py:Int):Rat) * ((oD qx qy:Int):Rat)) = κ at e k0
 generalize fS cx cy px py * oD qx qy * oD qx qy - fS cx cy qx qy * oD px py * oD px py = z at e ⊢
 generalize jY cx cy px py = u at e ⊢
 generalize jY cx cy qx qy = v at e ⊢
 constructor
 ·rw [<- Rat.intCast_pos,e]
  constructor
  ·intro h
   by_cases c:v < u
   ·exact c
   ·have:u - v<=0:=by grind
    have:=Rat.mul_nonneg (a:=v - u) (b:=κ) (by grind) (by grind)
    grind
  ·intro h
   exact Rat.mul_pos (by grind) k0
 ·constructor
  ·intro h
   rw [h] at e
   have:=(Rat.mul_eq_zero.mp e.symm).resolve_right (by grind)
   grind
  ·intro h
   have:(z:Rat) = 0:=by rw [e,h];grind
   exact Rat.intCast_eq_zero_iff.mp this
noncomputable def aGs (cx cy px py qx qy:Rat):Int:=if jY cx cy qx qy < jY cx cy px py then 1 else if jY cx cy px py = jY cx cy qx qy then 0 else -1
def wN:DSp:=fun ds M Q=>∃ cx cy px py qx qy n,ds = [PQ cx cy,PQ px py,PQ qx qy]/\BQ n cx/\BQ n cy/\BQ n px/\BQ n py/\BQ n qx/\BQ n qy/\n<=4000/\Q (.int (aGs cx cy px py qx qy)) M
noncomputable abbrev uJ:Stmt:=top 18
theorem kQ:aS ["c","p","q","p_square","pd","q_square","qd"] ["c","p","q"] (aI uJ):=⟨rfl,rfl,rfl,by decide +kernel,rfl,by decide +kernel,by decide +kernel⟩
theorem aCi (hF:cK K mg "farther" uJ ["c","p","q"]) (kH:Has P w K mg base 102 "scaled_far" ["c","p"] qX) (aC8:Has P w K mg base 101 "sign" ["number"] aBo):Has P w K mg base 103 "farther" ["c","p","q"] wN:=by
 refine Has.mkZ hF kQ (fun ds M Q ⟨cx,cy,px,py,qx,qy,n,e,_⟩=>by rw [e];rfl) fun f cdv A outer s H ds M Q E hr h=>?_
 obtain ⟨cx,cy,px,py,qx,qy,n,rfl,h1,h2,h3,h4,h5,h6,hn,q⟩:=h
 refine ⟨_,(aF (lJ (aG kH hr (by decide) (aA (aB 0) (aA (aB 1) aC))) (lQ (n:=2) rfl (bZ (aZ (i:=3) kQ.nd) (bZ (aZ (i:=4) kQ.nd) gZ))))
  (aF (lJ (aG kH hr (by decide) (aA (aB 0) (aA (aB 2) aC))) (lQ (n:=2) rfl (bZ (aZ (i:=5) kQ.nd) (bZ (aZ (i:=6) kQ.nd) gZ))))
  (aE (aK (aG aC8 hr (by decide) (aA (aQ pE (aQ cV (aQ cV (aB 3) (aB 6)) (aB 6)) (aQ cV (aQ cV (aB 5) (aB 4)) (aB 4))) aC)))))),?_⟩
 ac_nf
 have bP:=aJo h1 h2 h3 h4
 have bQ:=aJo h1 h2 h5 h6
 have dP:=(aEa h3 h4).2.2
 have dQ:=(aEa h5 h6).2.2
 refine ⟨cx,cy,px,py,n,rfl,h1,h2,h3,h4,hn,?_⟩
 ac_nf
 refine ⟨rfl,cx,cy,qx,qy,n,rfl,h1,h2,h5,h6,hn,?_⟩
 ac_nf
 refine ⟨rfl,fP bP dQ (by omega),fP (bP.mul dQ) dQ (by omega),fP bQ dP (by omega),fP (bQ.mul dP) dP (by omega),_,rfl,M,.refl _,?_⟩
 obtain ⟨e1,e2⟩:=aIU cx cy px py qx qy
 have e:(if 0 < fS cx cy px py * oD qx qy * oD qx qy - fS cx cy qx qy * oD px py * oD px py then 1 else if fS cx cy px py * oD qx qy * oD qx qy - fS cx cy qx qy * oD px py * oD px py = 0 then 0 else -1:Int) = aGs cx cy px py qx qy:=by
  unfold aGs
  by_cases c:jY cx cy qx qy < jY cx cy px py
  ·rw [if_pos c,if_pos (e1.mpr c)]
  ·rw [if_neg c,if_neg (fun z=>c (e1.mp z))]
   by_cases d:jY cx cy px py = jY cx cy qx qy
   ·rw [if_pos d,if_pos (e2.mpr d)]
   ·rw [if_neg d,if_neg (fun z=>d (e2.mp z))]
 rw [e]
 exact q
def aCk:DSp:=fun ds M Q=>ds = []/\Q (FR 0 0 0 1 1) M
noncomputable abbrev aAZ:Stmt:=top 34
theorem aEW:aS [] [] (aI aAZ):=⟨rfl,rfl,rfl,by decide +kernel,rfl,by decide +kernel,by decide +kernel⟩
theorem aEl (hF:cK K mg "first" aAZ []) (bE:eJ K mg "MIDDLE" sI) (lE:eJ K mg "ONE" aCG):Has P w K mg base 101 "first" [] aCk:=by
 refine Has.mkZ hF aEW (fun ds M Q ⟨e,_⟩=>by rw [e];rfl) fun f cdv A outer s H ds M Q E hr h=>?_
 obtain ⟨rfl,q⟩:=h
 refine ⟨_,(aE (aK (aM (aA (aW bE) (aA aD (aA aD (aA (aW lE) aC))))))),?_⟩
 ac_nf
 exact ⟨by decide,M,.refl _,q⟩
def Wh (q:Rat):Prop:=∃ z:Int,q = (z:Rat)/\-20<=z/\z<=20
theorem bqz:BQ 1 0:=⟨by unfold Bd;decide,by unfold Bd;decide⟩
theorem aD3 {cx cy px py qx qy:Rat}:aGs cx cy px py qx qy = 0 ↔ jY cx cy px py = jY cx cy qx qy:=by
 unfold aGs
 by_cases c:jY cx cy qx qy < jY cx cy px py
 ·rw [if_pos c]
  exact ⟨fun z=>absurd z (by decide),fun z=>by rw [z] at c;exact absurd c Rat.lt_irrefl⟩
 ·rw [if_neg c]
  by_cases d:jY cx cy px py = jY cx cy qx qy
  ·rw [if_pos d];exact ⟨fun _=>d,fun _=>rfl⟩
  ·rw [if_neg d];exact ⟨fun z=>absurd z (by decide),fun z=>absurd z d⟩
inductive Pl where
 | go (a:Rat) | side (a b:Rat) | skip (a:Rat) | dot | left | right | rnd | mirror | grow (a:Rat) | quarter (a:Rat) | half (a:Rat) | arc (a b c d:Rat)
noncomputable def plD:Pl->D
 | .go a=>.tup [.str "go",FQ a]
 | .side a b=>.tup [.str "side",FQ a,FQ b]
 | .skip a=>.tup [.str "skip",FQ a]
 | .dot=>.tup [.str "dot"]
 | .left=>.tup [.str "left"]
 | .right=>.tup [.str "right"]
 | .rnd=>.tup [.str "round"]
 | .mirror=>.tup [.str "mirror"]
 | .grow a=>.tup [.str "grow",FQ a]
 | .quarter a=>.tup [.str "quarter",FQ a]
 | .half a=>.tup [.str "half",FQ a]
 | .arc a b c d=>.tup [.str "arc",FQ a,FQ b,FQ c,FQ d]
def plB (B:Nat):Pl->Prop
 | .go a=>BQ B a
 | .side a b=>BQ B a/\BQ B b
 | .skip a=>BQ B a
 | .grow a=>BQ B a/\0 < a
 | .quarter a=>BQ B a/\a ≠ 0
 | .half a=>BQ B a/\a ≠ 0
 | .arc a b c d=>BQ B a/\BQ B b/\BQ B c/\BQ B d/\¬ (a = 0/\b = 0)/\¬ (a = c/\b = d)/\jY a b 0 0 = jY a b c d
 | _=>True
inductive Lg where
 | st (x y u v:Rat) | bd (a b c d e f:Rat) (w:Int)
noncomputable def lgD:Lg->D
 | .st x y u v=>.tup [.str "straight",PQ x y,PQ u v]
 | .bd a b c d e f w=>.tup [.str "bend",PQ a b,PQ c d,PQ e f,.int w]
noncomputable def aGS:Pl->Option Lg
 | .go a=>some (.st 0 0 a 0)
 | .side a b=>some (.st 0 0 a b)
 | .dot=>some (.st 0 0 0 0)
 | .quarter a=>if 0 < a then some (.bd 0 a 0 0 a a 1) else some (.bd 0 a 0 0 (-a) a (-1))
 | .half a=>some (.bd 0 a 0 0 0 (a + a) (if 0 < a then 1 else -1))
 | .arc a b c d=>some (.bd a b 0 0 c d 1)
 | _=>none
noncomputable def aG4:Pl->Fm
 | .go a=>⟨a,0,0,1,1⟩
 | .side a b=>⟨a,b,0,1,1⟩
 | .skip a=>⟨a,0,0,1,1⟩
 | .dot=>⟨0,0,0,1,1⟩
 | .left=>⟨0,0,1,1,1⟩
 | .right=>⟨0,0,3,1,1⟩
 | .rnd=>⟨0,0,2,1,1⟩
 | .mirror=>⟨0,0,0,-1,1⟩
 | .grow a=>⟨0,0,0,1,a⟩
 | .quarter a=>if 0 < a then ⟨a,a,1,1,1⟩ else ⟨-a,a,3,1,1⟩
 | .half a=>⟨0,a + a,2,1,1⟩
 | .arc _ _ c d=>⟨c,d,0,1,1⟩
noncomputable def lgO:Option Lg->D
 | none=>.non
 | some l=>lgD l
inductive Rw where
 | pl (p:Pl) | ag (n:Nat) (rs:List Rw) | kp (rs:List Rw) | ev (rs:List Rw)
mutual
noncomputable def rwD:Rw->D
 | .pl p=>plD p
 | .ag n rs=>.tup [.str "again",.int (n:Int),.tup (bI rs)]
 | .kp rs=>.tup [.str "keep",.tup (bI rs)]
 | .ev rs=>.tup [.str "ever",.tup (bI rs)]
noncomputable def bI:List Rw->List D
 | []=>[]
 | r :: rs=>rwD r :: bI rs
end
theorem fN:∀ rs:List Rw,bI rs = rs.map rwD
 | []=>rfl
 | r :: rs=>by rw [bI,fN rs,map_cons]
def Dp:Nat->Rw->Prop
 | _,.pl _=>True
 | 0,_=>False
 | d + 1,.ag n rs=>(n:Int) < 2 ^ 60/\rs.length<=1000/\∀ r ∈ rs,Dp d r
 | d + 1,.kp rs=>rs.length<=1000/\∀ r ∈ rs,Dp d r
 | d + 1,.ev rs=>rs.length<=1000/\∀ r ∈ rs,Dp d r
def DpS:Nat->List Rw->Prop
 | 0,_=>False
 | d + 1,rs=>rs.length<=1000/\∀ r ∈ rs,Dp d r
theorem qS {d n:Nat} {rs:List Rw} (h:Dp d (.ag n rs)):(n:Int) < 2 ^ 60/\DpS d rs:=by
 cases d with
 | zero=>exact h.elim
 | succ d=>exact ⟨h.1,h.2.1,h.2.2⟩
theorem sK {d:Nat} {rs:List Rw} (h:Dp d (.kp rs)):DpS d rs:=by
 cases d with
 | zero=>exact h.elim
 | succ d=>exact h
theorem uZ {d:Nat} {rs:List Rw} (h:Dp d (.ev rs)):DpS d rs:=by
 cases d with
 | zero=>exact h.elim
 | succ d=>exact h
theorem wH:∀ {d d':Nat} {r:Rw},Dp d r->d<=d'->Dp d' r
 | _,0,.pl _,_,_=>trivial
 | _,_ + 1,.pl _,_,_=>trivial
 | 0,_,.ag _ _,h,_=>h.elim
 | 0,_,.kp _,h,_=>h.elim
 | 0,_,.ev _,h,_=>h.elim
 | d + 1,0,_,_,l=>absurd l (by omega)
 | d + 1,d' + 1,.ag n rs,h,l=>⟨h.1,h.2.1,fun r hr=>wH (h.2.2 r hr) (by omega)⟩
 | d + 1,d' + 1,.kp rs,h,l=>⟨h.1,fun r hr=>wH (h.2 r hr) (by omega)⟩
 | d + 1,d' + 1,.ev rs,h,l=>⟨h.1,fun r hr=>wH (h.2 r hr) (by omega)⟩
noncomputable def inR:Rw->D
 | .pl _=>.non
 | .ag _ rs=>.tup (bI rs)
 | .kp rs=>.tup (bI rs)
 | .ev rs=>.tup (bI rs)
mutual
noncomputable def dnR:Rw->Nat
 | .pl _=>1
 | .ag n rs=>dnS rs * n
 | .kp rs=>dnS rs
 | .ev rs=>dnS rs
noncomputable def dnS:List Rw->Nat
 | []=>0
 | r :: rs=>dnR r + dnS rs
end
noncomputable abbrev LR:=Lg × Int × List Int
structure Ed where
 f:Fm
 a:Int
 rd:List Int
 ls:List LR
theorem bJ {Q:DQ} {d:D} {M:DM} (q:Q d M):Dn Q d M:=⟨M,.refl _,q⟩
theorem kS {rs:List Rw} {i:Nat} {d:D} (h:(bI rs)[i]? = some d):∃ r,rs[i]? = some r/\d = rwD r:=by
 rw [fN,getElem?_map] at h
 obtain ⟨r,e,z⟩:=Option.map_eq_some_iff.mp h
 exact ⟨r,e,z.symm⟩
theorem cP (rs:List Rw):(bI rs).length = rs.length:=by rw [fN,length_map]
theorem kF {α:Type} {rs:List α} {i:Nat} {r:α} (h:rs[i]? = some r):rs.take (i + 1) = rs.take i ++ [r]:=by
 have hl:=(List.getElem?_eq_some_iff.mp h).1
 have e:rs[i] = r:=(List.getElem?_eq_some_iff.mp h).2
 rw [List.take_succ_eq_append_getElem hl,e]
theorem sV:∀ xs ys:List Rw,dnS (xs ++ ys) = dnS xs + dnS ys
 | [],ys=>by rw [nil_append,dnS,Nat.zero_add]
 | x :: xs,ys=>by rw [cons_append,dnS,dnS,sV xs ys,Nat.add_assoc]
noncomputable def lrD (x:LR):D:=.tup [lgD x.1,.int x.2.1,.tup (x.2.2.map D.int)]
def EdR (M M':DM) (d:D) (e:Ed):Prop:=∃ q:Addr,d = .tup [FmD e.f,.int e.a,.tup (e.rd.map D.int),.ref q]/\M q = none/\M' q = some (e.ls.map lrD)
structure aDU (M M':DM) (ps pe:Addr) (L Es:List D) (ls:List LR) (es:List Ed):Prop where
 s:M' ps = some (L ++ ls.map lrD)
 e:∃ Es',M' pe = some (Es ++ Es')/\Paired (EdR M M') Es' es
 o:∀ k:AK,k ≠ .l ps->k ≠ .l pe->∀ o,M k = some o->M' k = some o
theorem aDQ {α β:Type} {F:α->β->Prop}:∀ {l₁:List α} {l₂:List β} {m₁:List α} {m₂:List β},Paired F l₁ l₂->Paired F m₁ m₂->Paired F (l₁ ++ m₁) (l₂ ++ m₂)
 | _,_,_,_,.nil,h=>h
 | _,_,_,_,.cons h₁ t,h=>.cons h₁ (aDQ t h)
theorem aDU.trans {M M1 M2:DM} {ps pe:Addr} {L Es Es1:List D} {ls ls2:List LR} {es es2:List Ed} (a1:M ps = some L) (a2:M pe = some Es) (h:aDU M M1 ps pe L Es ls es) (e1:M1 pe = some Es1) (h2:aDU M1 M2 ps pe (L ++ ls.map lrD) Es1 ls2 es2):aDU M M2 ps pe L Es (ls ++ ls2) (es ++ es2):=by
 obtain ⟨Es',e,pr⟩:=h.e
 obtain ⟨Es2,e2,pr2⟩:=h2.e
 have eq:Es1 = Es ++ Es':=by rw [e] at e1;exact (Option.some.inj e1).symm
 subst eq
 refine ⟨by rw [map_append,<- append_assoc];exact h2.s,⟨Es' ++ Es2,by rw [<- append_assoc];exact e2,?_⟩,fun k n1 n2 o q=>h2.o k n1 n2 o (h.o k n1 n2 o q)⟩
 refine aDQ (Paired.mapP pr fun d x ⟨q,z,f,l⟩=>⟨q,z,f,?_⟩) (Paired.mapP pr2 fun d x ⟨q,z,f,l⟩=>⟨q,z,?_,l⟩)
 ·have n1:(AK.l q) ≠ .l ps:=fun z=>by rw [z,a1] at f;cases f
  have n2:(AK.l q) ≠ .l pe:=fun z=>by rw [z,a2] at f;cases f
  exact h2.o _ n1 n2 _ l
 ·cases c:M q with
  | none=>rfl
  | some o =>
   have n1:(AK.l q) ≠ .l ps:=fun z=>by rw [z,h.s] at f;cases f
   have n2:(AK.l q) ≠ .l pe:=fun z=>by rw [z,e] at f;cases f
   have:=h.o _ n1 n2 _ c
   rw [f] at this;cases this
def tS:DSp:=fun ds M Q=>∃ (p r:Rat) (m n:Nat),ds = [FQ p,FQ r]/\(p ≠ 0/\r ≠ 0)/\BQ m p/\BQ n r/\(m<=4400 ∨ n<=4400)/\m + n<=1000000/\Q (FQ (p * r)) M
theorem aFi {p:Rat} (h:p ≠ 0):p.num ≠ 0:=fun z=>h (Rat.num_eq_zero.mp z)
theorem aEc (hF:cK K mg "times" wD ["one","other"]) (bC:Has P w K mg base 101 "greatest_divisor" ["one","other"] dO):Has P w K mg base 102 "times" ["one","other"] tS:=by
 refine Has.mkZ hF mR (fun ds M Q ⟨_,_,_,_,z,_⟩=>by rw [z];rfl) fun f cdv A outer s H ds M Q E hr h=>?_
 obtain ⟨p,r,m,n,rfl,⟨p0,r0'⟩,h1,h2,sm,l,q⟩:=h
 refine ⟨_,(aF (aN (i:=2) mR.nd (aG bC hr (by decide) (aA (aJ (aB 0) aD) (aA (aJ (aB 1) aD) aC))))
  (aF (aN (i:=3) mR.nd (aG bC hr (by decide) (aA (aJ (aB 1) aD) (aA (aJ (aB 0) aD) aC))))
  (aE (aK (aM (aA (aQ cV (aQ fG (aJ (aB 0) aD) (aB 2)) (aQ fG (aJ (aB 1) aD) (aB 3))) (aA (aQ cV (aQ fG (aJ (aB 0) aD) (aB 3)) (aQ fG (aJ (aB 1) aD) (aB 2))) aC))))))),?_⟩
 obtain ⟨f0,r0,fd,rd,e1,e2⟩:=aMO p r _ _ rfl rfl
 have fl:(Int.gcd p.num r.den:Int) ∣ p.num:=Int.gcd_dvd_left _ _
 have rl:(Int.gcd r.num p.den:Int) ∣ r.num:=Int.gcd_dvd_left _ _
 have cf:∀ x,CFd x (Int.gcd p.num r.den:Int):=fun x=>by
  rcases sm with z | z
  ·exact vY h1.1 (by omega) fl (aFi p0) f0
  ·exact vY h2.2 (by omega) fd (fY r) f0
 have cr:∀ x,CFd x (Int.gcd r.num p.den:Int):=fun x=>by
  rcases sm with z | z
  ·exact vY h1.2 (by omega) rd (fY p) r0
  ·exact vY h2.1 (by omega) rl (aFi r0') r0
 refine ⟨_,_,rfl,_,_,rfl,cf _,cr _,fP (h1.1.fdiv fl) (h2.1.fdiv rl) (by omega),cr _,cf _,fP (h1.2.fdiv rd) (h2.2.fdiv fd) (by omega),by show (2:Nat)<=1000;decide,M,.refl _,?_⟩
 have q':Q (.tup [.int (p * r).num,.int ((p * r).den:Int)]) M:=q
 rw [<- e1,<- e2] at q'
 exact q'
theorem aDE (p:Pl):∃ w dD,plD p = .tup (.str w :: dD)/\w ≠ "again"/\w ≠ "keep"/\w ≠ "ever":=by
 cases p<;>exact ⟨_,_,rfl,by decide,by decide,by decide⟩
theorem tL {d:D} {r:List D}:atI (d :: r) 0 = some d:=by
 unfold atI ixN
 rw [if_pos (by decide),if_pos (by rw [length_cons];omega)]
 rfl
mutual
noncomputable def drR:Rw->Bool
 | .pl p=>(aGS p).isSome
 | .ag n rs=>n != 0 && drS rs
 | .kp rs=>drS rs
 | .ev rs=>drS rs
noncomputable def drS:List Rw->Bool
 | []=>false
 | r :: rs=>drR r || drS rs
end
theorem aIr (p:Pl) (n:Nat):bN (n + 3) (plD p) = true:=by cases p<;>rfl
theorem wF:∀ (d:Nat) (r:Rw) (k:Nat),Dp d r->bN (k + 2 * d + 3) (rwD r) = true
 | _,.pl p,k,_=>by rw [rwD];exact aIr p _
 | d + 1,.ag n ws,k,h=>by
  have hw:∀ x ∈ bI ws,bN (k + 2 * d + 3) x = true:=fun x hx=>by
   rw [fN] at hx
   obtain ⟨r,hr,rfl⟩:=List.mem_map.mp hx
   exact wF d r k (h.2.2 r hr)
  rw [rwD,show k + 2 * (d + 1) + 3 = (k + 2 * d + 3) + 1 + 1 by omega]
  show ([D.str "again",.int (n:Int),.tup (bI ws)].all (bN (k + 2 * d + 3 + 1))) = true
  rw [all_cons,all_cons,all_cons]
  show (true && (true && (((bI ws).all (bN (k + 2 * d + 3))) && true))) = true
  rw [List.all_eq_true.mpr hw];rfl
 | d + 1,.kp ws,k,h=>by
  have hw:∀ x ∈ bI ws,bN (k + 2 * d + 3) x = true:=fun x hx=>by
   rw [fN] at hx
   obtain ⟨r,hr,rfl⟩:=List.mem_map.mp hx
   exact wF d r k (h.2 r hr)
  rw [rwD,show k + 2 * (d + 1) + 3 = (k + 2 * d + 3) + 1 + 1 by omega]
  show ([D.str "keep",.tup (bI ws)].all (bN (k + 2 * d + 3 + 1))) = true
  rw [all_cons,all_cons]
  show (true && (((bI ws).all (bN (k + 2 * d + 3))) && true)) = true
  rw [List.all_eq_true.mpr hw];rfl
 | d + 1,.ev ws,k,h=>by
  have hw:∀ x ∈ bI ws,bN (k + 2 * d + 3) x = true:=fun x hx=>by
   rw [fN] at hx
   obtain ⟨r,hr,rfl⟩:=List.mem_map.mp hx
   exact wF d r k (h.2 r hr)
  rw [rwD,show k + 2 * (d + 1) + 3 = (k + 2 * d + 3) + 1 + 1 by omega]
  show ([D.str "ever",.tup (bI ws)].all (bN (k + 2 * d + 3 + 1))) = true
  rw [all_cons,all_cons]
  show (true && (((bI ws).all (bN (k + 2 * d + 3))) && true)) = true
  rw [List.all_eq_true.mpr hw];rfl
def Sz (k:Nat) (x:Rat):Prop:=∃ t b:Nat,(0 < t/\t<=12 ^ k)/\(0 < b/\b<=12 ^ k)/\x * (b:Rat) = (t:Rat)
theorem Sz.one:Sz 0 1:=⟨1,1,by decide,by decide,Rat.one_mul _⟩
theorem Sz.mul {j k:Nat} {x y:Rat} (h:Sz j x) (h2:Sz k y):Sz (j + k) (x * y):=by
 obtain ⟨t,b,⟨t0,t1⟩,⟨b0,b1⟩,e⟩:=h
 obtain ⟨u,c,⟨u0,u1⟩,⟨c0,c1⟩,e2⟩:=h2
 refine ⟨t * u,b * c,⟨Nat.mul_pos t0 u0,?_⟩,⟨Nat.mul_pos b0 c0,?_⟩,?_⟩
 ·rw [Nat.pow_add];exact Nat.mul_le_mul t1 u1
 ·rw [Nat.pow_add];exact Nat.mul_le_mul b1 c1
 ·rw [Rat.natCast_mul,Rat.natCast_mul,<- e,<- e2];grind
theorem Sz.mono {j k:Nat} {x:Rat} (h:Sz j x) (l:j<=k):Sz k x:=by
 obtain ⟨t,b,⟨t0,t1⟩,⟨b0,b1⟩,e⟩:=h
 have:=Nat.pow_le_pow_right (n:=12) (by decide) l
 exact ⟨t,b,⟨t0,by omega⟩,⟨b0,by omega⟩,e⟩
theorem Sz.pow {j:Nat} {x:Rat} (h:Sz j x):∀ n,Sz (j * n) (x ^ n)
 | 0=>by rw [Rat.pow_zero];exact Sz.one
 | n + 1=>by rw [Rat.pow_succ,Nat.mul_succ];exact (h.pow n).mul h
theorem Sz.bq {k:Nat} {x:Rat} (h:Sz k x):BQ (4 * k + 1) x:=by
 obtain ⟨t,b,⟨t0,t1⟩,⟨b0,b1⟩,e⟩:=h
 have p1:12 ^ k<=16 ^ k:=Nat.pow_le_pow_left (by decide) k
 have p2:16 ^ k = 2 ^ (4 * k):=by rw [Nat.pow_mul]
 have p3:2 ^ (4 * k) < 2 ^ (4 * k + 1):=Nat.pow_lt_pow_right (by decide) (by omega)
 have n0:((b:Int):Rat) ≠ 0:=by
  have:=aIF (show (0:Int) < (b:Int) by omega)
  grind
 have es:x = ((t:Int):Rat) / ((b:Int):Rat):=by
  simp only [Rat.intCast_natCast] at n0 ⊢
  grind
 rw [es]
 exact .make (by omega) (by unfold Bd;show t < _;omega) (by unfold Bd;show b < _;omega)
mutual
noncomputable def szR:Rw->Rat
 | .pl (.grow a)=>a
 | .pl _=>1
 | .ag n rs=>szS rs ^ n
 | .kp _=>1
 | .ev _=>1
noncomputable def szS:List Rw->Rat
 | []=>1
 | r :: rs=>szR r * szS rs
end
theorem aDs:∀ xs ys:List Rw,szS (xs ++ ys) = szS xs * szS ys
 | [],ys=>by rw [nil_append,szS,Rat.one_mul]
 | x :: xs,ys=>by rw [cons_append,szS,szS,aDs xs ys,Rat.mul_assoc]
mutual
def gwR (N:Nat):Rw->Prop
 | .pl (.grow a)=>Sz 1 a
 | .pl _=>True
 | .ag _ rs=>dnS rs<=N/\gwS N rs
 | .kp rs=>dnS rs<=N/\gwS N rs
 | .ev rs=>(1<=dnS rs/\dnS rs<=N)/\gwS N rs
def gwS (N:Nat):List Rw->Prop
 | []=>True
 | r :: rs=>gwR N r/\gwS N rs
end
theorem aDV {N:Nat}:∀ {xs ys:List Rw},gwS N (xs ++ ys) ↔ gwS N xs/\gwS N ys
 | [],ys=>by rw [nil_append,gwS];simp
 | x :: xs,ys=>by rw [cons_append,gwS,gwS,aDV,and_assoc]
theorem aHA (p:Pl):(∃ a,p = .grow a) ∨ ∃ w dD,plD p = .tup (.str w :: dD)/\w ≠ "grow"/\w ≠ "again"/\szR (.pl p) = 1:=by
 cases p with
 | grow a=>exact .inl ⟨a,rfl⟩
 | _=>refine .inr ⟨_,_,rfl,by decide,by decide,?_⟩;rw [szR];intro _ z;cases z
noncomputable def enB (rs:List Rw):Bool:=decide (dnS rs<=300) && ((decide (szS rs = 1) || decide (4 * (szS rs).num<=3 * ((szS rs).den:Int))) && drS rs)
mutual
def wR:Rw->Prop
 | .pl (.grow a)=>Sz 1 a
 | .pl _=>True
 | .ag n ws=>wS ws/\dnS ws<=12000/\(∀ r ∈ ws,dnR r<=704 ∨ dnS ws<=dnR r + 704)/\(n<=1 ∨ dnS ws<=704)
 | .kp _=>True
 | .ev _=>True
def wS:List Rw->Prop
 | []=>True
 | r :: rs=>wR r/\wS rs
end
def loS (rs:List Rw):Prop:=wS rs/\dnS rs<=12000/\∀ r ∈ rs,dnR r<=704 ∨ dnS rs<=dnR r + 704
theorem aFa:∀ {rs:List Rw} {r:Rw},wS rs->r ∈ rs->wR r
 | x :: xs,r,h,m=>by
  rw [wS] at h
  rcases List.mem_cons.mp m with rfl | z
  ·exact h.1
  ·exact aFa h.2 z
theorem aE6:∀ {xs ys:List Rw},wS (xs ++ ys) ↔ wS xs/\wS ys
 | [],ys=>by rw [nil_append,wS,true_and]
 | x :: xs,ys=>by rw [cons_append,wS,wS,aE6,and_assoc]
mutual
theorem aI5:∀ r:Rw,wR r->Sz (dnR r) (szR r)
 | .pl p,h=>by
  cases p with
  | grow a=>rw [wR] at h;rw [dnR,szR];exact h
  | _ =>
      rw [dnR,szR];· exact Sz.one.mono (by decide)
      all_goals (intro _ z;cases z)
 | .ag n rs,h=>by rw [wR] at h;rw [dnR,szR];exact (aBY rs h.1).pow n
 | .kp rs,h=>by rw [szR];exact Sz.one.mono (Nat.zero_le _)
 | .ev rs,h=>by rw [szR];exact Sz.one.mono (Nat.zero_le _)
theorem aBY:∀ rs:List Rw,wS rs->Sz (dnS rs) (szS rs)
 | [],_=>by rw [dnS,szS];exact Sz.one
 | r :: rs,h=>by rw [wS] at h;rw [dnS,szS];exact (aI5 r h.1).mul (aBY rs h.2)
end
theorem aJU {n:Nat} {ws:List Rw} (h:wR (.ag n ws)):loS ws:=by rw [wR] at h;exact ⟨h.1,h.2.1,h.2.2.1⟩
theorem Sz.pos' {k:Nat} {x:Rat} (h:Sz k x):0 < x:=by
 obtain ⟨t,b,⟨t0,_⟩,⟨b0,_⟩,e⟩:=h
 have h1:=aIF (show (0:Int) < (t:Int) by omega)
 have h2:=aIF (show (0:Int) < (b:Int) by omega)
 simp only [Rat.intCast_natCast] at h1 h2
 rw [<- e] at h1
 exact Rat.lt_of_mul_lt_mul_right (by rw [Rat.zero_mul];exact h1) (Rat.le_of_lt h2)
theorem aNr {p r:Rat} {j k:Nat} {M:DM} {Q:DQ} (h1:Sz j p) (h2:Sz k r) (sm:j<=1000 ∨ k<=1000) (l:j + k<=200000) (q:Q (FQ (p * r)) M):tS [FQ p,FQ r] M Q :=
 ⟨_,_,_,_,rfl,⟨fun z=>by have:=h1.pos';rw [z] at this;exact absurd this (by decide),fun z=>by have:=h2.pos';rw [z] at this;exact absurd this (by decide)⟩,h1.bq,h2.bq,by omega,by omega,q⟩
structure En where
 wd:Str
 n:Nat
 a:Addr
 rs:List Rw
noncomputable def enD (e:En):D:=.tup [.str e.wd,.int (e.n:Int),.ref e.a]
def aBZ (M M':DM) (as:List Addr):Prop:=∀ k:AK,(∀ a ∈ as,k ≠ .l a)->∀ x,M k = some x->M' k = some x
theorem aBZ.sub {M M' M'':DM} {as:List Addr} (h:aBZ M M' as) (s:bB M' M''):aBZ M M'' as:=fun k n x e=>s _ _ (h k n x e)
theorem aBq {xs:List D} {d:D}:atI (xs ++ [d]) (-1) = some d:=by
 unfold atI ixN
 rw [if_neg (by decide),if_pos (by rw [length_append,length_cons,length_nil];omega)]
 rw [length_append,length_cons,length_nil]
 show (xs ++ [d])[((-1:Int) + ((xs.length + (0 + 1):Nat):Int)).toNat]? = some d
 rw [show ((-1:Int) + ((xs.length + (0 + 1):Nat):Int)).toNat = xs.length by omega]
 simp
noncomputable def Fc (m:Nat):Nat:=if m<=2 then m else if m = 3 then 12 else if m = 4 then 24 else 18 * m
theorem aKQ (m n:Nat):Fc m + Fc n<=Fc (m + n):=by
 unfold Fc
 repeat' split
 all_goals omega
mutual
def alR (F:Pl->Prop):Rw->Prop
 | .pl p=>F p
 | .ag _ rs=>alS F rs
 | .kp rs=>alS F rs
 | .ev rs=>alS F rs
def alS (F:Pl->Prop):List Rw->Prop
 | []=>True
 | r :: rs=>alR F r/\alS F rs
end
theorem aDD {F:Pl->Prop}:∀ {xs ys:List Rw},alS F (xs ++ ys) ↔ alS F xs/\alS F ys
 | [],ys=>by rw [nil_append,alS];simp
 | x :: xs,ys=>by rw [cons_append,alS,alS,aDD,and_assoc]
mutual
noncomputable def hmR:Rw->Nat
 | .pl _=>1
 | .ag _ rs=>1 + hmS rs
 | .kp rs=>1 + hmS rs
 | .ev rs=>1 + hmS rs
noncomputable def hmS:List Rw->Nat
 | []=>0
 | r :: rs=>hmR r + hmS rs
end
theorem lT:∀ xs ys:List Rw,hmS (xs ++ ys) = hmS xs + hmS ys
 | [],ys=>by rw [nil_append,hmS,Nat.zero_add]
 | x :: xs,ys=>by rw [cons_append,hmS,hmS,lT xs ys,Nat.add_assoc]
mutual
def ltR:Rw->Prop
 | .pl _=>True
 | .ag n rs=>n<=12/\ltS rs
 | .kp rs=>ltS rs
 | .ev rs=>ltS rs
def ltS:List Rw->Prop
 | []=>True
 | r :: rs=>ltR r/\ltS rs
end
theorem aDN:∀ {xs ys:List Rw},ltS (xs ++ ys) ↔ ltS xs/\ltS ys
 | [],ys=>by rw [nil_append,ltS];simp
 | x :: xs,ys=>by rw [cons_append,ltS,ltS,aDN,and_assoc]
structure aGy (F:Pl->Prop) (i m:Nat) (rs:List Rw):Prop where
 dp:∀ r ∈ rs,Dp (4 - i) r
 len:rs.length<=m
 dn:dnS rs<=Fc m
 gw:gwS 690 rs
 al:alS F rs
 lt:ltS rs/\hmS rs<=3 * m
theorem aGy.row {F:Pl->Prop} {i m:Nat} {rs:List Rw} (h:aGy F i m rs) {p:Pl} (hp:F p) (hg:gwR 690 (.pl p)):aGy F i (m + 1) (rs ++ [.pl p]):=by
 refine ⟨fun r hr=>?_,by rw [length_append];have:=h.len;show rs.length + 1<=m + 1;omega,?_,aDV.mpr ⟨h.gw,by rw [gwS,gwS];exact ⟨hg,trivial⟩⟩,aDD.mpr ⟨h.al,by rw [alS,alS,alR];exact ⟨hp,trivial⟩⟩,aDN.mpr ⟨h.lt.1,by rw [ltS,ltS,ltR];exact ⟨trivial,trivial⟩⟩,by rw [lT,hmS,hmS,hmR];have:=h.lt.2;omega⟩
 ·rcases List.mem_append.mp hr with z | z
  ·exact h.dp r z
  ·rw [List.mem_singleton.mp z];unfold Dp;trivial
 ·rw [sV,dnS,dnS,dnR]
  have:=h.dn
  have:=aKQ m 1
  have:Fc 1 = 1:=rfl
  omega
noncomputable abbrev Es:=List (En × Nat)
noncomputable def esD (es:Es):List D:=es.map fun x=>enD x.1
def wd3 (w:Str):Prop:=w = "again" ∨ w = "keep" ∨ w = "ever"
structure SI (F:Pl->Prop) (B M:DM) (st:Addr) (es:Es) (c:Nat):Prop where
 sub:bB B M
 new:B st = none
 hst:M st = some (esD es)
 len:es.length<=5
 sum:(es.map (·.2)).sum + es.length<=c + 1
 ent:∀ (i:Nat) x,es[i]? = some x->(aGy F i x.2 x.1.rs/\M x.1.a = some (bI x.1.rs)/\B x.1.a = none)/\st ≠ x.1.a/\x.1.n<=12/\(0 < i->wd3 x.1.wd)
 nod:(es.map (·.1.a)).Nodup
theorem aFv {B M M':DM} {as:List Addr} (s:bB B M) (k:aBZ M M' as) (n:∀ a ∈ as,B a = none):bB B M':=fun a x e=>k a (fun b hb z=>by rw [z,n b hb] at e;cases e) x (s _ _ e)
theorem aGX {α:Type} {xs:List α} {y:α} {i:Nat} {x:α} (h:(xs ++ [y])[i]? = some x):xs[i]? = some x ∨ (i = xs.length/\x = y):=by
 rw [List.getElem?_append] at h
 split at h
 ·exact .inl h
 ·rename_i l
  have:i - xs.length = 0:=by
   cases hk:i - xs.length with
   | zero=>rfl
   | succ k=>rw [hk] at h;simp at h
  rw [this] at h
  simp at h
  exact .inr ⟨by omega,h.symm⟩
theorem SI.top {F:Pl->Prop} {B M M':DM} {st:Addr} {es:Es} {u:En} {m m' c c':Nat} {rs':List Rw} (h:SI F B M st (es ++ [(u,m)]) c) (hs:M' st = some (esD (es ++ [(u,m)]))) (hu:M' u.a = some (bI rs')) (k:aBZ M M' [st,u.a]) (ok:aGy F es.length m' rs') (hc:(es.map (·.2)).sum + m' + es.length<=c'):SI F B M' st (es ++ [({ u with rs:=rs' },m')]) c':=by
 have hend:(es ++ [(u,m)])[es.length]? = some (u,m):=by rw [getElem?_append_right (Nat.le_refl _)];simp
 have hu0:=h.ent _ _ hend
 refine ⟨aFv h.sub k fun a ha=>?_,h.new,?_,?_,?_,fun i x hx=>?_,?_⟩
 ·rcases List.mem_cons.mp ha with rfl | z
  ·exact h.new
  ·rw [List.mem_singleton.mp z];exact hu0.1.2.2
 ·rw [hs];unfold esD;rw [map_append,map_append];rfl
 ·have:=h.len
  rw [length_append] at *;exact this
 ·rw [map_append,sum_append,length_append]
  simp
  omega
 ·rcases aGX hx with z | ⟨rfl,rfl⟩
  ·have hi:=(List.getElem?_eq_some_iff.mp z).1
   have hx0:(es ++ [(u,m)])[i]? = some x:=by rw [getElem?_append_left hi];exact z
   obtain ⟨⟨a1,a2,a3⟩,a4,a5⟩:=h.ent i x hx0
   refine ⟨⟨a1,k _ (fun b hb y=>?_) _ a2,a3⟩,a4,a5⟩
   rcases List.mem_cons.mp hb with rfl | z2
   ·cases y;exact a4 rfl
   ·rw [List.mem_singleton.mp z2] at y
    have nd:=h.nod
    rw [map_append,nodup_append] at nd
    have:=nd.2.2 x.1.a (List.mem_map.mpr ⟨x,mem_of_getElem? z,rfl⟩) u.a (by simp)
    exact this (by injection y)
  ·exact ⟨⟨ok,hu,hu0.1.2.2⟩,hu0.2.1,hu0.2.2.1,hu0.2.2.2⟩
 ·have nd:=h.nod
  rw [map_append] at *;exact nd
noncomputable def aCd:D:=.tup [.int 0,.int 1]
def eN:DSp:=fun ds M Q=>∃ x y t,ds = [PQ x y,.int t]/\Q (FR x y t 1 1) M
noncomputable abbrev rO:Stmt:=top 37
theorem aBx:aS ["place","turns"] ["place","turns"] (aI rO):=⟨rfl,rfl,rfl,by decide +kernel,rfl,by decide +kernel,by decide +kernel⟩
theorem aBc (hF:cK K mg "at_place" rO ["place","turns"]) (lE:eJ K mg "ONE" aCG):Has P w K mg base 101 "at_place" ["place","turns"] eN:=by
 refine Has.mkZ hF aBx (fun ds M Q ⟨a,b,c,z,_⟩=>by rw [z];rfl) fun f cdv A outer s H ds M Q E hr h=>?_
 obtain ⟨x,y,t,rfl,q⟩:=h
 refine ⟨_,(aE (aK (aM (aA (aB 0) (aA (aB 1) (aA aD (aA (aW lE) aC))))))),?_⟩
 ac_nf
 exact ⟨by decide,M,.refl _,q⟩
def gS (B:Nat) (ok:Pl->Prop):DSp:=fun ds M Q=>∃ p,ds = [plD p]/\ok p/\plB B p/\Q (.tup [lgO (aGS p),FmD (aG4 p)]) M
theorem fQ {B:Nat} {ok:Pl->Prop} (ds:List D) (M:DM) (Q:DQ) (h:gS B ok ds M Q):ds.length = 1:=by obtain ⟨p,rfl,_⟩:=h;rfl
def nL:DSp:=fun ds M Q=>∃ (x:Str) (a b:Rat),ds = [.tup [.str x,FQ a,FQ b]]/\Q (.tup [lgD (.st 0 0 a b),FmD ⟨a,b,0,1,1⟩]) M
noncomputable abbrev pU:Stmt:=top 39
theorem sQ:aS ["row","place"] ["row"] (aI pU):=⟨rfl,rfl,rfl,by decide +kernel,rfl,by decide +kernel,by decide +kernel⟩
theorem zG (hF:cK K mg "side_deed" pU ["row"]) (bE:eJ K mg "MIDDLE" sI) (bL:Has P w K mg base 101 "at_place" ["place","turns"] eN):Has P w K mg base 102 "side_deed" ["row"] nL:=by
 refine Has.mkZ hF sQ (fun ds M Q ⟨a,b,c,z,_⟩=>by rw [z];rfl) fun f cdv A outer s H ds M Q E hr h=>?_
 obtain ⟨x,a,b,rfl,q⟩:=h
 refine ⟨_,(aF (aN (i:=1) sQ.nd (aM (aA (aJ (aB 0) aD) (aA (aJ (aB 0) aD) aC))))
  (aE (aK (aM (aA (aM (aA aO (aA (aW bE) (aA (aB 1) aC)))) (aA (aG bL hr (by decide) (aA (aB 1) (aA aD aC))) aC)))))),?_⟩
 ac_nf
 refine ⟨by decide,by decide,a,b,0,rfl,?_⟩
 ac_nf
 exact ⟨by decide,M,.refl _,q⟩
def xN:DSp:=gS 900 fun p=>∃ a,p = .go a
noncomputable abbrev uF:Stmt:=top 38
theorem aCO:aS ["row"] ["row"] (aI uF):=⟨rfl,rfl,rfl,by decide +kernel,rfl,by decide +kernel,by decide +kernel⟩
theorem aB5 (hF:cK K mg "go_deed" uF ["row"]) (dG:eJ K mg "NOTHING" aCd) (iJ:Has P w K mg base 102 "side_deed" ["row"] nL):Has P w K mg base 103 "go_deed" ["row"] xN:=by
 refine Has.mkZ hF aCO fQ fun f cdv A outer s H ds M Q E hr h=>?_
 obtain ⟨p,rfl,⟨a,rfl⟩,b,q⟩:=h
 refine ⟨_,(aE (aK (aG iJ hr (by decide) (aA (aM (aA aO (aA (aJ (aB 0) aD) (aA (aW dG) aC)))) aC)))),?_⟩
 dsimp only [plD]
 ac_nf
 refine ⟨by decide,"side",a,0,rfl,?_⟩
 exact ⟨M,.refl _,q⟩
def sD:DSp:=gS 900 fun p=>∃ a,p = .skip a
noncomputable abbrev qA:Stmt:=top 40
theorem aAF:aS ["row"] ["row"] (aI qA):=⟨rfl,rfl,rfl,by decide +kernel,rfl,by decide +kernel,by decide +kernel⟩
theorem yZ (hF:cK K mg "skip_deed" qA ["row"]) (dG:eJ K mg "NOTHING" aCd) (bL:Has P w K mg base 101 "at_place" ["place","turns"] eN):Has P w K mg base 103 "skip_deed" ["row"] sD:=by
 refine Has.mkZ hF aAF fQ fun f cdv A outer s H ds M Q E hr h=>?_
 obtain ⟨p,rfl,⟨a,rfl⟩,b,q⟩:=h
 refine ⟨_,(aE (aK (aM (aA cN (aA (aG bL hr (by decide) (aA (aM (aA (aJ (aB 0) aD) (aA (aW dG) aC))) (aA aD aC))) aC))))),?_⟩
 dsimp only [plD]
 ac_nf
 refine ⟨by decide,a,0,0,rfl,?_⟩
 ac_nf
 exact ⟨by decide,M,.refl _,q⟩
def vJ:DSp:=gS 900 fun p=>p = .dot
noncomputable abbrev qY:Stmt:=top 41
theorem aBI:aS ["row"] ["row"] (aI qY):=⟨rfl,rfl,rfl,by decide +kernel,rfl,by decide +kernel,by decide +kernel⟩
theorem aAT (hF:cK K mg "dot_deed" qY ["row"]) (bE:eJ K mg "MIDDLE" sI) (aAE:Has P w K mg base 101 "first" [] aCk):Has P w K mg base 103 "dot_deed" ["row"] vJ:=by
 refine Has.mkZ hF aBI fQ fun f cdv A outer s H ds M Q E hr h=>?_
 obtain ⟨p,rfl,rfl,b,q⟩:=h
 refine ⟨_,(aE (aK (aM (aA (aM (aA aO (aA (aW bE) (aA (aW bE) aC)))) (aA (aDg aAE hr (by decide)) aC))))),?_⟩
 ac_nf
 refine ⟨by decide,rfl,?_⟩
 ac_nf
 exact ⟨by decide,M,.refl _,q⟩
def sE:DSp:=gS 900 fun p=>p = .left
noncomputable abbrev oV:Stmt:=top 42
theorem aAL:aS ["row"] ["row"] (aI oV):=⟨rfl,rfl,rfl,by decide +kernel,rfl,by decide +kernel,by decide +kernel⟩
theorem yY (hF:cK K mg "left_deed" oV ["row"]) (bE:eJ K mg "MIDDLE" sI) (bL:Has P w K mg base 101 "at_place" ["place","turns"] eN):Has P w K mg base 103 "left_deed" ["row"] sE:=by
 refine Has.mkZ hF aAL fQ fun f cdv A outer s H ds M Q E hr h=>?_
 obtain ⟨p,rfl,rfl,b,q⟩:=h
 refine ⟨_,(aE (aK (aM (aA cN (aA (aG bL hr (by decide) (aA (aW bE) (aA aD aC))) aC))))),?_⟩
 ac_nf
 refine ⟨0,0,1,rfl,?_⟩
 ac_nf
 exact ⟨by decide,M,.refl _,q⟩
def qV:DSp:=gS 900 fun p=>p = .rnd
noncomputable abbrev nK:Stmt:=top 43
theorem yX:aS ["row"] ["row"] (aI nK):=⟨rfl,rfl,rfl,by decide +kernel,rfl,by decide +kernel,by decide +kernel⟩
theorem xF (hF:cK K mg "round_deed" nK ["row"]) (bE:eJ K mg "MIDDLE" sI) (bL:Has P w K mg base 101 "at_place" ["place","turns"] eN):Has P w K mg base 103 "round_deed" ["row"] qV:=by
 refine Has.mkZ hF yX fQ fun f cdv A outer s H ds M Q E hr h=>?_
 obtain ⟨p,rfl,rfl,b,q⟩:=h
 refine ⟨_,(aE (aK (aM (aA cN (aA (aG bL hr (by decide) (aA (aW bE) (aA aD aC))) aC))))),?_⟩
 ac_nf
 refine ⟨0,0,2,rfl,?_⟩
 ac_nf
 exact ⟨by decide,M,.refl _,q⟩
def qT:DSp:=gS 900 fun p=>p = .right
noncomputable abbrev nE:Stmt:=top 44
theorem zB:aS ["row"] ["row"] (aI nE):=⟨rfl,rfl,rfl,by decide +kernel,rfl,by decide +kernel,by decide +kernel⟩
theorem xE (hF:cK K mg "right_deed" nE ["row"]) (bE:eJ K mg "MIDDLE" sI) (bL:Has P w K mg base 101 "at_place" ["place","turns"] eN):Has P w K mg base 103 "right_deed" ["row"] qT:=by
 refine Has.mkZ hF zB fQ fun f cdv A outer s H ds M Q E hr h=>?_
 obtain ⟨p,rfl,rfl,b,q⟩:=h
 refine ⟨_,(aE (aK (aM (aA cN (aA (aG bL hr (by decide) (aA (aW bE) (aA aD aC))) aC))))),?_⟩
 ac_nf
 refine ⟨0,0,3,rfl,?_⟩
 ac_nf
 exact ⟨by decide,M,.refl _,q⟩
def pR:DSp:=gS 900 fun p=>p = .mirror
noncomputable abbrev lZ:Stmt:=top 45
theorem yL:aS ["row"] ["row"] (aI lZ):=⟨rfl,rfl,rfl,by decide +kernel,rfl,by decide +kernel,by decide +kernel⟩
theorem vP (hF:cK K mg "mirror_deed" lZ ["row"]) (bE:eJ K mg "MIDDLE" sI) (lE:eJ K mg "ONE" aCG):Has P w K mg base 103 "mirror_deed" ["row"] pR:=by
 refine Has.mkZ hF yL fQ fun f cdv A outer s H ds M Q E hr h=>?_
 obtain ⟨p,rfl,rfl,b,q⟩:=h
 refine ⟨_,(aE (aK (aM (aA cN (aA (aM (aA (aW bE) (aA aD (aA (eR aD) (aA (aW lE) aC))))) aC))))),?_⟩
 ac_nf
 exact ⟨by decide,by decide,M,.refl _,q⟩
def sN:DSp:=gS 900 fun p=>∃ a,p = .grow a
noncomputable abbrev pA:Stmt:=top 46
theorem aA5:aS ["row"] ["row"] (aI pA):=⟨rfl,rfl,rfl,by decide +kernel,rfl,by decide +kernel,by decide +kernel⟩
theorem yT (hF:cK K mg "grow_deed" pA ["row"]) (bE:eJ K mg "MIDDLE" sI):Has P w K mg base 103 "grow_deed" ["row"] sN:=by
 refine Has.mkZ hF aA5 fQ fun f cdv A outer s H ds M Q E hr h=>?_
 obtain ⟨p,rfl,⟨a,rfl⟩,b,q⟩:=h
 refine ⟨_,(aE (aK (aM (aA cN (aA (aM (aA (aW bE) (aA aD (aA aD (aA (aJ (aB 0) aD) aC))))) aC))))),?_⟩
 dsimp only [plD]
 ac_nf
 exact ⟨by decide,by decide,M,.refl _,q⟩
theorem lU {a:Rat}:0 < a.num ↔ 0 < a:=by rw [Rat.lt_iff];simp
def oK:DSp:=gS 900 fun p=>∃ a,p = .quarter a
noncomputable abbrev kO:Stmt:=top 47
theorem kA:aS ["row","a","place"] ["row"] (aI kO):=⟨rfl,rfl,rfl,by decide +kernel,rfl,by decide +kernel,by decide +kernel⟩
theorem tR (hF:cK K mg "quarter_deed" kO ["row"]) (bE:eJ K mg "MIDDLE" sI) (dG:eJ K mg "NOTHING" aCd) (bL:Has P w K mg base 101 "at_place" ["place","turns"] eN):Has P w K mg base 103 "quarter_deed" ["row"] oK:=by
 refine Has.mkZ hF kA fQ fun f cdv A outer s H ds M Q E hr h=>?_
 obtain ⟨p,rfl,⟨a,rfl⟩,b,q⟩:=h
 refine ⟨_,(aF (aN (i:=1) kA.nd (aJ (aB 0) aD))
  (aF (bA (aP lV (aJ (aB 1) aD) aD) (aE (aK (aM (aA (aM (aA aO (aA (aM (aA (aW dG) (aA (aB 1) aC))) (aA (aW bE) (aA (aM (aA (aB 1) (aA (aB 1) aC))) (aA aD aC)))))) (aA (aG bL hr (by decide) (aA (aM (aA (aB 1) (aA (aB 1) aC))) (aA aD aC))) aC))))) aY)
  (aF (aN (i:=2) kA.nd (aM (aA (aM (aA (eR (aJ (aB 1) aD)) (aA (aJ (aB 1) aD) aC))) (aA (aB 1) aC))))
  (aE (aK (aM (aA (aM (aA aO (aA (aM (aA (aW dG) (aA (aB 1) aC))) (aA (aW bE) (aA (aB 2) (aA (eR aD) aC)))))) (aA (aG bL hr (by decide) (aA (aB 2) (aA aD aC))) aC)))))))),?_⟩
 dsimp only [plD]
 ac_nf
 dsimp only [aGS,aG4] at q
 by_cases c:0 < a
 ·rw [if_pos c,if_pos c] at q
  refine ifT (decide_eq_true (lU.mpr c)) ⟨by decide,by decide,by decide,by decide,a,a,1,rfl,?_⟩
  ac_nf
  exact ⟨by decide,M,.refl _,q⟩
 ·rw [if_neg c,if_neg c] at q
  refine ifF (decide_eq_false fun z=>c (lU.mp z)) ⟨by decide,by decide,by decide,by decide,?_⟩
  rw [aIs]
  refine ⟨-a,a,3,rfl,?_⟩
  ac_nf
  exact ⟨by decide,M,.refl _,q⟩
def sS:DSp:=gS 900 fun p=>∃ a,p = .half a
noncomputable abbrev pX:Stmt:=top 48
theorem sU:aS ["row","place"] ["row"] (aI pX):=⟨rfl,rfl,rfl,by decide +kernel,rfl,by decide +kernel,by decide +kernel⟩
theorem yW (hF:cK K mg "half_deed" pX ["row"]) (bE:eJ K mg "MIDDLE" sI) (dG:eJ K mg "NOTHING" aCd) (aCB:Has P w K mg base 102 "plus" ["one","other"] aDP) (bL:Has P w K mg base 101 "at_place" ["place","turns"] eN):Has P w K mg base 103 "half_deed" ["row"] sS:=by
 refine Has.mkZ hF sU fQ fun f cdv A outer s H ds M Q E hr h=>?_
 obtain ⟨p,rfl,⟨a,rfl⟩,b,q⟩:=h
 refine ⟨_,(aF (aN (i:=1) sU.nd (aM (aA (aW dG) (aA (aG aCB hr (by decide) (aA (aJ (aB 0) aD) (aA (aJ (aB 0) aD) aC))) aC))))
  (aE (aK (aM (aA (aM (aA aO (aA (aM (aA (aW dG) (aA (aJ (aB 0) aD) aC))) (aA (aW bE) (aA (aB 1) (aA (dF (aP lV (aJ (aJ (aB 0) aD) aD) aD) aD (eR aD)) aC)))))) (aA (aG bL hr (by decide) (aA (aB 1) (aA aD aC))) aC)))))),?_⟩
 dsimp only [plD]
 ac_nf
 dsimp only [aGS,aG4] at q
 refine ⟨a,a,900,900,rfl,trivial,b.1,b.1,by decide,by decide,by decide,?_⟩
 ac_nf
 by_cases c:0 < a
 ·rw [if_pos c] at q
  refine ifT (decide_eq_true (lU.mpr c)) ⟨by decide,0,a + a,2,rfl,?_⟩
  ac_nf
  exact ⟨by decide,M,.refl _,q⟩
 ·rw [if_neg c] at q
  refine ifF (decide_eq_false fun z=>c (lU.mp z)) ⟨by decide,0,a + a,2,rfl,?_⟩
  ac_nf
  exact ⟨by decide,M,.refl _,q⟩
def vE:DSp:=gS 900 fun p=>∃ a b c d,p = .arc a b c d
noncomputable abbrev rJ:Stmt:=top 49
theorem vC:aS ["row","place"] ["row"] (aI rJ):=⟨rfl,rfl,rfl,by decide +kernel,rfl,by decide +kernel,by decide +kernel⟩
theorem aAB (hF:cK K mg "arc_deed" rJ ["row"]) (bE:eJ K mg "MIDDLE" sI) (bL:Has P w K mg base 101 "at_place" ["place","turns"] eN):Has P w K mg base 103 "arc_deed" ["row"] vE:=by
 refine Has.mkZ hF vC fQ fun f cdv A outer s H ds M Q E hr h=>?_
 obtain ⟨p,rfl,⟨a,b,c,d,rfl⟩,bb,q⟩:=h
 refine ⟨_,(aF (aN (i:=1) vC.nd (aM (aA (aJ (aB 0) aD) (aA (aJ (aB 0) aD) aC))))
  (aE (aK (aM (aA (aM (aA aO (aA (aM (aA (aJ (aB 0) aD) (aA (aJ (aB 0) aD) aC))) (aA (aW bE) (aA (aB 1) (aA aD aC)))))) (aA (aG bL hr (by decide) (aA (aB 1) (aA aD aC))) aC)))))),?_⟩
 dsimp only [plD]
 ac_nf
 refine ⟨by decide,by decide,by decide,c,d,0,rfl,?_⟩
 ac_nf
 exact ⟨by decide,M,.refl _,q⟩
noncomputable def aNa:List (Str × Str):=[("go","go_deed"),("skip","skip_deed"),("side","side_deed"),("dot","dot_deed"),("left","left_deed"),("right","right_deed"),("round","round_deed"),("mirror","mirror_deed"),("grow","grow_deed"),("quarter","quarter_deed"),("half","half_deed"),("arc","arc_deed")]
def yE:DSp:=gS 900 fun _=>True
noncomputable abbrev uQ:Stmt:=top 51
theorem xB:aS ["row","deed"] ["row"] (aI uQ):=⟨rfl,rfl,rfl,by decide +kernel,rfl,by decide +kernel,by decide +kernel⟩
theorem aBJ (hF:cK K mg "deed_of" uQ ["row"]) (aBi:aIH w K mg "DEEDS" aNa) (uU:Has P w K mg base 103 "go_deed" ["row"] xN) (iJ:Has P w K mg base 102 "side_deed" ["row"] nL) (qD:Has P w K mg base 103 "skip_deed" ["row"] sD) (rW:Has P w K mg base 103 "dot_deed" ["row"] vJ) (pK:Has P w K mg base 103 "left_deed" ["row"] sE) (nI:Has P w K mg base 103 "round_deed" ["row"] qV) (nU:Has P w K mg base 103 "right_deed" ["row"] qT) (mC:Has P w K mg base 103 "mirror_deed" ["row"] pR) (qG:Has P w K mg base 103 "grow_deed" ["row"] sN) (kW:Has P w K mg base 103 "quarter_deed" ["row"] oK) (pO:Has P w K mg base 103 "half_deed" ["row"] sS) (rR:Has P w K mg base 103 "arc_deed" ["row"] vE):Has P w K mg base 104 "deed_of" ["row"] yE:=by
 refine Has.mkZ hF xB fQ fun f cdv A outer s H ds M Q E hr h=>?_
 obtain ⟨p,rfl,_,b,q⟩:=h
 refine ⟨_,(aF (aN (i:=1) xB.nd (aIm aBi (aJ (aB 0) aD)))
  (aE (aK (aEm (j:=103) (aB 1) hr (by decide) (aA (aB 0) aC))))),?_⟩
 have q':=bJ q
 cases p with
 | go a=>exact ⟨"go_deed",rfl,fun f hf=>⟨_,_,_,hf,uU,_,rfl,⟨a,rfl⟩,b,q'⟩⟩
 | side a c=>exact ⟨"side_deed",rfl,fun f hf=>⟨_,_,_,hf,iJ.mono (by decide),_,a,c,rfl,q'⟩⟩
 | skip a=>exact ⟨"skip_deed",rfl,fun f hf=>⟨_,_,_,hf,qD,_,rfl,⟨a,rfl⟩,b,q'⟩⟩
 | dot=>exact ⟨"dot_deed",rfl,fun f hf=>⟨_,_,_,hf,rW,_,rfl,rfl,b,q'⟩⟩
 | left=>exact ⟨"left_deed",rfl,fun f hf=>⟨_,_,_,hf,pK,_,rfl,rfl,b,q'⟩⟩
 | right=>exact ⟨"right_deed",rfl,fun f hf=>⟨_,_,_,hf,nU,_,rfl,rfl,b,q'⟩⟩
 | rnd=>exact ⟨"round_deed",rfl,fun f hf=>⟨_,_,_,hf,nI,_,rfl,rfl,b,q'⟩⟩
 | mirror=>exact ⟨"mirror_deed",rfl,fun f hf=>⟨_,_,_,hf,mC,_,rfl,rfl,b,q'⟩⟩
 | grow a=>exact ⟨"grow_deed",rfl,fun f hf=>⟨_,_,_,hf,qG,_,rfl,⟨a,rfl⟩,b,q'⟩⟩
 | quarter a=>exact ⟨"quarter_deed",rfl,fun f hf=>⟨_,_,_,hf,kW,_,rfl,⟨a,rfl⟩,b,q'⟩⟩
 | half a=>exact ⟨"half_deed",rfl,fun f hf=>⟨_,_,_,hf,pO,_,rfl,⟨a,rfl⟩,b,q'⟩⟩
 | arc a c d e=>exact ⟨"arc_deed",rfl,fun f hf=>⟨_,_,_,hf,rR,_,rfl,⟨a,c,d,e,rfl⟩,b,q'⟩⟩
def iX:DSp:=fun ds M Q=>∃ r,ds = [rwD r]/\Q (inR r) M
noncomputable abbrev jK:Stmt:=top 52
theorem qE:aS ["row"] ["row"] (aI jK):=⟨rfl,rfl,rfl,by decide +kernel,rfl,by decide +kernel,by decide +kernel⟩
theorem vV (hF:cK K mg "rows_within" jK ["row"]):Has P w K mg base 101 "rows_within" ["row"] iX:=by
 refine Has.mkZ hF qE (fun ds M Q ⟨a,z,_⟩=>by rw [z];rfl) fun f cdv A outer s H ds M Q E hr h=>?_
 obtain ⟨r,rfl,q⟩:=h
 refine ⟨_,(aF (bA (aP (cT hr) (aJ (aB 0) aD) aO) (aE (aK (aJ (aB 0) aD))) aY)
  (aE (aK (dF (eF (dU (aP (cT hr) (aJ (aB 0) aD) aO) (dS (aP (cT hr) (aJ (aB 0) aD) aO)))) (aJ (aB 0) aD) cN)))),?_⟩
 have q':=bJ q
 cases r with
 | pl p =>
  cases p<;>(dsimp only [rwD,plD];ac_nf;rw [aL];refine ifF (by decide) ?_;rw [aL];refine ifF (by decide) ?_;rw [aL];exact ifF (by decide) q')
 | ag n rs =>
  dsimp only [rwD]
  ac_nf
  rw [aL]
  exact ifT (by decide) q'
 | kp rs =>
  dsimp only [rwD]
  ac_nf
  rw [aL]
  refine ifF (by decide) ?_
  rw [aL]
  exact ifT (by decide) q'
 | ev rs =>
  dsimp only [rwD]
  ac_nf
  rw [aL]
  refine ifF (by decide) ?_
  rw [aL]
  refine ifF (by decide) ?_
  rw [aL]
  exact ifT (by decide) q'
def aBb (d:Nat):DSp:=fun ds M Q=>∃ rs,ds = [.tup (bI rs)]/\DpS d rs/\Q (.int (dnS rs:Int)) M
noncomputable abbrev jW:Stmt:=top 54
theorem cW:aS ["rows","many","row","within"] ["rows"] (aI jW):=⟨rfl,rfl,rfl,by decide +kernel,rfl,by decide +kernel,by decide +kernel⟩
theorem tF (hF:cK K mg "how_many_done" jW ["rows"]) (cB:Has P w K mg base 101 "rows_within" ["row"] iX):Has P w K mg base 118 "how_many_done" ["rows"] (aBb 8):=by
 have all:∀ d,Has P w K mg base (110 + d) "how_many_done" ["rows"] (aBb d):=fun d=>by
  induction d with
  | zero=>exact (Has.never hF cW 109).imp fun ds M Q ⟨rs,_,z,_⟩=>z
  | succ d fU =>
   refine Has.mkZ (k:=110 + d) hF cW (fun ds M Q ⟨a,z,_⟩=>by rw [z];rfl) fun f cdv A outer s H ds M Q E hr h=>?_
   obtain ⟨rs,rfl,dp,q⟩:=h
   refine ⟨_,(aF (aN (i:=1) cW.nd aD)
  (aF (jS PassesOwn.never rfl (aB 0) (aZ (i:=2) cW.nd) (aF (aN (i:=3) cW.nd (aG cB hr (by omega) (aA (aB 2) aC)))
  (aE (bA (aP vN (aB 3) cN) (aE (oU (i:=1) yP cW.nd aD)) (aE (oU (i:=1) yP cW.nd (aQ cV (aG fU hr (by omega) (aA (aB 3) aC)) (dF (aP (cT hr) (aJ (aB 2) aD) aO) (aJ (aB 2) aD) aD))))))))
  (aE (aK (aB 1))))),?_⟩
   ac_nf
   refine ⟨fun i ρ M'=>M' = M/\∃ o1 o2,ρ = [some (.tup (bI rs)),some (.int (dnS (rs.take i):Int)),o1,o2],⟨rfl,_,_,rfl⟩,fun i ρ M' _ _ a e=>(by cases e),?_,?_⟩
   ·rintro i d1 ρ M' hd ⟨rfl,o1,o2,rfl⟩
    obtain ⟨r,hr',rfl⟩:=kS hd
    have dr:=dp.2 r (mem_of_getElem? hr')
    ac_nf
    refine ⟨r,rfl,?_⟩
    have fin:dnS (rs.take (i + 1)) = dnS (rs.take i) + dnR r:=by rw [kF hr',sV,dnS,dnS,Nat.add_zero]
    rw [fin]
    cases r with
    | pl p =>
     dsimp only [inR,dnR]
     ac_nf
     exact ifT rfl ⟨rfl,_,_,rfl⟩
    | ag n ws =>
     obtain ⟨hn,dw⟩:=qS dr
     dsimp only [inR,dnR,rwD]
     ac_nf
     refine ifF rfl ⟨ws,rfl,dw,?_⟩
     ac_nf
     rw [aL]
     refine ifT (by decide) ⟨xL (by unfold Bd;omega),?_⟩
     rw [Int.natCast_add,Int.natCast_mul]
     exact ⟨rfl,_,_,rfl⟩
    | kp ws =>
     have dw:=sK dr
     dsimp only [inR,dnR,rwD]
     ac_nf
     refine ifF rfl ⟨ws,rfl,dw,?_⟩
     ac_nf
     rw [aL]
     refine ifF (by decide) ⟨xL (by unfold Bd;decide),?_⟩
     rw [Int.natCast_add,Int.mul_one]
     exact ⟨rfl,_,_,rfl⟩
    | ev ws =>
     have dw:=uZ dr
     dsimp only [inR,dnR,rwD]
     ac_nf
     refine ifF rfl ⟨ws,rfl,dw,?_⟩
     ac_nf
     rw [aL]
     refine ifF (by decide) ⟨xL (by unfold Bd;decide),?_⟩
     rw [Int.natCast_add,Int.mul_one]
     exact ⟨rfl,_,_,rfl⟩
   ·rintro ρ M' ⟨rfl,o1,o2,rfl⟩
    rw [cP,take_length]
    exact bJ q
 exact all 8
def Dv (D:Nat) (x:Rat):Prop:=∃ z:Int,x * (D:Rat) = (z:Rat)
theorem Dv.zero {D:Nat}:Dv D 0:=⟨0,by grind⟩
def Ab (B:Nat) (x:Rat):Prop:=-(B:Rat)<=x/\x<=(B:Rat)
theorem aMk (n:Nat):(0:Rat)<=(n:Rat):=by
 have:((0:Nat):Rat)<=(n:Rat):=by exact_mod_cast Nat.zero_le n
 exact this
theorem Ab.zero {B:Nat}:Ab B 0:=⟨by have:=aMk B;grind,aMk B⟩
structure Gf (A W k:Nat) (f:Fm):Prop where
 ok:f.Ok
 pos:0 < f.s
 ex:∃ N T:Nat,(0 < N/\N<=12 ^ k)/\(0 < T/\T<=12 ^ k)/\f.s * (N:Rat) = (T:Rat)/\Dv (N * A) f.px/\Dv (N * A) f.py
 ax:Ab (k * 12 ^ k * W) f.px
 ay:Ab (k * 12 ^ k * W) f.py
theorem Gf.one {A W:Nat}:Gf A W 0 .one:=⟨Fm.ok_one,by decide,⟨1,1,by decide,by decide,(by show (1:Rat) * ((1:Nat):Rat) = ((1:Nat):Rat);rw [Rat.one_mul]),Dv.zero,Dv.zero⟩,Ab.zero,Ab.zero⟩
def plG (A W:Nat):Pl->Prop
 | .go a=>Dv A a/\Ab W a
 | .side a b=>(Dv A a/\Ab W a)/\Dv A b/\Ab W b
 | .skip a=>Dv A a/\Ab W a
 | .grow a=>∃ t b:Nat,(0 < t/\t<=12)/\(0 < b/\b<=12)/\a * (b:Rat) = (t:Rat)
 | .quarter a=>Dv A a/\Ab W a
 | .half a=>Dv A a/\Ab W a/\Ab W (a + a)
 | .arc a b c d=>((Dv A a/\Ab W a)/\Dv A b/\Ab W b)/\(Dv A c/\Ab W c)/\Dv A d/\Ab W d
 | _=>True
section
variable {A W K k:Nat} {f:Fm}
end
def xZ:DSp:=fun ds M Q=>∃ c many,ds = [.int c,.int many]/\0<=many/\many<=100/\∀ (p:Addr) L,M p = none->wU many.toNat L->Q (.ref p) (bG M p L)
theorem wP {n:Nat} {L:List D} (h:wU n L) {z:Int} (h0:0<=z) (h1:z < 1000000):wU (n + 1) (L ++ [.int z]):=by
 refine ⟨by rw [length_append,h.1];rfl,fun d hd=>?_⟩
 rcases List.mem_append.mp hd with e | e
 ·exact h.2 d e
 ·exact ⟨z,List.mem_singleton.mp e,h0,h1⟩
noncomputable abbrev tT:Stmt:=top 78
theorem iD:aS ["_law_cell","_law_many","_law_found","_law_number","_law_k"] ["_law_cell","_law_many"] (aI tT):=⟨rfl,rfl,rfl,by decide +kernel,rfl,by decide +kernel,by decide +kernel⟩
theorem aBU (hF:cK K mg "_law_row" tT ["_law_cell","_law_many"]) (yR:mg "abs" = none) (jL:mg "range" = none):Has P w K mg base 101 "_law_row" ["_law_cell","_law_many"] xZ:=by
 refine Has.mkZ hF iD (fun ds M Q ⟨a,b,e,_⟩=>by rw [e];rfl) fun f cdv A outer s H ds M Q E hr h=>?_
 obtain ⟨c,many,rfl,m0,m1,q⟩:=h
 refine ⟨_,(aF (aN (i:=2) iD.nd (bX aC))
  (aF (aN (i:=3) iD.nd (aB 0))
  (aF (bA (aP wO (cO aCv yR (aA (aB 0) aC)) (aQ yK aD aD)) (aE (aN (i:=3) iD.nd (aQ eU (aQ fZ (aB 0) aD) aD))) aY)
  (aF (aF2 PassesOwn.never rfl jL (aA (aB 1) aC) (aZ (i:=4) iD.nd) (aE (bA (aP wO (cO aCv yR (aA (aB 0) aC)) (aQ yK aD aD)) (aF (aN (i:=3) iD.nd (aQ fZ (aQ cV (aB 3) aD) aD))
  (aE (dL (eD (aB 2) (aQ fZ (aQ fG (aQ fZ (aQ eU (aQ eU (aQ cV (aB 3) (aB 3)) (aQ cV aD (aB 3))) (aB 4)) aD) aD) (aQ yK aD aD)))))) (aF (dL (eD (aB 2) (aQ fZ (aB 3) (aQ yK aD aD))))
  (aE (aN (i:=3) iD.nd (aQ fG (aB 3) (aQ yK aD aD))))))))
  (aE (aK (aB 2))))))),?_⟩
 ac_nf
 refine ⟨by decide,fun p hp=>?_⟩
 have k6:(10:Int) ^ Int.toNat 6 = 1000000:=by decide
 have small:∀ z:Int,0<=z.fmod 1000000/\z.fmod 1000000 < 1000000:=fun z=>⟨Int.fmod_nonneg_of_pos _ (by decide),Int.fmod_lt_of_pos _ (by decide)⟩
 refine ⟨⟨by decide,by decide,by decide⟩,dif (fun c1=>?A) (fun c1=>?B)⟩
 case' A =>
  have c2:(if c < 0 then -c else c) < (10:Int) ^ Int.toNat 18->0<=c.fmod 2147483647 + 1/\c.fmod 2147483647 + 1 < 2147483649:=fun _=>by
   have:=Int.fmod_nonneg_of_pos c (show (0:Int) < 2147483647 by decide)
   have:=Int.fmod_lt_of_pos c (show (0:Int) < 2147483647 by decide)
   omega
  refine ⟨by decide,?_⟩
  generalize c.fmod 2147483647 + 1 = z0 at c2
 case' B =>
  have c2:(if c < 0 then -c else c) < (10:Int) ^ Int.toNat 18->0<=c/\c < 2147483649:=fun z=>absurd z c1
  obtain ⟨z0,hz0⟩:∃ z0,z0 = c:=⟨c,rfl⟩
  have c2:(if c < 0 then -c else c) < (10:Int) ^ Int.toNat 18->0<=z0/\z0 < 2147483649:=by rw [hz0];exact c2
  rw [show (some (D.int c) :: some (.int many) :: some (.ref p) :: some (.int c) :: [none]:cL) = [some (.int c),some (.int many),some (.ref p),some (.int z0),none] by rw [hz0]]
 all_goals
  refine ⟨⟨by omega,by omega⟩,fun i ρ M'=>∃ L,M' = bG M p L/\wU i L/\∃ (z:Int) (o:Option D),((if c < 0 then -c else c) < (10:Int) ^ Int.toNat 18->0<=z/\z < 2147483649)/\ρ = [some (.int c),some (.int many),some (.ref p),some (.int z),o],⟨[],rfl,⟨rfl,fun d h=>nomatch h⟩,z0,none,c2,rfl⟩,?_,?_⟩
  ·rintro i ρ M' hi ⟨L,rfl,hL,z,o,hz,rfl⟩
   have hi2:i < 100:=by omega
   have lL:L.length < 1000:=by rw [hL.1];omega
   ac_nf
   refine ⟨⟨by decide,by decide,by decide⟩,dif (fun d1=>?_) (fun d1=>?_)⟩
   ·obtain ⟨z1,z2⟩:=hz d1
    have hn0:=Int.fmod_nonneg_of_pos (z * 48271) (show (0:Int) < 2147483647 by decide)
    have hn1:=Int.fmod_lt_of_pos (z * 48271) (show (0:Int) < 2147483647 by decide)
    refine ⟨xL (by unfold Bd;decide),by decide,⟨_,aH⟩,?_⟩
    generalize (z * 48271).fmod 2147483647 = nn at hn0 hn1
    have bn:Bd 63 nn:=Bd.of (by omega) (by omega)
    refine ⟨aLb bn,xL bn,by decide,⟨by decide,by decide +kernel⟩,⟨by decide,by decide,by decide⟩,by rw [k6];decide,_,_,rfl,aH,lL,_,by rw [zS],wP hL ?_ ?_,nn,_,fun _=>⟨by omega,by omega⟩,rfl⟩
    ·rw [k6];exact (small _).1
    ·rw [k6];exact (small _).2
   ·refine ⟨⟨_,aH⟩,⟨by decide,by decide,by decide⟩,by rw [k6];decide,_,_,rfl,aH,lL,⟨by decide,by decide,by decide⟩,⟨by rw [k6];decide,by rw [k6];decide +kernel⟩,_,by rw [zS],wP hL ?_ ?_,_,_,fun z=>absurd z d1,rfl⟩
    ·rw [k6];exact (small _).1
    ·rw [k6];exact (small _).2
  ·rintro ρ M' ⟨L,rfl,hL,z,o,hz,rfl⟩
   ac_nf
   exact ⟨_,.refl _,q p L hp hL⟩
def Un (u:Rat):Prop:=u = 0 ∨ u = 1 ∨ u = -1
theorem Wh.ab {x:Rat} (h:Wh x):Ab 20 x:=by
 obtain ⟨z,rfl,h1,h2⟩:=h
 have a:(((-20:Int)):Rat)<=(z:Rat):=by exact_mod_cast h1
 have b:(z:Rat)<=((20:Int):Rat):=by exact_mod_cast h2
 exact ⟨a,b⟩
theorem g3 {t b:Int} (t0:0 < t) (t1:t<=12) (b0:0 < b) (b1:b<=12):plG 1 (2 ^ 25) (.grow ((t:Rat) / (b:Rat))):=by
 have c0:(b:Rat) ≠ 0:=by
  have:=aIF b0
  grind
 refine ⟨t.toNat,b.toNat,by omega,by omega,?_⟩
 rw [<- Rat.intCast_natCast,<- Rat.intCast_natCast,Int.toNat_of_nonneg (by omega),Int.toNat_of_nonneg (by omega)]
 exact Rat.div_mul_cancel c0
theorem b13:BQ 24 (1 / 3):=⟨by unfold Bd;decide +kernel,by unfold Bd;decide +kernel⟩
def FA (A:Nat) (p:Pl):Prop:=plG A (2 ^ 25) p/\plB 100 p
mutual
def vER:Bool->Rw->Prop
 | _,.pl _=>True
 | b,.ag n rs=>(n<=1 ∨ n * dnS rs<=90)/\vES b rs
 | b,.kp rs=>vES b rs
 | b,.ev rs=>b = false/\enB rs = true/\vES true rs
def vES:Bool->List Rw->Prop
 | _,[]=>True
 | b,r :: rs=>vER b r/\vES b rs
end
theorem aDu {b:Bool}:∀ {xs ys:List Rw},vES b (xs ++ ys) ↔ vES b xs/\vES b ys
 | [],ys=>by rw [nil_append,vES,true_and]
 | x :: xs,ys=>by rw [cons_append,vES,vES,aDu,and_assoc]
noncomputable def aAq (x:En × Nat):Bool:=x.1.wd == "ever"
def tK:Bool->Es->Prop
 | _,[]=>True
 | b,x :: xs=>(b = true->aAq x = false)/\vES (b || aAq x) x.1.rs/\tK (b || aAq x) xs
theorem yC:∀ {b:Bool} {xs ys:Es},tK b (xs ++ ys) ↔ tK b xs/\tK (b || xs.any aAq) ys
 | b,[],ys=>by rw [nil_append,tK,any_nil,Bool.or_false,true_and]
 | b,x :: xs,ys=>by rw [cons_append,tK,tK,yC,any_cons,Bool.or_assoc,and_assoc,and_assoc]
noncomputable def mu:Es->Nat
 | []=>0
 | x :: xs=>2 * hmS x.1.rs + mu xs
theorem aCw:∀ xs ys:Es,mu (xs ++ ys) = mu xs + mu ys
 | [],ys=>by rw [nil_append,mu,Nat.zero_add]
 | x :: xs,ys=>by rw [cons_append,mu,mu,aCw xs ys,Nat.add_assoc]
noncomputable def hd0:Es->Bool
 | []=>false
 | x :: _=>aAq x
structure SJ (es:Es) (c:Nat):Prop where
 hd:hd0 es = false
 al:tK false es
 mu:mu es + 3 * es.length<=3 * c + 3
structure SK (es:Es):Prop where
 hd:hd0 es = false
 al:tK false es
 mu:mu es + 3 * es.length + (if es.any aAq then 3 else 0)<=114
theorem aLd {es:Es} {x y:En × Nat} (e:aAq x = aAq y) (h:hd0 (es ++ [x]) = false):hd0 (es ++ [y]) = false:=by
 cases es with
 | nil=>exact e.symm.trans h
 | cons z zs=>exact h
theorem SJ.row {es:Es} {u:En} {m m' c:Nat} {p:Pl} (h:SJ (es ++ [(u,m)]) c):SJ (es ++ [({ u with rs:=u.rs ++ [.pl p] },m')]) (c + 1):=by
 obtain ⟨hd,a,b⟩:=h
 obtain ⟨a1,a2⟩:=yC.mp a
 rw [tK,tK] at a2
 rw [aCw,Lw.mu,Lw.mu,length_append] at b
 refine ⟨aLd (by exact rfl) hd,yC.mpr ⟨a1,?_⟩,?_⟩
 ·rw [tK,tK]
  exact ⟨a2.1,aDu.mpr ⟨a2.2.1,by rw [vES,vES,vER];exact ⟨trivial,trivial⟩⟩,trivial⟩
 ·rw [aCw,Lw.mu,Lw.mu,length_append]
  dsimp only
  rw [lT,hmS,hmS,hmR]
  simp only [length_singleton] at b ⊢
  omega
theorem SK.end {x:En × Nat} (h:SK [x]):vES false x.1.rs/\hmS x.1.rs<=55:=by
 obtain ⟨w,a,b⟩:=h
 have w:aAq x = false:=w
 rw [tK,w,Bool.false_or] at a
 rw [Lw.mu,Lw.mu,any_cons,w,any_nil] at b
 simp only [Bool.or_self,Bool.false_eq_true,if_false,length_singleton] at b
 exact ⟨a.2.1,by omega⟩
def aDT (d:Nat):DSp:=fun ds M Q=>∃ rs,ds = [.tup (bI rs)]/\DpS d rs/\Q (.int (hmS rs:Int)) M
noncomputable abbrev jT:Stmt:=top 53
theorem dZ:aS ["rows","many","row","within"] ["rows"] (aI jT):=⟨rfl,rfl,rfl,by decide +kernel,rfl,by decide +kernel,by decide +kernel⟩
theorem tD (hF:cK K mg "how_many_rows" jT ["rows"]) (eI:mg "len" = none) (cB:Has P w K mg base 101 "rows_within" ["row"] iX):Has P w K mg base 118 "how_many_rows" ["rows"] (aDT 8):=by
 have all:∀ d,Has P w K mg base (110 + d) "how_many_rows" ["rows"] (aDT d):=fun d=>by
  induction d with
  | zero=>exact (Has.never hF dZ 109).imp fun ds M Q ⟨rs,_,z,_⟩=>z
  | succ d cU =>
   refine Has.mkZ (k:=110 + d) hF dZ (fun ds M Q ⟨a,z,_⟩=>by rw [z];rfl) fun f cdv A outer s H ds M Q E hr h=>?_
   obtain ⟨rs,rfl,dp,q⟩:=h
   refine ⟨_,(aF (aN (i:=1) dZ.nd (cO mD eI (aA (aB 0) aC)))
  (aF (jS PassesOwn.never rfl (aB 0) (aZ (i:=2) dZ.nd) (aF (aN (i:=3) dZ.nd (aG cB hr (by omega) (aA (aB 2) aC)))
  (aE (bA (aP aCm (aB 3) cN) (aE (oU (i:=1) yP dZ.nd (aG cU hr (by omega) (aA (aB 3) aC)))) aY))))
  (aE (aK (aB 1))))),?_⟩
   ac_nf
   refine ⟨fun i ρ M'=>M' = M/\∃ o1 o2,ρ = [some (.tup (bI rs)),some (.int ((rs.length:Int) + (hmS (rs.take i):Int) - (i:Int))),o1,o2],⟨rfl,none,none,?_⟩,fun i ρ M' _ _ a e=>(by cases e),?_,?_⟩
   ·rw [take_zero,hmS,cP,show (rs.length:Int) + ((0:Nat):Int) - ((0:Nat):Int) = (rs.length:Int) by omega]
   ·rintro i d1 ρ M' hd ⟨rfl,o1,o2,rfl⟩
    obtain ⟨r,hr',rfl⟩:=kS hd
    have dr:=dp.2 r (mem_of_getElem? hr')
    ac_nf
    refine ⟨r,rfl,?_⟩
    have fin:hmS (rs.take (i + 1)) = hmS (rs.take i) + hmR r:=by rw [kF hr',lT,hmS,hmS,Nat.add_zero]
    rw [fin]
    have blk:∀ ws:List Rw,hmR r = 1 + hmS ws->(rs.length:Int) + (hmS (rs.take i):Int) - (i:Int) + (hmS ws:Int) = (rs.length:Int) + ((hmS (rs.take i) + hmR r:Nat):Int) - ((i + 1:Nat):Int):=fun ws e=>by omega
    cases r with
    | pl p =>
     dsimp only [inR]
     ac_nf
     refine ifF rfl ?_
     rw [hmR,show (rs.length:Int) + ((hmS (rs.take i) + 1:Nat):Int) - ((i + 1:Nat):Int) = (rs.length:Int) + (hmS (rs.take i):Int) - (i:Int) by omega]
     exact ⟨rfl,_,_,rfl⟩
    | ag n ws =>
     obtain ⟨hn,dw⟩:=qS dr
     dsimp only [inR]
     ac_nf
     refine ifT rfl ⟨ws,rfl,dw,?_⟩
     ac_nf
     rw [blk ws (by rw [hmR])]
     exact ⟨rfl,_,_,rfl⟩
    | kp ws =>
     have dw:=sK dr
     dsimp only [inR]
     ac_nf
     refine ifT rfl ⟨ws,rfl,dw,?_⟩
     ac_nf
     rw [blk ws (by rw [hmR])]
     exact ⟨rfl,_,_,rfl⟩
    | ev ws =>
     have dw:=uZ dr
     dsimp only [inR]
     ac_nf
     refine ifT rfl ⟨ws,rfl,dw,?_⟩
     ac_nf
     rw [blk ws (by rw [hmR])]
     exact ⟨rfl,_,_,rfl⟩
   ·rintro ρ M' ⟨rfl,o1,o2,rfl⟩
    rw [cP,take_length,show (rs.length:Int) + (hmS rs:Int) - (rs.length:Int) = (hmS rs:Int) by omega]
    exact bJ q
 exact all 8
def jX:DSp:=fun ds M Q=>∃ rs,ds = [.tup (bI rs)]/\DpS 8 rs/\hmS rs<=60/\Q (.tup (bI rs)) M
noncomputable abbrev iV:Stmt:=top 65
theorem oI:aS ["program"] ["program"] (aI iV):=⟨rfl,rfl,rfl,by decide +kernel,rfl,by decide +kernel,by decide +kernel⟩
theorem uV (hF:cK K mg "not_too_long" iV ["program"]) (iI:eJ K mg "MOST_ROWS" (.int 60)) (cU:Has P w K mg base 118 "how_many_rows" ["rows"] (aDT 8)):Has P w K mg base 119 "not_too_long" ["program"] jX:=by
 refine Has.mkZ hF oI (fun ds M Q ⟨_,z,_⟩=>by rw [z];rfl) fun f cdv A outer s H ds M Q E hr h=>?_
 obtain ⟨rs,rfl,dp,l,q⟩:=h
 refine ⟨_,(aF (bA (aP lV (aG cU hr (by decide) (aA (aB 0) aC)) (aW iI)) (aE mY) aY)
  (aE (aK (aB 0)))),?_⟩
 ac_nf
 refine ⟨rs,rfl,dp,?_⟩
 ac_nf
 exact ifF (decide_eq_false (by omega)) (bJ q)
def aI4:List D->Prop:=fun ds=>∃ rs,ds = [.tup (bI rs)]/\DpS 8 rs/\60 < hmS rs
theorem uB {C_TooMuch:Addr} (hF:cK K mg "not_too_long" iV ["program"]) (iM:aAX K mg "TooMuch" C_TooMuch) (iI:eJ K mg "MOST_ROWS" (.int 60)) (cU:Has P w K mg base 118 "how_many_rows" ["rows"] (aDT 8)):aM0 P w K mg base 119 "not_too_long" ["program"] C_TooMuch aI4:=by
 refine gY.mkZ hF iM oI (fun ds M ⟨_,z,_⟩=>by rw [z];rfl) fun f cdv A outer s H ds M E hr h hRO=>?_
 obtain ⟨rs,rfl,dp,l⟩:=h
 refine ⟨_,(aF (bA (aP lV (aG cU hr (by decide) (aA (aB 0) aC)) (aW iI)) (aE (aEN hRO (aA aO aC))) aY)
  (aE (aK (aB 0)))),?_⟩
 ac_nf
 refine ⟨rs,rfl,dp,?_⟩
 ac_nf
 exact ifT (decide_eq_true (by omega)) ⟨by decide,.refl _⟩
noncomputable def gwB (s:Rat):Bool:=decide (1<=s.num/\s.num<=12) && decide ((s.den:Int)<=12)
def vA:DSp:=fun ds M Q=>∃ s:Rat,ds = [FQ s]/\Q (.bl (gwB s)) M
noncomputable abbrev rF:Stmt:=top 28
theorem aCo:aS ["number"] ["number"] (aI rF):=⟨rfl,rfl,rfl,by decide +kernel,rfl,by decide +kernel,by decide +kernel⟩
theorem aAU (hF:cK K mg "may_grow" rF ["number"]) (iZ:eJ K mg "MOST_IN_GROW" (.int 12)):Has P w K mg base 101 "may_grow" ["number"] vA:=by
 refine Has.mkZ hF aCo (fun ds M Q ⟨_,z,_⟩=>by rw [z];rfl) fun f cdv A outer s H ds M Q E hr h=>?_
 obtain ⟨s,rfl,q⟩:=h
 refine ⟨_,(aE (aK (gO (aAk aBs aBs aD (aJ (aB 0) aD) (aW iZ)) (gM (eG aBs (aJ (aB 0) aD) (aW iZ)))))),?_⟩
 ac_nf
 unfold gwB at q
 by_cases c1:1<=s.num
 ·refine ifT (decide_eq_true c1) ?_
  by_cases c2:s.num<=12
  ·rw [decide_eq_true ⟨c1,c2⟩,Bool.true_and] at q
   exact ifT (decide_eq_true c2) (bJ q)
  ·rw [decide_eq_false (fun z=>c2 z.2),Bool.false_and] at q
   exact ifF (decide_eq_false c2) (bJ q)
 ·rw [decide_eq_false (fun z=>c1 z.1),Bool.false_and] at q
  exact ifF (decide_eq_false c1) (ifF rfl (bJ q))
noncomputable def aJ7:D->Option Bool
 | .int _=>some true
 | .ref _=>none
 | _=>some false
def pQ:DSp:=fun ds M Q=>∃ d b,ds = [d]/\aJ7 d = some b/\Q (.bl b) M
noncomputable abbrev rK:Stmt:=top 24
theorem aBD:aS ["thing"] ["thing"] (aI rK):=⟨rfl,rfl,rfl,by decide +kernel,rfl,by decide +kernel,by decide +kernel⟩
theorem aAx (hF:cK K mg "is_whole" rK ["thing"]) (aT:mg "isinstance" = none) (sM:mg "int" = none) (aDe:mg "bool" = none):Has P w K mg base 101 "is_whole" ["thing"] pQ:=by
 refine Has.mkZ hF aBD (fun ds M Q ⟨_,_,z,_⟩=>by rw [z];rfl) fun f cdv A outer s H ds M Q E hr h=>?_
 obtain ⟨d,b,rfl,h,q⟩:=h
 refine ⟨_,(aE (aK (gO (mZ (aB 0) aT sM) (gM (aBa (mZ (aB 0) aT aDe)))))),?_⟩
 ac_nf
 cases d with
 | int i=>cases h;exact .inl ⟨_,_,rfl,rfl,ifT rfl (.inl ⟨_,_,rfl,rfl,bJ q⟩)⟩
 | bl b=>cases h;exact .inl ⟨_,_,rfl,rfl,ifT rfl (.inl ⟨_,_,rfl,rfl,bJ q⟩)⟩
 | ref a=>cases h
 | _=>cases h;exact .inl ⟨_,_,rfl,rfl,ifF rfl (bJ q)⟩
def mB:DSp:=fun ds M Q=>∃ a b,ds = [.int a,.int b]/\Q (.bl (decide (1<=b) && decide (Int.gcd a b = 1))) M
noncomputable abbrev nQ:Stmt:=top 25
theorem zD:aS ["top","bottom"] ["top","bottom"] (aI nQ):=⟨rfl,rfl,rfl,by decide +kernel,rfl,by decide +kernel,by decide +kernel⟩
theorem yJ (hF:cK K mg "is_reduced" nQ ["top","bottom"]) (bC:Has P w K mg base 101 "greatest_divisor" ["one","other"] dO):Has P w K mg base 102 "is_reduced" ["top","bottom"] mB:=by
 refine Has.mkZ hF zD (fun ds M Q ⟨_,_,z,_⟩=>by rw [z];rfl) fun f cdv A outer s H ds M Q E hr h=>?_
 obtain ⟨a,b,rfl,q⟩:=h
 refine ⟨_,(aE (aK (gO (eG aNt (aB 1) aD) (gM (eG (cT hr) (aG bC hr (by decide) (aA (aB 0) (aA (aB 1) aC))) aD))))),?_⟩
 ac_nf
 by_cases c:1<=b
 ·rw [decide_eq_true c,Bool.true_and] at q
  refine ifT (decide_eq_true c) ⟨a,b,rfl,?_⟩
  ac_nf
  rw [cM,show decide ((Int.gcd a b:Int) = 1) = decide (Int.gcd a b = 1) from decide_eq_decide.mpr ⟨fun z=>by omega,fun z=>by omega⟩]
  exact bJ q
 ·rw [decide_eq_false c,Bool.false_and] at q
  exact ifF (decide_eq_false c) (bJ q)
theorem aGO (x:Rat):(decide (1<=(x.den:Int)) && decide (Int.gcd x.num (x.den:Int) = 1)) = true:=by
 have h1:=x.den_pos
 have h2:Int.gcd x.num (x.den:Int) = 1:=x.reduced
 rw [decide_eq_true (by omega),decide_eq_true h2];rfl
def qC:DSp:=fun ds M Q=>∃ x:Rat,ds = [FQ x]/\Q (.bl true) M
noncomputable abbrev mJ:Stmt:=top 26
theorem yD:aS ["thing"] ["thing"] (aI mJ):=⟨rfl,rfl,rfl,by decide +kernel,rfl,by decide +kernel,by decide +kernel⟩
theorem vX (hF:cK K mg "is_fraction" mJ ["thing"]) (aT:mg "isinstance" = none) (cH:mg "tuple" = none) (eI:mg "len" = none) (iF:Has P w K mg base 101 "is_whole" ["thing"] pQ) (gQ:Has P w K mg base 102 "is_reduced" ["top","bottom"] mB):Has P w K mg base 103 "is_fraction" ["thing"] qC:=by
 refine Has.mkZ hF yD (fun ds M Q ⟨_,z,_⟩=>by rw [z];rfl) fun f cdv A outer s H ds M Q E hr h=>?_
 obtain ⟨x,rfl,q⟩:=h
 refine ⟨_,(aF (bA (eF (dU (gC (bY (mZ (aB 0) aT cH))) (dS (aP (iO hr) (cO mD eI (aA (aB 0) aC)) aD)))) (aE (aK fF)) aY)
  (aE (aK (gO (aG iF hr (by decide) (aA (aJ (aB 0) aD) aC)) (gO (aG iF hr (by decide) (aA (aJ (aB 0) aD) aC)) (gM (aG gQ hr (by decide) (aA (aJ (aB 0) aD) (aA (aJ (aB 0) aD) aC))))))))),?_⟩
 rw [show FQ x = D.tup [.int x.num,.int (x.den:Int)] from rfl]
 ac_nf
 refine .inl ⟨_,_,rfl,rfl,ifF rfl ?_⟩
 rw [cM]
 refine ifF rfl ⟨_,_,rfl,rfl,ifT rfl ⟨_,_,rfl,rfl,ifT rfl ⟨_,_,rfl,?_⟩⟩⟩
 rw [aGO]
 exact bJ q
noncomputable def aGE:List (Str × Int):=[("go",1),("skip",1),("side",2),("dot",0),("left",0),("right",0),("round",0),("mirror",0),("grow",1),("quarter",1),("half",1),("arc",4)]
noncomputable def aD2:List Str:=["again","keep","ever","forth","end"]
def dH:DSp:=fun ds M Q=>∃ k:Str,ds = [.str k]/\((∃ n,aGE.lookup k = some n/\Q (.int n) M) ∨ (k ∈ aD2/\Q .non M))
noncomputable abbrev jG:Stmt:=top 27
theorem sC:aS ["word"] ["word"] (aI jG):=⟨rfl,rfl,rfl,by decide +kernel,rfl,by decide +kernel,by decide +kernel⟩
theorem rS (hF:cK K mg "numbers_behind" jG ["word"]) (uA:aDA w K mg "NUMBERS" aGE aD2):Has P w K mg base 101 "numbers_behind" ["word"] dH:=by
 refine Has.mkZ hF sC (fun ds M Q ⟨_,z,_⟩=>by rw [z];rfl) fun f cdv A outer s H ds M Q E hr h=>?_
 obtain ⟨k,rfl,h⟩:=h
 refine ⟨_,(aE (aK (aFQ uA (aB 0)))),?_⟩
 ac_nf
 rcases h with ⟨n,hn,q⟩ | ⟨hn,q⟩
 ·exact .inl ⟨n,hn,bJ q⟩
 ·exact .inr ⟨hn,bJ q⟩
noncomputable def aMs:D->Option Bool
 | .tup (.str _ :: _)=>some true
 | .int _=>some false
 | _=>none
def nX:DSp:=fun ds M Q=>∃ d b,ds = [d]/\aMs d = some b/\Q (.bl b) M
noncomputable abbrev pZ:Stmt:=top 30
theorem aAC:aS ["thing"] ["thing"] (aI pZ):=⟨rfl,rfl,rfl,by decide +kernel,rfl,by decide +kernel,by decide +kernel⟩
theorem yS (hF:cK K mg "is_worded" pZ ["thing"]) (aT:mg "isinstance" = none) (cH:mg "tuple" = none) (zP:mg "str" = none) (eI:mg "len" = none):Has P w K mg base 101 "is_worded" ["thing"] nX:=by
 refine Has.mkZ hF aAC (fun ds M Q ⟨_,_,z,_⟩=>by rw [z];rfl) fun f cdv A outer s H ds M Q E hr h=>?_
 obtain ⟨d,b,rfl,hb,q⟩:=h
 refine ⟨_,(aE (aK (gO (mZ (aB 0) aT cH) (gO (eG lV (cO mD eI (aA (aB 0) aC)) aD) (gM (mZ (aJ (aB 0) aD) aT zP)))))),?_⟩
 match d,hb with
 | .tup (.str k :: dD),hb =>
  cases hb
  ac_nf
  refine .inl ⟨_,_,rfl,rfl,ifT rfl (ifT (decide_eq_true (by show (0:Int) < ((dD.length + 1:Nat):Int);omega)) ?_)⟩
  rw [tL]
  ac_nf
  exact .inl ⟨_,_,rfl,rfl,bJ q⟩
 | .int i,hb =>
  cases hb
  ac_nf
  exact .inl ⟨_,_,rfl,rfl,ifF rfl (bJ q)⟩
noncomputable def wd:Pl->Str
 | .go _=>"go" | .side _ _=>"side" | .skip _=>"skip" | .dot=>"dot" | .left=>"left" | .right=>"right" | .rnd=>"round" | .mirror=>"mirror" | .grow _=>"grow" | .quarter _=>"quarter" | .half _=>"half" | .arc _ _ _ _=>"arc"
noncomputable def nu:Pl->List Rat
 | .go a=>[a] | .side a b=>[a,b] | .skip a=>[a] | .grow a=>[a] | .quarter a=>[a] | .half a=>[a] | .arc a b c d=>[a,b,c,d] | _=>[]
theorem rB (p:Pl):plD p = .tup (.str (wd p) :: (nu p).map FQ):=by cases p<;>rfl
theorem aA0 (p:Pl):aGE.lookup (wd p) = some (((nu p).length:Nat):Int):=by cases p<;>rfl
theorem aFA (p:Pl):(nu p).length<=4:=by cases p<;>exact Nat.le_of_ble_eq_true rfl
def plV (p:Pl):Prop:=plB 100 p/\∀ a,p = .grow a->gwB a = true
def xG:DSp:=fun ds M Q=>∃ a b c d:Rat,ds = [plD (.arc a b c d)]/\plB 100 (.arc a b c d)/\Q (.bl true) M
noncomputable abbrev tY:Stmt:=top 31
theorem yB:aS ["row","c"] ["row"] (aI tY):=⟨rfl,rfl,rfl,by decide +kernel,rfl,by decide +kernel,by decide +kernel⟩
theorem aBB (hF:cK K mg "is_bend" tY ["row"]) (bE:eJ K mg "MIDDLE" sI) (uT:Has P w K mg base 103 "farther" ["c","p","q"] wN):Has P w K mg base 104 "is_bend" ["row"] xG:=by
 refine Has.mkZ hF yB (fun ds M Q ⟨_,_,_,_,z,_⟩=>by rw [z];rfl) fun f cdv A outer s H ds M Q E hr h=>?_
 obtain ⟨a,b,c,d,rfl,⟨b1,b2,b3,b4,n0,n1,fe⟩,q⟩:=h
 refine ⟨_,(aF (aN (i:=1) yB.nd (aM (aA (aJ (aB 0) aD) (aA (aJ (aB 0) aD) aC))))
  (aE (aK (gO (eG (iO hr) (aB 1) (aW bE)) (gM (eG (cT hr) (aG uT hr (by decide) (aA (aB 1) (aA (aW bE) (aA (aM (aA (aJ (aB 0) aD) (aA (aJ (aB 0) aD) aC))) aC)))) aD)))))),?_⟩
 dsimp only [plD]
 ac_nf
 refine ⟨by decide,?_⟩
 rw [show (D.tup [FQ a,FQ b]) = PQ a b from rfl,show sI = PQ 0 0 from rfl,aGc]
 refine ifT (by rw [decide_eq_false n0];rfl) ⟨by decide,a,b,0,0,c,d,100,rfl,b1,b2,bqz.mono (by decide),bqz.mono (by decide),b3,b4,by decide,?_⟩
 ac_nf
 rw [cM,aD3.mpr fe]
 exact bJ q
theorem aNp {x:Rat}:decide (x.num = 0) = decide (x = 0):=by
 by_cases c:x = 0
 ·rw [decide_eq_true c,c];rfl
 ·rw [decide_eq_false c]
  exact decide_eq_false fun z=>c (Rat.num_eq_zero.mp z)
theorem aJg {ds:List D} {M:DM} {Q:DQ}:sW [.tup ds] M Q = Q (.int (ds.length:Int)) M:=rfl
inductive Th where
 | pl (p:Pl)
 | ag (n:Nat) (ts:List Th)
 | kp (ts:List Th)
 | ev (ts:List Th)
 | bad (d:D)
mutual
noncomputable def thD:Th->D
 | .pl p=>plD p
 | .ag n ts=>.tup [.str "again",.int (n:Int),.tup (lF ts)]
 | .kp ts=>.tup [.str "keep",.tup (lF ts)]
 | .ev ts=>.tup [.str "ever",.tup (lF ts)]
 | .bad d=>d
noncomputable def lF:List Th->List D
 | []=>[]
 | t :: ts=>thD t :: lF ts
end
theorem pL:∀ ts:List Th,lF ts = ts.map thD
 | []=>by rw [lF];rfl
 | t :: ts=>by rw [lF,pL ts,map_cons]
mutual
noncomputable def gdR:Th->Rw
 | .pl p=>.pl p
 | .ag n ts=>.ag n (gdS ts)
 | .kp ts=>.kp (gdS ts)
 | .ev ts=>.ev (gdS ts)
 | .bad _=>.pl .dot
noncomputable def gdS:List Th->List Rw
 | []=>[]
 | t :: ts=>gdR t :: gdS ts
end
mutual
def okT:Th->Prop
 | .pl _=>True
 | .ag _ ts=>okS ts
 | .kp ts=>okS ts
 | .ev ts=>okS ts
 | .bad _=>False
def okS:List Th->Prop
 | []=>True
 | t :: ts=>okT t/\okS ts
end
mutual
theorem aOm:∀ t:Th,okT t->thD t = rwD (gdR t)
 | .pl p,_=>by rw [thD,gdR,rwD]
 | .ag n ts,h=>by rw [okT] at h;rw [thD,gdR,rwD,vK ts h]
 | .kp ts,h=>by rw [okT] at h;rw [thD,gdR,rwD,vK ts h]
 | .ev ts,h=>by rw [okT] at h;rw [thD,gdR,rwD,vK ts h]
 | .bad _,h=>by rw [okT] at h;exact h.elim
theorem vK:∀ ts:List Th,okS ts->lF ts = bI (gdS ts)
 | [],_=>by rw [lF,gdS,bI]
 | t :: ts,h=>by rw [okS] at h;rw [lF,gdS,bI,aOm t h.1,vK ts h.2]
end
def aOx (m:D):Prop:=(m = .int 13 ∨ m = .int (-1) ∨ m = .bl true) ∨ m = .str "2" ∨ m = .tup [.int 1,.int 1] ∨ m = .int (10 ^ 50)
def aGq (d:D):Prop:=(d = .tup [.str "forth"] ∨ d = .int 5) ∨ (∃ m x,d = .tup [.str "again",m,.tup [x]]/\aOx m) ∨ (∃ x,d = .tup [.str "again",.tup [x]]) ∨ d = .tup [.str "keep"] ∨ (∃ x,d = .tup [.str "keep",.tup [x],.int 1]) ∨ d = .tup [.str "keep",.str "rows"]
noncomputable def isP:Th->Bool
 | .pl _=>true
 | _=>false
noncomputable def isB:Th->Bool
 | .ag _ _=>true
 | .kp _=>true
 | .ev _=>true
 | _=>false
def jZ:DSp:=fun ds M Q=>∃ r:Th,ds = [thD r]/\(∀ p,r = .pl p->plV p)/\(∀ d,r = .bad d->aGq d)/\Q (.bl (isP r)) M
noncomputable abbrev iS:Stmt:=top 29
theorem vQ:aS ["thing"] ["thing"] (aI iS):=⟨rfl,rfl,rfl,by decide +kernel,rfl,by decide +kernel,by decide +kernel⟩
theorem uI (hF:cK K mg "is_plain_row" iS ["thing"]) (eI:mg "len" = none) (aFn:mg "all" = none) (iG:Has P w K mg base 101 "is_worded" ["thing"] nX) (bK:Has P w K mg base 101 "numbers_behind" ["word"] dH) (mM:Has P w K mg base 103 "is_fraction" ["thing"] qC) (rV:Has P w K mg base 101 "may_grow" ["number"] vA) (uH:Has P w K mg base 104 "is_bend" ["row"] xG):Has P w K mg base 105 "is_plain_row" ["thing"] jZ:=by
 refine Has.mkZ hF vQ (fun ds M Q ⟨_,z,_⟩=>by rw [z];rfl) fun f cdv A outer s H ds M Q E hr h=>?_
 obtain ⟨r,rfl,pv,bv,q⟩:=h
 refine ⟨_,(kT (bA (eF (dU (gC (bY (aG iG hr (by decide) (aA (aB 0) aC)))) (dS (aP (iO hr) (aG bK hr (by decide) (aA (aJ (aB 0) aD) aC)) (aQ pE (cO mD eI (aA (aB 0) aC)) aD))))) (aE (aK fF)) aY)
  (kT (bA (gC (bY (cO (aLr rfl) aFn (aA (aDG (⟨rfl,by decide +kernel,by decide +kernel,by decide +kernel,rfl,by decide +kernel⟩:nB ["thing"] (aI iS) ["number"] [none] _) rfl (rP (aB 0) (pY aD) qF) (fun _ _ _ _ _=>(aZ (i:=0) (show Nodup (["number"]:List Str) by decide +kernel))) (fun _ _ _ _ _=>(aG mM hr (by decide) (aA (aB 0) aC)))) aC)))) (aE (aK fF)) aY)
  (aF (bA (aP (cT hr) (aJ (aB 0) aD) aO) (aE (aK (aG rV hr (by decide) (aA (aJ (aB 0) aD) aC)))) aY)
  (aF (bA (eF (dU (aP (cT hr) (aJ (aB 0) aD) aO) (dS (aP (cT hr) (aJ (aB 0) aD) aO)))) (aE (aK (eG (iO hr) (aJ (aJ (aB 0) aD) aD) aD))) aY)
  (aE (aK (aCC (eG (iO hr) (aJ (aB 0) aD) aO) (gM (aG uH hr (by decide) (aA (aB 0) aC)))))))))),?_⟩
 cases r with
 | pl p =>
  obtain ⟨pb,pg⟩:=pv p rfl
  rw [show thD (.pl p) = plD p by rw [thD],rB]
  have nl:=aFA p
  ac_nf
  refine ⟨fun ρ M'=>M' = M/\ρ = [some (.tup (.str (wd p) :: (nu p).map FQ))],⟨_,_,rfl,rfl,ifF rfl ?_⟩,?_⟩
  ·rw [tL]
   ac_nf
   refine ⟨_,rfl,.inl ⟨_,aA0 p,?_⟩⟩
   ac_nf
   rw [aJg]
   ac_nf
   rw [cM]
   refine ifF (by rw [decide_eq_true (by rw [length_map];omega)];rfl) ⟨rfl,rfl⟩
  rintro ρ M' ⟨rfl,rfl⟩
  ac_nf
  refine ⟨fun ρ M2=>bB M' M2/\ρ = [some (.tup (.str (wd p) :: (nu p).map FQ))],?_,?_⟩
  ·rw [aBw]
   refine ⟨by rw [length_map];omega,fun i ys M2=>M2 = M'/\ys = (replicate i (D.bl true)),⟨rfl,rfl⟩,fun i ys M2 _ _ a e=>(by cases e),?_,?_⟩
   ·rintro i d ys M2 hd ⟨rfl,rfl⟩
    obtain ⟨x,_,rfl⟩:=List.mem_map.mp (mem_of_getElem? hd)
    ac_nf
    exact ⟨x,rfl,rfl,by rw [List.replicate_succ']⟩
   rintro ys M2 _ ⟨rfl,rfl⟩ pl hpl
   ac_nf
   refine ⟨replicate ((nu p).map FQ).length true,by rw [aH,List.map_replicate],?_⟩
   rw [show (replicate ((nu p).map FQ).length true).all id = true by simp]
   exact ifF rfl ⟨bB.new hpl _,rfl⟩
  rintro ρ M2 ⟨sb,rfl⟩
  rw [<- rB]
  cases p with
  | grow a =>
   dsimp only [plD]
   ac_nf
   rw [aL]
   refine ifT (by decide) ⟨a,rfl,?_⟩
   rw [pg a rfl]
   exact ⟨M',sb,q⟩
  | quarter a =>
   dsimp only [plD]
   ac_nf
   rw [aL]
   refine ifF (by decide) ?_
   rw [aL]
   refine ifT (by decide) ?_
   rw [cM,aNp,decide_eq_false pb.2]
   exact ⟨M',sb,q⟩
  | half a =>
   dsimp only [plD]
   ac_nf
   rw [aL]
   refine ifF (by decide) ?_
   rw [aL]
   refine ifF (by decide) ?_
   rw [aL]
   refine ifT (by decide) ?_
   rw [cM,aNp,decide_eq_false pb.2]
   exact ⟨M',sb,q⟩
  | arc a b c d =>
   dsimp only [plD]
   ac_nf
   rw [aL]
   refine ifF (by decide) ?_
   rw [aL]
   refine ifF (by decide) ?_
   rw [aL]
   refine ifF (by decide) ?_
   rw [aL]
   exact ifF (by decide) ⟨a,b,c,d,rfl,pb,M',sb,q⟩
  | _ =>
   dsimp only [plD]
   ac_nf
   rw [aL]
   refine ifF (by decide) ?_
   rw [aL]
   refine ifF (by decide) ?_
   rw [aL]
   refine ifF (by decide) ?_
   rw [aL]
   exact ifT (by decide) ⟨M',sb,q⟩
 | ag n ws =>
  dsimp only [thD]
  ac_nf
  refine ⟨fun _ _=>False,⟨_,_,rfl,rfl,ifF rfl ⟨_,rfl,.inr ⟨by decide,?_⟩⟩⟩,fun _ _ z=>z.elim⟩
  ac_nf
  exact ⟨rfl,rfl,ifT rfl (bJ q)⟩
 | kp ws =>
  dsimp only [thD]
  ac_nf
  refine ⟨fun _ _=>False,⟨_,_,rfl,rfl,ifF rfl ⟨_,rfl,.inr ⟨by decide,?_⟩⟩⟩,fun _ _ z=>z.elim⟩
  ac_nf
  exact ⟨rfl,rfl,ifT rfl (bJ q)⟩
 | ev ws =>
  dsimp only [thD]
  ac_nf
  refine ⟨fun _ _=>False,⟨_,_,rfl,rfl,ifF rfl ⟨_,rfl,.inr ⟨by decide,?_⟩⟩⟩,fun _ _ z=>z.elim⟩
  ac_nf
  exact ⟨rfl,rfl,ifT rfl (bJ q)⟩
 | bad d =>
  rcases bv d rfl with (rfl | rfl) | ⟨m,x,rfl,_⟩ | ⟨x,rfl⟩ | rfl | ⟨x,rfl⟩ | rfl
  case inl.inr =>
   dsimp only [thD]
   ac_nf
   exact ⟨fun _ _=>False,⟨_,_,rfl,rfl,ifT rfl (bJ q)⟩,fun _ _ z=>z.elim⟩
  all_goals
   dsimp only [thD]
   ac_nf
   refine ⟨fun _ _=>False,⟨_,_,rfl,rfl,ifF rfl ⟨_,rfl,.inr ⟨by decide,?_⟩⟩⟩,fun _ _ z=>z.elim⟩
   ac_nf
   exact ⟨rfl,rfl,ifT rfl (bJ q)⟩
def qB:DSp:=fun ds M Q=>∃ r:Th,ds = [thD r]/\isP r = false/\(∀ n ts,r = .ag n ts->n<=12)/\(∀ d,r = .bad d->aGq d)/\Q (.bl (isB r)) M
noncomputable abbrev rN:Stmt:=top 32
theorem aB7:aS ["thing"] ["thing"] (aI rN):=⟨rfl,rfl,rfl,by decide +kernel,rfl,by decide +kernel,by decide +kernel⟩
theorem aAr (hF:cK K mg "is_block" rN ["thing"]) (aT:mg "isinstance" = none) (cH:mg "tuple" = none) (eI:mg "len" = none) (nS:eJ K mg "MOST_AGAIN" (.int 12)) (iG:Has P w K mg base 101 "is_worded" ["thing"] nX) (iF:Has P w K mg base 101 "is_whole" ["thing"] pQ):Has P w K mg base 102 "is_block" ["thing"] qB:=by
 refine Has.mkZ hF aB7 (fun ds M Q ⟨_,z,_⟩=>by rw [z];rfl) fun f cdv A outer s H ds M Q E hr h=>?_
 obtain ⟨r,rfl,hb,hn,bv,q⟩:=h
 refine ⟨_,(aF (bA (eF (dU (gC (bY (aG iG hr (by decide) (aA (aB 0) aC)))) (dS (gC (bY (mZ (aJ (aB 0) (eR aD)) aT cH)))))) (aE (aK fF)) aY)
  (aF (bA (aP (cT hr) (aJ (aB 0) aD) aO) (aE (aK (gO (eG (cT hr) (cO mD eI (aA (aB 0) aC)) aD) (gO (aG iF hr (by decide) (aA (aJ (aB 0) aD) aC)) (gM (aAk aBs aBs aD (aJ (aB 0) aD) (aW nS))))))) aY)
  (aE (aK (gO (eG (cT hr) (cO mD eI (aA (aB 0) aC)) aD) (gM (aCC (eG (cT hr) (aJ (aB 0) aD) aO) (gM (eG (cT hr) (aJ (aB 0) aD) aO))))))))),?_⟩
 cases r with
 | pl p=>cases hb
 | ag n ws =>
  have:=hn n ws rfl
  dsimp only [thD]
  ac_nf
  refine ⟨_,_,rfl,rfl,ifF rfl (.inl ⟨_,_,rfl,rfl,ifF rfl ?_⟩)⟩
  rw [aL]
  refine ifT (by decide) ?_
  rw [cM]
  refine ifT (by decide) ⟨_,_,rfl,rfl,ifT rfl (ifT (decide_eq_true (by omega)) ?_)⟩
  rw [decide_eq_true (by omega)]
  exact bJ q
 | kp ws =>
  dsimp only [thD]
  ac_nf
  refine ⟨_,_,rfl,rfl,ifF rfl (.inl ⟨_,_,rfl,rfl,ifF rfl ?_⟩)⟩
  rw [aL]
  refine ifF (by decide) ?_
  rw [cM]
  refine ifT (by decide) ?_
  rw [aL]
  exact ifT (by decide) (bJ q)
 | ev ws =>
  dsimp only [thD]
  ac_nf
  refine ⟨_,_,rfl,rfl,ifF rfl (.inl ⟨_,_,rfl,rfl,ifF rfl ?_⟩)⟩
  rw [aL]
  refine ifF (by decide) ?_
  rw [cM]
  refine ifT (by decide) ?_
  rw [aL]
  refine ifF (by decide) ?_
  rw [aL]
  exact bJ q
 | bad d =>
  rcases bv d rfl with (rfl | rfl) | ⟨m,x,rfl,hm⟩ | ⟨x,rfl⟩ | rfl | ⟨x,rfl⟩ | rfl
  ·dsimp only [thD]
   ac_nf
   exact ⟨_,_,rfl,rfl,ifF rfl (.inl ⟨_,_,rfl,rfl,ifT rfl (bJ q)⟩)⟩
  ·dsimp only [thD]
   ac_nf
   exact ⟨_,_,rfl,rfl,ifT rfl (bJ q)⟩
  ·dsimp only [thD]
   ac_nf
   refine ⟨_,_,rfl,rfl,ifF rfl (.inl ⟨_,_,rfl,rfl,ifF rfl ?_⟩)⟩
   rw [aL]
   refine ifT (by decide) ?_
   rw [cM]
   refine ifT (by decide) ?_
   rcases hm with (rfl | rfl | rfl) | rfl | rfl | rfl
   ·exact ⟨_,_,rfl,rfl,ifT rfl (ifT (by decide) (bJ q))⟩
   ·exact ⟨_,_,rfl,rfl,ifT rfl (ifF (by decide) (bJ q))⟩
   ·exact ⟨_,_,rfl,rfl,ifF rfl (bJ q)⟩
   ·exact ⟨_,_,rfl,rfl,ifF rfl (bJ q)⟩
   ·exact ⟨_,_,rfl,rfl,ifF rfl (bJ q)⟩
   ·exact ⟨_,_,rfl,rfl,ifT rfl (ifT (by decide) (bJ q))⟩
  ·dsimp only [thD]
   ac_nf
   refine ⟨_,_,rfl,rfl,ifF rfl (.inl ⟨_,_,rfl,rfl,ifF rfl ?_⟩)⟩
   rw [aL]
   refine ifT (by decide) ?_
   rw [cM]
   exact ifF (by decide) (bJ q)
  all_goals
   dsimp only [thD]
   ac_nf
   exact ⟨_,_,rfl,rfl,ifF rfl (.inl ⟨_,_,rfl,rfl,ifT rfl (bJ q)⟩)⟩
noncomputable def isE:Th->Bool
 | .ev _=>true
 | _=>false
noncomputable def oH (r:Th) (ar:List Str):Bool:=decide (ar.length < 4) && !(isE r && ar.any (· == "ever"))
def oZ:DSp:=fun ds M Q=>∃ (r:Th) (ar:List Str),ds = [thD r,.tup (ar.map D.str)]/\isB r = true/\Q (.bl (oH r ar)) M
noncomputable abbrev rC:Stmt:=top 67
theorem aBt:aS ["block","around"] ["block","around"] (aI rC):=⟨rfl,rfl,rfl,by decide +kernel,rfl,by decide +kernel,by decide +kernel⟩
theorem aA3 (hF:cK K mg "has_room" rC ["block","around"]) (eI:mg "len" = none) (mE:eJ K mg "MOST_BLOCKS" (.int 4)):Has P w K mg base 101 "has_room" ["block","around"] oZ:=by
 refine Has.mkZ hF aBt (fun ds M Q ⟨_,_,z,_⟩=>by rw [z];rfl) fun f cdv A outer s H ds M Q E hr h=>?_
 obtain ⟨r,ar,rfl,hb,q⟩:=h
 refine ⟨_,(aE (aK (gO (eG wO (cO mD eI (aA (aB 1) aC)) (aW mE)) (gM (aBa (gO (eG (cT hr) (aJ (aB 0) aD) aO) (gM (eG aLc aO (aB 1) rfl)))))))),?_⟩
 unfold oH at q
 ac_nf
 rw [aJg]
 ac_nf
 rw [length_map]
 by_cases c:ar.length < 4
 ·rw [decide_eq_true c,Bool.true_and] at q
  refine ifT (decide_eq_true (by omega)) ?_
  cases r with
  | pl p=>cases hb
  | ag n ws =>
   dsimp only [thD]
   ac_nf
   rw [aL]
   exact ifF (by decide) (bJ q)
  | kp ws =>
   dsimp only [thD]
   ac_nf
   rw [aL]
   exact ifF (by decide) (bJ q)
  | ev ws =>
   dsimp only [thD]
   ac_nf
   rw [aL]
   exact ifT (by decide) ⟨ar,rfl,bJ q⟩
  | bad d=>cases hb
 ·rw [decide_eq_false c,Bool.false_and] at q
  exact ifF (decide_eq_false (by omega)) (bJ q)
noncomputable def inT:Th->Option (List Th)
 | .ag _ ts=>some ts
 | .kp ts=>some ts
 | .ev ts=>some ts
 | _=>none
def rL:DSp:=fun ds M Q=>∃ (r:Th) (ts:List Th),ds = [thD r]/\inT r = some ts/\Q (.tup (lF ts)) M
theorem wA (hF:cK K mg "rows_within" jK ["row"]):Has P w K mg base 101 "rows_within" ["row"] rL:=by
 refine Has.mkZ hF qE (fun ds M Q ⟨_,a,z,_⟩=>by rw [z];rfl) fun f cdv A outer s H ds M Q E hr h=>?_
 obtain ⟨r,ts,rfl,hb,q⟩:=h
 have q':=bJ q
 refine ⟨_,(aF (bA (aP (cT hr) (aJ (aB 0) aD) aO) (aE (aK (aJ (aB 0) aD))) aY)
  (aE (aK (dF (eF (dU (aP (cT hr) (aJ (aB 0) aD) aO) (dS (aP (cT hr) (aJ (aB 0) aD) aO)))) (aJ (aB 0) aD) cN)))),?_⟩
 cases r with
 | pl p=>cases hb
 | bad d=>cases hb
 | ag n ts' =>
  cases hb
  dsimp only [thD]
  ac_nf
  rw [aL]
  exact ifT (by decide) q'
 | kp ts' =>
  cases hb
  dsimp only [thD]
  ac_nf
  rw [aL]
  refine ifF (by decide) ?_
  rw [aL]
  exact ifT (by decide) q'
 | ev ts' =>
  cases hb
  dsimp only [thD]
  ac_nf
  rw [aL]
  refine ifF (by decide) ?_
  rw [aL]
  refine ifF (by decide) ?_
  rw [aL]
  exact ifT (by decide) q'
theorem aKC {p:Pl} (h:plB 100 p):plB 900 p:=by
 have m:∀ {x:Rat},BQ 100 x->BQ 900 x:=fun h=>h.mono (by decide)
 cases p with
 | go a=>exact m h
 | side a b=>exact ⟨m h.1,m h.2⟩
 | skip a=>exact m h
 | grow a=>exact ⟨m h.1,h.2⟩
 | quarter a=>exact ⟨m h.1,h.2⟩
 | half a=>exact ⟨m h.1,h.2⟩
 | arc a b c d=>exact ⟨m h.1,m h.2.1,m h.2.2.1,m h.2.2.2.1,h.2.2.2.2⟩
 | _=>trivial
mutual
def vaR:Rw->Prop
 | .pl p=>plV p
 | .ag n rs=>n<=12/\vaS rs
 | .kp rs=>vaS rs
 | .ev rs=>vaS rs
def vaS:List Rw->Prop
 | []=>True
 | r :: rs=>vaR r/\vaS rs
end
theorem aDO:∀ {rs:List Rw} {r:Rw},vaS rs->r ∈ rs->vaR r
 | x :: xs,r,h,m=>by
  rw [vaS] at h
  rcases List.mem_cons.mp m with rfl | z
  ·exact h.1
  ·exact aDO h.2 z
theorem aDw:∀ {rs:List Rw} {r:Rw},r ∈ rs->drR r = true->drS rs = true
 | x :: xs,r,m,h=>by
  rw [drS]
  rcases List.mem_cons.mp m with rfl | z
  ·rw [h,Bool.true_or]
  ·rw [aDw z h,Bool.or_true]
theorem aBW:∀ {rs:List Rw},(∀ r ∈ rs,drR r = false)->drS rs = false
 | [],_=>by rw [drS]
 | x :: xs,h=>by rw [drS,h x (mem_cons_self ..),aBW fun r hr=>h r (mem_cons_of_mem _ hr)];rfl
def xO (d:Nat):DSp:=fun ds M Q=>∃ rs,ds = [.tup (bI rs)]/\DpS d rs/\vaS rs/\Q (.bl (drS rs)) M
noncomputable abbrev aAR:Stmt:=top 55
theorem tI:aS ["rows","row","within"] ["rows"] (aI aAR):=⟨rfl,rfl,rfl,by decide +kernel,rfl,by decide +kernel,by decide +kernel⟩
theorem aEk (hF:cK K mg "draws" aAR ["rows"]) (cB:Has P w K mg base 101 "rows_within" ["row"] iX) (uS:Has P w K mg base 104 "deed_of" ["row"] yE):Has P w K mg base 118 "draws" ["rows"] (xO 8):=by
 have all:∀ d,Has P w K mg base (110 + d) "draws" ["rows"] (xO d):=fun d=>by
  induction d with
  | zero=>exact (Has.never hF tI 109).imp fun ds M Q ⟨rs,_,z,_⟩=>z
  | succ d sH =>
   refine Has.mkZ (k:=110 + d) hF tI (fun ds M Q ⟨a,z,_⟩=>by rw [z];rfl) fun f cdv A outer s H ds M Q E hr h=>?_
   obtain ⟨rs,rfl,dp,va,q⟩:=h
   refine ⟨_,(aF (jS PassesOwn.never rfl (aB 0) (aZ (i:=1) tI.nd) (aF (aN (i:=2) tI.nd (aG cB hr (by omega) (aA (aB 1) aC)))
  (aE (bA (aP vN (aB 2) cN) (aE (bA (aP aCm (aJ (aG uS hr (by omega) (aA (aB 1) aC)) aD) cN) (aE (aK fF)) aY)) (aE (bA (eF (hZ (bY (aG sH hr (by omega) (aA (aB 2) aC))) (fK (eF (dU (aP (iO hr) (aJ (aB 1) aD) aO) (dS (aP lV (aJ (aB 1) aD) aD))))))) (aE (aK fF)) aY))))))
  (aE (aK fF))),?_⟩
   ac_nf
   refine ⟨fun i ρ M'=>M' = M/\(∀ r ∈ rs.take i,drR r = false)/\∃ o1 o2,ρ = [some (.tup (bI rs)),o1,o2],⟨rfl,(by rw [take_zero];intro r hr;cases hr),_,_,rfl⟩,fun i ρ M' _ _ a e=>(by cases e),?_,?_⟩
   ·rintro i d1 ρ M' hd ⟨rfl,no,o1,o2,rfl⟩
    obtain ⟨r,hr',rfl⟩:=kS hd
    have mr:=mem_of_getElem? hr'
    have dr:=dp.2 r mr
    have vr:=aDO va mr
    ac_nf
    refine ⟨r,rfl,?_⟩
    have next:drR r = false->∀ x ∈ rs.take (i + 1),drR x = false:=fun h x hx=>by
     rw [kF hr'] at hx
     rcases List.mem_append.mp hx with z | z
     ·exact no x z
     ·rw [List.mem_singleton.mp z];exact h
    have yes:drR r = true->Dn Q (.bl true) M':=fun h=>by rw [aDw mr h] at q;exact bJ q
    cases r with
    | pl p =>
     rw [vaR] at vr
     rw [drR] at next yes
     dsimp only [inR]
     ac_nf
     refine ifT rfl ⟨p,by rw [rwD],trivial,aKC vr.1,?_⟩
     cases hl:aGS p with
     | none =>
      rw [hl] at next
      dsimp only [lgO]
      ac_nf
      exact ifF rfl ⟨rfl,next rfl,_,_,rfl⟩
     | some l =>
      rw [hl] at yes
      dsimp only [lgO]
      ac_nf
      have z:∀ l,∃ ds,lgD l = .tup ds:=fun l=>by cases l<;>exact ⟨_,rfl⟩
      obtain ⟨ds,e⟩:=z l
      rw [e]
      ac_nf
      exact ifT rfl (yes rfl)
    | ag n ws =>
     obtain ⟨hn,dw⟩:=qS dr
     rw [vaR] at vr
     rw [drR] at next yes
     dsimp only [inR]
     ac_nf
     refine ifF rfl ⟨ws,rfl,dw,vr.2,?_⟩
     dsimp only [rwD]
     ac_nf
     cases hd:drS ws with
     | false =>
      rw [hd,Bool.and_false] at next
      exact ifF rfl ⟨rfl,next rfl,_,_,rfl⟩
     | true =>
      rw [hd,Bool.and_true] at next yes
      refine ifT rfl ?_
      rw [aL]
      refine ifF (by decide) ?_
      by_cases c:n = 0
      ·rw [c] at next
       exact ifF (decide_eq_false (by omega)) ⟨rfl,next rfl,_,_,rfl⟩
      ·exact ifT (decide_eq_true (by omega)) (yes (by simp [c]))
    | kp ws =>
     have dw:=sK dr
     rw [vaR] at vr
     rw [drR] at next yes
     dsimp only [inR]
     ac_nf
     refine ifF rfl ⟨ws,rfl,dw,vr,?_⟩
     dsimp only [rwD]
     ac_nf
     cases hd:drS ws with
     | false=>exact ifF rfl ⟨rfl,next hd,_,_,rfl⟩
     | true =>
      refine ifT rfl ?_
      rw [aL]
      exact ifT (by decide) (yes hd)
    | ev ws =>
     have dw:=uZ dr
     rw [vaR] at vr
     rw [drR] at next yes
     dsimp only [inR]
     ac_nf
     refine ifF rfl ⟨ws,rfl,dw,vr,?_⟩
     dsimp only [rwD]
     ac_nf
     cases hd:drS ws with
     | false=>exact ifF rfl ⟨rfl,next hd,_,_,rfl⟩
     | true =>
      refine ifT rfl ?_
      rw [aL]
      exact ifT (by decide) (yes hd)
   ·rintro ρ M' ⟨rfl,no,o1,o2,rfl⟩
    rw [cP,take_length] at no
    rw [aBW no] at q
    exact bJ q
 exact all 8
theorem aMZ {p s k A:Nat} (p1:1<=p) (s1:1<=s) (k0:0 < k) (e:p * s ^ k = A):p<=A/\s<=A:=by
 have h1:1<=s ^ k:=Nat.pow_pos s1
 have h2:s<=s ^ k:=by
  cases k with
  | zero=>omega
  | succ k =>
   have:1<=s ^ k:=Nat.pow_pos s1
   rw [Nat.pow_succ]
   exact Nat.le_mul_of_pos_left _ this
 rw [<- e]
 exact ⟨Nat.le_mul_of_pos_right _ h1,Nat.le_trans h2 (Nat.le_mul_of_pos_left _ p1)⟩
def oM:DSp:=fun ds M Q=>∃ a n:Nat,ds = [.int (a:Int),.int (n:Int)]/\1<=a/\Bd 100000 ((a ^ n:Nat):Int)/\Q (.int ((a ^ n:Nat):Int)) M
noncomputable abbrev kP:Stmt:=top 57
theorem dI:aS ["number","n","product","square","left"] ["number","n"] (aI kP):=⟨rfl,rfl,rfl,by decide +kernel,rfl,by decide +kernel,by decide +kernel⟩
theorem tO (hF:cK K mg "raised_whole" kP ["number","n"]):Has P w K mg base 101 "raised_whole" ["number","n"] oM:=by
 refine Has.mkZ hF dI (fun ds M Q ⟨_,_,z,_⟩=>by rw [z];rfl) fun f cdv A outer s H ds M Q E hr h=>?_
 obtain ⟨a,n,rfl,a1,bd,q⟩:=h
 refine ⟨_,(aF (aN (i:=2) dI.nd aD)
  (aF (aN (i:=3) dI.nd (aB 0))
  (aF (aN (i:=4) dI.nd (aB 1))
  (aF (tM PassesOwn.never (aP lV (aB 4) aD) (aF (bA (aP (cT hr) (aQ fZ (aB 4) aD) aD) (aE (aN (i:=2) dI.nd (aQ cV (aB 2) (aB 3)))) aY)
  (aF (aN (i:=4) dI.nd (aQ fG (aB 4) aD))
  (aE (bA (aP lV (aB 4) aD) (aE (aN (i:=3) dI.nd (aQ cV (aB 3) (aB 3)))) aY)))))
  (aE (aK (aB 2))))))),?_⟩
 ac_nf
 generalize eA:a ^ n = A at bd q
 refine uR (fun m ρ M'=>M' = M/\∃ p s:Nat,(1<=p/\1<=s)/\p * s ^ m = A/\ρ = [some (.int (a:Int)),some (.int (n:Int)),some (.int (p:Int)),some (.int (s:Int)),some (.int (m:Int))]) n ⟨rfl,1,a,⟨by decide,a1⟩,by rw [Nat.one_mul];exact eA,rfl⟩ ?_
 rintro m ρ M' ⟨rfl,p,s,⟨p1,s1⟩,e,rfl⟩
 ac_nf
 by_cases c:0 < m
 ·refine ifT (decide_eq_true (by omega)) ?_
  obtain ⟨lp,ls⟩:=aMZ p1 s1 c e
  have bp:Bd 100000 (p:Int):=Nat.lt_of_le_of_lt lp bd
  have bs:Bd 100000 (s:Int):=Nat.lt_of_le_of_lt ls bd
  have em:(m:Int).fmod 2 = ((m % 2:Nat):Int):=by rw [Int.fmod_eq_emod_of_nonneg _ (by decide)];rfl
  have ed:(m:Int).fdiv 2 = ((m / 2:Nat):Int):=by rw [Int.fdiv_eq_ediv_of_nonneg _ (by decide)];rfl
  have cfd:CFd (m:Int) 2:=⟨by decide,by decide⟩
  have ev:∀ p':Nat,p' * s ^ (2 * (m / 2)) = A->p' * (s * s) ^ (m / 2) = A:=fun p' h=>by
   rw [<- Nat.pow_two,<- Nat.pow_mul];exact h
  have ss:1<=s * s:=Nat.mul_pos s1 s1
  rw [em,ed,cM]
  by_cases od:m % 2 = 1
  ·have e1:p * s * s ^ (2 * (m / 2)) = A:=by
    rw [Nat.mul_assoc,<- Nat.pow_succ',show (2 * (m / 2)).succ = m by omega];exact e
   refine ⟨by decide,ifT (decide_eq_true (by omega)) ⟨fP bp bs,cfd,?_⟩⟩
   by_cases c2:0 < m / 2
   ·exact ifT (decide_eq_true (by omega)) ⟨fP bs bs,m / 2,by omega,rfl,p * s,s * s,⟨Nat.mul_pos p1 s1,ss⟩,ev _ e1,by rw [Int.natCast_mul,Int.natCast_mul]⟩
   ·have z:m / 2 = 0:=by omega
    rw [z] at e1
    exact ifF (decide_eq_false (by omega)) ⟨m / 2,by omega,rfl,p * s,s,⟨Nat.mul_pos p1 s1,s1⟩,by rw [z];exact e1,by rw [Int.natCast_mul]⟩
  ·have e1:p * s ^ (2 * (m / 2)) = A:=by rw [show 2 * (m / 2) = m by omega];exact e
   have c2:0 < m / 2:=by omega
   exact ⟨by decide,ifF (decide_eq_false (by omega)) ⟨cfd,ifT (decide_eq_true (by omega)) ⟨fP bs bs,m / 2,by omega,rfl,p,s * s,⟨p1,ss⟩,ev _ e1,by rw [Int.natCast_mul]⟩⟩⟩
 ·refine ifF (decide_eq_false (by omega)) ?_
  obtain rfl:m = 0:=by omega
  rw [Nat.pow_zero,Nat.mul_one] at e
  rw [e]
  exact bJ q
theorem aIl (x:Rat) (n:Nat):(x ^ n).num = x.num ^ n/\(x ^ n).den = x.den ^ n:=⟨Rat.num_pow x n,Rat.den_pow x n⟩
def aAh:DSp:=fun ds M Q=>∃ (x:Rat) (n:Nat),ds = [FQ x,.int (n:Int)]/\0 < x/\BQ 100000 (x ^ n)/\Q (FQ (x ^ n)) M
noncomputable abbrev yM:Stmt:=top 58
theorem aEG:aS ["number","n"] ["number","n"] (aI yM):=⟨rfl,rfl,rfl,by decide +kernel,rfl,by decide +kernel,by decide +kernel⟩
theorem aCA (hF:cK K mg "raised" yM ["number","n"]) (fA:Has P w K mg base 101 "raised_whole" ["number","n"] oM):Has P w K mg base 102 "raised" ["number","n"] aAh:=by
 refine Has.mkZ hF aEG (fun ds M Q ⟨_,_,z,_⟩=>by rw [z];rfl) fun f cdv A outer s H ds M Q E hr h=>?_
 obtain ⟨x,n,rfl,x0,⟨b1,b2⟩,q⟩:=h
 refine ⟨_,(aF (bA (aP wO (aB 1) aD) (aE (aK (aM (aA (aG fA hr (by decide) (aA (aJ (aB 0) aD) (aA (eR (aB 1)) aC))) (aA (aG fA hr (by decide) (aA (aJ (aB 0) aD) (aA (eR (aB 1)) aC))) aC))))) aY)
  (aE (aK (aM (aA (aG fA hr (by decide) (aA (aJ (aB 0) aD) (aA (aB 1) aC))) (aA (aG fA hr (by decide) (aA (aJ (aB 0) aD) (aA (aB 1) aC))) aC)))))),?_⟩
 obtain ⟨e1,e2⟩:=aIl x n
 have xn:0 < x.num:=aHp.mpr x0
 have xd:=x.den_pos
 have k1:((x.num.toNat:Nat):Int) = x.num:=Int.toNat_of_nonneg (by omega)
 have k2:((x.num.toNat ^ n:Nat):Int) = (x ^ n).num:=by rw [e1,Int.natCast_pow,k1]
 have k3:((x.den ^ n:Nat):Int) = ((x ^ n).den:Int):=by rw [e2]
 rw [show FQ x = D.tup [.int ((x.num.toNat:Nat):Int),.int ((x.den:Nat):Int)] by rw [k1];rfl]
 ac_nf
 refine ifF (decide_eq_false (by omega)) ⟨x.num.toNat,n,rfl,by omega,by rw [k2];exact b1,?_⟩
 ac_nf
 refine ⟨x.den,n,rfl,by omega,by rw [k3];exact b2,?_⟩
 ac_nf
 rw [k2,k3]
 exact ⟨by decide,bJ q⟩
def nM (d:Nat):DSp:=fun ds M Q=>∃ rs,ds = [.tup (bI rs)]/\DpS d rs/\loS rs/\Q (FQ (szS rs)) M
noncomputable abbrev pT:Stmt:=top 69
theorem gP:aS ["rows","size","row"] ["rows"] (aI pT):=⟨rfl,rfl,rfl,by decide +kernel,rfl,by decide +kernel,by decide +kernel⟩
theorem zC (hF:cK K mg "move_size" pT ["rows"]) (lE:eJ K mg "ONE" aCG) (w_times:Has P w K mg base 102 "times" ["one","other"] tS) (xP:Has P w K mg base 102 "raised" ["number","n"] aAh):Has P w K mg base 118 "move_size" ["rows"] (nM 8):=by
 have h_times:=w_times
 have all:∀ d,Has P w K mg base (110 + d) "move_size" ["rows"] (nM d):=fun d=>by
  induction d with
  | zero=>exact (Has.never hF gP 109).imp fun ds M Q ⟨rs,_,z,_⟩=>z
  | succ d jR =>
   refine Has.mkZ (k:=110 + d) hF gP (fun ds M Q ⟨a,z,_⟩=>by rw [z];rfl) fun f cdv A outer s H ds M Q E hr h=>?_
   obtain ⟨rs,rfl,dp,⟨gw,dn,one⟩,q⟩:=h
   refine ⟨_,(aF (aN (i:=1) gP.nd (aW lE))
  (aF (jS PassesOwn.never rfl (aB 0) (aZ (i:=2) gP.nd) (aE (bA (aP (cT hr) (aJ (aB 2) aD) aO) (aE (aN (i:=1) gP.nd (aG h_times hr (by omega) (aA (aB 1) (aA (aJ (aB 2) aD) aC))))) (aE (bA (aP (cT hr) (aJ (aB 2) aD) aO) (aE (aN (i:=1) gP.nd (aG h_times hr (by omega) (aA (aB 1) (aA (aG xP hr (by omega) (aA (aG jR hr (by omega) (aA (aJ (aB 2) aD) aC)) (aA (aJ (aB 2) aD) aC))) aC))))) aY)))))
  (aE (aK (aB 1))))),?_⟩
   ac_nf
   refine ⟨fun i ρ M'=>M' = M/\∃ o1,ρ = [some (.tup (bI rs)),some (FQ (szS (rs.take i))),o1],⟨rfl,_,rfl⟩,fun i ρ M' _ _ a e=>(by cases e),?_,?_⟩
   ·rintro i d1 ρ M1 hd ⟨rfl,o1,rfl⟩
    obtain ⟨r,hr',rfl⟩:=kS hd
    have dr:=dp.2 r (mem_of_getElem? hr')
    have gr:=aFa gw (mem_of_getElem? hr')
    have on:=one r (mem_of_getElem? hr')
    have gt:wS (rs.take i):=(aE6.mp (by rw [List.take_append_drop];exact gw)).1
    have zt:=aBY _ gt
    have zr:=aI5 r gr
    have fin:szS (rs.take (i + 1)) = szS (rs.take i) * szR r:=by rw [kF hr',aDs,szS,szS,Rat.mul_one]
    have fdn:dnS (rs.take (i + 1)) = dnS (rs.take i) + dnR r:=by rw [kF hr',sV,dnS,dnS,Nat.add_zero]
    have ldn:dnS (rs.take (i + 1))<=dnS rs:=by
     have:=sV (rs.take (i + 1)) (rs.drop (i + 1))
     rw [List.take_append_drop] at this
     omega
    ac_nf
    rw [fin]
    cases r with
    | pl p =>
     rcases aHA p with ⟨a,rfl⟩ | ⟨w0,dD,e,w1,w2,e1⟩
     ·dsimp only [rwD,plD]
      rw [dnR,szR] at zr
      rw [szR]
      rw [dnR] at fdn
      ac_nf
      rw [aL]
      exact ifT (by decide) (aNr zt zr (.inr (by decide)) (by omega) ⟨rfl,_,rfl⟩)
     ·dsimp only [rwD]
      rw [e,e1,Rat.mul_one]
      ac_nf
      rw [tL]
      ac_nf
      rw [aL]
      refine ifF (decide_eq_false w1) ?_
      rw [aL]
      exact ifF (decide_eq_false w2) ⟨rfl,_,rfl⟩
    | ag n ws =>
     obtain ⟨hn,dw⟩:=qS dr
     have lo:=aJU gr
     rw [wR] at gr
     have zw:=aBY _ gr.1
     rw [dnR] at fdn zr on
     rw [szR] at zr ⊢
     dsimp only [rwD]
     ac_nf
     rw [aL]
     refine ifF (by decide) ?_
     rw [aL]
     refine ifT (by decide) ⟨ws,rfl,dw,lo,?_⟩
     ac_nf
     refine ⟨_,n,rfl,zw.pos',zr.bq.mono (by omega),?_⟩
     ac_nf
     exact aNr zt zr (by omega) (by omega) ⟨rfl,_,rfl⟩
    | kp ws =>
     rw [szR,Rat.mul_one]
     dsimp only [rwD]
     ac_nf
     rw [aL]
     refine ifF (by decide) ?_
     rw [aL]
     exact ifF (by decide) ⟨rfl,_,rfl⟩
    | ev ws =>
     rw [szR,Rat.mul_one]
     dsimp only [rwD]
     ac_nf
     rw [aL]
     refine ifF (by decide) ?_
     rw [aL]
     exact ifF (by decide) ⟨rfl,_,rfl⟩
   ·rintro ρ M' ⟨rfl,o1,rfl⟩
    rw [cP,take_length]
    exact bJ q
 exact all 8
noncomputable def q34:D:=.tup [.int 3,.int 4]
theorem aJB:q34 = FQ (3 / 4):=by
 unfold q34 FQ
 rw [show (3 / 4:Rat).num = 3 by decide +kernel,show (3 / 4:Rat).den = 4 by decide +kernel];rfl
theorem aOI (x:Rat):(!decide ((3 / 4:Rat) < x)) = decide (4 * x.num<=3 * (x.den:Int)):=by
 have h:=ltQ (3 / 4) x
 rw [show (3 / 4:Rat).num = 3 by decide +kernel,show (3 / 4:Rat).den = 4 by decide +kernel] at h
 by_cases c:(3 / 4:Rat) < x
 ·rw [decide_eq_true c]
  have:=h.mpr c
  exact (decide_eq_false (by omega)).symm
 ·rw [decide_eq_false c]
  have:¬ 3 * (x.den:Int) < x.num * ((4:Nat):Int):=fun z=>c (h.mp z)
  exact (decide_eq_true (by omega)).symm
def nH:DSp:=fun ds M Q=>∃ rs,ds = [.tup (bI rs)]/\DpS 8 rs/\vaS rs/\(dnS rs<=300->loS rs)/\Q (.bl (enB rs)) M
noncomputable abbrev pV:Stmt:=top 68
theorem sG:aS ["rows","size"] ["rows"] (aI pV):=⟨rfl,rfl,rfl,by decide +kernel,rfl,by decide +kernel,by decide +kernel⟩
theorem yV (hF:cK K mg "can_go_on" pV ["rows"]) (iY:eJ K mg "MOST_IN_A_ROUND" (.int 300)) (lE:eJ K mg "ONE" aCG) (lD:eJ K mg "LEAST_CHANGE" (.tup [.int 3,.int 4])) (fU:Has P w K mg base 118 "how_many_done" ["rows"] (aBb 8)) (sH:Has P w K mg base 118 "draws" ["rows"] (xO 8)) (jR:Has P w K mg base 118 "move_size" ["rows"] (nM 8)) (aAD:Has P w K mg base 101 "below" ["one","other"] aCg):Has P w K mg base 119 "can_go_on" ["rows"] nH:=by
 refine Has.mkZ hF sG (fun ds M Q ⟨_,z,_⟩=>by rw [z];rfl) fun f cdv A outer s H ds M Q E hr h=>?_
 obtain ⟨rs,rfl,dp,va,lo,q⟩:=h
 refine ⟨_,(aF (bA (eF (dU (aP lV (aG fU hr (by decide) (aA (aB 0) aC)) (aW iY)) (dS (gC (bY (aG sH hr (by decide) (aA (aB 0) aC))))))) (aE (aK fF)) aY)
  (aF (aN (i:=1) sG.nd (aG jR hr (by decide) (aA (aB 0) aC)))
  (aE (aK (aCC (eG (cT hr) (aB 1) (aW lE)) (gM (aBa (aG aAD hr (by decide) (aA (aW lD) (aA (aB 1) aC)))))))))),?_⟩
 unfold enB at q
 ac_nf
 refine ⟨rs,rfl,dp,?_⟩
 ac_nf
 by_cases c:dnS rs<=300
 ·rw [decide_eq_true c,Bool.true_and] at q
  refine ifF (decide_eq_false (by omega)) ⟨rs,rfl,dp,va,?_⟩
  ac_nf
  cases hd:drS rs with
  | false =>
   rw [hd,Bool.and_false] at q
   exact ifT rfl (bJ q)
  | true =>
   rw [hd,Bool.and_true] at q
   have lo:=lo c
   refine ifF rfl ⟨rs,rfl,dp,lo,?_⟩
   ac_nf
   rw [show aCG = FQ 1 from rfl,aGU]
   by_cases c1:szS rs = 1
   ·rw [decide_eq_true c1,Bool.true_or] at q
    exact ifT (decide_eq_true c1) (bJ q)
   ·rw [decide_eq_false c1,Bool.false_or] at q
    rw [show (D.tup [.int 3,.int 4]) = FQ (3 / 4) from aJB]
    refine ifF (decide_eq_false c1) ⟨_,_,4,_,rfl,trivial,⟨by unfold Bd;decide +kernel,by unfold Bd;decide +kernel⟩,(aBY _ lo.1).bq,by omega,?_⟩
    ac_nf
    rw [aOI]
    exact bJ q
 ·rw [decide_eq_false c,Bool.false_and] at q
  exact ifT (decide_eq_true (by omega)) (bJ q)
theorem aBX (ts:List Th):(lF ts).length = ts.length:=by rw [pL,length_map]
theorem aBO {ts:List Th} {i:Nat} {d:D} (h:(lF ts)[i]? = some d):∃ r,ts[i]? = some r/\d = thD r:=by
 rw [pL,getElem?_map] at h
 cases e:ts[i]? with
 | none=>rw [e] at h;cases h
 | some r=>rw [e] at h;cases h;exact ⟨r,rfl,rfl⟩
theorem wK:∀ ts:List Th,gdS ts = ts.map gdR
 | []=>by rw [gdS];rfl
 | t :: ts=>by rw [gdS,wK ts,map_cons]
theorem aER {ts:List Th} {r:Th} (h:r ∈ ts):gdR r ∈ gdS ts:=by rw [wK];exact mem_map_of_mem h
noncomputable def lkB (r:Th) (ws:List Th) (a:Int) (ar:List Str) (z:Int ⊕ Int):Int ⊕ Int :=
 if oH r ar then match z with
  | .inl b=>if isE r && !enB (gdS ws) then .inr a else .inl (b + 1)
  | .inr c=>.inr c
 else .inr a
mutual
noncomputable def lkR:Th->Int->List Str->Int ⊕ Int
 | .pl _,a,_=>.inl (a + 1)
 | .ag n ws,a,ar=>lkB (.ag n ws) ws a ar (lkS ws (a + 1) (ar ++ [("again":Str)]))
 | .kp ws,a,ar=>lkB (.kp ws) ws a ar (lkS ws (a + 1) (ar ++ [("keep":Str)]))
 | .ev ws,a,ar=>lkB (.ev ws) ws a ar (lkS ws (a + 1) (ar ++ [("ever":Str)]))
 | .bad _,a,_=>.inr a
noncomputable def lkS:List Th->Int->List Str->Int ⊕ Int
 | [],a,_=>.inl a
 | r :: rs,a,ar=>match lkR r a ar with
  | .inl b=>lkS rs b ar
  | .inr c=>.inr c
end
theorem wB:∀ (xs ys:List Th) (a:Int) (ar:List Str),lkS (xs ++ ys) a ar = match lkS xs a ar with | .inl b=>lkS ys b ar | .inr c=>.inr c
 | [],ys,a,ar=>by rw [nil_append,lkS]
 | x :: xs,ys,a,ar=>by
  rw [cons_append,lkS,lkS]
  cases lkR x a ar with
  | inl b=>exact wB xs ys b ar
  | inr c=>rfl
theorem aGh {rs:List Th} {i:Nat} {r:Th} {a b:Int} {ar:List Str} (hr:rs[i]? = some r) (h:lkS (rs.take i) a ar = .inl b):lkS (rs.take (i + 1)) a ar = lkR r b ar:=by
 rw [kF hr,wB,h]
 dsimp only
 rw [lkS]
 cases lkR r b ar with
 | inl c=>dsimp only;rw [lkS]
 | inr c=>rfl
theorem aJq {rs:List Th} {i:Nat} {r:Th} {a b:Int} {ar:List Str} (hr:rs[i]? = some r) (h:lkS (rs.take i) a ar = .inl b) {c:Int} (hc:lkR r b ar = .inr c):lkS rs a ar = .inr c:=by
 rw [<- List.take_append_drop (i + 1) rs,wB,aGh hr h,hc]
theorem aNA {rs:List Th} {i:Nat} {r:Th} {a b z:Int} {ar:List Str} (hr:rs[i]? = some r) (h:lkS (rs.take i) a ar = .inl b) (hz:lkS rs a ar = .inl z):∃ c,lkR r b ar = .inl c:=by
 cases hc:lkR r b ar with
 | inl c=>exact ⟨c,rfl⟩
 | inr c=>rw [aJq hr h hc] at hz;cases hz
theorem DpS.up8 {d:Nat} {rs:List Rw} (h:DpS d rs) (l:d<=8):DpS 8 rs:=by
 cases d with
 | zero=>exact h.elim
 | succ d =>
  have l7:d<=7:=by omega
  exact ⟨h.1,fun r hr=>wH (d':=7) (h.2 r hr) l7⟩
theorem uO {r:Th} {ws:List Th} {a c:Int} {ar:List Str} {z:Int ⊕ Int} (h:lkB r ws a ar z = .inl c):oH r ar = true/\(isE r && !enB (gdS ws)) = false/\z = .inl (c - 1):=by
 unfold lkB at h
 cases hr:oH r ar with
 | false=>rw [hr] at h;cases h
 | true =>
  rw [hr,if_pos rfl] at h
  cases z with
  | inr c=>cases h
  | inl b =>
   dsimp only at h
   cases he:isE r && !enB (gdS ws) with
   | true=>rw [he] at h;cases h
   | false =>
    rw [he] at h
    refine ⟨rfl,rfl,?_⟩
    have:b + 1 = c:=Sum.inl.inj h
    rw [<- this];congr 1;omega
noncomputable def evI (ar:List Str):Bool:=ar.any (· == "ever")
theorem aDy (ar:List Str) (x:Str):evI (ar ++ [x]) = (evI ar || (x == "ever")):=by
 unfold evI;rw [List.any_append,any_cons,any_nil,Bool.or_false]
mutual
def vaT:Th->Prop
 | .pl p=>plV p
 | .ag n ts=>n<=12/\lH ts
 | .kp ts=>lH ts
 | .ev ts=>lH ts
 | .bad d=>aGq d/\bN 30 d = true
def lH:List Th->Prop
 | []=>True
 | t :: ts=>vaT t/\lH ts
end
theorem xI:∀ {rs:List Th} {r:Th},lH rs->r ∈ rs->vaT r
 | x :: xs,r,h,m=>by
  rw [lH] at h
  rcases List.mem_cons.mp m with rfl | z
  ·exact h.1
  ·exact xI h.2 z
mutual
theorem aMC:∀ t:Th,vaT t->vaR (gdR t)
 | .pl p,h=>by rw [vaT] at h;rw [gdR,vaR];exact h
 | .ag n ts,h=>by rw [vaT] at h;rw [gdR,vaR];exact ⟨h.1,uK ts h.2⟩
 | .kp ts,h=>by rw [vaT] at h;rw [gdR,vaR];exact uK ts h
 | .ev ts,h=>by rw [vaT] at h;rw [gdR,vaR];exact uK ts h
 | .bad d,_=>by rw [gdR,vaR];exact ⟨trivial,fun _ e=>by cases e⟩
theorem uK:∀ ts:List Th,lH ts->vaS (gdS ts)
 | [],_=>by rw [gdS,vaS];trivial
 | t :: ts,h=>by rw [lH] at h;rw [gdS,vaS];exact ⟨aMC t h.1,uK ts h.2⟩
end
mutual
theorem aJD:∀ (t:Th) (a:Int) (ar:List Str) (b:Int),lkR t a ar = .inl b->okT t
 | .pl _,_,_,_,_=>by rw [okT];trivial
 | .ag n ts,a,ar,b,h=>by rw [lkR] at h;rw [okT];exact rD ts _ _ _ (uO h).2.2
 | .kp ts,a,ar,b,h=>by rw [lkR] at h;rw [okT];exact rD ts _ _ _ (uO h).2.2
 | .ev ts,a,ar,b,h=>by rw [lkR] at h;rw [okT];exact rD ts _ _ _ (uO h).2.2
 | .bad _,_,_,_,h=>by rw [lkR] at h;cases h
theorem rD:∀ (ts:List Th) (a:Int) (ar:List Str) (b:Int),lkS ts a ar = .inl b->okS ts
 | [],_,_,_,_=>by rw [okS];trivial
 | t :: ts,a,ar,b,h=>by
  rw [lkS] at h
  rw [okS]
  cases e:lkR t a ar with
  | inl c=>rw [e] at h;exact ⟨aJD t a ar c e,rD ts c ar b h⟩
  | inr c=>rw [e] at h;cases h
end
mutual
def boR:Th->Prop
 | .pl _=>True
 | .ag _ ws=>boS ws
 | .kp ws=>boS ws
 | .ev ws=>boS ws/\∀ a ar b,evI ar = true->lkS ws a ar = .inl b->dnS (gdS ws)<=300->loS (gdS ws)
 | .bad _=>True
def boS:List Th->Prop
 | []=>True
 | r :: rs=>boR r/\boS rs
end
theorem aBf:∀ {rs:List Th} {r:Th},boS rs->r ∈ rs->boR r
 | x :: xs,r,h,m=>by
  rw [boS] at h
  rcases List.mem_cons.mp m with rfl | z
  ·exact h.1
  ·exact aBf h.2 z
theorem qN {r:Th} {ar:List Str} (h:oH r ar = true):ar.length < 4:=by
 unfold oH at h
 exact of_decide_eq_true (Bool.and_eq_true_iff.mp h).1
def wG (d:Nat):DSp:=fun ds M Q=>∃ rs a ar,ds = [.tup (lF rs),.int a,.tup (ar.map D.str)]/\(DpS d (gdS rs)/\ar.length<=1000)/\(lH rs/\boS rs)/\∃ b,lkS rs a ar = .inl b/\Q (.int b) M
noncomputable abbrev iT:Stmt:=top 66
theorem bM:aS ["rows","number","around","at","row","behind"] ["rows","number","around"] (aI iT):=⟨rfl,rfl,rfl,by decide +kernel,rfl,by decide +kernel,by decide +kernel⟩
theorem mS (hF:cK K mg "look_at_rows" iT ["rows","number","around"]) (eE:Has P w K mg base 105 "is_plain_row" ["thing"] jZ) (iB:Has P w K mg base 102 "is_block" ["thing"] qB) (iA:Has P w K mg base 101 "has_room" ["block","around"] oZ) (w_rows_within:Has P w K mg base 101 "rows_within" ["row"] rL) (gH:Has P w K mg base 119 "can_go_on" ["rows"] nH):∀ d,d<=8->Has P w K mg base (120 + d) "look_at_rows" ["rows","number","around"] (wG d):=by
 intro d
 have cB:=w_rows_within
 induction d with
 | zero=>exact fun _=>(Has.never hF bM 119).imp fun ds M Q ⟨rs,a,ar,_,z,_⟩=>z.1
 | succ d ih =>
  intro l8
  have cA:=ih (by omega)
  refine Has.mkZ (k:=120 + d) hF bM (fun ds M Q ⟨a,b,c,z,_⟩=>by rw [z];rfl) fun f cdv A outer s H ds M Q E hr h=>?_
  obtain ⟨rs,a,ar,rfl,⟨dp,la⟩,⟨va,bo⟩,z,hz,q⟩:=h
  refine ⟨_,(aF (aN (i:=3) bM.nd (aB 1))
  (aF (jS PassesOwn.never rfl (aB 0) (aZ (i:=4) bM.nd) (aE (bA (bY (aG eE hr (by omega) (aA (aB 4) aC))) (aE (oU (i:=3) yP bM.nd aD)) (aE (bA (eF (hZ (bY (aG iB hr (by omega) (aA (aB 4) aC))) (fK (bY (aG iA hr (by omega) (aA (aB 4) (aA (aB 2) aC))))))) (aF (aN (i:=5) bM.nd (aG cA hr (by omega) (aA (aG cB hr (by omega) (aA (aB 4) aC)) (aA (aQ eU (aB 3) aD) (aA (aQ fJ (aB 2) (aM (aA (aJ (aB 4) aD) aC))) aC)))))
  (aF (bA (eF (hZ (aP (cT hr) (aJ (aB 4) aD) aO) (fK (gC (bY (aG gH hr (by omega) (aA (aJ (aB 4) aD) aC))))))) (aE mY) aY)
  (aE (aN (i:=3) bM.nd (aQ eU (aB 5) aD))))) (aE mY))))))
  (aE (aK (aB 3))))),?_⟩
  ac_nf
  refine ⟨fun i ρ M'=>M' = M/\∃ b o1 o2,lkS (rs.take i) a ar = .inl b/\ρ = [some (.tup (lF rs)),some (.int a),some (.tup (ar.map D.str)),some (.int b),o1,o2],⟨rfl,a,none,none,by rw [take_zero,lkS],rfl⟩,fun i ρ M' _ _ a e=>(by cases e),?_,?_⟩
  ·rintro i d1 ρ M' hd ⟨rfl,b,o1,o2,hb,rfl⟩
   obtain ⟨r,hr',rfl⟩:=aBO hd
   have mr:=mem_of_getElem? hr'
   have dr:=dp.2 _ (aER mr)
   have vr:=xI va mr
   have br:=aBf bo mr
   obtain ⟨c,hc⟩:=aNA hr' hb hz
   have nx:=(aGh hr' hb).trans hc
   have pv:∀ p,r = .pl p->plV p:=fun p e=>by rw [e,vaT] at vr;exact vr
   have bv:∀ d,r = .bad d->aGq d:=fun d e=>by rw [e,vaT] at vr;exact vr.1
   ac_nf
   refine ⟨r,rfl,pv,bv,?_⟩
   cases r with
   | pl p =>
    rw [lkR] at hc
    ac_nf
    exact ifT rfl ⟨rfl,_,_,_,nx.trans (congrArg Sum.inl (Sum.inl.inj hc).symm),rfl⟩
   | ag n ws =>
    rw [lkR] at hc
    rw [vaT] at vr
    rw [gdR] at dr
    rw [boR] at br
    obtain ⟨k1,k2,k3⟩:=uO hc
    have l4:=qN k1
    ac_nf
    refine ifF rfl ⟨_,rfl,rfl,(fun _ _ e=>by cases e;exact vr.1),bv,?_⟩
    ac_nf
    refine ifT rfl ⟨_,_,rfl,rfl,?_⟩
    rw [k1]
    refine ifT rfl ⟨_,ws,rfl,rfl,?_⟩
    dsimp only [thD]
    ac_nf
    refine ⟨by decide,by rw [length_map];omega,ws,b + 1,ar ++ [("again":Str)],by rw [map_append];rfl,⟨(qS dr).2,by rw [length_append];show ar.length + 1<=1000;omega⟩,⟨vr.2,br⟩,_,k3,?_⟩
    ac_nf
    rw [aL]
    exact ifF (by decide) ⟨rfl,_,_,_,nx,by rw [show c - 1 + 1 = c by omega]⟩
   | kp ws =>
    rw [lkR] at hc
    rw [vaT] at vr
    rw [gdR] at dr
    rw [boR] at br
    obtain ⟨k1,k2,k3⟩:=uO hc
    have l4:=qN k1
    ac_nf
    refine ifF rfl ⟨_,rfl,rfl,(fun _ _ e=>by cases e),bv,?_⟩
    ac_nf
    refine ifT rfl ⟨_,_,rfl,rfl,?_⟩
    rw [k1]
    refine ifT rfl ⟨_,ws,rfl,rfl,?_⟩
    dsimp only [thD]
    ac_nf
    refine ⟨by decide,by rw [length_map];omega,ws,b + 1,ar ++ [("keep":Str)],by rw [map_append];rfl,⟨sK dr,by rw [length_append];show ar.length + 1<=1000;omega⟩,⟨vr,br⟩,_,k3,?_⟩
    ac_nf
    rw [aL]
    exact ifF (by decide) ⟨rfl,_,_,_,nx,by rw [show c - 1 + 1 = c by omega]⟩
   | ev ws =>
    rw [lkR] at hc
    rw [vaT] at vr
    rw [gdR] at dr
    rw [boR] at br
    obtain ⟨k1,k2,k3⟩:=uO hc
    have l4:=qN k1
    ac_nf
    refine ifF rfl ⟨_,rfl,rfl,(fun _ _ e=>by cases e),bv,?_⟩
    ac_nf
    refine ifT rfl ⟨_,_,rfl,rfl,?_⟩
    rw [k1]
    refine ifT rfl ⟨_,ws,rfl,rfl,?_⟩
    dsimp only [thD]
    ac_nf
    refine ⟨by decide,by rw [length_map];omega,ws,b + 1,ar ++ [("ever":Str)],by rw [map_append];rfl,⟨uZ dr,by rw [length_append];show ar.length + 1<=1000;omega⟩,⟨vr,br.1⟩,_,k3,?_⟩
    ac_nf
    rw [aL]
    have gb:=br.2 _ _ _ (by rw [aDy];exact Bool.or_true _) k3
    rw [vK ws (rD _ _ _ _ k3)]
    refine ifT (by decide) ⟨gdS ws,rfl,(uZ dr).up8 (by omega),uK ws vr,gb,?_⟩
    ac_nf
    have en:enB (gdS ws) = true:=by
     cases he:enB (gdS ws) with
     | true=>rfl
     | false=>rw [he] at k2;cases k2
    rw [en]
    exact ifF rfl ⟨rfl,_,_,_,nx,by rw [show c - 1 + 1 = c by omega]⟩
   | bad d =>
    rw [lkR] at hc
    cases hc
  ·rintro ρ M' ⟨rfl,b,o1,o2,hb,rfl⟩
   rw [aBX,take_length,hz] at hb
   cases hb
   exact bJ q
def aJb (d:Nat):List D->DM->Int->Prop:=fun ds M i=>∃ rs a ar,ds = [.tup (lF rs),.int a,.tup (ar.map D.str)]/\(DpS d (gdS rs)/\ar.length<=1000)/\(lH rs/\boS rs)/\lkS rs a ar = .inr i
theorem tZ {C_NoRow:Addr} (hF:cK K mg "look_at_rows" iT ["rows","number","around"]) (hW:lY P w K mg base "NoRow" C_NoRow "row") (eE:Has P w K mg base 105 "is_plain_row" ["thing"] jZ) (iB:Has P w K mg base 102 "is_block" ["thing"] qB) (iA:Has P w K mg base 101 "has_room" ["block","around"] oZ) (w_rows_within:Has P w K mg base 101 "rows_within" ["row"] rL) (gH:Has P w K mg base 119 "can_go_on" ["rows"] nH):∀ d,d<=8->fE P w K mg base (120 + d) "look_at_rows" ["rows","number","around"] C_NoRow "row" (aJb d):=by
 intro d
 have cB:=w_rows_within
 induction d with
 | zero=>exact fun _=>(fE.never hF hW bM 119).imp fun ds M i ⟨rs,a,ar,_,z,_⟩=>z.1
 | succ d ih =>
  intro l8
  have gI:=ih (by omega)
  have cA:=mS hF eE iB iA w_rows_within gH d (by omega)
  refine fE.mkZ (k:=120 + d) hF hW bM (fun ds M i ⟨a,b,c,z,_⟩=>by rw [z];rfl) fun f cdv A outer s H ds M iw E hr h hRO hPO=>?_
  obtain ⟨rs,a,ar,rfl,⟨dp,la⟩,⟨va,bo⟩,hz⟩:=h
  refine ⟨_,(aF (aN (i:=3) bM.nd (aB 1))
  (aF (jS PassesOwn.leaving rfl (aB 0) (aZ (i:=4) bM.nd) (aE (bA (bY (aG eE hr (by omega) (aA (aB 4) aC))) (aE (oU (i:=3) yP bM.nd aD)) (aE (bA (eF (hZ (bY (aG iB hr (by omega) (aA (aB 4) aC))) (fK (bY (aG iA hr (by omega) (aA (aB 4) (aA (aB 2) aC))))))) (aF (aBg (aN (i:=5) bM.nd (uL gI hr (by omega) hPO (aA (aG cB hr (by omega) (aA (aB 4) aC)) (aA (aQ eU (aB 3) aD) (aA (aQ fJ (aB 2) (aM (aA (aJ (aB 4) aD) aC))) aC)))))
  (aN (i:=5) bM.nd (aG cA hr (by omega) (aA (aG cB hr (by omega) (aA (aB 4) aC)) (aA (aQ eU (aB 3) aD) (aA (aQ fJ (aB 2) (aM (aA (aJ (aB 4) aD) aC))) aC))))))
  (aF (bA (eF (hZ (aP (cT hr) (aJ (aB 4) aD) aO) (fK (gC (bY (aG gH hr (by omega) (aA (aJ (aB 4) aD) aC))))))) (aE (oC hRO hr (by first | decide | omega) (aB 3))) aY)
  (aE (aN (i:=3) bM.nd (aQ eU (aB 5) aD))))) (aE (oC hRO hr (by first | decide | omega) (aB 3))))))))
  (aE (aK (aB 3))))),?_⟩
  ac_nf
  refine ⟨fun i ρ M'=>M' = M/\∃ b o1 o2,lkS (rs.take i) a ar = .inl b/\ρ = [some (.tup (lF rs)),some (.int a),some (.tup (ar.map D.str)),some (.int b),o1,o2],⟨rfl,a,none,none,by rw [take_zero,lkS],rfl⟩,fun i ρ M' _ _ a e=>(by cases e),?_,?_⟩
  ·rintro i d1 ρ M' hd ⟨rfl,b,o1,o2,hb,rfl⟩
   obtain ⟨r,hr',rfl⟩:=aBO hd
   have mr:=mem_of_getElem? hr'
   have dr:=dp.2 _ (aER mr)
   have vr:=xI va mr
   have br:=aBf bo mr
   have nx:=aGh hr' hb
   have ex:∀ c,lkR r b ar = .inr c->c = iw:=fun c h=>by
    have:=aJq hr' hb h
    rw [hz] at this
    exact (Sum.inr.inj this).symm
   have pv:∀ p,r = .pl p->plV p:=fun p e=>by rw [e,vaT] at vr;exact vr
   have bv:∀ d,r = .bad d->aGq d:=fun d e=>by rw [e,vaT] at vr;exact vr.1
   ac_nf
   refine ⟨r,rfl,pv,bv,?_⟩
   cases r with
   | pl p =>
    rw [lkR] at nx
    ac_nf
    exact ifT rfl ⟨rfl,_,_,_,nx,rfl⟩
   | ag n ws =>
    rw [lkR] at nx ex
    rw [vaT] at vr
    rw [gdR] at dr
    rw [boR] at br
    unfold lkB at nx ex
    ac_nf
    refine ifF rfl ⟨_,rfl,rfl,(fun _ _ e=>by cases e;exact vr.1),bv,?_⟩
    ac_nf
    refine ifT rfl ⟨_,_,rfl,rfl,?_⟩
    cases k1:oH (.ag n ws) ar with
    | false =>
     rw [k1] at ex
     exact ifF rfl ⟨ex b rfl,.refl _⟩
    | true =>
     have l4:=qN k1
     have len:(ar ++ [("again":Str)]).length<=1000:=by rw [length_append];show ar.length + 1<=1000;omega
     have lm:(ar.map D.str).length + 1<=1000:=by rw [length_map];omega
     have am:(ar ++ [("again":Str)]).map D.str = ar.map D.str ++ [D.str "again"]:=by rw [map_append];rfl
     rw [k1,if_pos rfl] at nx ex
     refine ifT rfl ?_
     cases k3:lkS ws (b + 1) (ar ++ [("again":Str)]) with
     | inr c =>
      rw [k3] at ex
      refine .inl ⟨_,ws,rfl,rfl,?_⟩
      dsimp only [thD]
      ac_nf
      exact ⟨by decide,lm,c,⟨ws,b + 1,ar ++ [("again":Str)],by rw [am],⟨(qS dr).2,len⟩,⟨vr.2,br⟩,k3⟩,fun M2 sb=>⟨ex c rfl,sb⟩⟩
     | inl c =>
      rw [k3] at nx ex
      dsimp only at nx ex
      refine .inr ⟨_,ws,rfl,rfl,?_⟩
      dsimp only [thD]
      ac_nf
      refine ⟨by decide,lm,ws,b + 1,ar ++ [("again":Str)],by rw [am],⟨(qS dr).2,len⟩,⟨vr.2,br⟩,c,k3,?_⟩
      ac_nf
      rw [aL]
      exact ifF (by decide) ⟨rfl,_,_,_,nx,rfl⟩
   | kp ws =>
    rw [lkR] at nx ex
    rw [vaT] at vr
    rw [gdR] at dr
    rw [boR] at br
    unfold lkB at nx ex
    ac_nf
    refine ifF rfl ⟨_,rfl,rfl,(fun _ _ e=>by cases e),bv,?_⟩
    ac_nf
    refine ifT rfl ⟨_,_,rfl,rfl,?_⟩
    cases k1:oH (.kp ws) ar with
    | false =>
     rw [k1] at ex
     exact ifF rfl ⟨ex b rfl,.refl _⟩
    | true =>
     have l4:=qN k1
     have len:(ar ++ [("keep":Str)]).length<=1000:=by rw [length_append];show ar.length + 1<=1000;omega
     have lm:(ar.map D.str).length + 1<=1000:=by rw [length_map];omega
     have am:(ar ++ [("keep":Str)]).map D.str = ar.map D.str ++ [D.str "keep"]:=by rw [map_append];rfl
     rw [k1,if_pos rfl] at nx ex
     refine ifT rfl ?_
     cases k3:lkS ws (b + 1) (ar ++ [("keep":Str)]) with
     | inr c =>
      rw [k3] at ex
      refine .inl ⟨_,ws,rfl,rfl,?_⟩
      dsimp only [thD]
      ac_nf
      exact ⟨by decide,lm,c,⟨ws,b + 1,ar ++ [("keep":Str)],by rw [am],⟨sK dr,len⟩,⟨vr,br⟩,k3⟩,fun M2 sb=>⟨ex c rfl,sb⟩⟩
     | inl c =>
      rw [k3] at nx ex
      dsimp only at nx ex
      refine .inr ⟨_,ws,rfl,rfl,?_⟩
      dsimp only [thD]
      ac_nf
      refine ⟨by decide,lm,ws,b + 1,ar ++ [("keep":Str)],by rw [am],⟨sK dr,len⟩,⟨vr,br⟩,c,k3,?_⟩
      ac_nf
      rw [aL]
      exact ifF (by decide) ⟨rfl,_,_,_,nx,rfl⟩
   | ev ws =>
    rw [lkR] at nx ex
    rw [vaT] at vr
    rw [gdR] at dr
    rw [boR] at br
    unfold lkB at nx ex
    ac_nf
    refine ifF rfl ⟨_,rfl,rfl,(fun _ _ e=>by cases e),bv,?_⟩
    ac_nf
    refine ifT rfl ⟨_,_,rfl,rfl,?_⟩
    cases k1:oH (.ev ws) ar with
    | false =>
     rw [k1] at ex
     exact ifF rfl ⟨ex b rfl,.refl _⟩
    | true =>
     have l4:=qN k1
     have len:(ar ++ [("ever":Str)]).length<=1000:=by rw [length_append];show ar.length + 1<=1000;omega
     have lm:(ar.map D.str).length + 1<=1000:=by rw [length_map];omega
     have am:(ar ++ [("ever":Str)]).map D.str = ar.map D.str ++ [D.str "ever"]:=by rw [map_append];rfl
     rw [k1,if_pos rfl] at nx ex
     refine ifT rfl ?_
     cases k3:lkS ws (b + 1) (ar ++ [("ever":Str)]) with
     | inr c =>
      rw [k3] at ex
      refine .inl ⟨_,ws,rfl,rfl,?_⟩
      dsimp only [thD]
      ac_nf
      exact ⟨by decide,lm,c,⟨ws,b + 1,ar ++ [("ever":Str)],by rw [am],⟨uZ dr,len⟩,⟨vr,br.1⟩,k3⟩,fun M2 sb=>⟨ex c rfl,sb⟩⟩
     | inl c =>
      rw [k3] at nx ex
      dsimp only at nx ex
      refine .inr ⟨_,ws,rfl,rfl,?_⟩
      dsimp only [thD]
      ac_nf
      refine ⟨by decide,lm,ws,b + 1,ar ++ [("ever":Str)],by rw [am],⟨uZ dr,len⟩,⟨vr,br.1⟩,c,k3,?_⟩
      ac_nf
      rw [aL]
      have gb:=br.2 _ _ _ (by rw [aDy];exact Bool.or_true _) k3
      rw [vK ws (rD _ _ _ _ k3)]
      refine ifT (by decide) ⟨gdS ws,rfl,(uZ dr).up8 (by omega),uK ws vr,gb,?_⟩
      ac_nf
      cases he:enB (gdS ws) with
      | true =>
       rw [he] at nx
       exact ifF rfl ⟨rfl,_,_,_,nx,rfl⟩
      | false =>
       rw [he] at ex
       exact ifT rfl ⟨ex b rfl,.refl _⟩
   | bad d =>
    rw [lkR] at ex
    ac_nf
    refine ifF rfl ⟨_,rfl,rfl,(fun _ _ e=>by cases e),bv,?_⟩
    ac_nf
    exact ifF rfl ⟨ex b rfl,.refl _⟩
  ·rintro ρ M' ⟨rfl,b,o1,o2,hb,rfl⟩
   rw [aBX,take_length,hz] at hb
   cases hb
def jJ:DSp:=fun ds M Q=>∃ rs,ds = [.tup (lF rs)]/\DpS 8 (gdS rs)/\(lH rs/\boS rs)/\hmS (gdS rs)<=60/\(∃ b,lkS rs 0 [] = .inl b)/\Q (.tup (lF rs)) M
noncomputable abbrev iW:Stmt:=top 64
theorem mG:aS ["rows"] ["rows"] (aI iW):=⟨rfl,rfl,rfl,by decide +kernel,rfl,by decide +kernel,by decide +kernel⟩
theorem wM (hF:cK K mg "program_of" iW ["rows"]) (cA:Has P w K mg base 128 "look_at_rows" ["rows","number","around"] (wG 8)) (fC:Has P w K mg base 119 "not_too_long" ["program"] jX):Has P w K mg base 129 "program_of" ["rows"] jJ:=by
 refine Has.mkZ hF mG (fun ds M Q ⟨_,z,_⟩=>by rw [z];rfl) fun f cdv A outer s H ds M Q E hr h=>?_
 obtain ⟨rs,rfl,dp,va,hm,⟨b,hb⟩,q⟩:=h
 refine ⟨_,(aF (dL (aG cA hr (by decide) (aA (aB 0) (aA aD (aA (aM aC) aC)))))
  (aE (aK (aG fC hr (by decide) (aA (aB 0) aC))))),?_⟩
 ac_nf
 refine ⟨by decide,rs,0,[],rfl,⟨dp,by decide⟩,va,b,hb,?_⟩
 rw [vK rs (rD _ _ _ _ hb)] at q ⊢
 exact ⟨gdS rs,rfl,dp,hm,bJ q⟩
def aJa:List D->DM->Int->Prop:=fun ds M i=>∃ rs,ds = [.tup (lF rs)]/\DpS 8 (gdS rs)/\(lH rs/\boS rs)/\lkS rs 0 [] = .inr i
theorem yO {C_NoRow:Addr} (hF:cK K mg "program_of" iW ["rows"]) (hW:lY P w K mg base "NoRow" C_NoRow "row") (gI:fE P w K mg base 128 "look_at_rows" ["rows","number","around"] C_NoRow "row" (aJb 8)) (cA:Has P w K mg base 128 "look_at_rows" ["rows","number","around"] (wG 8)) (fC:Has P w K mg base 119 "not_too_long" ["program"] jX):fE P w K mg base 129 "program_of" ["rows"] C_NoRow "row" aJa:=by
 refine fE.mkZ hF hW mG (fun ds M i ⟨_,z,_⟩=>by rw [z];rfl) fun f cdv A outer s H ds M iw E hr h hRO hPO=>?_
 obtain ⟨rs,rfl,dp,va,hz⟩:=h
 refine ⟨_,(aF (aBg (dL (uL gI hr (by decide) hPO (aA (aB 0) (aA aD (aA (aM aC) aC)))))
  (dL (aG cA hr (by decide) (aA (aB 0) (aA aD (aA (aM aC) aC))))))
  (aE (aK (aG fC hr (by decide) (aA (aB 0) aC))))),?_⟩
 ac_nf
 exact .inl ⟨by decide,iw,⟨rs,0,[],rfl,⟨dp,by decide⟩,va,hz⟩,fun M' sb=>⟨rfl,sb⟩⟩
mutual
noncomputable def ofR:Rw->Th
 | .pl p=>.pl p
 | .ag n ws=>.ag n (ofS ws)
 | .kp ws=>.kp (ofS ws)
 | .ev ws=>.ev (ofS ws)
noncomputable def ofS:List Rw->List Th
 | []=>[]
 | r :: rs=>ofR r :: ofS rs
end
mutual
theorem aNh:∀ r:Rw,gdR (ofR r) = r
 | .pl p=>by rw [ofR,gdR]
 | .ag n ws=>by rw [ofR,gdR,kM ws]
 | .kp ws=>by rw [ofR,gdR,kM ws]
 | .ev ws=>by rw [ofR,gdR,kM ws]
theorem kM:∀ rs:List Rw,gdS (ofS rs) = rs
 | []=>by rw [ofS,gdS]
 | r :: rs=>by rw [ofS,gdS,aNh r,kM rs]
end
mutual
theorem aMP:∀ r:Rw,okT (ofR r)
 | .pl p=>by rw [ofR,okT];trivial
 | .ag n ws=>by rw [ofR,okT];exact yA ws
 | .kp ws=>by rw [ofR,okT];exact yA ws
 | .ev ws=>by rw [ofR,okT];exact yA ws
theorem yA:∀ rs:List Rw,okS (ofS rs)
 | []=>by rw [ofS,okS];trivial
 | r :: rs=>by rw [ofS,okS];exact ⟨aMP r,yA rs⟩
end
theorem zK (rs:List Rw):lF (ofS rs) = bI rs:=by rw [vK _ (yA rs),kM]
theorem lW:∀ rs:List Rw,rs.length<=hmS rs
 | []=>Nat.zero_le _
 | r :: rs=>by
  rw [hmS,length_cons]
  have:=lW rs
  have:1<=hmR r:=by cases r<;>rw [hmR]<;>omega
  omega
theorem s45:(Str.ofString "-") = Ty.one 45:=by decide +kernel
theorem s48:(Str.ofString "0") = Ty.one 48:=by decide +kernel
theorem s47:(Str.ofString "/") = Ty.one 47:=by decide +kernel
theorem s32:(Str.ofString " ") = Ty.one 32:=by decide +kernel
theorem s10:(Str.ofString "\n") = Ty.one 10:=by decide +kernel
theorem s0:(Str.ofString "") = Str.empty:=by decide +kernel
theorem nt0:Ty.nt 0 = Str.ofString "0":=by decide +kernel
theorem aED (m:Nat) (c:Nat) (h:c < 48):¬ (Ty.dg m).head? = some c:=fun e=>by
 obtain ⟨y,ys,ey⟩:=List.exists_cons_of_ne_nil (Ty.dg_ne m)
 rw [ey,List.head?_cons] at e
 have:=Ty.dg_all m y (by rw [ey];exact mem_cons_self ..)
 have:y = c:=Option.some.inj e
 omega
def lI:DSp:=fun ds M Q=>∃ n:Int,ds = [.str (Ty.nt n)]/\n.natAbs < 2 ^ 120/\Q (.int n) M
noncomputable abbrev rT:Stmt:=top 75
theorem uY:aS ["text","figures"] ["text"] (aI rT):=⟨rfl,rfl,rfl,by decide +kernel,rfl,by decide +kernel,by decide +kernel⟩
theorem aAA (hF:cK K mg "whole_of" rT ["text"]) (sM:mg "int" = none):Has P w K mg base 101 "whole_of" ["text"] lI:=by
 refine Has.mkZ hF uY (fun ds M Q ⟨_,z,_⟩=>by rw [z];rfl) fun f cdv A outer s H ds M Q E hr h=>?_
 obtain ⟨n,rfl,hn,q⟩:=h
 refine ⟨_,(kT (aN (i:=1) uY.nd (dF (bY (zU (aB 0) aO)) (aCX (aB 0) (pY aD) qF) (aB 0)))
  (aF (bA (eF (dU (gC (bY (aHS (aB 1)))) (dS (gC (bY (aIu (aB 1))))))) (aE (aK cN)) aY)
  (aF (bA (eF (hZ (bY (zU (aB 1) aO)) (fK (aP (iO hr) (aB 0) aO)))) (aE (aK cN)) aY)
  (aE (aK (dJ aId sM (aA (aB 0) aC))))))),?_⟩
 have hl:=Ty.nt_len hn
 ac_nf
 refine ⟨fun ρ M'=>M' = M/\∃ x:Str,Ty.cl x = Ty.dg n.natAbs/\ρ = [some (.str (Ty.nt n)),some (.str x)],?_,?_⟩
 ·rw [s45,Ty.start_one]
  rcases Ty.nt_cases n with ⟨h0,e⟩ | ⟨h0,e⟩
  ·rw [e]
   exact ifF (decide_eq_false (aED _ _ (by decide))) ⟨rfl,_,e,rfl⟩
  ·rw [e]
   exact ifT (decide_eq_true rfl) ⟨by omega,rfl,_,Ty.cut_one e,rfl⟩
 rintro ρ M' ⟨rfl,x,ex,rfl⟩
 obtain ⟨a1,a2⟩:=Ty.ascii_dg ex
 ac_nf
 rw [a1]
 refine ifF rfl ?_
 rw [a2]
 refine ifF rfl ?_
 rw [s48,Ty.start_one,ex]
 by_cases c:(Ty.dg n.natAbs).head? = some 48
 ·have z:=Ty.dg_head _ _ c rfl
  have:n = 0:=by omega
  subst this
  refine ifT (decide_eq_true c) ?_
  rw [nt0,s48,aL]
  refine ifF (by decide) ⟨0,?_⟩
  rw [<- s48,<- nt0]
  exact ⟨Ty.nt_int hn,by omega,bJ q⟩
 ·exact ifF (decide_eq_false c) ⟨n,Ty.nt_int hn,by omega,bJ q⟩
noncomputable def qt (q:Rat):Str:=if q.den = 1 then Ty.nt q.num else Ty.nt q.num ++ Ty.one 47 ++ Ty.nt (q.den:Int)
theorem aDx {x:Int} (h:Bd 110 x):x.natAbs < 2 ^ 120:=Nat.lt_of_lt_of_le h (by decide)
def kY:DSp:=fun ds M Q=>∃ q:Rat,ds = [.str (qt q)]/\BQ 110 q/\Q (FQ q) M
noncomputable abbrev mI:Stmt:=top 74
theorem eY:aS ["text","top_text","stroke","bottom_text","top","bottom"] ["text"] (aI mI):=⟨rfl,rfl,rfl,by decide +kernel,rfl,by decide +kernel,by decide +kernel⟩
theorem vZ (hF:cK K mg "fraction_of" mI ["text"]) (eQ:Has P w K mg base 101 "whole_of" ["text"] lI) (gQ:Has P w K mg base 102 "is_reduced" ["top","bottom"] mB):Has P w K mg base 103 "fraction_of" ["text"] kY:=by
 refine Has.mkZ hF eY (fun ds M Q ⟨_,z,_⟩=>by rw [z];rfl) fun f cdv A outer s H ds M Q E hr h=>?_
 obtain ⟨x,rfl,bx,q⟩:=h
 refine ⟨_,(aF (lJ (aGL (aB 0) aO) (lQ (n:=3) rfl (bZ (aZ (i:=1) eY.nd) (bZ (aZ (i:=2) eY.nd) (bZ (aZ (i:=3) eY.nd) gZ)))))
  (aF (aN (i:=4) eY.nd (aG eQ hr (by decide) (aA (aB 1) aC)))
  (aF (aN (i:=5) eY.nd (dF (aP (iO hr) (aB 2) aO) (aG eQ hr (by decide) (aA (aB 3) aC)) aD))
  (aF (bA (eF (dU (aP vN (aB 4) cN) (dU (aP vN (aB 5) cN) (dS (gC (bY (aG gQ hr (by decide) (aA (aB 4) (aA (aB 5) aC))))))))) (aE (aK cN)) aY)
  (aE (aK (dF (eF (hZ (aP (iO hr) (aB 2) aO) (fK (aP (cT hr) (aB 5) aD)))) cN (aM (aA (aB 4) (aA (aB 5) aC)))))))))),?_⟩
 have b1:=aDx bx.1
 have b2:=aDx bx.2
 have l1:=Ty.nt_len b1
 have l2:=Ty.nt_len b2
 have red:=aGO x
 unfold qt
 by_cases c:x.den = 1
 ·rw [if_pos c]
  ac_nf
  refine ⟨47,s47,by omega,.inl ⟨Ty.nt_not (by decide) (by decide),?_⟩⟩
  ac_nf
  refine ⟨rfl,_,rfl,b1,?_⟩
  ac_nf
  rw [<- s0,aL]
  refine ifF (by decide) (ifF rfl (ifF rfl ⟨_,_,rfl,?_⟩))
  have red1:(decide ((1:Int)<=1) && decide (Int.gcd x.num 1 = 1)) = true:=by rw [c] at red;exact red
  rw [red1]
  refine ifF rfl ?_
  rw [aL]
  refine ifF (by decide) ⟨by decide,bJ ?_⟩
  rw [show D.tup [.int x.num,.int 1] = FQ x by show _ = D.tup [.int x.num,.int (x.den:Int)];rw [c];rfl]
  exact q
 ·rw [if_neg c]
  ac_nf
  refine ⟨47,s47,by rw [Ty.len_cl,Ty.cl_app,Ty.cl_app,length_append,length_append];rw [Ty.len_cl] at l1 l2;show _ + 1 + _<=_;omega,.inr ⟨Ty.nt x.num,Ty.nt (x.den:Int),by rw [Ty.cl_app,Ty.cl_app,append_assoc];rfl,Ty.nt_not (by decide) (by decide),?_⟩⟩
  ac_nf
  refine ⟨rfl,_,rfl,b1,?_⟩
  ac_nf
  rw [<- s47,aL]
  refine ifT (by decide) ⟨_,rfl,b2,?_⟩
  ac_nf
  refine ifF rfl (ifF rfl ⟨_,_,rfl,?_⟩)
  rw [red]
  refine ifF rfl ?_
  rw [aL]
  refine ifT (by decide) ?_
  rw [cM]
  exact ifF (decide_eq_false (by omega)) ⟨by decide,bJ q⟩
inductive Ln where
 | pl (p:Pl) | ag (n:Nat) | kp | ev | en
noncomputable def lnW:Ln->List Str
 | .pl p=>wd p :: (nu p).map qt
 | .ag n=>["again",Ty.nt (n:Int)]
 | .kp=>["keep"]
 | .ev=>["ever"]
 | .en=>["end"]
noncomputable def lnT (l:Ln):Str:=Builtin.Str.glued (Ty.one 32) (lnW l)
noncomputable def hdD:Ln->D
 | .pl p=>plD p
 | .ag n=>.tup [.str "again",.int (n:Int)]
 | .kp=>.tup [.str "keep"]
 | .ev=>.tup [.str "ever"]
 | .en=>.non
def lnV:Ln->Prop
 | .pl p=>∀ q ∈ nu p,BQ 110 q
 | .ag n=>n<=12
 | _=>True
theorem aG9 (l:Ln):lnW l ≠ []:=by cases l<;>exact fun e=>nomatch e
theorem aLz {q:Rat} {c:Nat} (h:c ≠ 45) (h1:c ≠ 47) (h2:¬ (48<=c/\c<=57)):c ∉ Ty.cl (qt q):=fun z=>by
 unfold qt at z
 split at z
 ·exact Ty.nt_not h h2 z
 ·rw [Ty.cl_app,Ty.cl_app] at z
  rcases List.mem_append.mp z with z | z
  ·rcases List.mem_append.mp z with z | z
   ·exact Ty.nt_not h h2 z
   ·exact h1 (List.mem_singleton.mp z)
  ·exact Ty.nt_not h h2 z
theorem aC2 (p:Pl):32 ∉ Ty.cl (wd p)/\10 ∉ Ty.cl (wd p)/\(wd p).length<=7:=by
 have h:∀ x ∈ [("go":Str),"side","skip","dot","left","right","round","mirror","grow","quarter","half","arc"],32 ∉ Ty.cl x/\10 ∉ Ty.cl x/\x.length<=7:=by decide +kernel
 exact h _ (by cases p<;>dsimp only [wd]<;>decide)
theorem aAt (l:Ln) (c:Nat) (h:c = 32 ∨ c = 10):∀ s ∈ lnW l,c ∉ Ty.cl s:=by
 have c1:c ≠ 45:=by omega
 have c2:c ≠ 47:=by omega
 have c3:¬ (48<=c/\c<=57):=by omega
 have dc:∀ x:Str,(32 ∉ Ty.cl x/\10 ∉ Ty.cl x)->c ∉ Ty.cl x:=fun x z=>h.elim (fun e=>e ▸ z.1) (fun e=>e ▸ z.2)
 intro s hs
 cases l with
 | pl p =>
  rcases List.mem_cons.mp hs with rfl | hs
  ·exact dc _ ⟨(aC2 p).1,(aC2 p).2.1⟩
  ·obtain ⟨q,_,rfl⟩:=List.mem_map.mp hs
   exact aLz c1 c2 c3
 | ag n =>
  rcases List.mem_cons.mp hs with rfl | hs
  ·exact dc _ (by decide +kernel)
  ·rw [List.mem_singleton.mp hs];exact Ty.nt_not c1 c3
 | kp=>rw [List.mem_singleton.mp hs];exact dc _ (by decide +kernel)
 | ev=>rw [List.mem_singleton.mp hs];exact dc _ (by decide +kernel)
 | en=>rw [List.mem_singleton.mp hs];exact dc _ (by decide +kernel)
theorem aK2 {q:Rat} (h:BQ 110 q):(qt q).length<=80:=by
 have l1:=Ty.nt_len (aDx h.1)
 have l2:=Ty.nt_len (aDx h.2)
 unfold qt
 split
 ·omega
 ·rw [Ty.len_cl,Ty.cl_app,Ty.cl_app,length_append,length_append]
  rw [Ty.len_cl] at l1 l2
  show _ + 1 + _<=_
  omega
theorem tQ {b:Nat}:∀ {xs:List Str},(∀ x ∈ xs,x.length<=b)->(xs.map (·.length)).sum<=xs.length * b
 | [],_=>Nat.zero_le _
 | x :: xs,h=>by
  rw [map_cons,sum_cons,length_cons,Nat.add_mul]
  have h1:=h x (mem_cons_self ..)
  have h2:=tQ (xs:=xs) fun y hy=>h y (mem_cons_of_mem _ hy)
  omega
theorem tE {l:Ln} (h:lnV l):(lnW l).length<=5/\∀ s ∈ lnW l,s.length<=80:=by
 cases l with
 | pl p =>
  refine ⟨by show (((nu p).map qt).length + 1)<=5;rw [length_map];have:=aFA p;omega,fun s hs=>?_⟩
  rcases List.mem_cons.mp hs with rfl | hs
  ·have:=(aC2 p).2.2;omega
  ·obtain ⟨q,hq,rfl⟩:=List.mem_map.mp hs
   exact aK2 (h q hq)
 | ag n =>
  have h:n<=12:=h
  refine ⟨by show 2<=5;decide,fun s hs=>?_⟩
  rcases List.mem_cons.mp hs with rfl | hs
  ·decide +kernel
  ·rw [List.mem_singleton.mp hs]
   exact Nat.le_trans (Ty.nt_len (n:=(n:Int)) (by show n < 2 ^ 120;omega)) (by decide)
 | kp=>exact ⟨by show 1<=5;decide,fun s hs=>by rw [List.mem_singleton.mp hs];decide +kernel⟩
 | ev=>exact ⟨by show 1<=5;decide,fun s hs=>by rw [List.mem_singleton.mp hs];decide +kernel⟩
 | en=>exact ⟨by show 1<=5;decide,fun s hs=>by rw [List.mem_singleton.mp hs];decide +kernel⟩
theorem aAv {l:Ln} (h:lnV l):(lnT l).length<=405:=by
 obtain ⟨h1,h2⟩:=tE h
 unfold lnT
 rw [size_glued]
 have:=tQ h2
 show _ + _ * 1<=_
 omega
theorem aAs (l:Ln):10 ∉ Ty.cl (lnT l):=by
 unfold lnT
 rw [Ty.cl_join]
 have:∀ xs:List (List Nat),(∀ x ∈ xs,10 ∉ x)->10 ∉ Ty.jl 32 xs:=by
  intro xs
  induction xs with
  | nil=>intro _ z;cases z
  | cons x r ih =>
   intro h z
   cases r with
   | nil=>exact h x (mem_cons_self ..) z
   | cons y r =>
    rcases List.mem_append.mp z with z | z
    ·exact h x (mem_cons_self ..) z
    ·rcases List.mem_cons.mp z with z | z
     ·cases z
     ·exact ih (fun x hx=>h x (mem_cons_of_mem _ hx)) z
 refine this _ fun x hx=>?_
 obtain ⟨s,hs,rfl⟩:=List.mem_map.mp hx
 exact aAt l 10 (.inr rfl) s hs
theorem aB1 (p:Pl):wd p ≠ "again"/\wd p ≠ "keep"/\wd p ≠ "ever"/\wd p ≠ "end":=by cases p<;>dsimp only [wd]<;>decide
theorem aIW (rs:List Rat):(rs.map FQ).all (bN 60) = true/\(rs.map FQ).any xJ = false:=by
 constructor
 ·rw [all_map,all_eq_true];exact fun x _=>rfl
 ·rw [List.any_map,List.any_eq_false];exact fun x _=>(by intro z;cases z)
def rA:DSp:=fun ds M Q=>∃ l,ds = [.str (lnT l)]/\lnV l/\∀ M',bB M M'->Q (hdD l) M'
noncomputable abbrev iL:Stmt:=top 73
theorem cI:aS ["text","word","numbers","found","many"] ["text"] (aI iL):=⟨rfl,rfl,rfl,by decide +kernel,rfl,by decide +kernel,by decide +kernel⟩
theorem aBF (hF:cK K mg "head_of" iL ["text"]) (cH:mg "tuple" = none) (eI:mg "len" = none) (eQ:Has P w K mg base 101 "whole_of" ["text"] lI) (fW:Has P w K mg base 103 "fraction_of" ["text"] kY) (bK:Has P w K mg base 101 "numbers_behind" ["word"] dH):Has P w K mg base 104 "head_of" ["text"] rA:=by
 refine Has.mkZ hF cI (fun ds M Q ⟨_,z,_⟩=>by rw [z];rfl) fun f cdv A outer s H ds M Q E hr h=>?_
 obtain ⟨l,rfl,lv,q⟩:=h
 refine ⟨_,(aF (lJ (kK (aB 0) aO) (aBy rfl (bZ (aZ (i:=1) cI.nd) (bZ (aZ (i:=2) cI.nd) gZ))))
  (kT (bA (aP (cT hr) (aB 1) aO) (aF (nC (i:=3) (⟨rfl,by decide +kernel,by decide +kernel,by decide +kernel,rfl,by decide +kernel⟩:nB ["text","word","numbers","found","many"] (aI iL) ["number"] [none] _) rfl cI.nd (aB 2) (fun _ _ _ _ _=>(aZ (i:=0) (show Nodup (["number"]:List Str) by decide +kernel))) (fun _ _ _ _ _=>(aG eQ hr (by decide) (aA (aB 0) aC))))
  (aE (aN (i:=4) cI.nd aD))) (aE (bA (eF (dU (aP (cT hr) (aB 1) aO) (dS (aP (cT hr) (aB 1) aO)))) (aF (aN (i:=3) cI.nd (aB 2))
  (aE (aN (i:=4) cI.nd aD))) (aF (nC (i:=3) (⟨rfl,by decide +kernel,by decide +kernel,by decide +kernel,rfl,by decide +kernel⟩:nB ["text","word","numbers","found","many"] (aI iL) ["number"] [none] _) rfl cI.nd (aB 2) (fun _ _ _ _ _=>(aZ (i:=0) (show Nodup (["number"]:List Str) by decide +kernel))) (fun _ _ _ _ _=>(aG fW hr (by decide) (aA (aB 0) aC))))
  (aE (aN (i:=4) cI.nd (aG bK hr (by decide) (aA (aB 1) aC))))))))
  (aE (aK (dF (eF (hZ (aP (cT hr) (cO mD eI (aA (aB 3) aC)) (aB 4)) (fK (aP (zZ hr) cN (aB 3) rfl)))) (aQ fJ (aM (aA (aB 1) aC)) (dJ iP cH (aA (aB 3) aC))) cN))))),?_⟩
 have ll:=aAv lv
 ac_nf
 refine ⟨32,lnW l,s32,rfl,aG9 l,aAt l 32 (.inl rfl),by decide,by omega,fun p0 hp0=>?_⟩
 have sb0:=bB.new hp0 ((lnW l).map D.str)
 have h0:bG M p0 ((lnW l).map D.str) p0 = some ((lnW l).map D.str):=aH
 generalize bG M p0 ((lnW l).map D.str) = M1 at sb0 h0 ⊢
 cases l with
 | pl p =>
  obtain ⟨n1,n2,n3,n4⟩:=aB1 p
  have nl:=aFA p
  ac_nf
  refine ⟨_,_,h0,fun p1 hp1=>?_⟩
  have sb1:=sb0.trans (bB.new hp1 (((nu p).map qt).map D.str))
  have h1:bG M1 p1 (((nu p).map qt).map D.str) p1 = some (((nu p).map qt).map D.str):=aH
  rw [show map D.str (map qt (nu p)) = ((nu p).map qt).map D.str from rfl]
  generalize bG M1 p1 (((nu p).map qt).map D.str) = M2 at sb1 h1 ⊢
  ac_nf
  refine ⟨fun ρ M'=>bB M2 M'/\∃ pf,M' (.l pf) = some ((nu p).map FQ)/\ρ = [some (.str (lnT (.pl p))),some (.str (wd p)),some (.ref p1),some (.ref pf),some (.int (((nu p).length:Nat):Int))],?_,?_⟩
  ·rw [aL]
   refine ifF (decide_eq_false n1) ?_
   rw [aL]
   refine ifF (decide_eq_false n2) ?_
   rw [aL]
   refine ifF (decide_eq_false n3) ?_
   refine ⟨_,h1,?_⟩
   refine ⟨by rw [length_map,length_map];omega,fun i ys M'=>M' = M2/\ys = ((nu p).take i).map FQ,⟨rfl,rfl⟩,fun i ys M' _ hi a e=>(by cases e;rw [hi.1];exact h1),?_,?_⟩
   ·rintro i d ys M' hd ⟨rfl,rfl⟩
    rw [getElem?_map,getElem?_map] at hd
    cases e:(nu p)[i]? with
    | none=>rw [e] at hd;cases hd
    | some x =>
     rw [e] at hd
     cases hd
     ac_nf
     exact ⟨x,rfl,lv x (mem_of_getElem? e),rfl,by rw [kF e,map_append];rfl⟩
   rintro ys M' _ ⟨rfl,rfl⟩ pf hpf
   ac_nf
   refine ⟨_,rfl,.inl ⟨_,aA0 p,bB.new hpf _,pf,?_,rfl⟩⟩
   rw [aH,length_map,length_map,take_length]
  ·rintro ρ M3 ⟨sb,pf,hpf,rfl⟩
   ac_nf
   refine ⟨_,hpf,?_⟩
   rw [cM]
   obtain ⟨f1,f2⟩:=aIW (nu p)
   refine ifT (decide_eq_true (by rw [length_map])) ⟨_,hpf,f1,?_⟩
   rw [f2]
   refine ifT rfl ⟨by decide,_,hpf,?_⟩
   ac_nf
   refine ⟨by rw [length_map];show 1 + _<=1000;omega,bJ ?_⟩
   have:=q _ (sb1.trans sb)
   rw [show hdD (.pl p) = plD p from rfl,rB] at this
   exact this
 | ag n =>
  have lv:n<=12:=lv
  ac_nf
  refine ⟨D.str "again",[D.str (Ty.nt (n:Int))],h0,fun p1 hp1=>?_⟩
  have sb1:=sb0.trans (bB.new hp1 [D.str (Ty.nt (n:Int))])
  have h1:bG M1 p1 [D.str (Ty.nt (n:Int))] p1 = some [D.str (Ty.nt (n:Int))]:=aH
  generalize bG M1 p1 [D.str (Ty.nt (n:Int))] = M2 at sb1 h1 ⊢
  ac_nf
  refine ⟨fun ρ M'=>bB M2 M'/\∃ pf,M' (.l pf) = some [D.int (n:Int)]/\ρ = [some (.str (lnT (.ag n))),some (.str "again"),some (.ref p1),some (.ref pf),some (.int 1)],?_,?_⟩
  ·rw [aL]
   refine ifT (by decide) ⟨_,h1,?_⟩
   refine ⟨Nat.le_of_ble_eq_true rfl,fun i ys M'=>M' = M2/\ys = ([D.int (n:Int)]).take i,⟨rfl,rfl⟩,fun i ys M' _ hi a e=>(by cases e;rw [hi.1];exact h1),?_,?_⟩
   ·rintro i d ys M' hd ⟨rfl,rfl⟩
    have i0:i = 0:=by
     have:=(List.getElem?_eq_some_iff.mp hd).1
     rw [length_singleton] at this
     omega
    subst i0
    cases hd
    ac_nf
    exact ⟨_,rfl,by show n < 2 ^ 120;omega,rfl,rfl⟩
   rintro ys M' _ ⟨rfl,rfl⟩ pf hpf
   exact ⟨bB.new hpf _,pf,aH,rfl⟩
  ·rintro ρ M3 ⟨sb,pf,hpf,rfl⟩
   ac_nf
   refine ⟨_,hpf,?_⟩
   rw [cM]
   refine ifT (decide_eq_true rfl) ⟨_,hpf,rfl,?_⟩
   refine ifT rfl ⟨by decide,_,hpf,?_⟩
   ac_nf
   exact ⟨Nat.le_of_ble_eq_true rfl,bJ (q _ (sb1.trans sb))⟩
 | kp =>
  ac_nf
  refine ⟨D.str "keep",[],h0,fun p1 hp1=>?_⟩
  have sb1:=sb0.trans (bB.new hp1 [])
  have h1:bG M1 p1 [] p1 = some []:=aH
  generalize bG M1 p1 [] = M2 at sb1 h1 ⊢
  ac_nf
  refine ⟨fun ρ M'=>M' = M2/\ρ = [some (.str (lnT .kp)),some (.str "keep"),some (.ref p1),some (.ref p1),some (.int 0)],?_,?_⟩
  ·rw [aL]
   refine ifF (by decide) ?_
   rw [aL]
   exact ifT (by decide) (ifT rfl ⟨rfl,rfl⟩)
  ·rintro ρ M3 ⟨rfl,rfl⟩
   ac_nf
   refine ⟨_,h1,?_⟩
   rw [cM]
   refine ifT (by decide) ⟨_,h1,rfl,?_⟩
   refine ifT rfl ⟨by decide,_,h1,?_⟩
   ac_nf
   exact ⟨by decide,bJ (q _ sb1)⟩
 | ev =>
  ac_nf
  refine ⟨D.str "ever",[],h0,fun p1 hp1=>?_⟩
  have sb1:=sb0.trans (bB.new hp1 [])
  have h1:bG M1 p1 [] p1 = some []:=aH
  generalize bG M1 p1 [] = M2 at sb1 h1 ⊢
  ac_nf
  refine ⟨fun ρ M'=>M' = M2/\ρ = [some (.str (lnT .ev)),some (.str "ever"),some (.ref p1),some (.ref p1),some (.int 0)],?_,?_⟩
  ·rw [aL]
   refine ifF (by decide) ?_
   rw [aL]
   refine ifF (by decide) ?_
   rw [aL]
   exact ifT (by decide) ⟨rfl,rfl⟩
  ·rintro ρ M3 ⟨rfl,rfl⟩
   ac_nf
   refine ⟨_,h1,?_⟩
   rw [cM]
   refine ifT (by decide) ⟨_,h1,rfl,?_⟩
   refine ifT rfl ⟨by decide,_,h1,?_⟩
   ac_nf
   exact ⟨by decide,bJ (q _ sb1)⟩
 | en =>
  ac_nf
  refine ⟨D.str "end",[],h0,fun p1 hp1=>?_⟩
  have sb1:=sb0.trans (bB.new hp1 [])
  have h1:bG M1 p1 [] p1 = some []:=aH
  generalize bG M1 p1 [] = M2 at sb1 h1 ⊢
  ac_nf
  refine ⟨fun ρ M'=>bB M2 M'/\∃ pf,M' (.l pf) = some []/\ρ = [some (.str (lnT .en)),some (.str "end"),some (.ref p1),some (.ref pf),some .non],?_,?_⟩
  ·rw [aL]
   refine ifF (by decide) ?_
   rw [aL]
   refine ifF (by decide) ?_
   rw [aL]
   refine ifF (by decide) ⟨_,h1,?_⟩
   refine ⟨by decide,fun i ys M'=>M' = M2/\ys = [],⟨rfl,rfl⟩,fun i ys M' _ hi a e=>(by cases e;rw [hi.1];exact h1),?_,?_⟩
   ·rintro i d ys M' hd _
    cases hd
   rintro ys M' _ ⟨rfl,rfl⟩ pf hpf
   ac_nf
   exact ⟨_,rfl,.inr ⟨by decide,bB.new hpf _,pf,aH,rfl⟩⟩
  ·rintro ρ M3 ⟨sb,pf,hpf,rfl⟩
   ac_nf
   refine ⟨_,hpf,?_⟩
   exact ⟨rfl,rfl,ifF rfl (bJ (q _ (sb1.trans sb)))⟩
theorem aEd:("forth":Str) ∈ aD2:=by decide +kernel
def zX:DSp:=fun ds M Q=>ds = [.str "forth"]/\∀ M',bB M M'->Q .non M'
theorem aBR (hF:cK K mg "head_of" iL ["text"]) (cH:mg "tuple" = none) (eI:mg "len" = none) (eQ:Has P w K mg base 101 "whole_of" ["text"] lI) (fW:Has P w K mg base 103 "fraction_of" ["text"] kY) (bK:Has P w K mg base 101 "numbers_behind" ["word"] dH):Has P w K mg base 104 "head_of" ["text"] zX:=by
 refine Has.mkZ hF cI (fun ds M Q ⟨z,_⟩=>by rw [z];rfl) fun f cdv A outer s H ds M Q E hr h=>?_
 obtain ⟨rfl,q⟩:=h
 refine ⟨_,(aF (lJ (kK (aB 0) aO) (aBy rfl (bZ (aZ (i:=1) cI.nd) (bZ (aZ (i:=2) cI.nd) gZ))))
  (kT (bA (aP (cT hr) (aB 1) aO) (aF (nC (i:=3) (⟨rfl,by decide +kernel,by decide +kernel,by decide +kernel,rfl,by decide +kernel⟩:nB ["text","word","numbers","found","many"] (aI iL) ["number"] [none] _) rfl cI.nd (aB 2) (fun _ _ _ _ _=>(aZ (i:=0) (show Nodup (["number"]:List Str) by decide +kernel))) (fun _ _ _ _ _=>(aG eQ hr (by decide) (aA (aB 0) aC))))
  (aE (aN (i:=4) cI.nd aD))) (aE (bA (eF (dU (aP (cT hr) (aB 1) aO) (dS (aP (cT hr) (aB 1) aO)))) (aF (aN (i:=3) cI.nd (aB 2))
  (aE (aN (i:=4) cI.nd aD))) (aF (nC (i:=3) (⟨rfl,by decide +kernel,by decide +kernel,by decide +kernel,rfl,by decide +kernel⟩:nB ["text","word","numbers","found","many"] (aI iL) ["number"] [none] _) rfl cI.nd (aB 2) (fun _ _ _ _ _=>(aZ (i:=0) (show Nodup (["number"]:List Str) by decide +kernel))) (fun _ _ _ _ _=>(aG fW hr (by decide) (aA (aB 0) aC))))
  (aE (aN (i:=4) cI.nd (aG bK hr (by decide) (aA (aB 1) aC))))))))
  (aE (aK (dF (eF (hZ (aP (cT hr) (cO mD eI (aA (aB 3) aC)) (aB 4)) (fK (aP (zZ hr) cN (aB 3) rfl)))) (aQ fJ (aM (aA (aB 1) aC)) (dJ iP cH (aA (aB 3) aC))) cN))))),?_⟩
 ac_nf
 refine ⟨32,["forth"],s32,rfl,(fun z=>nomatch z),(fun s hs=>by rw [List.mem_singleton.mp hs];decide +kernel),by decide,by decide +kernel,fun p0 hp0=>?_⟩
 have sb0:=bB.new hp0 ([("forth":Str)].map D.str)
 have h0:bG M p0 ([("forth":Str)].map D.str) p0 = some [D.str "forth"]:=aH
 generalize bG M p0 ([("forth":Str)].map D.str) = M1 at sb0 h0 ⊢
 ac_nf
 refine ⟨_,_,h0,fun p1 hp1=>?_⟩
 have sb1:=sb0.trans (bB.new hp1 [])
 have h1:bG M1 p1 [] p1 = some []:=aH
 generalize bG M1 p1 [] = M2 at sb1 h1 ⊢
 ac_nf
 refine ⟨fun ρ M'=>bB M2 M'/\∃ pf,M' (.l pf) = some []/\ρ = [some (.str "forth"),some (.str "forth"),some (.ref p1),some (.ref pf),some .non],?_,?_⟩
 ·rw [aL]
  refine ifF (by decide) ?_
  rw [aL]
  refine ifF (by decide) ?_
  rw [aL]
  refine ifF (by decide) ?_
  refine ⟨_,h1,?_⟩
  refine ⟨by decide,fun i ys M'=>M' = M2/\ys = [],⟨rfl,rfl⟩,fun i ys M' _ hi a e=>(by cases e;rw [hi.1];exact h1),?_,?_⟩
  ·rintro i d ys M' hd ⟨rfl,rfl⟩
   cases hd
  rintro ys M' _ ⟨rfl,rfl⟩ pf hpf
  ac_nf
  exact ⟨_,rfl,.inr ⟨aEd,bB.new hpf _,pf,aH,rfl⟩⟩
 ·rintro ρ M3 ⟨sb,pf,hpf,rfl⟩
  ac_nf
  refine ⟨_,hpf,?_⟩
  exact ⟨rfl,rfl,ifF rfl (ifF rfl (bJ (q _ (sb1.trans sb))))⟩
mutual
noncomputable def lsR:Rw->List Ln
 | .pl p=>[.pl p]
 | .ag n ws=>.ag n :: (lsS ws ++ [.en])
 | .kp ws=>.kp :: (lsS ws ++ [.en])
 | .ev ws=>.ev :: (lsS ws ++ [.en])
noncomputable def lsS:List Rw->List Ln
 | []=>[]
 | r :: rs=>lsR r ++ lsS rs
end
noncomputable def hw:Ln->List D
 | .ag n=>[.str "again",.int (n:Int)]
 | .kp=>[.str "keep"]
 | .ev=>[.str "ever"]
 | _=>[]
def isO:Ln->Prop
 | .ag _=>True
 | .kp=>True
 | .ev=>True
 | _=>False
noncomputable def adT (st:List (List D)) (d:D):List (List D):=st.dropLast ++ [st.getLast?.getD [] ++ [d]]
noncomputable def stL (s:List Ln × List (List D)):Ln->List Ln × List (List D)
 | .pl p=>(s.1,adT s.2 (plD p))
 | .en=>(s.1.dropLast,adT s.2.dropLast (.tup (hw (s.1.getLast?.getD .en) ++ [.tup (s.2.getLast?.getD [])])))
 | l=>(s.1 ++ [l],s.2 ++ [[]])
theorem tJ (st:List (List D)) (u:List D) (d:D):adT (st ++ [u]) d = st ++ [u ++ [d]]:=by
 unfold adT
 rw [dropLast_concat,List.getLast?_concat];rfl
theorem xA (hs:List Ln) (h:Ln) (st:List (List D)) (u e:List D):stL (hs ++ [h],st ++ [u] ++ [e]) .en = (hs,st ++ [u ++ [.tup (hw h ++ [.tup e])]]):=by
 unfold stL
 dsimp only
 rw [dropLast_concat,dropLast_concat,List.getLast?_concat,List.getLast?_concat,tJ];rfl
mutual
theorem aNT:∀ (r:Rw) (hs:List Ln) (st:List (List D)) (u:List D),(lsR r).foldl stL (hs,st ++ [u]) = (hs,st ++ [u ++ [rwD r]])
 | .pl p,hs,st,u=>by
  rw [lsR,rwD,foldl_cons,foldl_nil]
  show (hs,adT (st ++ [u]) (plD p)) = _
  rw [tJ]
 | .ag n ws,hs,st,u=>by
  rw [lsR,foldl_cons,foldl_append]
  show foldl stL (foldl stL (hs ++ [.ag n],st ++ [u] ++ [[]]) (lsS ws)) [.en] = _
  rw [aAg ws (hs ++ [Ln.ag n]) (st ++ [u]) [],foldl_cons,foldl_nil,nil_append,xA,rwD];rfl
 | .kp ws,hs,st,u=>by
  rw [lsR,foldl_cons,foldl_append]
  show foldl stL (foldl stL (hs ++ [.kp],st ++ [u] ++ [[]]) (lsS ws)) [.en] = _
  rw [aAg ws (hs ++ [Ln.kp]) (st ++ [u]) [],foldl_cons,foldl_nil,nil_append,xA,rwD];rfl
 | .ev ws,hs,st,u=>by
  rw [lsR,foldl_cons,foldl_append]
  show foldl stL (foldl stL (hs ++ [.ev],st ++ [u] ++ [[]]) (lsS ws)) [.en] = _
  rw [aAg ws (hs ++ [Ln.ev]) (st ++ [u]) [],foldl_cons,foldl_nil,nil_append,xA,rwD];rfl
theorem aAg:∀ (rs:List Rw) (hs:List Ln) (st:List (List D)) (u:List D),(lsS rs).foldl stL (hs,st ++ [u]) = (hs,st ++ [u ++ bI rs])
 | [],hs,st,u=>by rw [lsS,bI,foldl_nil,append_nil]
 | r :: rs,hs,st,u=>by rw [lsS,bI,foldl_append,aNT r,aAg rs,append_assoc];rfl
end
def vld:Nat->List Ln->Prop
 | _,[]=>True
 | d,.pl _ :: r=>vld d r
 | 0,.en :: _=>False
 | d + 1,.en :: r=>vld d r
 | d,.ag _ :: r=>vld (d + 1) r
 | d,.kp :: r=>vld (d + 1) r
 | d,.ev :: r=>vld (d + 1) r
mutual
theorem aMm:∀ (r:Rw) (d:Nat) (l:List Ln),vld d l->vld d (lsR r ++ l)
 | .pl p,d,l,h=>by rw [lsR];cases d<;>exact h
 | .ag n ws,d,l,h=>by
  rw [lsR,cons_append,append_assoc]
  have:vld (d + 1) (lsS ws ++ ([Ln.en] ++ l)):=zJ ws (d + 1) _ h
  cases d<;>exact this
 | .kp ws,d,l,h=>by
  rw [lsR,cons_append,append_assoc]
  have:vld (d + 1) (lsS ws ++ ([Ln.en] ++ l)):=zJ ws (d + 1) _ h
  cases d<;>exact this
 | .ev ws,d,l,h=>by
  rw [lsR,cons_append,append_assoc]
  have:vld (d + 1) (lsS ws ++ ([Ln.en] ++ l)):=zJ ws (d + 1) _ h
  cases d<;>exact this
theorem zJ:∀ (rs:List Rw) (d:Nat) (l:List Ln),vld d l->vld d (lsS rs ++ l)
 | [],d,l,h=>by rw [lsS];exact h
 | r :: rs,d,l,h=>by rw [lsS,append_assoc];exact aMm r d _ (zJ rs d l h)
end
theorem pH {l:Ln}:lnT l = Str.ofString "end" ↔ l = .en:=by
 constructor
 ·intro h
  have e:Ty.jl 32 ((lnW l).map Ty.cl) = Ty.jl 32 (([Str.ofString "end"]).map Ty.cl):=by
   rw [<- Ty.cl_join]
   show Ty.cl (lnT l) = Ty.cl (Str.ofString "end")
   rw [h]
  have:=Ty.map_cl_inj (Ty.jl_inj (c:=32) (fun z=>aG9 l (List.map_eq_nil_iff.mp z)) (by simp) (fun p hp=>by
   obtain ⟨s,hs,rfl⟩:=List.mem_map.mp hp
   exact aAt l 32 (.inl rfl) s hs) (fun p hp=>by
   obtain ⟨s,hs,rfl⟩:=List.mem_map.mp hp
   rw [List.mem_singleton.mp hs];decide +kernel) e)
  cases l with
  | pl p=>exact absurd (List.cons.inj this).1 (aB1 p).2.2.2
  | ag n=>exact absurd (List.cons.inj this).1 (by decide)
  | kp=>exact absurd (List.cons.inj this).1 (by decide)
  | ev=>exact absurd (List.cons.inj this).1 (by decide)
  | en=>rfl
 ·rintro rfl;rfl
structure KS (B M:DM) (ph pl:Addr) (hs:List D) (fs:List (Addr × List D)):Prop where
 hh:M ph = some hs
 hl:M pl = some (fs.map fun f=>D.ref f.1)
 it:∀ f ∈ fs,M f.1 = some f.2
 nod:(ph :: pl :: fs.map (·.1)).Nodup
 bn:∀ a ∈ ph :: pl :: fs.map (·.1),B (.l a) = none
 sub:bB B M
theorem gX {B M:DM} {a:Addr} {ds:List D} (h:bB B M) (n:B (.l a) = none):bB B (bG M a ds):=fun b o e=>by
 rw [aCf (vB e n)];exact h b o e
theorem aBQ {B M:DM} {a:Addr} (s:bB B M) (h:M (.l a) = none):B (.l a) = none:=by
 cases c:B (.l a) with
 | none=>rfl
 | some o=>rw [s _ _ c] at h;cases h
theorem KS.ne {B M:DM} {ph pl:Addr} {hs:List D} {fs:List (Addr × List D)} (h:KS B M ph pl hs fs):ph ≠ pl/\∀ f ∈ fs,f.1 ≠ ph/\f.1 ≠ pl:=by
 have n:=h.nod
 rw [nodup_cons,nodup_cons] at n
 refine ⟨fun e=>n.1 (by rw [e];exact mem_cons_self ..),fun f hf=>⟨fun e=>n.1 (mem_cons_of_mem _ (by rw [<- e];exact mem_map_of_mem hf)),fun e=>n.2.1 (by rw [<- e];exact mem_map_of_mem hf)⟩⟩
theorem KS.top {B M:DM} {ph pl q:Addr} {hs u:List D} {gs:List (Addr × List D)} (h:KS B M ph pl hs (gs ++ [(q,u)])) (d:D):KS B (bG M q (u ++ [d])) ph pl hs (gs ++ [(q,u ++ [d])]):=by
 obtain ⟨n1,n2⟩:=h.ne
 have hq:=n2 (q,u) (by simp)
 have e1:(gs ++ [(q,u ++ [d])]).map (·.1) = (gs ++ [(q,u)]).map (·.1):=by rw [map_append,map_append];rfl
 have e2:((gs ++ [(q,u ++ [d])]).map fun f=>D.ref f.1) = ((gs ++ [(q,u)]).map fun f=>D.ref f.1):=by rw [map_append,map_append];rfl
 refine ⟨by rw [aX (Ne.symm hq.1)];exact h.hh,by rw [aX (Ne.symm hq.2),e2];exact h.hl,fun f hf=>?_,by rw [e1];exact h.nod,by rw [e1];exact h.bn,gX h.sub (h.bn q (by simp))⟩
 rcases List.mem_append.mp hf with hf | hf
 ·have nq:f.1 ≠ q:=fun e=>by
   have n:=h.nod
   rw [nodup_cons,nodup_cons,map_append,nodup_append] at n
   exact n.2.2.2.2 f.1 (mem_map_of_mem hf) q (by simp) e
  rw [aX nq];exact h.it f (mem_append_left _ hf)
 ·rw [List.mem_singleton.mp hf];exact aH
theorem KS.push {B M:DM} {ph pl p:Addr} {hs:List D} {fs:List (Addr × List D)} (h:KS B M ph pl hs fs) (d:D) (hp:bG M ph (hs ++ [d]) (.l p) = none):KS B (bG (bG (bG M ph (hs ++ [d])) p []) pl ((fs.map fun f=>D.ref f.1) ++ [.ref p])) ph pl (hs ++ [d]) (fs ++ [(p,[])]):=by
 obtain ⟨n1,n2⟩:=h.ne
 obtain ⟨np,hp1⟩:=eW hp
 have npl:p ≠ pl:=fun e=>by rw [e,h.hl] at hp1;cases hp1
 have nf:∀ f ∈ fs,f.1 ≠ p:=fun f hf e=>by rw [<- e,h.it f hf] at hp1;cases hp1
 have bp:=aBQ h.sub hp1
 refine ⟨?_,?_,fun f hf=>?_,?_,?_,?_⟩
 ·rw [aX n1,aX (Ne.symm np)];exact aH
 ·rw [map_append];exact aH
 ·rcases List.mem_append.mp hf with hf | hf
  ·rw [aX (n2 f hf).2,aX (nf f hf),aX (n2 f hf).1];exact h.it f hf
  ·rw [List.mem_singleton.mp hf]
   show bG _ pl _ (.l p) = some []
   rw [aX npl];exact aH
 ·have n:=h.nod
  rw [nodup_cons,nodup_cons] at n ⊢
  rw [map_append]
  refine ⟨fun z=>?_,fun z=>?_,?_⟩
  ·rcases List.mem_cons.mp z with z | z
   ·exact n1 z
   ·rcases List.mem_append.mp z with z | z
    ·exact n.1 (mem_cons_of_mem _ z)
    ·exact np (List.mem_singleton.mp z).symm
  ·rcases List.mem_append.mp z with z | z
   ·exact n.2.1 z
   ·exact npl (List.mem_singleton.mp z).symm
  ·rw [nodup_append]
   refine ⟨n.2.2,by simp,fun a ha b hb=>?_⟩
   rw [List.mem_singleton.mp hb]
   obtain ⟨f,hf,rfl⟩:=List.mem_map.mp ha
   exact nf f hf
 ·intro a ha
  rw [map_append] at ha
  rcases List.mem_cons.mp ha with rfl | ha
  ·exact h.bn _ (by simp)
  ·rcases List.mem_cons.mp ha with rfl | ha
   ·exact h.bn _ (by simp)
   ·rcases List.mem_append.mp ha with ha | ha
    ·exact h.bn a (mem_cons_of_mem _ (mem_cons_of_mem _ ha))
    ·rw [List.mem_singleton.mp ha];exact bp
 ·exact gX (gX (gX h.sub (h.bn _ (by simp))) bp) (h.bn _ (by simp))
theorem KS.pop {B M:DM} {ph pl q r:Addr} {hs u e:List D} {gs:List (Addr × List D)} {d0:D} (h:KS B M ph pl (hs ++ [d0]) (gs ++ [(q,u)] ++ [(r,e)])) (d:D):KS B (bG (bG (bG M ph hs) pl ((gs ++ [(q,u)]).map fun f=>D.ref f.1)) q (u ++ [d])) ph pl hs (gs ++ [(q,u ++ [d])]):=by
 obtain ⟨n1,n2⟩:=h.ne
 have sub1:∀ f ∈ gs ++ [(q,u)],f ∈ gs ++ [(q,u)] ++ [(r,e)]:=fun f hf=>mem_append_left _ hf
 have key:KS B (bG (bG M ph hs) pl ((gs ++ [(q,u)]).map fun f=>D.ref f.1)) ph pl hs (gs ++ [(q,u)]):=by
  refine ⟨by rw [aX n1];exact aH,aH,fun f hf=>?_,?_,fun a ha=>?_,gX (gX h.sub (h.bn _ (by simp))) (h.bn _ (by simp))⟩
  ·rw [aX (n2 f (sub1 f hf)).2,aX (n2 f (sub1 f hf)).1];exact h.it f (sub1 f hf)
  ·have n:=h.nod
   rw [map_append] at n
   rw [<- cons_append,<- cons_append,nodup_append] at n
   exact n.1
  ·refine h.bn a ?_
   rw [map_append,<- cons_append,<- cons_append]
   exact mem_append_left _ ha
 exact key.top d
theorem opD {l:Ln} (h:isO l):hdD l = .tup (hw l)/\(hw l).length<=2/\∃ k r,hw l = .str k :: r/\k ∈ aD2:=by
 cases l with
 | ag n=>exact ⟨rfl,Nat.le_of_ble_eq_true rfl,_,_,rfl,by decide⟩
 | kp=>exact ⟨rfl,by decide,_,_,rfl,by decide⟩
 | ev=>exact ⟨rfl,by decide,_,_,rfl,by decide⟩
 | pl p=>exact h.elim
 | en=>exact h.elim
theorem wE {xs:List D} {y:D}:(xs ++ [y])[(xs ++ [y]).length - 1]? = some y:=by
 rw [length_append,length_singleton,Nat.add_sub_cancel,getElem?_append_right (Nat.le_refl _),Nat.sub_self];rfl
theorem KS.mono {B M M':DM} {ph pl:Addr} {hs:List D} {fs:List (Addr × List D)} (h:KS B M ph pl hs fs) (s:bB M M'):KS B M' ph pl hs fs :=
 ⟨s _ _ h.hh,s _ _ h.hl,fun f hf=>s _ _ (h.it f hf),h.nod,h.bn,h.sub.trans s⟩
theorem lM {α:Type} {xs:List α} (h:xs ≠ []):∃ ys y,xs = ys ++ [y]:=⟨_,_,(List.dropLast_concat_getLast h).symm⟩
def nO:DSp:=fun ds M Q=>∃ (pt:Addr) (rs:List Rw),ds = [.ref pt]/\M pt = some ((lsS rs).map fun l=>D.str (lnT l))/\(∀ l ∈ lsS rs,lnV l)/\(lsS rs).length<=400/\∀ M',bB M M'->Q (.tup (bI rs)) M'
noncomputable abbrev qO:Stmt:=top 72
theorem cR:aS ["lines","heads","lists","at","text","head","block"] ["lines"] (aI qO):=⟨rfl,rfl,rfl,by decide +kernel,rfl,by decide +kernel,by decide +kernel⟩
theorem aCe (hF:cK K mg "rows_of" qO ["lines"]) (iH:mg "enumerate" = none) (cH:mg "tuple" = none) (eI:mg "len" = none) (kL:Has P w K mg base 104 "head_of" ["text"] rA) (bK:Has P w K mg base 101 "numbers_behind" ["word"] dH):Has P w K mg base 105 "rows_of" ["lines"] nO:=by
 refine Has.mkZ hF cR (fun ds M Q ⟨_,_,z,_⟩=>by rw [z];rfl) fun f cdv A outer s H ds M Q E hr h=>?_
 obtain ⟨pt,rs,rfl,ht,lv,ln,q⟩:=h
 refine ⟨_,(aF (aN (i:=1) cR.nd (bX aC))
  (aF (aN (i:=2) cR.nd (bX (aA (bX aC) aC)))
  (aF (aB0 PassesOwn.never rfl iH (aA (aB 0) aC) (lQ (n:=2) rfl (bZ (aZ (i:=3) cR.nd) (bZ (aZ (i:=4) cR.nd) gZ))) (aF (aN (i:=5) cR.nd (aG kL hr (by decide) (aA (aB 4) aC)))
  (aE (bA (eF (hZ (aP (cT hr) (aB 4) aO) (fK (aP (aAG hr) (aB 1) (bX aC))))) (aF (aN (i:=6) cR.nd (aQ fJ (wC (aB 1)) (aM (aA (dJ iP cH (aA (wC (aB 2)) aC)) aC))))
  (aE (dL (eD (aJ (aB 2) (eR aD)) (aB 6))))) (aE (bA (aP vN (aB 5) cN) (aE mY) (aE (bA (aP vN (aG bK hr (by decide) (aA (aJ (aB 5) aD) aC)) cN) (aF (dL (eD (aB 1) (aB 5)))
  (aE (dL (eD (aB 2) (bX aC))))) (aE (dL (eD (aJ (aB 2) (eR aD)) (aB 5))))))))))))
  (aF (bA (aP (aAG hr) (aB 1) (bX aC)) (aE mY) aY)
  (aE (aK (dJ iP cH (aA (aJ (aB 2) aD) aC)))))))),?_⟩
 ac_nf
 refine ⟨by decide,fun ph hph=>⟨by decide,fun p0 hp0=>⟨by decide,fun pl hpl=>?_⟩⟩⟩
 have ks0:KS M (bG (bG (bG M ph []) p0 []) pl [D.ref p0]) ph pl [] [(p0,[])]:=by
  obtain ⟨n1,hp0'⟩:=eW hp0
  obtain ⟨n2,hpl'⟩:=eW hpl
  obtain ⟨n3,hpl''⟩:=eW hpl'
  refine ⟨by rw [aX (Ne.symm n3),aX (Ne.symm n1)];exact aH,aH,fun f hf=>?_,?_,fun a ha=>?_,gX (gX (gX (.refl _) hph) hp0') hpl''⟩
  ·rw [List.mem_singleton.mp hf]
   show bG _ pl _ (.l p0) = some []
   rw [aX (Ne.symm n2)];exact aH
  ·simp [n1,n2,n3,Ne.symm n1,Ne.symm n2,Ne.symm n3]
  ·simp at ha
   rcases ha with rfl | rfl | rfl
   ·exact hph
   ·exact hpl''
   ·exact hp0'
 generalize bG (bG (bG M ph []) p0 []) pl [D.ref p0] = M1 at ks0 ⊢
 refine ⟨_,ks0.sub _ _ ht,?_⟩
 refine ⟨fun i ρ M'=>∃ (hs:List Ln) (fs:List (Addr × List D)) (o3 o4 o5 o6:Option D),KS M M' ph pl (hs.map hdD) fs/\(∀ h ∈ hs,isO h)/\(fs.length = hs.length + 1/\hs.length<=i/\∀ f ∈ fs,f.2.length<=i)/\vld hs.length ((lsS rs).drop i)/\((lsS rs).drop i).foldl stL (hs,fs.map (·.2)) = ([],[bI rs])/\ρ = [some (.ref pt),some (.ref ph),some (.ref pl),o3,o4,o5,o6],?_,?_,?_,?_⟩
 ·refine ⟨[],[(p0,[])],none,none,none,none,ks0,(fun h hh=>by cases hh),⟨rfl,Nat.zero_le _,fun f hf=>by rw [List.mem_singleton.mp hf];exact Nat.zero_le _⟩,?_,?_,rfl⟩
  ·have:=zJ rs 0 [] trivial
   rw [append_nil] at this
   exact this
  ·exact aAg rs [] [] []
 ·rintro i ρ M' _ ⟨hs,fs,_,_,_,_,ks,_⟩
  exact ks.sub _ _ ht
 ·rintro i d ρ M' hd ⟨hs,fs,o3,o4,o5,o6,ks,ho,⟨hlen,b1,b2⟩,hv,hf,rfl⟩
  rw [getElem?_map] at hd
  cases hl:(lsS rs)[i]? with
  | none=>rw [hl] at hd;cases hd
  | some l =>
   rw [hl] at hd
   cases hd
   have li:=(List.getElem?_eq_some_iff.mp hl).1
   have edr:(lsS rs).drop i = l :: (lsS rs).drop (i + 1):=by
    rw [List.drop_eq_getElem_cons li,(List.getElem?_eq_some_iff.mp hl).2]
   rw [edr] at hv hf
   rw [foldl_cons] at hf
   have lvl:=lv l (mem_of_getElem? hl)
   ac_nf
   refine ⟨rfl,l,rfl,lvl,fun M2 s2=>?_⟩
   have ks:=ks.mono s2
   clear s2
   ac_nf
   cases l with
   | en =>
    cases hs with
    | nil=>exact hv.elim
    | cons h0 hs0 =>
     obtain ⟨hs,h,eh⟩:=lM (xs:=h0 :: hs0) (by simp)
     rw [eh] at ks ho hlen b1 hv hf
     rw [length_append,length_singleton] at hv hlen b1
     have nf:fs ≠ []:=fun z=>by rw [z] at hlen;simp at hlen
     obtain ⟨fs1,⟨r,e⟩,rfl⟩:=lM nf
     have nf1:fs1 ≠ []:=fun z=>by rw [z] at hlen;simp at hlen
     obtain ⟨gs,⟨q0,u⟩,rfl⟩:=lM nf1
     rw [aL]
     refine ifT (decide_eq_true rfl) ⟨by decide,fun pe hpe=>?_⟩
     have ks:=ks.mono (bB.new hpe [])
     have hpe2:bG M2 pe [] pe = some []:=aH
     generalize bG M2 pe [] = M3 at ks hpe2 ⊢
     clear hpe
     rw [map_append,map_cons,map_nil] at ks
     obtain ⟨n1,n2⟩:=ks.ne
     obtain ⟨o1,o2,_⟩:=opD (ho h (by simp))
     refine ⟨_,ks.hh,hpe2,?_⟩
     refine ifT (by simp) ?_
     have hr':=(n2 (r,e) (by simp))
     have hq':=(n2 (q0,u) (by simp))
     refine ⟨_,_,ks.hh,wE,_,D.ref r,by rw [aX (Ne.symm n1)];exact ks.hl,by rw [map_append,map_cons,map_nil];exact wE,?_⟩
     rw [o1,dropLast_concat,show (map (fun f=>D.ref f.1) (gs ++ [(q0,u)] ++ [(r,e)])).dropLast = (gs ++ [(q0,u)]).map (fun f=>D.ref f.1) by rw [map_append,map_cons,map_nil,dropLast_concat]]
     refine ⟨e,by rw [aX hr'.2,aX hr'.1];exact ks.it (r,e) (by simp),by decide,?_⟩
     have le:e.length<=i:=b2 (r,e) (by simp)
     have lu:u.length<=i:=b2 (q0,u) (by simp)
     refine ⟨by show (hw h).length + 1<=1000;omega,_,D.ref q0,aH,by rw [map_append];exact aBq,⟨u,by rw [aX hq'.2,aX hq'.1];exact ks.it (q0,u) (by simp)⟩,u,_,rfl,by rw [aX hq'.2,aX hq'.1];exact ks.it (q0,u) (by simp),by omega,?_⟩
     refine ⟨hs,gs ++ [(q0,u ++ [.tup (hw h ++ [.tup e])])],_,_,_,_,ks.pop _,fun x hx=>ho x (mem_append_left _ hx),⟨?_,by omega,fun f hf=>?_⟩,hv,?_,rfl⟩
     ·rw [length_append,length_append,length_singleton,length_singleton] at hlen
      rw [length_append,length_singleton];omega
     ·rcases List.mem_append.mp hf with hf | hf
      ·have:=b2 f (mem_append_left _ (mem_append_left _ hf));omega
      ·rw [List.mem_singleton.mp hf]
       show (u ++ [_]).length<=i + 1
       rw [length_append,length_singleton];omega
     ·rw [map_append,map_append,map_cons,map_nil,map_cons,map_nil,xA] at hf
      rw [map_append,map_cons,map_nil]
      exact hf
   | pl p =>
    have nf:fs ≠ []:=fun z=>by rw [z] at hlen;simp at hlen
    obtain ⟨gs,⟨q0,u⟩,rfl⟩:=lM nf
    have lu:u.length<=i:=b2 (q0,u) (by simp)
    rw [aL]
    refine ifF (decide_eq_false fun z=>by cases pH.mp z) ?_
    rw [show hdD (.pl p) = plD p from rfl,rB]
    ac_nf
    refine ifF rfl ?_
    rw [tL]
    ac_nf
    refine ⟨_,rfl,.inl ⟨_,aA0 p,?_⟩⟩
    ac_nf
    refine ifF rfl ⟨_,D.ref q0,ks.hl,by rw [map_append];exact aBq,⟨u,ks.it (q0,u) (by simp)⟩,u,_,rfl,ks.it (q0,u) (by simp),by omega,?_⟩
    rw [<- rB]
    refine ⟨hs,gs ++ [(q0,u ++ [plD p])],_,_,_,_,ks.top _,ho,⟨?_,by omega,fun f hf=>?_⟩,?_,?_,rfl⟩
    ·rw [length_append,length_singleton] at hlen
     rw [length_append,length_singleton];omega
    ·rcases List.mem_append.mp hf with hf | hf
     ·have:=b2 f (mem_append_left _ hf);omega
     ·rw [List.mem_singleton.mp hf]
      show (u ++ [_]).length<=i + 1
      rw [length_append,length_singleton];omega
    ·generalize hs.length = k at hv ⊢
     cases k<;>exact hv
    ·rw [map_append,map_cons,map_nil] at hf ⊢
     rw [show stL (hs,gs.map (·.2) ++ [u]) (.pl p) = (hs,adT (gs.map (·.2) ++ [u]) (plD p)) from rfl,tJ] at hf
     exact hf
   | ag n =>
    obtain ⟨o1,o2,k0,r0,o3',o4'⟩:=opD (l:=(Ln.ag n)) trivial
    rw [aL]
    refine ifF (decide_eq_false fun z=>by cases pH.mp z) ?_
    rw [o1,o3']
    ac_nf
    refine ifF rfl ?_
    rw [tL]
    ac_nf
    refine ⟨_,rfl,.inr ⟨o4',?_⟩⟩
    ac_nf
    refine ifT rfl ⟨⟨_,ks.hh⟩,_,_,rfl,ks.hh,by rw [length_map];omega,?_⟩
    obtain ⟨n1,n2⟩:=ks.ne
    refine ⟨⟨_,by rw [aX (Ne.symm n1)];exact ks.hl⟩,by decide,fun p9 hp9=>?_⟩
    obtain ⟨np,hp1⟩:=eW hp9
    have npl:pl ≠ p9:=fun e=>by rw [<- e,ks.hl] at hp1;cases hp1
    refine ⟨_,_,rfl,by rw [aX npl,aX (Ne.symm n1)];exact ks.hl,by rw [length_map];omega,?_⟩
    have kp:=ks.push (.tup (.str k0 :: r0)) hp9
    refine ⟨hs ++ [(Ln.ag n)],fs ++ [(p9,[])],_,_,_,_,?_,?_,⟨?_,?_,?_⟩,?_,?_,rfl⟩
    ·rw [map_append,map_cons,map_nil,o1,o3'];exact kp
    ·intro x hx
     rcases List.mem_append.mp hx with hx | hx
     ·exact ho x hx
     ·rw [List.mem_singleton.mp hx];trivial
    ·rw [length_append,length_append,length_singleton,length_singleton,hlen]
    ·rw [length_append,length_singleton];omega
    ·intro f hf
     rcases List.mem_append.mp hf with hf | hf
     ·have:=b2 f hf;omega
     ·rw [List.mem_singleton.mp hf];exact Nat.zero_le _
    ·rw [length_append,length_singleton]
     generalize hs.length = k at hv ⊢
     cases k<;>exact hv
    ·rw [map_append];exact hf
   | kp =>
    obtain ⟨o1,o2,k0,r0,o3',o4'⟩:=opD (l:=Ln.kp) trivial
    rw [aL]
    refine ifF (decide_eq_false fun z=>by cases pH.mp z) ?_
    rw [o1,o3']
    ac_nf
    refine ifF rfl ?_
    rw [tL]
    ac_nf
    refine ⟨_,rfl,.inr ⟨o4',?_⟩⟩
    ac_nf
    refine ifT rfl ⟨⟨_,ks.hh⟩,_,_,rfl,ks.hh,by rw [length_map];omega,?_⟩
    obtain ⟨n1,n2⟩:=ks.ne
    refine ⟨⟨_,by rw [aX (Ne.symm n1)];exact ks.hl⟩,by decide,fun p9 hp9=>?_⟩
    obtain ⟨np,hp1⟩:=eW hp9
    have npl:pl ≠ p9:=fun e=>by rw [<- e,ks.hl] at hp1;cases hp1
    refine ⟨_,_,rfl,by rw [aX npl,aX (Ne.symm n1)];exact ks.hl,by rw [length_map];omega,?_⟩
    have kp:=ks.push (.tup (.str k0 :: r0)) hp9
    refine ⟨hs ++ [Ln.kp],fs ++ [(p9,[])],_,_,_,_,?_,?_,⟨?_,?_,?_⟩,?_,?_,rfl⟩
    ·rw [map_append,map_cons,map_nil,o1,o3'];exact kp
    ·intro x hx
     rcases List.mem_append.mp hx with hx | hx
     ·exact ho x hx
     ·rw [List.mem_singleton.mp hx];trivial
    ·rw [length_append,length_append,length_singleton,length_singleton,hlen]
    ·rw [length_append,length_singleton];omega
    ·intro f hf
     rcases List.mem_append.mp hf with hf | hf
     ·have:=b2 f hf;omega
     ·rw [List.mem_singleton.mp hf];exact Nat.zero_le _
    ·rw [length_append,length_singleton]
     generalize hs.length = k at hv ⊢
     cases k<;>exact hv
    ·rw [map_append];exact hf
   | ev =>
    obtain ⟨o1,o2,k0,r0,o3',o4'⟩:=opD (l:=Ln.ev) trivial
    rw [aL]
    refine ifF (decide_eq_false fun z=>by cases pH.mp z) ?_
    rw [o1,o3']
    ac_nf
    refine ifF rfl ?_
    rw [tL]
    ac_nf
    refine ⟨_,rfl,.inr ⟨o4',?_⟩⟩
    ac_nf
    refine ifT rfl ⟨⟨_,ks.hh⟩,_,_,rfl,ks.hh,by rw [length_map];omega,?_⟩
    obtain ⟨n1,n2⟩:=ks.ne
    refine ⟨⟨_,by rw [aX (Ne.symm n1)];exact ks.hl⟩,by decide,fun p9 hp9=>?_⟩
    obtain ⟨np,hp1⟩:=eW hp9
    have npl:pl ≠ p9:=fun e=>by rw [<- e,ks.hl] at hp1;cases hp1
    refine ⟨_,_,rfl,by rw [aX npl,aX (Ne.symm n1)];exact ks.hl,by rw [length_map];omega,?_⟩
    have kp:=ks.push (.tup (.str k0 :: r0)) hp9
    refine ⟨hs ++ [Ln.ev],fs ++ [(p9,[])],_,_,_,_,?_,?_,⟨?_,?_,?_⟩,?_,?_,rfl⟩
    ·rw [map_append,map_cons,map_nil,o1,o3'];exact kp
    ·intro x hx
     rcases List.mem_append.mp hx with hx | hx
     ·exact ho x hx
     ·rw [List.mem_singleton.mp hx];trivial
    ·rw [length_append,length_append,length_singleton,length_singleton,hlen]
    ·rw [length_append,length_singleton];omega
    ·intro f hf
     rcases List.mem_append.mp hf with hf | hf
     ·have:=b2 f hf;omega
     ·rw [List.mem_singleton.mp hf];exact Nat.zero_le _
    ·rw [length_append,length_singleton]
     generalize hs.length = k at hv ⊢
     cases k<;>exact hv
    ·rw [map_append];exact hf
 ·rintro ρ M' ⟨hs,fs,o3,o4,o5,o6,ks,ho,⟨hlen,b1,b2⟩,hv,hf,rfl⟩
  rw [length_map,List.drop_length,foldl_nil] at hf
  obtain rfl:hs = []:=congrArg Prod.fst hf
  replace hf:fs.map (·.2) = [bI rs]:=congrArg Prod.snd hf
  obtain ⟨f,rfl⟩:∃ f,fs = [f]:=by
   match fs,hlen with
   | [f],_=>exact ⟨f,rfl⟩
  have ef:f.2 = bI rs:=(List.cons.inj hf).1
  ac_nf
  refine ⟨by decide,fun pe hpe=>⟨_,(bB.new hpe _) _ _ ks.hh,aH,ifF rfl ?_⟩⟩
  have ks:=ks.mono (bB.new hpe [])
  refine ⟨_,_,ks.hl,rfl,f.2,ks.it f (by simp),bJ ?_⟩
  rw [ef]
  exact q _ ks.sub
def aJn:List D->DM->Int->Prop:=fun ds M i=>∃ (pt:Addr) (rs:List Rw),ds = [.ref pt]/\M pt = some (((lsS rs).map fun l=>D.str (lnT l)) ++ [.str "forth"])/\(∀ l ∈ lsS rs,lnV l)/\(lsS rs).length<=400/\i = ((lsS rs).length:Int)
theorem aCl {C_NoText:Addr} (hF:cK K mg "rows_of" qO ["lines"]) (gL:lY P w K mg base "NoText" C_NoText "line") (iH:mg "enumerate" = none) (cH:mg "tuple" = none) (eI:mg "len" = none) (kL:Has P w K mg base 104 "head_of" ["text"] rA) (w_head_of:Has P w K mg base 104 "head_of" ["text"] zX) (bK:Has P w K mg base 101 "numbers_behind" ["word"] dH):fE P w K mg base 105 "rows_of" ["lines"] C_NoText "line" aJn:=by
 refine fE.mkZ hF gL cR (fun ds M i ⟨_,_,z,_⟩=>by rw [z];rfl) fun f cdv A outer s H ds M iw E hr h hRO hPO=>?_
 obtain ⟨pt,rs,rfl,ht,lv,ln,rfl⟩:=h
 refine ⟨_,(aF (aN (i:=1) cR.nd (bX aC))
  (aF (aN (i:=2) cR.nd (bX (aA (bX aC) aC)))
  (aF (aB0 PassesOwn.leaving rfl iH (aA (aB 0) aC) (lQ (n:=2) rfl (bZ (aZ (i:=3) cR.nd) (bZ (aZ (i:=4) cR.nd) gZ))) (aF (aBg (aN (i:=5) cR.nd (aG kL hr (by decide) (aA (aB 4) aC)))
  (aN (i:=5) cR.nd (aG w_head_of hr (by decide) (aA (aB 4) aC))))
  (aE (bA (eF (hZ (aP (cT hr) (aB 4) aO) (fK (aP (aAG hr) (aB 1) (bX aC))))) (aF (aN (i:=6) cR.nd (aQ fJ (wC (aB 1)) (aM (aA (dJ iP cH (aA (wC (aB 2)) aC)) aC))))
  (aE (dL (eD (aJ (aB 2) (eR aD)) (aB 6))))) (aE (bA (aP vN (aB 5) cN) (aE (oC hRO hr (by first | decide | omega) (aB 3))) (aE (bA (aP vN (aG bK hr (by decide) (aA (aJ (aB 5) aD) aC)) cN) (aF (dL (eD (aB 1) (aB 5)))
  (aE (dL (eD (aB 2) (bX aC))))) (aE (dL (eD (aJ (aB 2) (eR aD)) (aB 5))))))))))))
  (aF (bA (aP (aAG hr) (aB 1) (bX aC)) (aE (oC hRO hr (by first | decide | omega) (cO mD eI (aA (aB 0) aC)))) aY)
  (aE (aK (dJ iP cH (aA (aJ (aB 2) aD) aC)))))))),?_⟩
 ac_nf
 refine ⟨by decide,fun ph hph=>⟨by decide,fun p0 hp0=>⟨by decide,fun pl hpl=>?_⟩⟩⟩
 have ks0:KS M (bG (bG (bG M ph []) p0 []) pl [D.ref p0]) ph pl [] [(p0,[])]:=by
  obtain ⟨n1,hp0'⟩:=eW hp0
  obtain ⟨n2,hpl'⟩:=eW hpl
  obtain ⟨n3,hpl''⟩:=eW hpl'
  refine ⟨by rw [aX (Ne.symm n3),aX (Ne.symm n1)];exact aH,aH,fun f hf=>?_,?_,fun a ha=>?_,gX (gX (gX (.refl _) hph) hp0') hpl''⟩
  ·rw [List.mem_singleton.mp hf]
   show bG _ pl _ (.l p0) = some []
   rw [aX (Ne.symm n2)];exact aH
  ·simp [n1,n2,n3,Ne.symm n1,Ne.symm n2,Ne.symm n3]
  ·simp at ha
   rcases ha with rfl | rfl | rfl
   ·exact hph
   ·exact hpl''
   ·exact hp0'
 generalize bG (bG (bG M ph []) p0 []) pl [D.ref p0] = M1 at ks0 ⊢
 refine ⟨_,ks0.sub _ _ ht,?_⟩
 refine ⟨fun i ρ M'=>i<=(lsS rs).length/\∃ (hs:List Ln) (fs:List (Addr × List D)) (o3 o4 o5 o6:Option D),KS M M' ph pl (hs.map hdD) fs/\(∀ h ∈ hs,isO h)/\(fs.length = hs.length + 1/\hs.length<=i/\∀ f ∈ fs,f.2.length<=i)/\vld hs.length ((lsS rs).drop i)/\((lsS rs).drop i).foldl stL (hs,fs.map (·.2)) = ([],[bI rs])/\ρ = [some (.ref pt),some (.ref ph),some (.ref pl),o3,o4,o5,o6],?_,?_,?_,?_⟩
 ·refine ⟨Nat.zero_le _,[],[(p0,[])],none,none,none,none,ks0,(fun h hh=>by cases hh),⟨rfl,Nat.zero_le _,fun f hf=>by rw [List.mem_singleton.mp hf];exact Nat.zero_le _⟩,?_,?_,rfl⟩
  ·have:=zJ rs 0 [] trivial
   rw [append_nil] at this
   exact this
  ·exact aAg rs [] [] []
 ·rintro i ρ M' _ ⟨_,hs,fs,_,_,_,_,ks,_⟩
  exact ks.sub _ _ ht
 ·rintro i d ρ M' hd ⟨il,hs,fs,o3,o4,o5,o6,ks,ho,⟨hlen,b1,b2⟩,hv,hf,rfl⟩
  by_cases ci:i < (lsS rs).length
  ·rw [getElem?_append_left (by rw [length_map];exact ci),getElem?_map] at hd
   cases hl:(lsS rs)[i]? with
   | none=>rw [hl] at hd;cases hd
   | some l =>
    rw [hl] at hd
    cases hd
    have li:=(List.getElem?_eq_some_iff.mp hl).1
    have edr:(lsS rs).drop i = l :: (lsS rs).drop (i + 1):=by
     rw [List.drop_eq_getElem_cons li,(List.getElem?_eq_some_iff.mp hl).2]
    rw [edr] at hv hf
    rw [foldl_cons] at hf
    have lvl:=lv l (mem_of_getElem? hl)
    ac_nf
    refine ⟨rfl,.inl ⟨l,rfl,lvl,fun M2 s2=>?_⟩⟩
    have ks:=ks.mono s2
    clear s2
    ac_nf
    cases l with
    | en =>
     cases hs with
     | nil=>exact hv.elim
     | cons h0 hs0 =>
      obtain ⟨hs,h,eh⟩:=lM (xs:=h0 :: hs0) (by simp)
      rw [eh] at ks ho hlen b1 hv hf
      rw [length_append,length_singleton] at hv hlen b1
      have nf:fs ≠ []:=fun z=>by rw [z] at hlen;simp at hlen
      obtain ⟨fs1,⟨r,e⟩,rfl⟩:=lM nf
      have nf1:fs1 ≠ []:=fun z=>by rw [z] at hlen;simp at hlen
      obtain ⟨gs,⟨q0,u⟩,rfl⟩:=lM nf1
      rw [aL]
      refine ifT (decide_eq_true rfl) ⟨by decide,fun pe hpe=>?_⟩
      have ks:=ks.mono (bB.new hpe [])
      have hpe2:bG M2 pe [] pe = some []:=aH
      generalize bG M2 pe [] = M3 at ks hpe2 ⊢
      clear hpe
      rw [map_append,map_cons,map_nil] at ks
      obtain ⟨n1,n2⟩:=ks.ne
      obtain ⟨o1,o2,_⟩:=opD (ho h (by simp))
      refine ⟨_,ks.hh,hpe2,?_⟩
      refine ifT (by simp) ?_
      have hr':=(n2 (r,e) (by simp))
      have hq':=(n2 (q0,u) (by simp))
      refine ⟨_,_,ks.hh,wE,_,D.ref r,by rw [aX (Ne.symm n1)];exact ks.hl,by rw [map_append,map_cons,map_nil];exact wE,?_⟩
      rw [o1,dropLast_concat,show (map (fun f=>D.ref f.1) (gs ++ [(q0,u)] ++ [(r,e)])).dropLast = (gs ++ [(q0,u)]).map (fun f=>D.ref f.1) by rw [map_append,map_cons,map_nil,dropLast_concat]]
      refine ⟨e,by rw [aX hr'.2,aX hr'.1];exact ks.it (r,e) (by simp),by decide,?_⟩
      have le:e.length<=i:=b2 (r,e) (by simp)
      have lu:u.length<=i:=b2 (q0,u) (by simp)
      refine ⟨by show (hw h).length + 1<=1000;omega,_,D.ref q0,aH,by rw [map_append];exact aBq,⟨u,by rw [aX hq'.2,aX hq'.1];exact ks.it (q0,u) (by simp)⟩,u,_,rfl,by rw [aX hq'.2,aX hq'.1];exact ks.it (q0,u) (by simp),by omega,?_⟩
      refine ⟨by omega,hs,gs ++ [(q0,u ++ [.tup (hw h ++ [.tup e])])],_,_,_,_,ks.pop _,fun x hx=>ho x (mem_append_left _ hx),⟨?_,by omega,fun f hf=>?_⟩,hv,?_,rfl⟩
      ·rw [length_append,length_append,length_singleton,length_singleton] at hlen
       rw [length_append,length_singleton];omega
      ·rcases List.mem_append.mp hf with hf | hf
       ·have:=b2 f (mem_append_left _ (mem_append_left _ hf));omega
       ·rw [List.mem_singleton.mp hf]
        show (u ++ [_]).length<=i + 1
        rw [length_append,length_singleton];omega
      ·rw [map_append,map_append,map_cons,map_nil,map_cons,map_nil,xA] at hf
       rw [map_append,map_cons,map_nil]
       exact hf
    | pl p =>
     have nf:fs ≠ []:=fun z=>by rw [z] at hlen;simp at hlen
     obtain ⟨gs,⟨q0,u⟩,rfl⟩:=lM nf
     have lu:u.length<=i:=b2 (q0,u) (by simp)
     rw [aL]
     refine ifF (decide_eq_false fun z=>by cases pH.mp z) ?_
     rw [show hdD (.pl p) = plD p from rfl,rB]
     ac_nf
     refine ifF rfl ?_
     rw [tL]
     ac_nf
     refine ⟨_,rfl,.inl ⟨_,aA0 p,?_⟩⟩
     ac_nf
     refine ifF rfl ⟨_,D.ref q0,ks.hl,by rw [map_append];exact aBq,⟨u,ks.it (q0,u) (by simp)⟩,u,_,rfl,ks.it (q0,u) (by simp),by omega,?_⟩
     rw [<- rB]
     refine ⟨by omega,hs,gs ++ [(q0,u ++ [plD p])],_,_,_,_,ks.top _,ho,⟨?_,by omega,fun f hf=>?_⟩,?_,?_,rfl⟩
     ·rw [length_append,length_singleton] at hlen
      rw [length_append,length_singleton];omega
     ·rcases List.mem_append.mp hf with hf | hf
      ·have:=b2 f (mem_append_left _ hf);omega
      ·rw [List.mem_singleton.mp hf]
       show (u ++ [_]).length<=i + 1
       rw [length_append,length_singleton];omega
     ·generalize hs.length = k at hv ⊢
      cases k<;>exact hv
     ·rw [map_append,map_cons,map_nil] at hf ⊢
      rw [show stL (hs,gs.map (·.2) ++ [u]) (.pl p) = (hs,adT (gs.map (·.2) ++ [u]) (plD p)) from rfl,tJ] at hf
      exact hf
    | ag n =>
     obtain ⟨o1,o2,k0,r0,o3',o4'⟩:=opD (l:=(Ln.ag n)) trivial
     rw [aL]
     refine ifF (decide_eq_false fun z=>by cases pH.mp z) ?_
     rw [o1,o3']
     ac_nf
     refine ifF rfl ?_
     rw [tL]
     ac_nf
     refine ⟨_,rfl,.inr ⟨o4',?_⟩⟩
     ac_nf
     refine ifT rfl ⟨⟨_,ks.hh⟩,_,_,rfl,ks.hh,by rw [length_map];omega,?_⟩
     obtain ⟨n1,n2⟩:=ks.ne
     refine ⟨⟨_,by rw [aX (Ne.symm n1)];exact ks.hl⟩,by decide,fun p9 hp9=>?_⟩
     obtain ⟨np,hp1⟩:=eW hp9
     have npl:pl ≠ p9:=fun e=>by rw [<- e,ks.hl] at hp1;cases hp1
     refine ⟨_,_,rfl,by rw [aX npl,aX (Ne.symm n1)];exact ks.hl,by rw [length_map];omega,?_⟩
     have kp:=ks.push (.tup (.str k0 :: r0)) hp9
     refine ⟨by omega,hs ++ [(Ln.ag n)],fs ++ [(p9,[])],_,_,_,_,?_,?_,⟨?_,?_,?_⟩,?_,?_,rfl⟩
     ·rw [map_append,map_cons,map_nil,o1,o3'];exact kp
     ·intro x hx
      rcases List.mem_append.mp hx with hx | hx
      ·exact ho x hx
      ·rw [List.mem_singleton.mp hx];trivial
     ·rw [length_append,length_append,length_singleton,length_singleton,hlen]
     ·rw [length_append,length_singleton];omega
     ·intro f hf
      rcases List.mem_append.mp hf with hf | hf
      ·have:=b2 f hf;omega
      ·rw [List.mem_singleton.mp hf];exact Nat.zero_le _
     ·rw [length_append,length_singleton]
      generalize hs.length = k at hv ⊢
      cases k<;>exact hv
     ·rw [map_append];exact hf
    | kp =>
     obtain ⟨o1,o2,k0,r0,o3',o4'⟩:=opD (l:=Ln.kp) trivial
     rw [aL]
     refine ifF (decide_eq_false fun z=>by cases pH.mp z) ?_
     rw [o1,o3']
     ac_nf
     refine ifF rfl ?_
     rw [tL]
     ac_nf
     refine ⟨_,rfl,.inr ⟨o4',?_⟩⟩
     ac_nf
     refine ifT rfl ⟨⟨_,ks.hh⟩,_,_,rfl,ks.hh,by rw [length_map];omega,?_⟩
     obtain ⟨n1,n2⟩:=ks.ne
     refine ⟨⟨_,by rw [aX (Ne.symm n1)];exact ks.hl⟩,by decide,fun p9 hp9=>?_⟩
     obtain ⟨np,hp1⟩:=eW hp9
     have npl:pl ≠ p9:=fun e=>by rw [<- e,ks.hl] at hp1;cases hp1
     refine ⟨_,_,rfl,by rw [aX npl,aX (Ne.symm n1)];exact ks.hl,by rw [length_map];omega,?_⟩
     have kp:=ks.push (.tup (.str k0 :: r0)) hp9
     refine ⟨by omega,hs ++ [Ln.kp],fs ++ [(p9,[])],_,_,_,_,?_,?_,⟨?_,?_,?_⟩,?_,?_,rfl⟩
     ·rw [map_append,map_cons,map_nil,o1,o3'];exact kp
     ·intro x hx
      rcases List.mem_append.mp hx with hx | hx
      ·exact ho x hx
      ·rw [List.mem_singleton.mp hx];trivial
     ·rw [length_append,length_append,length_singleton,length_singleton,hlen]
     ·rw [length_append,length_singleton];omega
     ·intro f hf
      rcases List.mem_append.mp hf with hf | hf
      ·have:=b2 f hf;omega
      ·rw [List.mem_singleton.mp hf];exact Nat.zero_le _
     ·rw [length_append,length_singleton]
      generalize hs.length = k at hv ⊢
      cases k<;>exact hv
     ·rw [map_append];exact hf
    | ev =>
     obtain ⟨o1,o2,k0,r0,o3',o4'⟩:=opD (l:=Ln.ev) trivial
     rw [aL]
     refine ifF (decide_eq_false fun z=>by cases pH.mp z) ?_
     rw [o1,o3']
     ac_nf
     refine ifF rfl ?_
     rw [tL]
     ac_nf
     refine ⟨_,rfl,.inr ⟨o4',?_⟩⟩
     ac_nf
     refine ifT rfl ⟨⟨_,ks.hh⟩,_,_,rfl,ks.hh,by rw [length_map];omega,?_⟩
     obtain ⟨n1,n2⟩:=ks.ne
     refine ⟨⟨_,by rw [aX (Ne.symm n1)];exact ks.hl⟩,by decide,fun p9 hp9=>?_⟩
     obtain ⟨np,hp1⟩:=eW hp9
     have npl:pl ≠ p9:=fun e=>by rw [<- e,ks.hl] at hp1;cases hp1
     refine ⟨_,_,rfl,by rw [aX npl,aX (Ne.symm n1)];exact ks.hl,by rw [length_map];omega,?_⟩
     have kp:=ks.push (.tup (.str k0 :: r0)) hp9
     refine ⟨by omega,hs ++ [Ln.ev],fs ++ [(p9,[])],_,_,_,_,?_,?_,⟨?_,?_,?_⟩,?_,?_,rfl⟩
     ·rw [map_append,map_cons,map_nil,o1,o3'];exact kp
     ·intro x hx
      rcases List.mem_append.mp hx with hx | hx
      ·exact ho x hx
      ·rw [List.mem_singleton.mp hx];trivial
     ·rw [length_append,length_append,length_singleton,length_singleton,hlen]
     ·rw [length_append,length_singleton];omega
     ·intro f hf
      rcases List.mem_append.mp hf with hf | hf
      ·have:=b2 f hf;omega
      ·rw [List.mem_singleton.mp hf];exact Nat.zero_le _
     ·rw [length_append,length_singleton]
      generalize hs.length = k at hv ⊢
      cases k<;>exact hv
     ·rw [map_append];exact hf
  ·have ei:i = (lsS rs).length:=by omega
   subst ei
   rw [getElem?_append_right (by rw [length_map];exact Nat.le_refl _),length_map,Nat.sub_self] at hd
   cases hd
   ac_nf
   refine ⟨rfl,.inr ⟨rfl,fun M2 s2=>?_⟩⟩
   ac_nf
   rw [aL]
   refine ifF (by decide) ?_
   ac_nf
   refine ifF rfl ?_
   exact ⟨rfl,ks.sub.trans s2⟩
 ·rintro ρ M' ⟨il,_⟩
  rw [length_append,length_map,length_singleton] at il
  omega
noncomputable def LS (l:Ln):D:=.str (lnT l)
theorem aBm:∀ xs ys:List Rw,lsS (xs ++ ys) = lsS xs ++ lsS ys
 | [],ys=>by rw [lsS];rfl
 | x :: xs,ys=>by rw [cons_append,lsS,lsS,aBm xs ys,append_assoc]
theorem aE7 {rs:List Rw} {i:Nat} {r:Rw} (h:rs[i]? = some r):lsS (rs.take (i + 1)) = lsS (rs.take i) ++ lsR r:=by
 rw [kF h,aBm,lsS,lsS,append_nil]
theorem aMF {rs:List Rw} {i:Nat} {r:Rw} (h:rs[i]? = some r):∃ ys,lsS rs = lsS (rs.take i) ++ lsR r ++ ys:=by
 refine ⟨lsS (rs.drop (i + 1)),?_⟩
 rw [<- aE7 h,<- aBm,List.take_append_drop]
noncomputable def txt (rs:List Rw):Str:=Builtin.Str.glued (Ty.one 10) ((lsS rs).map lnT)
theorem aOn {p:Pl} (h:plB 100 p):∀ x ∈ nu p,BQ 100 x:=by
 intro x hx
 cases p with
 | go a=>exact List.mem_singleton.mp hx ▸ h
 | skip a=>exact List.mem_singleton.mp hx ▸ h
 | grow a=>exact List.mem_singleton.mp hx ▸ h.1
 | quarter a=>exact List.mem_singleton.mp hx ▸ h.1
 | half a=>exact List.mem_singleton.mp hx ▸ h.1
 | side a b =>
  simp only [nu,mem_cons,not_mem_nil,or_false] at hx
  rcases hx with rfl | rfl
  ·exact h.1
  ·exact h.2
 | arc a b c d =>
  simp only [nu,mem_cons,not_mem_nil,or_false] at hx
  obtain ⟨b1,b2,b3,b4,_⟩:=h
  rcases hx with rfl | rfl | rfl | rfl
  ·exact b1
  ·exact b2
  ·exact b3
  ·exact b4
 | _=>cases hx
structure Gd (rs:List Rw):Prop where
 gw:gwS 690 rs
 dp:∀ r ∈ rs,Dp 4 r
 ve:vES false rs
 va:∃ A,alS (FA A) rs
 lt:ltS rs
 hm:hmS rs<=60
mutual
theorem aOl {A:Nat}:∀ r:Rw,alR (FA A) r->ltR r->∀ l ∈ lsR r,lnV l
 | .pl p,h,_,l,hl=>by
  rw [lsR] at hl
  rw [alR] at h
  rw [List.mem_singleton.mp hl]
  exact fun q hq=>(aOn h.2 q hq).mono (by decide)
 | .ag n ws,h,t,l,hl=>by
  rw [lsR] at hl
  rw [alR] at h
  rw [ltR] at t
  rcases List.mem_cons.mp hl with rfl | hl
  ·exact t.1
  ·rcases List.mem_append.mp hl with hl | hl
   ·exact aFC ws h t.2 l hl
   ·rw [List.mem_singleton.mp hl];trivial
 | .kp ws,h,t,l,hl=>by
  rw [lsR] at hl
  rw [alR] at h
  rw [ltR] at t
  rcases List.mem_cons.mp hl with rfl | hl
  ·trivial
  ·rcases List.mem_append.mp hl with hl | hl
   ·exact aFC ws h t l hl
   ·rw [List.mem_singleton.mp hl];trivial
 | .ev ws,h,t,l,hl=>by
  rw [lsR] at hl
  rw [alR] at h
  rw [ltR] at t
  rcases List.mem_cons.mp hl with rfl | hl
  ·trivial
  ·rcases List.mem_append.mp hl with hl | hl
   ·exact aFC ws h t l hl
   ·rw [List.mem_singleton.mp hl];trivial
theorem aFC {A:Nat}:∀ rs:List Rw,alS (FA A) rs->ltS rs->∀ l ∈ lsS rs,lnV l
 | [],_,_,l,hl=>by rw [lsS] at hl;cases hl
 | r :: rs,h,t,l,hl=>by
  rw [lsS] at hl
  rw [alS] at h
  rw [ltS] at t
  rcases List.mem_append.mp hl with hl | hl
  ·exact aOl r h.1 t.1 l hl
  ·exact aFC rs h.2 t.2 l hl
end
mutual
theorem aIY:∀ r:Rw,(lsR r).length<=2 * hmR r
 | .pl p=>by rw [lsR,hmR];show 1<=2;decide
 | .ag n ws=>by rw [lsR,hmR,length_cons,length_append,length_singleton];have:=qK ws;omega
 | .kp ws=>by rw [lsR,hmR,length_cons,length_append,length_singleton];have:=qK ws;omega
 | .ev ws=>by rw [lsR,hmR,length_cons,length_append,length_singleton];have:=qK ws;omega
theorem qK:∀ rs:List Rw,(lsS rs).length<=2 * hmS rs
 | []=>by rw [lsS,hmS];exact Nat.le_refl _
 | r :: rs=>by rw [lsS,hmS,length_append];have:=aIY r;have:=qK rs;omega
end
theorem Gd.lv {rs:List Rw} (h:Gd rs):∀ l ∈ lsS rs,lnV l:=let ⟨_,a⟩:=h.va;aFC rs a h.lt
theorem Gd.ln {rs:List Rw} (h:Gd rs):(lsS rs).length<=120:=by have:=qK rs;have:=h.hm;omega
theorem Gd.sum {rs:List Rw} (h:Gd rs):(((lsS rs).map lnT).map (·.length)).sum<=60000:=by
 have:=tQ (b:=405) (xs:=(lsS rs).map lnT) fun x hx=>by
  obtain ⟨l,hl,rfl⟩:=List.mem_map.mp hx
  exact aAv (h.lv l hl)
 rw [length_map] at this
 have:=h.ln
 omega
theorem Gd.len {rs:List Rw} (h:Gd rs):(txt rs).length<=70000:=by
 unfold txt
 rw [size_glued]
 have:=h.sum
 have:=h.ln
 rw [length_map]
 show _ + _ * 1<=_
 omega
theorem aJE (ls:List Ln):ls.map LS = (ls.map lnT).map D.str:=by rw [map_map];rfl
theorem aKl (l:Ln):0 < (lnT l).length:=by
 unfold lnT
 rw [size_glued]
 have:∃ x r,lnW l = x :: r/\0 < x.length:=by
  cases l with
  | pl p =>
   refine ⟨_,_,rfl,?_⟩
   have h:∀ x ∈ [("go":Str),"side","skip","dot","left","right","round","mirror","grow","quarter","half","arc"],0 < x.length:=by decide +kernel
   exact h _ (by cases p<;>dsimp only [wd]<;>decide)
  | ag n=>exact ⟨_,_,rfl,by decide +kernel⟩
  | kp=>exact ⟨_,_,rfl,by decide +kernel⟩
  | ev=>exact ⟨_,_,rfl,by decide +kernel⟩
  | en=>exact ⟨_,_,rfl,by decide +kernel⟩
 obtain ⟨x,r,e,h⟩:=this
 rw [e,map_cons,sum_cons]
 omega
theorem aGJ {rs:List Rw} (h:rs ≠ []):(lsS rs).map lnT ≠ []/\txt rs ≠ Str.ofString "":=by
 cases rs with
 | nil=>exact absurd rfl h
 | cons r rs =>
  have:∃ l ls,lsS (r :: rs) = l :: ls:=by
   rw [lsS]
   cases r<;>rw [lsR]<;>exact ⟨_,_,rfl⟩
  obtain ⟨l,ls,e⟩:=this
  refine ⟨by rw [e];simp,fun z=>?_⟩
  have:0 < (txt (r :: rs)).length:=by
   unfold txt
   rw [size_glued,e,map_cons,map_cons,sum_cons]
   have:=aKl l
   omega
  rw [z] at this
  exact absurd this (by decide +kernel)
mutual
def kgR:Rw->Prop
 | .pl p=>p = .left ∨ p = .dot ∨ p = .mirror ∨ p = .right
 | .ag n ws=>n<=5/\kgS ws
 | .kp ws=>kgS ws
 | .ev _=>False
def kgS:List Rw->Prop
 | []=>True
 | r :: rs=>kgR r/\kgS rs
end
mutual
noncomputable def dpR:Rw->Nat
 | .pl _=>0
 | .ag _ ws=>1 + dpL ws
 | .kp ws=>1 + dpL ws
 | .ev ws=>1 + dpL ws
noncomputable def dpL:List Rw->Nat
 | []=>0
 | r :: rs=>max (dpR r) (dpL rs)
end
theorem xH:∀ {xs ys:List Rw},kgS xs->kgS ys->kgS (xs ++ ys)
 | [],ys,_,h=>h
 | x :: xs,ys,h1,h2=>by
  rw [kgS] at h1
  rw [cons_append,kgS]
  exact ⟨h1.1,xH h1.2 h2⟩
theorem lP:∀ (xs ys:List Rw),dpL (xs ++ ys) = max (dpL xs) (dpL ys)
 | [],ys=>by rw [nil_append,dpL];omega
 | x :: xs,ys=>by rw [cons_append,dpL,dpL,lP xs ys];omega
theorem aAP:∀ {rs:List Rw} {r:Rw},kgS rs->r ∈ rs->kgR r
 | x :: xs,r,h,m=>by
  rw [kgS] at h
  rcases List.mem_cons.mp m with rfl | z
  ·exact h.1
  ·exact aAP h.2 z
theorem aMY {p:Pl} (h:kgR (.pl p)):nu p = []:=by
 rw [kgR] at h
 rcases h with rfl | rfl | rfl | rfl<;>rfl
theorem aNi {p:Pl} (h:kgR (.pl p)):plV p:=by
 rw [kgR] at h
 rcases h with rfl | rfl | rfl | rfl<;>exact ⟨trivial,fun a e=>by cases e⟩
mutual
theorem aJW:∀ r:Rw,kgR r->∀ l ∈ lsR r,lnV l
 | .pl p,h,l,hl=>by
  rw [lsR] at hl
  rw [List.mem_singleton.mp hl]
  show ∀ x ∈ nu p,_
  rw [aMY h]
  exact fun x hx=>by cases hx
 | .ag n ws,h,l,hl=>by
  rw [kgR] at h
  rw [lsR] at hl
  rcases List.mem_cons.mp hl with rfl | hl
  ·show n<=12
   omega
  ·rcases List.mem_append.mp hl with hl | hl
   ·exact qZ ws h.2 l hl
   ·rw [List.mem_singleton.mp hl];trivial
 | .kp ws,h,l,hl=>by
  rw [kgR] at h
  rw [lsR] at hl
  rcases List.mem_cons.mp hl with rfl | hl
  ·trivial
  ·rcases List.mem_append.mp hl with hl | hl
   ·exact qZ ws h l hl
   ·rw [List.mem_singleton.mp hl];trivial
 | .ev ws,h,l,hl=>by rw [kgR] at h;exact h.elim
theorem qZ:∀ rs:List Rw,kgS rs->∀ l ∈ lsS rs,lnV l
 | [],_,l,hl=>by rw [lsS] at hl;cases hl
 | r :: rs,h,l,hl=>by
  rw [kgS] at h
  rw [lsS] at hl
  rcases List.mem_append.mp hl with hl | hl
  ·exact aJW r h.1 l hl
  ·exact qZ rs h.2 l hl
end
mutual
theorem aLi:∀ r:Rw,kgR r->vaT (ofR r)/\boR (ofR r)
 | .pl p,h=>by rw [ofR,vaT,boR];exact ⟨aNi h,trivial⟩
 | .ag n ws,h=>by
  rw [kgR] at h
  obtain ⟨a,b⟩:=rM ws h.2
  rw [ofR,vaT,boR]
  exact ⟨⟨by omega,a⟩,b⟩
 | .kp ws,h=>by
  rw [kgR] at h
  obtain ⟨a,b⟩:=rM ws h
  rw [ofR,vaT,boR]
  exact ⟨a,b⟩
 | .ev ws,h=>by rw [kgR] at h;exact h.elim
theorem rM:∀ rs:List Rw,kgS rs->lH (ofS rs)/\boS (ofS rs)
 | [],_=>by rw [ofS,lH,boS];exact ⟨trivial,trivial⟩
 | r :: rs,h=>by
  rw [kgS] at h
  obtain ⟨a,b⟩:=aLi r h.1
  obtain ⟨c,d⟩:=rM rs h.2
  rw [ofS,lH,boS]
  exact ⟨⟨a,c⟩,b,d⟩
end
theorem aDC {r:Th} {ar:List Str} (h:isE r = false) (l:ar.length < 4):oH r ar = true:=by
 unfold oH
 rw [h,decide_eq_true l];rfl
mutual
theorem aJv:∀ (r:Rw) (a:Int) (ar:List Str),kgR r->ar.length + dpR r<=4->lkR (ofR r) a ar = .inl (a + ((lsR r).length:Int))
 | .pl p,a,ar,h,l=>by rw [ofR,lkR,lsR];rfl
 | .ag n ws,a,ar,h,l=>by
  rw [kgR] at h
  rw [dpR] at l
  rw [ofR,lkR]
  unfold lkB
  rw [if_pos (aDC rfl (by omega)),aAI ws (a + 1) (ar ++ [("again":Str)]) h.2 (by rw [length_append,length_singleton];omega),lsR]
  show (if (isE (.ag n (ofS ws)) && _) = true then _ else _) = _
  rw [show isE (.ag n (ofS ws)) = false from rfl,Bool.false_and,if_neg (by decide),length_cons,length_append,length_singleton]
  congr 1;omega
 | .kp ws,a,ar,h,l=>by
  rw [kgR] at h
  rw [dpR] at l
  rw [ofR,lkR]
  unfold lkB
  rw [if_pos (aDC rfl (by omega)),aAI ws (a + 1) (ar ++ [("keep":Str)]) h (by rw [length_append,length_singleton];omega),lsR]
  show (if (isE (.kp (ofS ws)) && _) = true then _ else _) = _
  rw [show isE (.kp (ofS ws)) = false from rfl,Bool.false_and,if_neg (by decide),length_cons,length_append,length_singleton]
  congr 1;omega
 | .ev ws,a,ar,h,l=>by rw [kgR] at h;exact h.elim
theorem aAI:∀ (rs:List Rw) (a:Int) (ar:List Str),kgS rs->ar.length + dpL rs<=4->lkS (ofS rs) a ar = .inl (a + ((lsS rs).length:Int))
 | [],a,ar,_,_=>by rw [ofS,lkS,lsS];congr 1;show a = a + ((0:Nat):Int);omega
 | r :: rs,a,ar,h,l=>by
  rw [kgS] at h
  rw [dpL] at l
  rw [ofS,lkS,aJv r a ar h.1 (by omega)]
  show lkS (ofS rs) _ ar = _
  rw [aAI rs _ ar h.2 (by omega),lsS,length_append]
  congr 1;omega
end
mutual
theorem aLM:∀ (r:Rw) (d:Nat),kgR r->hmR r<=1000->dpR r<=d->Dp d r
 | .pl p,d,_,_,_=>by cases d<;>trivial
 | .ag n ws,d,h,m,l=>by
  rw [kgR] at h;rw [hmR] at m;rw [dpR] at l
  cases d with
  | zero=>omega
  | succ d=>exact ⟨by omega,by have:=lW ws;omega,aBl ws d h.2 (by omega) (by omega)⟩
 | .kp ws,d,h,m,l=>by
  rw [kgR] at h;rw [hmR] at m;rw [dpR] at l
  cases d with
  | zero=>omega
  | succ d=>exact ⟨by have:=lW ws;omega,aBl ws d h (by omega) (by omega)⟩
 | .ev ws,d,h,_,_=>by rw [kgR] at h;exact h.elim
theorem aBl:∀ (rs:List Rw) (d:Nat),kgS rs->hmS rs<=1000->dpL rs<=d->∀ r ∈ rs,Dp d r
 | [],_,_,_,_,r,m=>by cases m
 | r :: rs,d,h,m,l,x,hx=>by
  rw [kgS] at h;rw [hmS] at m;rw [dpL] at l
  rcases List.mem_cons.mp hx with e | hx
  ·rw [e];exact aLM r d h.1 (by omega) (by omega)
  ·exact aBl rs d h.2 (by omega) (by omega) x hx
end
theorem aEP {rs:List Rw} (h:kgS rs) (m:hmS rs<=1000) (d:Nat) (l:dpL rs<=d):DpS (d + 1) rs:=⟨by have:=lW rs;omega,aBl rs d h m l⟩
structure Kg (rs:List Rw):Prop where
 kg:kgS rs
 dp:dpL rs<=4
 hm:hmS rs<=80
theorem Kg.d8 {rs:List Rw} (h:Kg rs):DpS 8 rs:=aEP h.kg (by have:=h.hm;omega) 7 (by have:=h.dp;omega)
theorem Kg.lk {rs:List Rw} (h:Kg rs):lkS (ofS rs) 0 [] = .inl ((lsS rs).length:Int):=by
 rw [aAI rs 0 [] h.kg (by show 0 + _<=4;have:=h.dp;omega)]
 congr 1;omega
theorem Kg.ln {rs:List Rw} (h:Kg rs):(lsS rs).length<=160:=by have:=qK rs;have:=h.hm;omega
theorem Kg.sum {rs:List Rw} (h:Kg rs):(((lsS rs).map lnT).map (·.length)).sum<=70000:=by
 have:=tQ (b:=405) (xs:=(lsS rs).map lnT) fun x hx=>by
  obtain ⟨l,hl,rfl⟩:=List.mem_map.mp hx
  exact aAv (qZ rs h.kg l hl)
 rw [length_map] at this
 have:=h.ln
 omega
theorem Kg.len {rs:List Rw} (h:Kg rs):(txt rs).length<=80000:=by
 unfold txt
 rw [size_glued]
 have:=h.sum
 have:=h.ln
 rw [length_map]
 show _ + _ * 1<=_
 omega
noncomputable def aEC (rs:List Rw):Str:=Builtin.Str.glued (Ty.one 10) ((lsS rs).map lnT ++ [("forth":Str)])
theorem Kg.lenF {rs:List Rw} (h:Kg rs):(aEC rs).length<=80000:=by
 unfold aEC
 rw [size_glued]
 have:=h.sum
 have:=h.ln
 rw [map_append,sum_append,length_append,length_map]
 show _ + 5 + _ * 1<=_
 show _ + 5 + (_ + 1 - 1) * 1<=_
 omega
theorem aH0 (rs:List Rw):aEC rs ≠ Str.ofString "":=fun z=>by
 have:5<=(aEC rs).length:=by
  unfold aEC
  rw [size_glued,map_append,sum_append]
  show 5<=_ + 5 + _
  omega
 rw [z] at this
 exact absurd this (by decide +kernel)
def aFt:List D->DM->Prop:=fun ds M=>∃ rs:List Rw,ds = [.tup (bI rs)]/\Kg rs/\60 < hmS rs
theorem wV {C_TooMuch:Addr} (hF:cK K mg "program_of" iW ["rows"]) (cA:Has P w K mg base 128 "look_at_rows" ["rows","number","around"] (wG 8)) (kX:aM0 P w K mg base 119 "not_too_long" ["program"] C_TooMuch aI4):gY P w K mg base 129 "program_of" ["rows"] C_TooMuch aFt:=by
 refine gY.mkP hF mG (fun ds M ⟨_,z,_⟩=>by rw [z];rfl) fun f cdv A outer s H ds M E hr h hPO=>?_
 refine ⟨_,(aF (dL (aG cA hr (by decide) (aA (aB 0) (aA aD (aA (aM aC) aC)))))
  (aE (aK (zR kX hr (by decide) hPO (aA (aB 0) aC))))),?_⟩
 obtain ⟨rs,rfl,kg,hm⟩:=h
 obtain ⟨va,bo⟩:=rM rs kg.kg
 ac_nf
 refine ⟨by decide,ofS rs,0,[],by rw [zK];rfl,⟨by rw [kM];exact kg.d8,by decide⟩,⟨va,bo⟩,_,kg.lk,?_⟩
 exact ⟨⟨rs,rfl,kg.d8,hm⟩,fun M' h=>h⟩
def aDH:DSp:=fun ds M Q=>∃ rs:List Rw,ds = [.str (txt rs)]/\Kg rs/\rs ≠ []/\hmS rs<=60/\∀ M',bB M M'->Q (.tup (bI rs)) M'
noncomputable abbrev yI:Stmt:=top 71
theorem aAK:aS ["text"] ["text"] (aI yI):=⟨rfl,rfl,rfl,by decide +kernel,rfl,by decide +kernel,by decide +kernel⟩
theorem aFl (hF:cK K mg "read" yI ["text"]) (gR:Has P w K mg base 105 "rows_of" ["lines"] nO) (cY:Has P w K mg base 129 "program_of" ["rows"] jJ):Has P w K mg base 130 "read" ["text"] aDH:=by
 refine Has.mkZ hF aAK (fun ds M Q ⟨_,z,_⟩=>by rw [z];rfl) fun f cdv A outer s H ds M Q E hr h=>?_
 obtain ⟨rs,rfl,kg,ne,hm,q⟩:=h
 refine ⟨_,(aE (aK (aG cY hr (by decide) (aA (dF (aP (iO hr) (aB 0) aO) (aG gR hr (by decide) (aA (kK (aB 0) aO) aC)) (aM aC)) aC)))),?_⟩
 have ll:=kg.len
 have ln:=kg.ln
 obtain ⟨t1,t2⟩:=aGJ ne
 ac_nf
 rw [aL]
 refine ifT (by rw [decide_eq_false t2];rfl) ⟨10,(lsS rs).map lnT,s10,rfl,t1,fun s hs=>?_,by decide,by omega,fun p hp=>?_⟩
 ·obtain ⟨l,_,rfl⟩:=List.mem_map.mp hs
  exact aAs l
 ·ac_nf
  refine ⟨p,rs,rfl,by rw [aH,map_map];rfl,qZ rs kg.kg,by omega,fun M' sb=>?_⟩
  refine ⟨ofS rs,by rw [zK],by rw [kM];exact kg.d8,rM rs kg.kg,by rw [kM];exact hm,⟨_,kg.lk⟩,?_⟩
  rw [zK]
  exact bJ (q _ ((bB.new hp _).trans sb))
def aI9:List D->DM->Prop:=fun ds M=>∃ rs:List Rw,ds = [.str (txt rs)]/\Kg rs/\60 < hmS rs
theorem aG5 {C_TooMuch:Addr} (hF:cK K mg "read" yI ["text"]) (gR:Has P w K mg base 105 "rows_of" ["lines"] nO) (w_program_of:gY P w K mg base 129 "program_of" ["rows"] C_TooMuch aFt):gY P w K mg base 130 "read" ["text"] C_TooMuch aI9:=by
 have jB:=w_program_of
 refine gY.mkP hF aAK (fun ds M ⟨_,z,_⟩=>by rw [z];rfl) fun f cdv A outer s H ds M E hr h hPO=>?_
 refine ⟨_,(aE (aK (zR jB hr (by decide) hPO (aA (dF (aP (iO hr) (aB 0) aO) (aG gR hr (by decide) (aA (kK (aB 0) aO) aC)) (aM aC)) aC)))),?_⟩
 obtain ⟨rs,rfl,kg,hm⟩:=h
 have ll:=kg.len
 have ln:=kg.ln
 obtain ⟨t1,t2⟩:=aGJ (rs:=rs) (fun z=>by subst z;rw [hmS] at hm;omega)
 ac_nf
 rw [aL]
 refine ifT (by rw [decide_eq_false t2];rfl) ⟨10,(lsS rs).map lnT,s10,rfl,t1,fun s hs=>?_,by decide,by omega,fun p hp=>?_⟩
 ·obtain ⟨l,_,rfl⟩:=List.mem_map.mp hs
  exact aAs l
 ·ac_nf
  refine ⟨p,rs,rfl,by rw [aH,map_map];rfl,qZ rs kg.kg,by omega,fun M' sb=>?_⟩
  exact ⟨⟨rs,rfl,kg,hm⟩,fun M2 h=>((bB.new hp _).trans sb).trans h⟩
def aJp:List D->DM->Int->Prop:=fun ds M i=>∃ rs:List Rw,ds = [.str (aEC rs)]/\Kg rs/\i = ((lsS rs).length:Int)
theorem aGw {C_NoText:Addr} (hF:cK K mg "read" yI ["text"]) (gL:lY P w K mg base "NoText" C_NoText "line") (tW:fE P w K mg base 105 "rows_of" ["lines"] C_NoText "line" aJn) (gR:Has P w K mg base 105 "rows_of" ["lines"] nO) (cY:Has P w K mg base 129 "program_of" ["rows"] jJ):fE P w K mg base 130 "read" ["text"] C_NoText "line" aJp:=by
 refine fE.mkZ hF gL aAK (fun ds M i ⟨_,z,_⟩=>by rw [z];rfl) fun f cdv A outer s H ds M iw E hr h hRO hPO=>?_
 obtain ⟨rs,rfl,kg,rfl⟩:=h
 refine ⟨_,(aE (aBg (aK (aG cY hr (by decide) (aA (dF (aP (iO hr) (aB 0) aO) (uL tW hr (by decide) hPO (aA (kK (aB 0) aO) aC)) (aM aC)) aC)))
  (aK (aG cY hr (by decide) (aA (dF (aP (iO hr) (aB 0) aO) (aG gR hr (by decide) (aA (kK (aB 0) aO) aC)) (aM aC)) aC))))),?_⟩
 have ll:=kg.lenF
 have ln:=kg.ln
 ac_nf
 refine .inl ?_
 rw [aL]
 refine ifT (by rw [decide_eq_false (aH0 rs)];rfl) ⟨10,(lsS rs).map lnT ++ [("forth":Str)],s10,rfl,by simp,fun s hs=>?_,by decide,by omega,fun p hp=>?_⟩
 ·rcases List.mem_append.mp hs with hs | hs
  ·obtain ⟨l,_,rfl⟩:=List.mem_map.mp hs
   exact aAs l
  ·rw [List.mem_singleton.mp hs];decide +kernel
 ·ac_nf
  exact ⟨_,⟨p,rs,rfl,by rw [aH,map_append,map_map];rfl,qZ rs kg.kg,by omega,rfl⟩,fun M' sb=>⟨rfl,(bB.new hp _).trans sb⟩⟩
theorem aE8:∀ {rs:List Rw} {m:Int},0<=m->(∀ r ∈ rs,(dpR r:Int)<=m)->(dpL rs:Int)<=m
 | [],m,h,_=>by rw [dpL];exact h
 | r :: rs,m,h,a=>by
  have h1:=a r (mem_cons_self ..)
  have h2:=aE8 h fun x hx=>a x (mem_cons_of_mem _ hx)
  rw [dpL];omega
theorem aCn {rs:List Rw} {i:Nat} {r x:Rw} (h:rs[i]? = some r) (m:x ∈ rs.take (i + 1)):x ∈ rs.take i ∨ x = r:=by
 rw [kF h] at m
 rcases List.mem_append.mp m with m | m
 ·exact .inl m
 ·exact .inr (List.mem_singleton.mp m)
def pI (d:Nat):DSp:=fun ds M Q=>∃ rs,ds = [.tup (bI rs)]/\DpS d rs/\kgS rs/\∀ n:Int,(dpL rs:Int)<=n->Q (.int n) M
noncomputable abbrev nV:Stmt:=top 80
theorem vH:aS ["_law_rows_here"] ["_law_rows_here"] (aI nV):=⟨rfl,rfl,rfl,by decide +kernel,rfl,by decide +kernel,by decide +kernel⟩
theorem aAp (hF:cK K mg "_law_deep" nV ["_law_rows_here"]) (aEQ:mg "max" = none):Has P w K mg base 122 "_law_deep" ["_law_rows_here"] (pI 12):=by
 have all:∀ d,Has P w K mg base (110 + d) "_law_deep" ["_law_rows_here"] (pI d):=fun d=>by
  induction d with
  | zero=>exact (Has.never hF vH 109).imp fun ds M Q ⟨rs,_,z,_⟩=>z
  | succ d kR =>
   refine Has.mkZ (k:=110 + d) hF vH (fun ds M Q ⟨_,z,_⟩=>by rw [z];rfl) fun f cdv A outer s H ds M Q E hr h=>?_
   obtain ⟨rs,rfl,dp,kg,q⟩:=h
   refine ⟨_,(aE (aK (aGi rfl aEQ (aFf (⟨rfl,by decide +kernel,by decide +kernel,by decide +kernel,rfl,by decide +kernel⟩:nB ["_law_rows_here"] (aI nV) ["_law_row_here"] [none] _) rfl (aB 0) (fun _ _ _ _ _=>(aZ (i:=0) (show Nodup (["_law_row_here"]:List Str) by decide +kernel))) (fun _ _ _ _ _=>(aP aGt (aJ (aB 0) aD) (bX (aA aO (aA aO aC))) rfl)) (fun _ _ _ _ _=>(aQ eU aD (aG kR hr (by omega) (aA (aJ (aB 0) (eR aD)) aC))))) aD))),?_⟩
   ac_nf
   refine ⟨by rw [cP];exact dp.1,fun i ys M'=>bB M M'/\∃ ns:List Int,ys = ns.map D.int/\(∀ n ∈ ns,0<=n)/\∀ r ∈ rs.take i,dpR r = 0 ∨ ∃ n ∈ ns,(dpR r:Int)<=n,⟨.refl _,[],rfl,(fun n hn=>by cases hn),fun r hr=>by rw [take_zero] at hr;cases hr⟩,fun i ys M' _ _ a e=>(by cases e),?_,?_⟩
   ·rintro i d1 ys M1 hd ⟨sub,ns,rfl,pos,cov⟩
    obtain ⟨r,hr',rfl⟩:=kS hd
    have dr:=dp.2 r (mem_of_getElem? hr')
    have kr:=aAP kg (mem_of_getElem? hr')
    have nxt:∀ (ws:List Rw) (n:Int),dpR r = 1 + dpL ws->(dpL ws:Int)<=n->(∀ m ∈ ns ++ [1 + n],0<=m)/\∀ x ∈ rs.take (i + 1),dpR x = 0 ∨ ∃ m ∈ ns ++ [1 + n],(dpR x:Int)<=m:=fun ws n e h=>by
     refine ⟨fun m hm=>?_,fun x hx=>?_⟩
     ·rcases List.mem_append.mp hm with hm | hm
      ·exact pos m hm
      ·rw [List.mem_singleton.mp hm];omega
     ·rcases aCn hr' hx with hx | rfl
      ·exact (cov x hx).imp id fun ⟨m,hm,l⟩=>⟨m,mem_append_left _ hm,l⟩
      ·exact .inr ⟨1 + n,by simp,by omega⟩
    ac_nf
    cases r with
    | pl x =>
     obtain ⟨w0,dD,e,wb⟩:=aDE x
     dsimp only [rwD]
     rw [e]
     ac_nf
     rw [tL]
     ac_nf
     refine ⟨by decide,fun a ha=>⟨["keep","again"],aH,ifF (by simp [wb.1.symm,wb.2.1.symm]) ⟨sub.trans (bB.new ha _),ns,rfl,pos,fun y hy=>?_⟩⟩⟩
     rcases aCn hr' hy with hy | rfl
     ·exact cov y hy
     ·exact .inl (by rw [dpR])
    | ag n ws =>
     have dw:=(qS dr).2
     rw [kgR] at kr
     dsimp only [rwD]
     ac_nf
     refine ⟨by decide,fun a ha=>⟨["keep","again"],aH,ifT (by decide) ⟨ws,rfl,dw,kr.2,fun n hn=>?_⟩⟩⟩
     obtain ⟨p1,p2⟩:=nxt ws n (by rw [dpR]) hn
     exact ⟨sub.trans (bB.new ha _),ns ++ [1 + n],by rw [map_append];rfl,p1,p2⟩
    | kp ws =>
     have dw:=sK dr
     rw [kgR] at kr
     dsimp only [rwD]
     ac_nf
     refine ⟨by decide,fun a ha=>⟨["keep","again"],aH,ifT (by decide) ⟨ws,rfl,dw,kr,fun n hn=>?_⟩⟩⟩
     obtain ⟨p1,p2⟩:=nxt ws n (by rw [dpR]) hn
     exact ⟨sub.trans (bB.new ha _),ns ++ [1 + n],by rw [map_append];rfl,p1,p2⟩
    | ev ws=>rw [kgR] at kr;exact kr.elim
   ·rintro ys M1 _ ⟨sub,ns,rfl,pos,cov⟩ p hp
    rw [cP,take_length] at cov
    refine ⟨ns,aH,fun m e0 mx=>⟨M,sub.trans (bB.new hp _),q m ?_⟩⟩
    have m0:0<=m:=by
     cases ns with
     | nil=>rw [e0 rfl];exact Int.le_refl _
     | cons n ns=>have h1:=pos n (mem_cons_self ..);have h2:=mx n (mem_cons_self ..);omega
    refine aE8 m0 fun r hr=>?_
    rcases cov r hr with z | ⟨n,hn,l⟩
    ·rw [z];exact m0
    ·have:=mx n hn;omega
 exact all 12
def kZ (d:Nat):DSp:=fun ds M Q=>∃ rs,ds = [.tup (bI rs)]/\DpS d rs/\kgS rs/\Q (.int ((lsS rs).length:Int)) M
noncomputable abbrev mF:Stmt:=top 81
theorem eV:aS ["_law_rows_here","_law_many","_law_row_here"] ["_law_rows_here"] (aI mF):=⟨rfl,rfl,rfl,by decide +kernel,rfl,by decide +kernel,by decide +kernel⟩
theorem vO (hF:cK K mg "_law_numbers" mF ["_law_rows_here"]):Has P w K mg base 118 "_law_numbers" ["_law_rows_here"] (kZ 8):=by
 have all:∀ d,Has P w K mg base (110 + d) "_law_numbers" ["_law_rows_here"] (kZ d):=fun d=>by
  induction d with
  | zero=>exact (Has.never hF eV 109).imp fun ds M Q ⟨rs,_,z,_⟩=>z
  | succ d fX =>
   refine Has.mkZ (k:=110 + d) hF eV (fun ds M Q ⟨a,z,_⟩=>by rw [z];rfl) fun f cdv A outer s H ds M Q E hr h=>?_
   obtain ⟨rs,rfl,dp,kg,q⟩:=h
   refine ⟨_,(aF (aN (i:=1) eV.nd aD)
  (aF (jS PassesOwn.never rfl (aB 0) (aZ (i:=2) eV.nd) (aF (aN (i:=1) eV.nd (aQ eU (aB 1) aD))
  (aE (bA (aP aGt (aJ (aB 2) aD) (bX (aA aO (aA aO aC))) rfl) (aE (aN (i:=1) eV.nd (aQ eU (aQ eU (aB 1) aD) (aG fX hr (by omega) (aA (aJ (aB 2) (eR aD)) aC))))) aY))))
  (aE (aK (aB 1))))),?_⟩
   ac_nf
   refine ⟨fun i ρ M'=>bB M M'/\∃ o2,ρ = [some (.tup (bI rs)),some (.int ((lsS (rs.take i)).length:Int)),o2],⟨.refl _,_,by rw [take_zero,lsS];rfl⟩,fun i ρ M' _ _ a e=>(by cases e),?_,?_⟩
   ·rintro i d1 ρ M1 hd ⟨sub,o2,rfl⟩
    obtain ⟨r,hr',rfl⟩:=kS hd
    have dr:=dp.2 r (mem_of_getElem? hr')
    have kr:=aAP kg (mem_of_getElem? hr')
    have fin:(lsS (rs.take (i + 1))).length = (lsS (rs.take i)).length + (lsR r).length:=by rw [aE7 hr',length_append]
    ac_nf
    rw [fin]
    cases r with
    | pl x =>
     obtain ⟨w0,dD,e,wb⟩:=aDE x
     dsimp only [rwD]
     rw [e]
     ac_nf
     rw [tL]
     ac_nf
     refine ⟨by decide,fun a ha=>⟨["keep","again"],aH,ifF (by simp [wb.1.symm,wb.2.1.symm]) ?_⟩⟩
     exact ⟨sub.trans (bB.new ha _),_,by rw [lsR];rfl⟩
    | ag n ws =>
     have dw:=(qS dr).2
     rw [kgR] at kr
     dsimp only [rwD]
     ac_nf
     refine ⟨by decide,fun a ha=>⟨["keep","again"],aH,ifT (by decide) ⟨ws,rfl,dw,kr.2,?_⟩⟩⟩
     ac_nf
     rw [lsR,length_cons,length_append,length_singleton,show ((lsS (rs.take i)).length:Int) + 1 + 1 + ((lsS ws).length:Int) = (((lsS (rs.take i)).length + ((lsS ws).length + 1 + 1):Nat):Int) by omega]
     exact ⟨sub.trans (bB.new ha _),_,rfl⟩
    | kp ws =>
     have dw:=sK dr
     rw [kgR] at kr
     dsimp only [rwD]
     ac_nf
     refine ⟨by decide,fun a ha=>⟨["keep","again"],aH,ifT (by decide) ⟨ws,rfl,dw,kr,?_⟩⟩⟩
     ac_nf
     rw [lsR,length_cons,length_append,length_singleton,show ((lsS (rs.take i)).length:Int) + 1 + 1 + ((lsS ws).length:Int) = (((lsS (rs.take i)).length + ((lsS ws).length + 1 + 1):Nat):Int) by omega]
     exact ⟨sub.trans (bB.new ha _),_,rfl⟩
    | ev ws=>rw [kgR] at kr;exact kr.elim
   ·rintro ρ M' ⟨sub,o2,rfl⟩
    rw [cP,take_length]
    exact ⟨M,sub,q⟩
 exact all 8
theorem sL (xs ys:List Rw):bI (xs ++ ys) = bI xs ++ bI ys:=by rw [fN,fN,fN,map_append]
noncomputable def iC (n:Nat):List Rw:=replicate n (.pl .right)
theorem aGk (n:Nat):bI (iC n) = replicate n (.tup [.str "right"]):=by
 rw [fN];unfold iC;rw [List.map_replicate,rwD];rfl
theorem zL:∀ n,kgS (iC n)/\hmS (iC n) = n/\dpL (iC n) = 0
 | 0=>by unfold iC;rw [List.replicate_zero,kgS,hmS,dpL];exact ⟨trivial,rfl,rfl⟩
 | n + 1=>by
  obtain ⟨a,b,c⟩:=zL n
  unfold iC at *
  rw [List.replicate_succ,kgS,hmS,dpL,kgR,hmR,dpR,c]
  exact ⟨⟨.inr (.inr (.inr rfl)),a⟩,by omega,rfl⟩
theorem aDZ {zs:List Int} (hz:zs.length = 8) {k:Int} (h0:0<=k) (h8:k < 8):∃ z,atI (zs.map D.int) k = some (.int z):=by
 have hl:k.toNat < zs.length:=by omega
 refine ⟨zs[k.toNat],?_⟩
 unfold atI ixN
 rw [if_pos h0,length_map,if_pos (by omega)]
 show (zs.map D.int)[k.toNat]? = _
 rw [getElem?_map,List.getElem?_eq_getElem hl];rfl
theorem aCp {x n:Int} (h:0 < n):0<=x.fmod n/\x.fmod n < n:=⟨by rw [Int.fmod_eq_emod_of_nonneg _ (by omega)];exact Int.emod_nonneg _ (by omega),Int.fmod_lt_of_pos x h⟩
theorem aNj (n k:Nat):(n:Int).fmod (k:Int) = ((n % k:Nat):Int):=by
 rw [Int.fmod_eq_emod_of_nonneg _ (Int.natCast_nonneg k)];rfl
theorem aM8 (n:Nat):∃ p:Pl,kgR (.pl p)/\atI [D.str "left",D.str "dot",D.str "mirror"] ((n:Int).fmod 3) = some (.str (wd p))/\rwD (.pl p) = .tup [.str (wd p)]:=by
 have e:(n:Int).fmod 3 = ((n % 3:Nat):Int):=aNj n 3
 have h:n % 3 = 0 ∨ n % 3 = 1 ∨ n % 3 = 2:=by omega
 rw [e]
 rcases h with h | h | h<;>rw [h]
 ·exact ⟨.left,by rw [kgR];exact .inl rfl,rfl,by rw [rwD];rfl⟩
 ·exact ⟨.dot,by rw [kgR];exact .inr (.inl rfl),rfl,by rw [rwD];rfl⟩
 ·exact ⟨.mirror,by rw [kgR];exact .inr (.inr (.inl rfl)),rfl,by rw [rwD];rfl⟩
theorem uN {n:Nat} {k:Str} {M:DM} {Q:DQ} (h:n<=1000) (q:∀ p:Addr,M (.l p) = none->Q (.ref p) (bG M p (replicate n (.tup [.str k])))):aFX 0 n [none] (gN 0) (aIt (iN (dC (.str k)) lG)) M Q:=by
 refine ⟨h,fun i ys M'=>M' = M/\ys = replicate i (.tup [.str k]),⟨rfl,rfl⟩,?_,?_⟩
 ·rintro i ys M' _ ⟨rfl,rfl⟩
  ac_nf
  exact ⟨by decide,rfl,by rw [List.replicate_succ']⟩
 ·rintro ys M' _ ⟨rfl,rfl⟩ p hp
  exact q p hp
theorem aOv (z:Int) (deep:Nat):∃ (hs:List D) (b:List Rw->Rw),atI [D.tup [.str "keep"],.tup [.str "again",.int (z.fmod 2)],.tup [.str "keep"]] ((deep:Int).fmod 3) = some (.tup hs)/\hs.length<=2/\∀ ws,(kgS ws->kgR (b ws))/\rwD (b ws) = .tup (hs ++ [.tup (bI ws)])/\hmR (b ws) = 1 + hmS ws/\dpR (b ws) = 1 + dpL ws:=by
 have e:(deep:Int).fmod 3 = ((deep % 3:Nat):Int):=aNj deep 3
 have h:deep % 3 = 0 ∨ deep % 3 = 1 ∨ deep % 3 = 2:=by omega
 rw [e]
 rcases h with h | h | h<;>rw [h]
 ·exact ⟨[.str "keep"],.kp,rfl,by decide,fun ws=>⟨fun k=>by rw [kgR];exact k,by rw [rwD];rfl,by rw [hmR],by rw [dpR]⟩⟩
 ·obtain ⟨z0,z1⟩:=aCp (x:=z) (n:=2) (by decide)
  refine ⟨[.str "again",.int (z.fmod 2)],(Rw.ag (z.fmod 2).toNat ·),rfl,Nat.le_refl 2,fun ws=>⟨fun k=>by rw [kgR];exact ⟨by omega,k⟩,?_,by rw [hmR],by rw [dpR]⟩⟩
  rw [rwD,show (((z.fmod 2).toNat:Nat):Int) = z.fmod 2 by omega];rfl
 ·exact ⟨[.str "keep"],.kp,rfl,by decide,fun ws=>⟨fun k=>by rw [kgR];exact k,by rw [rwD];rfl,by rw [hmR],by rw [dpR]⟩⟩
def vD:DSp:=fun ds M Q=>∃ (m:Nat) (pr:Addr) (zs:List Int),ds = [.int (m:Int),.ref pr]/\M pr = some (zs.map D.int)/\zs.length = 8/\m<=80/\∀ rs M',bB M M'->kgS rs->hmS rs = m->dpL rs<=9->Q (.tup (bI rs)) M'
noncomputable abbrev nZ:Stmt:=top 79
theorem cS:aS ["_law_many","_law_row_here","_law_rows_here","_law_left","_law_deep_here","_law_inner","_law_block","_law_own"] ["_law_many","_law_row_here"] (aI nZ):=⟨rfl,rfl,rfl,by decide +kernel,rfl,by decide +kernel,by decide +kernel⟩
theorem aBk (hF:cK K mg "_law_rows" nZ ["_law_many","_law_row_here"]) (aFJ:mg "min" = none) (jL:mg "range" = none) (cH:mg "tuple" = none):Has P w K mg base 101 "_law_rows" ["_law_many","_law_row_here"] vD:=by
 refine Has.mkZ hF cS (fun ds M Q ⟨_,_,_,z,_⟩=>by rw [z];rfl) fun f cdv A outer s H ds M Q E hr h=>?_
 obtain ⟨m,pr,zs,rfl,hp,hz,hm,q⟩:=h
 refine ⟨_,(aF (aN (i:=2) cS.nd (aM aC))
  (aF (aN (i:=3) cS.nd (aB 0))
  (aF (aN (i:=4) cS.nd aD)
  (aF (tM PassesOwn.never (aP lV (aB 3) aD) (aF (aN (i:=5) cS.nd (cO (aK7 rfl) aFJ (aA (aQ pE (aB 3) aD) (aA (aQ eU aD (aQ fZ (aJ (aB 1) (aQ fZ (aB 4) aD)) aD)) aC))))
  (kT (bA (eF (dU (aP (cT hr) (aQ fZ (aJ (aB 1) aD) aD) aD) (dU (aP wO (aB 5) aD) (dS (aP lV (aB 4) aD))))) (aF (aN (i:=2) cS.nd (aQ fJ (aB 2) (aM (aA (aM (aA (aJ (bX (aA aO (aA aO (aA aO aC)))) (aQ fZ (aB 3) aD)) aC)) aC))))
  (aE (aN (i:=3) cS.nd (aQ pE (aB 3) aD)))) (aF (aN (i:=6) cS.nd (aJ (bX (aA (aM (aA aO aC)) (aA (aM (aA aO (aA (aQ fZ (aJ (aB 1) (aQ fZ (aB 4) aD)) aD) aC))) (aA (aM (aA aO aC)) aC)))) (aQ fZ (aB 4) aD)))
  (aF (aN (i:=7) cS.nd (dJ iP cH (aA (aAO (⟨rfl,by decide +kernel,by decide +kernel,by decide +kernel,rfl,by decide +kernel⟩:nB ["_law_many","_law_row_here","_law_rows_here","_law_left","_law_deep_here","_law_inner","_law_block","_law_own"] (aI nZ) ["_law_k"] [none] _) rfl jL (aA (aB 5) aC) (fun _ _ _ _ _=>(aZ (i:=0) (show Nodup (["_law_k"]:List Str) by decide +kernel))) (fun _ _ _ _ _=>(aM (aA aO aC)))) aC)))
  (aF (bA (eF (hZ (aP (cT hr) (aQ fZ (aJ (aB 1) aD) aD) aD) (fK (aP wO (aQ fZ (aB 4) aD) aD)))) (aE (aN (i:=2) cS.nd (aM (aA (aQ fJ (aB 6) (aM (aA (aQ fJ (aB 2) (aB 7)) aC))) aC)))) (aE (aN (i:=2) cS.nd (aQ fJ (aB 2) (aM (aA (aQ fJ (aB 6) (aM (aA (aB 7) aC))) aC))))))
  (aE (aN (i:=3) cS.nd (aQ pE (aQ pE (aB 3) aD) (aB 5))))))))
  (aE (aN (i:=4) cS.nd (aQ eU (aB 4) aD))))))
  (aE (aK (aB 2))))))),?_⟩
 ac_nf
 refine ⟨by decide,?_⟩
 refine uR (fun left ρ M'=>bB M M'/\∃ (rs:List Rw) (deep:Nat) (o5 o6 o7:Option D),kgS rs/\hmS rs + left = m/\dpL rs<=deep/\dpL rs<=9/\ρ = [some (.int (m:Int)),some (.ref pr),some (.tup (bI rs)),some (.int (left:Int)),some (.int (deep:Int)),o5,o6,o7]) m ⟨.refl _,[],0,none,none,none,trivial,by rw [hmS];omega,by rw [dpL];omega,by rw [dpL];omega,by rw [bI];rfl⟩ ?_
 rintro left ρ M1 ⟨sb,rs,deep,o5,o6,o7,kg,hl,d1,d9,rfl⟩
 ac_nf
 have hp1:=sb _ _ hp
 by_cases c:(left:Int) > 0
 ·rw [decide_eq_true c]
  refine ifT rfl ?_
  ac_nf
  obtain ⟨z6,e6⟩:=aDZ hz (k:=(deep:Int).fmod 6) (aCp (by decide)).1 (by have:=(aCp (x:=(deep:Int)) (n:=6) (by decide)).2;omega)
  obtain ⟨z5,e5⟩:=aDZ hz (k:=5) (by decide) (by decide)
  obtain ⟨z4,e4⟩:=aDZ hz (k:=4) (by decide) (by decide)
  have rl:=lW rs
  refine ⟨by decide,_,_,hp1,e6,by decide,?_⟩
  have b6:=aCp (x:=z6) (n:=20) (by decide)
  generalize z6.fmod 20 = y6 at b6 ⊢
  obtain ⟨inn,ei,li⟩:∃ inn:Nat,(if 1 + y6 < (left:Int) - 1 then 1 + y6 else (left:Int) - 1) = (inn:Int)/\inn + 1<=left:=by
   split
   ·exact ⟨(1 + y6).toNat,by omega,by omega⟩
   ·exact ⟨left - 1,by omega,by omega⟩
  rw [ei]
  have one:∀ p:Addr,M1 (.l p) = none->∀ (zpw:Pl) (o5:Option D),kgR (.pl zpw)->rwD (.pl zpw) = .tup [.str (wd zpw)]->bB M (bG M1 p [D.str "left",.str "dot",.str "mirror"])/\∃ (rs':List Rw) (left':Nat),left' < left/\kgS rs'/\hmS rs' + left' = m/\dpL rs'<=deep + 1/\dpL rs'<=9/\∃ o5' o6' o7',[some (D.int (m:Int)),some (.ref pr),some (.tup (bI rs ++ [D.tup [.str (wd zpw)]])),some (.int ((left:Int) - 1)),some (.int (deep:Int)),o5,o6,o7] = [some (D.int (m:Int)),some (.ref pr),some (.tup (bI rs')),some (.int (left':Int)),some (.int (deep:Int)),o5',o6',o7']:=fun p hp' zpw o5 kp ew=>by
   refine ⟨sb.trans (bB.new hp' _),rs ++ [.pl zpw],left - 1,by omega,xH kg (by rw [kgS,kgS];exact ⟨kp,trivial⟩),by rw [lT,hmS,hmS,hmR];omega,by rw [lP,dpL,dpL,dpR];omega,by rw [lP,dpL,dpL,dpR];omega,o5,o6,o7,?_⟩
   rw [sL,bI,bI,ew,show ((left:Int) - 1) = ((left - 1:Nat):Int) by omega]
  obtain ⟨zpw,kp,aw,ew⟩:=aM8 left
  refine ⟨fun ρ' M'=>bB M M'/\∃ (rs':List Rw) (left':Nat),left' < left/\kgS rs'/\hmS rs' + left' = m/\dpL rs'<=deep + 1/\dpL rs'<=9/\∃ o5' o6' o7',ρ' = [some (D.int (m:Int)),some (.ref pr),some (.tup (bI rs')),some (.int (left':Int)),some (.int (deep:Int)),o5',o6',o7'],?_,?_⟩
  ·refine ⟨_,_,hp1,e5,by decide,?_⟩
   rw [cM]
   by_cases c1:z5.fmod 4 = 0
   ·refine ifT (decide_eq_true c1) (ifT rfl ⟨by decide,fun p hp'=>⟨by decide,_,_,aH,aw,by decide,by decide,by rw [cP];omega,one p hp' zpw _ kp ew⟩⟩)
   refine ifF (decide_eq_false c1) ?_
   by_cases c2:(inn:Int) < 1
   ·refine ifT (decide_eq_true c2) (ifT rfl ⟨by decide,fun p hp'=>⟨by decide,_,_,aH,aw,by decide,by decide,by rw [cP];omega,one p hp' zpw _ kp ew⟩⟩)
   refine ifF (decide_eq_false c2) ?_
   by_cases c3:(deep:Int) > 8
   ·refine ifT (decide_eq_true c3) (⟨by decide,fun p hp'=>⟨by decide,_,_,aH,aw,by decide,by decide,by rw [cP];omega,one p hp' zpw _ kp ew⟩⟩)
   refine ifF (decide_eq_false c3) ?_
   obtain ⟨z9,e9⟩:=aDZ hz (k:=(deep:Int).fmod 5) (aCp (by decide)).1 (by have:=(aCp (x:=(deep:Int)) (n:=5) (by decide)).2;omega)
   obtain ⟨hs,b,eb,lb,hb⟩:=aOv z9 deep
   obtain ⟨rk,rh,rd⟩:=zL inn
   refine ⟨by decide,by decide,_,_,hp1,e9,by decide,by decide,by decide,by decide,fun p hp'=>⟨by decide,_,_,aH,eb,⟨by omega,by omega⟩,uN (by omega) fun p2 hp2=>⟨_,aH,?_⟩⟩⟩
   have sb2:=(bB.new hp' [D.tup [.str "keep"],.tup [.str "again",.int (z9.fmod 2)],.tup [.str "keep"]]).trans (bB.new hp2 (replicate (inn:Int).toNat (.tup [.str "right"])))
   generalize bG (bG M1 p _) p2 _ = M2 at sb2 ⊢
   rw [show (inn:Int).toNat = inn from rfl,<- aGk]
   refine ⟨_,_,sb2 _ _ hp1,e4,by decide,?_⟩
   rw [cM]
   have put:∀ o6' o7',bB M M2/\∃ (rs':List Rw) (left':Nat),left' < left/\kgS rs'/\hmS rs' + left' = m/\dpL rs'<=deep + 1/\dpL rs'<=9/\∃ o5' o6'' o7'',[some (D.int (m:Int)),some (.ref pr),some (.tup (bI rs ++ [.tup (hs ++ [.tup (bI (iC inn))])])),some (.int ((left:Int) - 1 - (inn:Int))),some (.int (deep:Int)),some (.int (inn:Int)),o6',o7'] = [some (D.int (m:Int)),some (.ref pr),some (.tup (bI rs')),some (.int (left':Int)),some (.int (deep:Int)),o5',o6'',o7'']:=fun o6' o7'=>by
    obtain ⟨b1,b2,b3,b4⟩:=hb (iC inn)
    refine ⟨sb.trans sb2,rs ++ [b (iC inn)],left - 1 - inn,by omega,xH kg (by rw [kgS,kgS];exact ⟨b1 rk,trivial⟩),by rw [lT,hmS,hmS,b3];omega,by rw [lP,dpL,dpL,b4];omega,by rw [lP,dpL,dpL,b4];omega,some (.int (inn:Int)),o6',o7',?_⟩
    rw [sL,bI,bI,b2,show ((left:Int) - 1 - (inn:Int)) = ((left - 1 - inn:Nat):Int) by omega]
   have wrap:∀ o6' o7',bB M M2/\∃ (rs':List Rw) (left':Nat),left' < left/\kgS rs'/\hmS rs' + left' = m/\dpL rs'<=deep + 1/\dpL rs'<=9/\∃ o5' o6'' o7'',[some (D.int (m:Int)),some (.ref pr),some (.tup [.tup (hs ++ [.tup (bI rs ++ bI (iC inn))])]),some (.int ((left:Int) - 1 - (inn:Int))),some (.int (deep:Int)),some (.int (inn:Int)),o6',o7'] = [some (D.int (m:Int)),some (.ref pr),some (.tup (bI rs')),some (.int (left':Int)),some (.int (deep:Int)),o5',o6'',o7'']:=fun o6' o7'=>by
    obtain ⟨b1,b2,b3,b4⟩:=hb (rs ++ iC inn)
    refine ⟨sb.trans sb2,[b (rs ++ iC inn)],left - 1 - inn,by omega,by rw [kgS,kgS];exact ⟨b1 (xH kg rk),trivial⟩,by rw [hmS,hmS,b3,lT];omega,by rw [dpL,dpL,b4,lP];omega,by rw [dpL,dpL,b4,lP];omega,some (.int (inn:Int)),o6',o7',?_⟩
    rw [bI,bI,b2,sL,show ((left:Int) - 1 - (inn:Int)) = ((left - 1 - inn:Nat):Int) by omega]
   have l1:(bI rs).length<=80:=by rw [cP];omega
   have l2:(bI (iC inn)).length<=80:=by rw [cP];unfold iC;rw [List.length_replicate];omega
   by_cases c4:z4.fmod 3 = 0
   ·refine ifT (decide_eq_true c4) ⟨by decide,?_⟩
    by_cases c5:(deep:Int).fmod 4 < 3
    ·refine ifT (decide_eq_true c5) ?_
     ac_nf
     exact ⟨by omega,by decide,by show hs.length + 1<=1000;omega,by decide,wrap _ _⟩
    ·refine ifF (decide_eq_false c5) ?_
     ac_nf
     exact ⟨by decide,by show hs.length + 1<=1000;omega,by decide,by show _ + 1<=1000;omega,put _ _⟩
   ·refine ifF (decide_eq_false c4) (ifF rfl ?_)
    ac_nf
    exact ⟨by decide,by show hs.length + 1<=1000;omega,by decide,by show _ + 1<=1000;omega,put _ _⟩
  ·rintro ρ M2 ⟨sb2,rs',left',l1,k1,h1,d2,d3,o5',o6',o7',rfl⟩
   ac_nf
   exact ⟨left',l1,sb2,rs',deep + 1,_,_,_,k1,h1,d2,d3,by rw [show ((deep:Int) + 1) = ((deep + 1:Nat):Int) by omega]⟩
 ·rw [decide_eq_false c]
  refine ifF rfl ?_
  exact bJ (q rs _ sb kg (by omega) d9)
noncomputable def fD (x:Bool):List D:=if x then [.tup [.str "forth"]] else []
noncomputable def fL (x:Bool):List D:=if x then [.str "forth"] else []
def oF (d:Nat):DSp:=fun ds M Q=>∃ (rs:List Rw) (x:Bool),ds = [.tup (bI rs ++ fD x)]/\DpS d rs/\kgS rs/\(lsS rs).length<=400/\∀ (p:Addr) (M':DM),bB M M'->M' (.l p) = some ((lsS rs).map LS ++ fL x)->Q (.ref p) M'
noncomputable abbrev lS:Stmt:=top 82
theorem kI:aS ["_law_rows_here","_law_lines_here","_law_row_here"] ["_law_rows_here"] (aI lS):=⟨rfl,rfl,rfl,by decide +kernel,rfl,by decide +kernel,by decide +kernel⟩
theorem zF (hF:cK K mg "_law_lines" lS ["_law_rows_here"]) (zP:mg "str" = none):Has P w K mg base 118 "_law_lines" ["_law_rows_here"] (oF 8):=by
 have all:∀ d,Has P w K mg base (110 + d) "_law_lines" ["_law_rows_here"] (oF d):=fun d=>by
  induction d with
  | zero=>exact (Has.never hF kI 109).imp fun ds M Q ⟨rs,_,_,z,_⟩=>z
  | succ d jQ =>
   refine Has.mkZ (k:=110 + d) hF kI (fun ds M Q ⟨a,_,z,_⟩=>by rw [z];rfl) fun f cdv A outer s H ds M Q E hr h=>?_
   obtain ⟨rs,x,rfl,dp,kg,ln,q⟩:=h
   refine ⟨_,(aF (aN (i:=1) kI.nd (bX aC))
  (aF (jS PassesOwn.never rfl (aB 0) (aZ (i:=2) kI.nd) (aE (bA (aP aGt (aJ (aB 2) aD) (bX (aA aO (aA aO aC))) rfl) (aE (dL (aCI (aB 1) (aQ eU (aQ eU (bX (aA (aB9 aO (aDG (⟨rfl,by decide +kernel,by decide +kernel,by decide +kernel,rfl,by decide +kernel⟩:nB ["_law_rows_here","_law_lines_here","_law_row_here"] (aI lS) ["_law_part"] [none] _) rfl (rP (aB 2) qF (pY (eR aD))) (fun _ _ _ _ _=>(aZ (i:=0) (show Nodup (["_law_part"]:List Str) by decide +kernel))) (fun _ _ _ _ _=>(dJ aHo zP (aA (aB 0) aC))))) aC)) (aG jQ hr (by omega) (aA (aJ (aB 2) (eR aD)) aC))) (bX (aA aO aC)))))) (aE (dL (eD (aB 1) (aJ (aB 2) aD)))))))
  (aE (aK (aB 1))))),?_⟩
   ac_nf
   refine ⟨by decide,fun pl hpl=>?_⟩
   refine ⟨fun i ρ M'=>bB M M'/\M' (.l pl) = some ((lsS (rs.take i)).map LS ++ (if rs.length < i then [.str "forth"] else []))/\∃ o2,ρ = [some (.tup (bI rs ++ fD x)),some (.ref pl),o2],⟨bB.new hpl _,by rw [take_zero,lsS,if_neg (by omega)];exact aH,none,rfl⟩,fun i ρ M' _ _ a e=>(by cases e),?_,?_⟩
   ·rintro i d1 ρ M1 hd ⟨sb,hl,o2,rfl⟩
    by_cases ci:i < rs.length
    ·rw [getElem?_append_left (by rw [cP];exact ci)] at hd
     obtain ⟨r,hr',rfl⟩:=kS hd
     have dr:=dp.2 r (mem_of_getElem? hr')
     have kr:=aAP kg (mem_of_getElem? hr')
     obtain ⟨ys,ey⟩:=aMF hr'
     have l1:(lsS (rs.take i)).length + (lsR r).length<=400:=by rw [ey,length_append,length_append] at ln;omega
     have nx:=aE7 hr'
     rw [if_neg (by omega),append_nil] at hl
     have fin:∀ (M2:DM) (o:Option D),bB M M2->M2 (.l pl) = some ((lsS (rs.take i)).map LS ++ (lsR r).map LS)->bB M M2/\M2 (.l pl) = some ((lsS (rs.take (i + 1))).map LS ++ (if rs.length < i + 1 then [.str "forth"] else []))/\∃ o2,[some (.tup (bI rs ++ fD x)),some (.ref pl),o] = [some (.tup (bI rs ++ fD x)),some (.ref pl),o2]:=fun M2 o s2 h2=>by
      refine ⟨s2,?_,o,rfl⟩
      rw [if_neg (by omega),append_nil,nx,map_append];exact h2
     have npl:M (.l pl) = none:=hpl
     ac_nf
     cases r with
     | pl p =>
      rw [kgR] at kr
      dsimp only [rwD]
      rcases kr with rfl | rfl | rfl | rfl
      all_goals
       dsimp only [plD]
       ac_nf
       refine ⟨by decide,fun a ha=>⟨["keep","again"],aH,ifF (by decide) ?_⟩⟩
       have nea:pl ≠ a:=fun e=>by rw [<- e,hl] at ha;cases ha
       refine ⟨⟨_,by rw [aX nea];exact hl⟩,_,_,rfl,by rw [aX nea];exact hl,by rw [length_map];omega,fin _ _ (gX (sb.trans (bB.new ha _)) npl) ?_⟩
       rw [aH,lsR];rfl
     | ag n ws =>
      rw [kgR] at kr
      have dw:=(qS dr).2
      have er:lsR (.ag n ws) = Ln.ag n :: (lsS ws ++ [.en]):=by rw [lsR]
      rw [er,length_cons,length_append,length_singleton] at l1
      rw [er] at fin
      dsimp only [rwD]
      ac_nf
      refine ⟨by decide,fun a ha=>⟨["keep","again"],aH,ifT (by decide) ?_⟩⟩
      have s2:=bB.new ha [D.str "keep",.str "again"]
      generalize bG M1 a _ = M2 at s2 ⊢
      refine ⟨⟨_,s2 _ _ hl⟩,?_⟩
      rw [show Dd.cutD [D.str "again",.int (n:Int),.tup (bI ws)] none (some (-1)) = [D.str "again",.int (n:Int)] from rfl]
      refine aFY (Nat.le_of_ble_eq_true rfl) ?_
      ac_nf
      refine ⟨Ty.log_small (by show n < 2 ^ 120;omega),fun p hp=>⟨[("again":Str),Ty.nt (n:Int)],aH,by have:=tQ (tE (l:=Ln.ag n) (by show n<=12;omega)).2;have:=(tE (l:=Ln.ag n) (by show n<=12;omega)).1;rw [s32];show ((lnW (.ag n)).map (·.length)).sum + (lnW (.ag n)).length * 1<=1000000;omega,by decide,fun p1 hp1=>?_⟩⟩
      have s3:=s2.trans (bB.new hp [D.str "again",.str (Str.ofString (toString (n:Int)))])
      have h1:bG (bG M2 p [D.str "again",.str (Str.ofString (toString (n:Int)))]) p1 [D.str (Builtin.Str.glued (Str.ofString " ") [("again":Str),Ty.nt (n:Int)])] p1 = some [LS (.ag n)]:=by rw [aH,s32];rfl
      have s4:=s3.trans (bB.new hp1 [D.str (Builtin.Str.glued (Str.ofString " ") [("again":Str),Ty.nt (n:Int)])])
      generalize bG (bG M2 p _) p1 _ = M3 at h1 s4 ⊢
      refine ⟨ws,false,by rw [show fD false = [] from rfl,append_nil],dw,kr.2,by omega,fun p2 M4 s5 h2=>?_⟩
      rw [show fL false = [] from rfl,append_nil] at h2
      refine ⟨_,_,s5 _ _ h1,h2,by rw [length_map];show 1 + _<=1000;omega,fun p3 hp3=>⟨by decide,fun p4 hp4=>?_⟩⟩
      have s6:=bB.new hp3 ([LS (.ag n)] ++ (lsS ws).map LS)
      have s7:=bB.new hp4 [D.str "end"]
      refine ⟨_,_,s7 _ _ aH,aH,by rw [length_append,length_map];show 1 + _ + 1<=1000;omega,fun p5 hp5=>?_⟩
      have s8:=bB.new hp5 ([LS (.ag n)] ++ (lsS ws).map LS ++ [D.str "end"])
      have sA:=s4.trans (s5.trans (s6.trans (s7.trans s8)))
      refine ⟨_,_,_,rfl,sA _ _ hl,aH,by rw [length_append,length_append,length_map,length_map];show _ + (1 + _ + 1)<=1000;omega,fin _ _ (gX (sb.trans sA) npl) ?_⟩
      rw [aH,map_cons,map_append];rfl
     | kp ws =>
      rw [kgR] at kr
      have dw:=sK dr
      have er:lsR (.kp ws) = .kp :: (lsS ws ++ [.en]):=by rw [lsR]
      rw [er,length_cons,length_append,length_singleton] at l1
      rw [er] at fin
      dsimp only [rwD]
      ac_nf
      refine ⟨by decide,fun a ha=>⟨["keep","again"],aH,ifT (by decide) ?_⟩⟩
      have s2:=bB.new ha [D.str "keep",.str "again"]
      generalize bG M1 a _ = M2 at s2 ⊢
      refine ⟨⟨_,s2 _ _ hl⟩,?_⟩
      rw [show Dd.cutD [D.str "keep",.tup (bI ws)] none (some (-1)) = [D.str "keep"] from rfl]
      refine aFY (Nat.le_of_ble_eq_true rfl) ?_
      ac_nf
      refine fun p hp=>⟨[("keep":Str)],aH,by have:=tQ (tE (l:=.kp) trivial).2;have:=(tE (l:=.kp) trivial).1;rw [s32];show ((lnW .kp).map (·.length)).sum + (lnW .kp).length * 1<=1000000;omega,by decide,fun p1 hp1=>?_⟩
      have s3:=s2.trans (bB.new hp [D.str "keep"])
      have h1:bG (bG M2 p [D.str "keep"]) p1 [D.str (Builtin.Str.glued (Str.ofString " ") [("keep":Str)])] p1 = some [LS .kp]:=by rw [aH,s32];rfl
      have s4:=s3.trans (bB.new hp1 [D.str (Builtin.Str.glued (Str.ofString " ") [("keep":Str)])])
      generalize bG (bG M2 p _) p1 _ = M3 at h1 s4 ⊢
      refine ⟨ws,false,by rw [show fD false = [] from rfl,append_nil],dw,kr,by omega,fun p2 M4 s5 h2=>?_⟩
      rw [show fL false = [] from rfl,append_nil] at h2
      refine ⟨_,_,s5 _ _ h1,h2,by rw [length_map];show 1 + _<=1000;omega,fun p3 hp3=>⟨by decide,fun p4 hp4=>?_⟩⟩
      have s6:=bB.new hp3 ([LS .kp] ++ (lsS ws).map LS)
      have s7:=bB.new hp4 [D.str "end"]
      refine ⟨_,_,s7 _ _ aH,aH,by rw [length_append,length_map];show 1 + _ + 1<=1000;omega,fun p5 hp5=>?_⟩
      have s8:=bB.new hp5 ([LS .kp] ++ (lsS ws).map LS ++ [D.str "end"])
      have sA:=s4.trans (s5.trans (s6.trans (s7.trans s8)))
      refine ⟨_,_,_,rfl,sA _ _ hl,aH,by rw [length_append,length_append,length_map,length_map];show _ + (1 + _ + 1)<=1000;omega,fin _ _ (gX (sb.trans sA) npl) ?_⟩
      rw [aH,map_cons,map_append];rfl
     | ev ws=>rw [kgR] at kr;exact kr.elim
    ·cases x with
     | false =>
      rw [show fD false = [] from rfl,append_nil] at hd
      have:=(List.getElem?_eq_some_iff.mp hd).1
      rw [cP] at this
      exact absurd this ci
     | true =>
      have hi:=(List.getElem?_eq_some_iff.mp hd).1
      rw [length_append,cP] at hi
      have ei:i = rs.length:=by
       have:i < rs.length + 1:=hi
       omega
      subst ei
      rw [getElem?_append_right (by rw [cP];exact Nat.le_refl _),cP,Nat.sub_self] at hd
      cases hd
      rw [if_neg (by omega),append_nil] at hl
      ac_nf
      refine ⟨by decide,fun a ha=>⟨["keep","again"],aH,ifF (by decide) ?_⟩⟩
      have nea:pl ≠ a:=fun e=>by rw [<- e,hl] at ha;cases ha
      rw [take_length] at hl
      refine ⟨⟨_,by rw [aX nea];exact hl⟩,_,_,rfl,by rw [aX nea];exact hl,by rw [length_map];omega,gX (sb.trans (bB.new ha _)) hpl,?_,_,rfl⟩
      rw [aH,if_pos (by omega),take_of_length_le (by omega)]
   ·rintro ρ M' ⟨sb,hl,o2,rfl⟩
    ac_nf
    refine bJ (q pl M' sb ?_)
    rw [hl,length_append,cP]
    cases x with
    | false=>rw [show (fD false).length = 0 from rfl,if_neg (by omega),Nat.add_zero,take_length];rfl
    | true=>rw [show (fD true).length = 1 from rfl,if_pos (by omega),take_of_length_le (by omega)];rfl
 exact all 8
theorem aAl:∀ {xs:List Th} {y:Th},lH xs->vaT y->lH (xs ++ [y])
 | [],y,_,h=>by rw [nil_append,lH,lH];exact ⟨h,trivial⟩
 | x :: xs,y,h,h2=>by rw [lH] at h;rw [cons_append,lH];exact ⟨h.1,aAl h.2 h2⟩
theorem aB2:∀ {xs:List Th} {y:Th},boS xs->boR y->boS (xs ++ [y])
 | [],y,_,h=>by rw [nil_append,boS,boS];exact ⟨h,trivial⟩
 | x :: xs,y,h,h2=>by rw [boS] at h;rw [cons_append,boS];exact ⟨h.1,aB2 h.2 h2⟩
theorem aF3 {M M':DM} (s:bB M M') {k:AK} (h:M' k = none):M k = none:=by
 cases e:M k with
 | none=>rfl
 | some x=>rw [s k x e] at h;cases h
def lX:DSp:=fun ds M Q=>∃ (rs:List Rw) (x b:Bool),ds = [.tup (bI rs ++ fD x),.bl b]/\Kg rs/\rs ≠ [] /\
 (x = false->hmS rs<=60->∀ p M',bB M M'->M (.l p) = none->M' (.l p) = some [.tup (bI rs)]->Q (.ref p) M') /\
 (x = false->60 < hmS rs->∀ M',bB M M'->Q (.str "much") M') /\
 (x = true->∀ M',bB M M'->Q (.tup [.str (if b then "line" else "row"),.int ((lsS rs).length:Int)]) M')
noncomputable abbrev rH:Stmt:=top 83
theorem gJ:aS ["_law_rows_here","_law_by_text","_law_found","e","_law_sorts"] ["_law_rows_here","_law_by_text"] (aI rH):=⟨rfl,rfl,rfl,by decide +kernel,rfl,by decide +kernel,by decide +kernel⟩
theorem aBh {C_NoRow C_MillError C_NoKin C_NoNumber C_NoPiece C_NoText C_TooMuch:Addr} (hF:cK K mg "_law_told" rH ["_law_rows_here","_law_by_text"]) (aT:mg "isinstance" = none) (iQ:mg "ValueError" = none) (hW:lY P w K mg base "NoRow" C_NoRow "row") (gL:lY P w K mg base "NoText" C_NoText "line") (iM:aAX K mg "TooMuch" C_TooMuch) (pW:aAX K mg "MillError" C_MillError) (sB:eJ K mg "NoKin" (.ref C_NoKin)) (lB:eJ K mg "NoNumber" (.ref C_NoNumber)) (mT:eJ K mg "NoPiece" (.ref C_NoPiece)) (nJ:nR K C_NoRow) (kU:nR K C_NoText) (kJ:nR K C_TooMuch) (f_NoRow:vW K C_NoRow "row") (f_NoText:vW K C_NoText "line")
  (eP:exmOne K (.ref C_NoRow) (.ref C_MillError) = some true) (eB:exmOne K (.ref C_NoText) (.ref C_MillError) = some true) (dM:exmOne K (.ref C_TooMuch) (.ref C_MillError) = some true)
  (mH:kitOne K (.ref C_NoRow) (.ref C_NoRow) = some true) (gD:kitOne K (.ref C_NoRow) (.ref C_NoText) = some false) (fO:kitOne K (.ref C_NoRow) (.ref C_TooMuch) = some false)
  (gK:kitOne K (.ref C_NoText) (.ref C_NoRow) = some false) (kB:kitOne K (.ref C_NoText) (.ref C_NoText) = some true) (eZ:kitOne K (.ref C_NoText) (.ref C_TooMuch) = some false)
  (fM:kitOne K (.ref C_TooMuch) (.ref C_NoRow) = some false) (eX:kitOne K (.ref C_TooMuch) (.ref C_NoText) = some false) (iR:kitOne K (.ref C_TooMuch) (.ref C_TooMuch) = some true)
  (eC:kitOne K (.ref C_NoRow) (.type "ValueError") = some true) (dN:kitOne K (.ref C_NoText) (.type "ValueError") = some true) (dE:kitOne K (.ref C_TooMuch) (.type "ValueError") = some true)
  (gG:kitAny K (.ref C_NoRow) [.ref C_NoKin,.ref C_NoNumber,.ref C_NoPiece] = some false) (fR:kitAny K (.ref C_NoText) [.ref C_NoKin,.ref C_NoNumber,.ref C_NoPiece] = some false) (dW:kitAny K (.ref C_TooMuch) [.ref C_NoKin,.ref C_NoNumber,.ref C_NoPiece] = some false)
  (cY:Has P w K mg base 129 "program_of" ["rows"] jJ) (jB:fE P w K mg base 129 "program_of" ["rows"] C_NoRow "row" aJa) (w_program_of:gY P w K mg base 129 "program_of" ["rows"] C_TooMuch aFt) (jQ:Has P w K mg base 118 "_law_lines" ["_law_rows_here"] (oF 8)) (aC9:Has P w K mg base 130 "read" ["text"] aDH) (w_read:gY P w K mg base 130 "read" ["text"] C_TooMuch aI9) (aCy:fE P w K mg base 130 "read" ["text"] C_NoText "line" aJp):Has P w K mg base 131 "_law_told" ["_law_rows_here","_law_by_text"] lX:=by
 refine Has.mkZ hF gJ (fun ds M Q ⟨_,_,_,z,_⟩=>by rw [z];rfl) fun f cdv A outer s H ds M Q E hr h=>?_
 obtain ⟨rs,x,b,rfl,kg,ne,q1,q2,q3⟩:=h
 refine ⟨_,(aF (aCD (j:=3) (wZ (aMd (bY (aB 1)) (wZ (aDp (i:=2) (aAd (aBP w_read (by decide)) (aBu aCy (by decide))) aC9 hr (by decide) gJ.nd (aA (aB9 aO (aG jQ hr (by decide) (aA (aB 0) aC))) aC))) (wZ (aDp (i:=2) (aAd (aBP w_program_of (by decide)) (aBu jB (by decide))) cY hr (by decide) gJ.nd (aA (aB 0) aC))))) gJ.nd pW.nm dM eP eB
  (fun _ _ ho=>(aF (aN (i:=4) gJ.nd (bX (aA (yQ (j:=3) ho kJ hW.nm fM aT) (aA (yQ (j:=3) ho kJ gL.nm eX aT) (aA (yQ (j:=3) ho kJ iM.nm iR aT) aC)))))
  (aF (bA (eF (dU (bY (cO (aIA ho kJ) aT (aA (aB 3) (aA (aM (aA (aW sB) (aA (aW lB) (aA (aW mT) aC)))) aC)))) (dU (gC (bY (aEX (j:=3) ho dE aT iQ))) (dS (aP (aCU (aKd hr)) (uG (aB 4) fF) aD))))) (aE (aK aO)) aY)
  (aF (bA (bY (aJ (aB 4) aD)) (aE (aK (aM (aA aO (aA qI aC))))) aY)
  (aF (bA (bY (aJ (aB 4) aD)) (aE (aK (aM (aA aO (aA qI aC))))) aY)
  (aE (aK aO)))))))
  (fun _ _ _ _ _ _ ho hl=>(aF (aN (i:=4) gJ.nd (bX (aA (mQ (j:=3) ho nJ hW.nm mH aT) (aA (mQ (j:=3) ho nJ gL.nm gD aT) (aA (mQ (j:=3) ho nJ iM.nm fO aT) aC)))))
  (aF (bA (eF (dU (bY (cO (aBz ho nJ) aT (aA (aB 3) (aA (aM (aA (aW sB) (aA (aW lB) (aA (aW mT) aC)))) aC)))) (dU (gC (bY (zQ (j:=3) ho eC aT iQ))) (dS (aP (aCU (aKd hr)) (uG (aB 4) fF) aD))))) (aE (aK aO)) aY)
  (aF (bA (bY (aJ (aB 4) aD)) (aE (aK (aM (aA aO (aA (aDh (j:=3) ho hl nJ f_NoRow) aC))))) aY)
  (aF (bA (bY (aJ (aB 4) aD)) (aE (aK (aM (aA aO (aA qI aC))))) aY)
  (aE (aK aO)))))))
  (fun _ _ _ _ _ _ ho hl=>(aF (aN (i:=4) gJ.nd (bX (aA (mQ (j:=3) ho kU hW.nm gK aT) (aA (mQ (j:=3) ho kU gL.nm kB aT) (aA (mQ (j:=3) ho kU iM.nm eZ aT) aC)))))
  (aF (bA (eF (dU (bY (cO (aBz ho kU) aT (aA (aB 3) (aA (aM (aA (aW sB) (aA (aW lB) (aA (aW mT) aC)))) aC)))) (dU (gC (bY (zQ (j:=3) ho dN aT iQ))) (dS (aP (aCU (aKd hr)) (uG (aB 4) fF) aD))))) (aE (aK aO)) aY)
  (aF (bA (bY (aJ (aB 4) aD)) (aE (aK (aM (aA aO (aA qI aC))))) aY)
  (aF (bA (bY (aJ (aB 4) aD)) (aE (aK (aM (aA aO (aA (aDh (j:=3) ho hl kU f_NoText) aC))))) aY)
  (aE (aK aO))))))))
  (aE (aK (bX (aA (aB 2) aC))))),?_⟩
 ac_nf
 have bad:∀ ts:List Th,ts = ofS rs ++ [.bad (.tup [.str "forth"])]->lF ts = bI rs ++ fD true/\DpS 8 (gdS ts)/\(lH ts/\boS ts)/\lkS ts 0 [] = .inr ((lsS rs).length:Int):=by
  rintro ts rfl
  obtain ⟨va,bo⟩:=rM rs kg.kg
  refine ⟨?_,?_,⟨?_,?_⟩,?_⟩
  ·rw [pL,map_append,<- pL,zK];rfl
  ·have e:gdS (ofS rs ++ [.bad (.tup [.str "forth"])]) = rs ++ [.pl .dot]:=by rw [wK,map_append,<- wK,kM];rfl
   rw [e]
   have d8:=kg.d8
   refine ⟨by rw [length_append];show _ + 1<=1000;have:=lW rs;have:=kg.hm;omega,fun r hr=>?_⟩
   rcases List.mem_append.mp hr with hr | hr
   ·exact d8.2 r hr
   ·rw [List.mem_singleton.mp hr];trivial
  ·exact aAl va (by rw [vaT];exact ⟨.inl (.inl rfl),rfl⟩)
  ·exact aB2 bo (by rw [boR];trivial)
  ·rw [wB,kg.lk]
   dsimp only
   rw [lkS,lkR]
 cases b with
 | false =>
  refine ifF rfl ?_
  ac_nf
  cases x with
  | false =>
   rw [show fD false = [] from rfl,append_nil]
   by_cases c:hmS rs<=60
   ·refine .inr ⟨ofS rs,by rw [zK],by rw [kM];exact kg.d8,rM rs kg.kg,by rw [kM];exact c,⟨_,kg.lk⟩,?_⟩
    rw [zK]
    ac_nf
    exact ⟨by decide,fun p hp=>bJ (q1 rfl c p _ (bB.new hp _) hp aH)⟩
   ·refine .inl ⟨.x C_TooMuch,.inl ⟨rfl,rs,rfl,kg,by omega⟩,rfl,fun a=>?_⟩
    ac_nf
    refine ⟨rfl,rfl,rfl,by decide,fun p hp=>⟨by decide,[C_NoKin,C_NoNumber,C_NoPiece],false,rfl,dW,ifF rfl ⟨rfl,ifF rfl ⟨⟨_,aH⟩,[false,false,true],aH,?_⟩⟩⟩⟩
    rw [cM]
    exact ifF (by decide) ⟨_,_,aH,rfl,ifF rfl ⟨_,_,aH,rfl,ifF rfl (bJ (q2 rfl (by omega) _ (bB.new hp _)))⟩⟩
  | true =>
   obtain ⟨b1,b2,b3,b4⟩:=bad _ rfl
   refine .inl ⟨.y C_NoRow "row" _,.inr ⟨_,rfl,_,by rw [b1],b2,b3,b4⟩,.inl ⟨rfl,rfl,fun a=>?_⟩⟩
   ac_nf
   refine ⟨rfl,rfl,rfl,by decide,fun p hp=>⟨by decide,[C_NoKin,C_NoNumber,C_NoPiece],false,rfl,gG,ifF rfl ⟨rfl,ifF rfl ⟨⟨_,aH⟩,[true,false,false],aH,?_⟩⟩⟩⟩
   rw [cM]
   refine ifF (by decide) ⟨_,_,aH,rfl,ifT rfl ?_⟩
   exact ⟨rfl,by decide,bJ (q3 rfl _ (bB.new hp _))⟩
 | true =>
  refine ifT rfl ?_
  ac_nf
  refine ⟨rs,x,rfl,kg.d8,kg.kg,by have:=kg.ln;omega,fun p M1 s1 h1=>?_⟩
  ac_nf
  refine ⟨(lsS rs).map lnT ++ (if x then [("forth":Str)] else []),?_,?_,?_⟩
  ·rw [h1,aJE,map_append]
   cases x<;>rfl
  ·have:=kg.sum
   have:=kg.ln
   rw [s10,map_append,sum_append,length_append,length_map]
   cases x with
   | false=>show _ + 0 + (_ + 0) * 1<=_;omega
   | true=>show _ + 5 + (_ + 1) * 1<=_;omega
  rw [s10]
  cases x with
  | false =>
   rw [show (if false = true then [("forth":Str)] else []) = [] from rfl,append_nil]
   by_cases c:hmS rs<=60
   ·refine .inr ⟨rs,rfl,kg,ne,c,fun M2 s2=>?_⟩
    ac_nf
    have s3:=s1.trans s2
    refine ⟨by decide,fun p hp=>bJ (q1 rfl c p _ (s3.trans (bB.new hp _)) (aF3 s3 hp) aH)⟩
   ·refine .inl ⟨.x C_TooMuch,.inl ⟨rfl,rs,rfl,kg,by omega⟩,rfl,fun a=>?_⟩
    ac_nf
    refine ⟨rfl,rfl,rfl,by decide,fun p hp=>⟨by decide,[C_NoKin,C_NoNumber,C_NoPiece],false,rfl,dW,ifF rfl ⟨rfl,ifF rfl ⟨⟨_,aH⟩,[false,false,true],aH,?_⟩⟩⟩⟩
    rw [cM]
    exact ifF (by decide) ⟨_,_,aH,rfl,ifF rfl ⟨_,_,aH,rfl,ifF rfl (bJ (q2 rfl (by omega) _ (s1.trans (bB.new hp _))))⟩⟩
  | true =>
   refine .inl ⟨.y C_NoText "line" _,.inr ⟨_,rfl,rs,rfl,kg,rfl⟩,.inr ⟨rfl,rfl,fun a=>?_⟩⟩
   ac_nf
   refine ⟨rfl,rfl,rfl,by decide,fun p hp=>⟨by decide,[C_NoKin,C_NoNumber,C_NoPiece],false,rfl,fR,ifF rfl ⟨rfl,ifF rfl ⟨⟨_,aH⟩,[false,true,false],aH,?_⟩⟩⟩⟩
   rw [cM]
   refine ifF (by decide) ⟨_,_,aH,rfl,ifF rfl ⟨_,_,aH,rfl,ifT rfl ?_⟩⟩
   exact ⟨rfl,by decide,bJ (q3 rfl _ (s1.trans (bB.new hp _)))⟩
theorem aE5 (ns:List Int) (lo hi:Option Int):∃ cs:List Int,Dd.cutD (ns.map D.int) lo hi = cs.map D.int/\cs.length<=ns.length:=by
 unfold Dd.cutD
 rw [<- List.map_drop,<- List.map_take,length_map]
 exact ⟨_,rfl,by rw [length_take,List.length_drop];omega⟩
theorem aCP {n:Nat}:∀ {L:List D},wU n L->∃ zs:List Int,L = zs.map D.int/\zs.length = n:=by
 intro L h
 obtain ⟨hl,ha⟩:=h
 have:∀ L:List D,(∀ d ∈ L,∃ z:Int,d = .int z)->∃ zs:List Int,L = zs.map D.int:=fun L=>by
  induction L with
  | nil=>exact fun _=>⟨[],rfl⟩
  | cons d L ih =>
   intro h
   obtain ⟨z,rfl⟩:=h d (mem_cons_self ..)
   obtain ⟨zs,e⟩:=ih fun x hx=>h x (mem_cons_of_mem _ hx)
   exact ⟨z :: zs,by rw [e];rfl⟩
 obtain ⟨zs,e⟩:=this L fun d hd=>by
  obtain ⟨z,e,_⟩:=ha d hd
  exact ⟨z,e⟩
 exact ⟨zs,e,by rw [<- hl,e,length_map]⟩
noncomputable def kG (p:Pl) (n:Nat):List Rw:=replicate n (.pl p)
theorem aFw {p:Pl} {k:Str} (e:plD p = .tup [.str k]) {n:Nat}:bI (kG p n) = replicate n (.tup [.str k]):=by
 rw [fN];unfold kG;rw [List.map_replicate,rwD,e]
theorem sZ {p:Pl} (h:kgR (.pl p)):∀ n,kgS (kG p n)/\hmS (kG p n) = n/\dpL (kG p n) = 0
 | 0=>by unfold kG;rw [List.replicate_zero,kgS,hmS,dpL];exact ⟨trivial,rfl,rfl⟩
 | n + 1=>by
  obtain ⟨a,b,c⟩:=sZ h n
  unfold kG at *
  rw [List.replicate_succ,kgS,hmS,dpL,hmR,dpR,c]
  exact ⟨⟨h,a⟩,by omega,rfl⟩
theorem aDz {p:Pl} (h:kgR (.pl p)) {n:Nat} (l:n<=80):Kg (kG p n):=by
 obtain ⟨a,b,c⟩:=sZ h n
 exact ⟨a,by omega,by omega⟩
theorem Kg.pure {rs:List Rw} (h:Kg rs):[D.tup (bI rs)].all (bN 59) = true:=by
 rw [all_cons,List.all_nil,Bool.and_true]
 show (bI rs).all (bN 58) = true
 rw [fN,all_map,all_eq_true]
 intro r hr
 exact wF 7 r 41 (h.d8.2 r hr)
theorem qQ {rs:List Rw} {b:Bool} {M:DM} {Q:DQ} (kg:Kg rs) (ne:rs ≠ []) (hm:hmS rs<=60) (q:∀ (p:Addr) M',bB M M'->M (.l p) = none->M' (.l p) = some [.tup (bI rs)]->Q (.ref p) M'):lX [.tup (bI rs),.bl b] M Q :=
 ⟨rs,false,b,by rw [show fD false = [] from rfl,append_nil],kg,ne,fun _ _=>q,fun _ z=>absurd hm (by omega),fun e=>by cases e⟩
theorem qM {rs:List Rw} {b:Bool} {M:DM} {Q:DQ} (kg:Kg rs) (ne:rs ≠ []) (hm:60 < hmS rs) (q:∀ M',bB M M'->Q (.str "much") M'):lX [.tup (bI rs),.bl b] M Q :=
 ⟨rs,false,b,by rw [show fD false = [] from rfl,append_nil],kg,ne,fun _ z=>absurd z (by omega),fun _ _=>q,fun e=>by cases e⟩
theorem kD {M:DM} {a b:Addr} {xs:List D} (h:M (.l a) = some xs) (n:M (.l b) = none):b ≠ a:=fun z=>by rw [z,h] at n;cases n
def sp_law:DSp:=fun ds M Q=>∃ ns:List Int,ds = [.fz (ns.map D.int)]/\ns.length<=63/\∀ M',Q (.bl true) M'
noncomputable abbrev pF:Stmt:=top 84
theorem jE:aS ["_law_script","_law_cell","_law_row_here","_law_many","_law_rows_here","_law_due","_law_dues","_law_flat","_law_block","_law_by_text"] ["_law_script"] (aI pF):=⟨rfl,rfl,rfl,by decide +kernel,rfl,by decide +kernel,by decide +kernel⟩
theorem aHP {f0:Addr} {fd0:FuncData} (hF:L2.Fun K "law" "law" pF f0 fd0) (sM:mg "int" = none) (cH:mg "tuple" = none) (jL:mg "range" = none) (uC:Has P w K mg base 101 "_law_row" ["_law_cell","_law_many"] xZ) (rE:Has P w K mg base 101 "_law_rows" ["_law_many","_law_row_here"] vD) (kR:Has P w K mg base 122 "_law_deep" ["_law_rows_here"] (pI 12)) (fX:Has P w K mg base 118 "_law_numbers" ["_law_rows_here"] (kZ 8)) (gE:Has P w K mg base 131 "_law_told" ["_law_rows_here","_law_by_text"] lX) :
  jV P w K mg base CX0 151 f0 fd0 ["_law_script"] (pP K sp_law):=by
 refine Fun.okZ hF jE (fun ds M Q ⟨ns,e,_⟩=>by rw [e];rfl) fun cdv A outer s H ds M Q E hr h=>?_
 obtain ⟨ns,rfl,hl,fin⟩:=h
 refine ⟨_,(aF (aBH PassesOwn.never rfl (aQ eU (aEv (aB 0) qF (pY aD)) (bX (aA aD aC))) (aZ (i:=1) jE.nd) (aF (aN (i:=2) jE.nd (aG uC hr (by decide) (aA (aB 1) (aA aD aC))))
  (aF (aN (i:=3) jE.nd (aQ eU aD (aQ fZ (aJ (aB 2) aD) aD)))
  (aF (aN (i:=4) jE.nd (aG rE hr (by decide) (aA (aB 3) (aA (aB 2) aC))))
  (kT (bA (aP lV (aG kR hr (by decide) (aA (aB 4) aC)) aD) (aE (aN (i:=4) jE.nd (dJ iP cH (aA (aAO (⟨rfl,by decide +kernel,by decide +kernel,by decide +kernel,rfl,by decide +kernel⟩:nB ["_law_script","_law_cell","_law_row_here","_law_many","_law_rows_here","_law_due","_law_dues","_law_flat","_law_block","_law_by_text"] (aI pF) ["_law_k"] [none] _) rfl jL (aA (aB 3) aC) (fun _ _ _ _ _=>(aZ (i:=0) (show Nodup (["_law_k"]:List Str) by decide +kernel))) (fun _ _ _ _ _=>(aM (aA aO aC)))) aC)))) aY)
  (aF (aN (i:=5) jE.nd (aJ (bX (aA (bX (aA (aB 4) aC)) (aA aO aC))) (dJ aKN sM (aA (eG lV (aB 3) aD) aC))))
  (aF (aN (i:=6) jE.nd (bX (aA (aB 5) (aA (aB 5) aC))))
  (aF (bA (aP (cT hr) (aQ fZ (aJ (aB 2) aD) aD) aD) (aF (aN (i:=6) jE.nd (bX (aA (aM (aA aO (aA (aG fX hr (by decide) (aA (aB 4) aC)) aC))) (aA (aM (aA aO (aA (aG fX hr (by decide) (aA (aB 4) aC)) aC))) aC))))
  (aE (aN (i:=4) jE.nd (aQ fJ (aB 4) (aM (aA (aM (aA aO aC)) aC)))))) aY)
  (aE (bA (eF (dU (aP (iO hr) (aG gE hr (by decide) (aA (aB 4) (aA fF aC))) (aJ (aB 6) aD)) (dS (aP (iO hr) (aG gE hr (by decide) (aA (aB 4) (aA fF aC))) (aJ (aB 6) aD))))) (aE (aK fF)) aY))))))))))
  (aF (aN (i:=7) jE.nd (dJ iP cH (aA (aAO (⟨rfl,by decide +kernel,by decide +kernel,by decide +kernel,rfl,by decide +kernel⟩:nB ["_law_script","_law_cell","_law_row_here","_law_many","_law_rows_here","_law_due","_law_dues","_law_flat","_law_block","_law_by_text"] (aI pF) ["_law_k"] [none] _) rfl jL (aA aD aC) (fun _ _ _ _ _=>(aZ (i:=0) (show Nodup (["_law_k"]:List Str) by decide +kernel))) (fun _ _ _ _ _=>(aM (aA aO aC)))) aC)))
  (aF (aN (i:=8) jE.nd (aM (aA (aM (aA aO (aA aD (aA (rP (aB 7) (pY aD) qF) aC)))) aC)))
  (aF (aBH PassesOwn.never rfl (bX (aA fF (aA fF aC))) (aZ (i:=9) jE.nd) (aF (bA (eF (dU (aP (iO hr) (aG gE hr (by decide) (aA (aB 7) (aA (aB 9) aC))) (bX (aA (aB 7) aC))) (dS (aP (iO hr) (aG gE hr (by decide) (aA (aQ fJ (aB 7) (aM (aA (aM (aA aO aC)) aC))) (aA (aB 9) aC))) aO)))) (aE (aK fF)) aY)
  (aE (bA (eF (dU (aP (iO hr) (aG gE hr (by decide) (aA (aB 8) (aA (aB 9) aC))) (bX (aA (aB 8) aC))) (dS (aP (iO hr) (aG gE hr (by decide) (aA (aQ fJ (aB 8) (aM (aA (aM (aA aO aC)) aC))) (aA (aB 9) aC))) aO)))) (aE (aK fF)) aY))))
  (aE (aK fF)))))),?_⟩
 ac_nf
 intro p0 hp0
 refine ⟨by decide,fun p1 hp1=>?_⟩
 obtain ⟨cs,ec,lc⟩:=aE5 ns none (some 12)
 rw [ec] at hp1 ⊢
 refine ⟨_,_,(bB.new hp1 _) _ _ aH,aH,by rw [length_map];show _ + 1<=1000;omega,fun p2 hp2=>⟨_,aH,?_⟩⟩
 have hC:bG (bG (bG M p0 (cs.map D.int)) p1 [D.int 0]) p2 (cs.map D.int ++ [D.int 0]) p2 = some ((cs ++ [0]).map D.int):=by rw [aH,map_append];rfl
 rw [show cs.map D.int ++ [D.int 0] = (cs ++ [0]).map D.int by rw [map_append];rfl] at hC ⊢
 generalize bG (bG (bG M p0 _) p1 _) p2 _ = M1 at hC ⊢
 refine ⟨fun i ρ M'=>bB M1 M'/\∃ o1 o2 o3 o4 o5 o6,ρ = [some (.fz (ns.map D.int)),o1,o2,o3,o4,o5,o6,none,none,none],⟨.refl _,_,_,_,_,_,_,rfl⟩,fun i ρ M' _ h a e=>by cases e;exact h.1 _ _ hC,?_,?_⟩
 ·rintro i d ρ M2 hd ⟨sb,o1,o2,o3,o4,o5,o6,rfl⟩
  obtain ⟨c,_,rfl⟩:∃ c,c ∈ cs ++ [0]/\D.int c = d:=List.mem_map.mp (mem_of_getElem? hd)
  ac_nf
  refine ⟨c,8,rfl,by decide,by decide,fun pn Ln hpn hLn=>?_⟩
  ac_nf
  obtain ⟨zs,rfl,hz⟩:=aCP hLn
  have hz:zs.length = 8:=hz
  have sn:=bB.new hpn (zs.map D.int)
  have hn:bG M2 pn (zs.map D.int) pn = some (zs.map D.int):=aH
  generalize bG M2 pn (zs.map D.int) = M3 at sn hn ⊢
  obtain ⟨z6,e6⟩:=aDZ hz (k:=6) (by decide) (by decide)
  obtain ⟨z7,e7⟩:=aDZ hz (k:=7) (by decide) (by decide)
  have b6:=aCp (x:=z6) (n:=31) (by decide)
  refine ⟨_,_,hn,e6,by decide,?_⟩
  obtain ⟨m,em⟩:∃ m:Nat,40 + z6.fmod 31 = (m:Int):=⟨(40 + z6.fmod 31).toNat,by omega⟩
  rw [em]
  have m1:40<=m:=by omega
  have m2:m<=70:=by omega
  refine ⟨m,pn,zs,rfl,hn,hz,by omega,fun rs M4 s4 kg hm dp=>?_⟩
  have hn4:=s4 _ _ hn
  refine ⟨fun ρ' M'=>bB M4 M'/\∃ rs:List Rw,Kg rs/\hmS rs = m/\ρ' = [some (.fz (ns.map D.int)),some (.int c),some (.ref pn),some (.int (m:Int)),some (.tup (bI rs)),o5,o6,none,none,none],?_,?_⟩
  ·refine ⟨rs,rfl,aEP kg (by omega) 11 (by omega),kg,fun n hn=>?_⟩
   ac_nf
   by_cases c4:(4:Int) < n
   ·refine ifT (decide_eq_true c4) ⟨⟨by omega,by omega⟩,uN (by show m<=1000;omega) fun p hp=>?_⟩
    ac_nf
    refine ⟨_,aH,bB.new hp _,kG .left m,aDz (by rw [kgR];exact .inl rfl) (by omega),(sZ (by rw [kgR];exact .inl rfl) m).2.1,?_⟩
    rw [aFw rfl,show (m:Int).toNat = m from rfl]
   ·exact ifF (decide_eq_false c4) ⟨.refl _,rs,⟨kg,by omega,by omega⟩,hm,rfl⟩
  clear kg hm dp rs
  rintro ρ' M5 ⟨s5,rs,kg,hm,rfl⟩
  have hn5:=s5 _ _ hn4
  ac_nf
  have ne:rs ≠ []:=fun z=>by subst z;rw [hmS] at hm;omega
  refine ⟨by decide,fun p hp=>⟨by decide,fun p' hp'=>?_⟩⟩
  have hP:bG (bG M5 p [D.tup (bI rs)]) p' [D.ref p,.str "much"] p = some [D.tup (bI rs)]:=(bB.new hp' _) _ _ aH
  have hP':bG (bG M5 p [D.tup (bI rs)]) p' [D.ref p,.str "much"] p' = some [D.ref p,.str "much"]:=aH
  have s6:=(bB.new hp [D.tup (bI rs)]).trans (bB.new hp' [D.ref p,.str "much"])
  generalize bG (bG M5 p _) p' _ = M6 at hP hP' s6 ⊢
  obtain ⟨d,ed,hd⟩:∃ d,atI [D.ref p,.str "much"] (if decide (60 < (m:Int)) = true then 1 else 0) = some d/\((m<=60/\d = .ref p) ∨ (60 < m/\d = .str "much")):=by
   by_cases c:60 < (m:Int)
   ·rw [decide_eq_true c];exact ⟨_,rfl,.inr ⟨by omega,rfl⟩⟩
   ·rw [decide_eq_false c];exact ⟨_,rfl,.inl ⟨by omega,rfl⟩⟩
  refine ⟨_,_,hP',ed,by decide,fun p2 hp2=>?_⟩
  have h2:bG M6 p2 [d,d] p2 = some [d,d]:=aH
  have s7:=bB.new hp2 [d,d]
  have s8:=s6.trans s7
  have hP7:=s7 _ _ hP
  have hn7:=s8 _ _ hn5
  have sA:=sb.trans (sn.trans (s4.trans (s5.trans s8)))
  generalize bG M6 p2 [d,d] = M7 at h2 s7 s8 hP7 hn7 sA ⊢
  refine ⟨_,_,hn7,e7,by decide,?_⟩
  rw [cM]
  by_cases c7:z7.fmod 3 = 0
  ·refine ifT (decide_eq_true c7) ⟨rs,rfl,kg.d8,kg.kg,by decide,rs,rfl,kg.d8,kg.kg,by decide,by decide,fun p3 hp3=>⟨by decide,by decide,by rw [cP];have:=lW rs;omega,?_⟩⟩
   have h3:bG M7 p3 [D.tup [.str "row",.int ((lsS rs).length:Int)],D.tup [.str "line",.int ((lsS rs).length:Int)]] p3 = some [D.tup [.str "row",.int ((lsS rs).length:Int)],D.tup [.str "line",.int ((lsS rs).length:Int)]]:=aH
   have s9:=bB.new hp3 [D.tup [.str "row",.int ((lsS rs).length:Int)],D.tup [.str "line",.int ((lsS rs).length:Int)]]
   generalize bG M7 p3 _ = M8 at h3 s9 ⊢
   refine ⟨rs,true,false,rfl,kg,ne,(fun e=>by cases e),(fun e=>by cases e),fun _ M9 s10=>?_⟩
   ac_nf
   refine ⟨_,_,s10 _ _ h3,rfl,mX rfl (ifF rfl ?_)⟩
   refine ⟨rs,true,true,rfl,kg,ne,(fun e=>by cases e),(fun e=>by cases e),fun _ M10 s11=>?_⟩
   ac_nf
   refine ⟨_,_,s11 _ _ (s10 _ _ h3),rfl,mX rfl (ifF rfl ⟨sA.trans (s9.trans (s10.trans s11)),_,_,_,_,_,_,rfl⟩)⟩
  ·refine ifF (decide_eq_false c7) ?_
   rcases hd with ⟨lm,rfl⟩ | ⟨lm,rfl⟩
   ·refine qQ kg ne (by omega) fun pa M8 s9 na ha=>⟨_,_,s9 _ _ h2,rfl,sR ha (s9 _ _ hP7) (kD hP7 na) rfl kg.pure (ifF rfl ?_)⟩
    refine qQ kg ne (by omega) fun pb M9 s10 nb hb=>⟨_,_,s10 _ _ (s9 _ _ h2),rfl,sR hb (s10 _ _ (s9 _ _ hP7)) (kD (s9 _ _ hP7) nb) rfl kg.pure (ifF rfl ⟨sA.trans (s9.trans s10),_,_,_,_,_,_,rfl⟩)⟩
   ·refine qM kg ne (by omega) fun M8 s9=>⟨_,_,s9 _ _ h2,rfl,mX rfl (ifF rfl ?_)⟩
    exact qM kg ne (by omega) fun M9 s10=>⟨_,_,s10 _ _ (s9 _ _ h2),rfl,mX rfl (ifF rfl ⟨sA.trans (s9.trans s10),_,_,_,_,_,_,rfl⟩)⟩
 ·rintro ρ M2 ⟨sb,o1,o2,o3,o4,o5,o6,rfl⟩
  ac_nf
  refine ⟨⟨by decide,by decide⟩,uN (by decide) fun pf hpf=>?_⟩
  ac_nf
  refine ⟨_,aH,?_⟩
  rw [show replicate (Int.toNat 60) (D.tup [.str "dot"]) = bI (kG .dot 60) from (aFw rfl).symm]
  ac_nf
  rw [show Dd.cutD (bI (kG .dot 60)) (some 1) none = bI (kG .dot 59) by rw [show kG .dot 60 = .pl .dot :: kG .dot 59 from rfl,bI,aBw]]
  rw [show [D.tup [.str "again",.int 5,.tup (bI (kG .dot 59))]] = bI [.ag 5 (kG .dot 59)] by rw [bI,bI,rwD];rfl]
  have kdot:kgR (.pl .dot):=by rw [kgR];exact .inr (.inl rfl)
  obtain ⟨zk1z,zh1z,zd1z⟩:=sZ kdot 59
  have zf1z:Kg (kG .dot 60):=aDz kdot (by decide)
  have zf2z:hmS (kG .dot 60) = 60:=(sZ kdot 60).2.1
  have zf3z:kG .dot 60 ≠ []:=fun z=>by rw [z,hmS] at zf2z;cases zf2z
  have zg1z:Kg [.ag 5 (kG .dot 59)]:=⟨by rw [kgS,kgS,kgR];exact ⟨⟨by decide,zk1z⟩,trivial⟩,by rw [dpL,dpL,dpR,zd1z];decide,by rw [hmS,hmS,hmR,zh1z];decide⟩
  have zg2z:hmS [.ag 5 (kG .dot 59)] = 60:=by rw [hmS,hmS,hmR,zh1z]
  have zg3z:[Rw.ag 5 (kG .dot 59)] ≠ []:=by simp
  generalize kG .dot 60 = F at zf1z zf2z zf3z ⊢
  generalize [Rw.ag 5 (kG .dot 59)] = G at zg1z zg2z zg3z ⊢
  have more:∀ L:List Rw,Kg L->hmS L = 60->Kg (L ++ [.pl .dot])/\60 < hmS (L ++ [.pl .dot])/\L ++ [.pl .dot] ≠ []/\(bI L).length + 1<=1000/\bI L ++ [D.tup [.str "dot"]] = bI (L ++ [.pl .dot]):=fun L kg hm=>by
   have e:hmS (L ++ [.pl .dot]) = 61:=by rw [lT,hmS,hmS,hmR];omega
   refine ⟨⟨xH kg.kg (by rw [kgS,kgS];exact ⟨kdot,trivial⟩),by rw [lP,dpL,dpL,dpR];have:=kg.dp;omega,by omega⟩,by omega,by simp,by rw [cP];have:=lW L;omega,?_⟩
   rw [sL,bI,bI,rwD];rfl
  obtain ⟨zu1z,zu2z,zu3z,zu4z,zu5z⟩:=more F zf1z zf2z
  obtain ⟨zv1z,zv2z,zv3z,zv4z,zv5z⟩:=more G zg1z zg2z
  refine ⟨by decide,by decide,by decide,fun pb hpb=>⟨_,aH,?_⟩⟩
  have hb:bG (bG M2 pf (bI F)) pb [D.bl false,.bl true] pb = some [D.bl false,.bl true]:=aH
  generalize bG (bG M2 pf _) pb _ = M3 at hb ⊢
  refine ⟨fun i ρ M'=>bB M3 M'/\∃ o9,ρ = [some (.fz (ns.map D.int)),o1,o2,o3,o4,o5,o6,some (.tup (bI F)),some (.tup (bI G)),o9],⟨.refl _,_,rfl⟩,fun i ρ M' _ h a e=>by cases e;exact h.1 _ _ hb,?_,fun ρ M' _=>bJ (fin M')⟩
  rintro i d ρ M4 hd ⟨s4,o9,rfl⟩
  obtain ⟨b,rfl⟩:∃ b,d = .bl b:=by
   have:=mem_of_getElem? hd
   simp only [mem_cons,not_mem_nil,or_false] at this
   rcases this with rfl | rfl<;>exact ⟨_,rfl⟩
  ac_nf
  refine qQ zf1z zf3z (by omega) fun pa M5 s5 na ha=>⟨by decide,fun p hp=>?_⟩
  have s6:=bB.new hp [D.tup (bI F)]
  refine sR (s6 _ _ ha) aH (Ne.symm (kD ha hp)) rfl zf1z.pure (ifF rfl ⟨by decide,by decide,zu4z,?_⟩)
  have sX:=s4.trans (s5.trans s6)
  generalize bG M5 p _ = M6 at sX ⊢
  rw [zu5z]
  refine qM zu1z zu3z zu2z fun M7 s7=>mX rfl (ifF rfl ?_)
  refine qQ zg1z zg3z (by omega) fun pc M8 s8 nc hc=>⟨by decide,fun p' hp'=>?_⟩
  have s9:=bB.new hp' [D.tup (bI G)]
  refine sR (s9 _ _ hc) aH (Ne.symm (kD hc hp')) rfl zg1z.pure (ifF rfl ⟨by decide,by decide,zv4z,?_⟩)
  have sY:=sX.trans (s7.trans (s8.trans s9))
  generalize bG M8 p' _ = M9 at sY ⊢
  rw [zv5z]
  exact qM zv1z zv3z zv2z fun M10 s10=>mX rfl (ifF rfl ⟨sY.trans s10,_,rfl⟩)
theorem law_here (ns:List Int) (hl:ns.length<=63) (M:DM):sp_law [.fz (ns.map D.int)] M fun d _=>d = .bl true:=⟨ns,rfl,hl,fun _=>rfl⟩
end
noncomputable def aFx:Stmt->Stmt
 | .ClassDef _ _ _ body _ _ _ _ _ _ _=>body.getD 0 (.Pass ⟨0,0,0,0⟩)
 | s=>s
noncomputable abbrev sJ:Stmt:=aFx (top 6)
theorem zH:aS ["self","row"] ["self","row"] (aI sJ):=⟨rfl,rfl,rfl,by decide +kernel,rfl,by decide +kernel,by decide +kernel⟩
noncomputable abbrev qU:Stmt:=aFx (top 7)
theorem yG:aS ["self","line"] ["self","line"] (aI qU):=⟨rfl,rfl,rfl,by decide +kernel,rfl,by decide +kernel,by decide +kernel⟩
theorem all_mk {l:PySem.W.OpenLaw} {w:World} {K:Frag} {h:Heap} {mg:Str->Option Value} {fa f0 f1 f2 f3 f4 f5 f6 f7 f8 f9 f10 f11 f12 f13 f14 f15 f16 f17 f18 f19 f20 f21 f22 f23 f24 f25 f26 f27 f28 f29 f30 f31 f32 f33 f34 f35 f36 f37 f38 f39 f40 f41 f42 f43 f44 f45 f46 f47 f48 f49 f50 f51 f52 f53 f54 f55:Addr} (X:K.In h) (G:h.Ns mainGlobals mg) (hfa:mg "law" = some (.ref fa))
  {od55 an55:Option Addr} {sl55:Array (Option Value)} {oc55 kV55 dc55 pm55 cd55 ct55:Value}
  (b0:FK K "greatest_divisor" f0 iE)
  (b1:FK K "plus" f1 aCt)
  (b2:FK K "times" f2 wD)
  (b3:FK K "below" f3 aA8)
  (b4:FK K "on_one_bottom" f4 jU)
  (b5:FK K "sign" f5 aCS)
  (b6:FK K "scaled_far" f6 nY)
  (b7:FK K "farther" f7 uJ)
  (b8:FK K "first" f8 aAZ)
  (b9:FK K "at_place" f9 rO)
  (b10:FK K "side_deed" f10 pU)
  (b11:FK K "go_deed" f11 uF)
  (b12:FK K "skip_deed" f12 qA)
  (b13:FK K "dot_deed" f13 qY)
  (b14:FK K "left_deed" f14 oV)
  (b15:FK K "round_deed" f15 nK)
  (b16:FK K "right_deed" f16 nE)
  (b17:FK K "mirror_deed" f17 lZ)
  (b18:FK K "grow_deed" f18 pA)
  (b19:FK K "quarter_deed" f19 kO)
  (b20:FK K "half_deed" f20 pX)
  (b21:FK K "arc_deed" f21 rJ)
  (b22:FK K "deed_of" f22 uQ)
  (b23:FK K "rows_within" f23 jK)
  (b24:FK K "how_many_done" f24 jW)
  (b25:FK K "_law_row" f25 tT)
  (b26:FK K "how_many_rows" f26 jT)
  (b27:FK K "not_too_long" f27 iV)
  (b28:FK K "may_grow" f28 rF)
  (b29:FK K "is_whole" f29 rK)
  (b30:FK K "is_reduced" f30 nQ)
  (b31:FK K "is_fraction" f31 mJ)
  (b32:FK K "numbers_behind" f32 jG)
  (b33:FK K "is_worded" f33 pZ)
  (b34:FK K "is_bend" f34 tY)
  (b35:FK K "is_plain_row" f35 iS)
  (b36:FK K "is_block" f36 rN)
  (b37:FK K "has_room" f37 rC)
  (b38:FK K "draws" f38 aAR)
  (b39:FK K "raised_whole" f39 kP)
  (b40:FK K "raised" f40 yM)
  (b41:FK K "move_size" f41 pT)
  (b42:FK K "can_go_on" f42 pV)
  (b43:FK K "look_at_rows" f43 iT)
  (b44:FK K "program_of" f44 iW)
  (b45:FK K "whole_of" f45 rT)
  (b46:FK K "fraction_of" f46 mI)
  (b47:FK K "head_of" f47 iL)
  (b48:FK K "rows_of" f48 qO)
  (b49:FK K "read" f49 yI)
  (b50:FK K "_law_deep" f50 nV)
  (b51:FK K "_law_numbers" f51 mF)
  (b52:FK K "_law_rows" f52 nZ)
  (b53:FK K "_law_lines" f53 lS)
  (b54:FK K "_law_told" f54 rH)
  (a55:nsIn K mainGlobals "law" = some (some (.ref f55))) (l55:K.lookup f55 = some ⟨oc55,od55,.func (fnOf "law" "law" (oE pF) (eO pF) (aI pF) .none kV55 dc55 pm55 an55 cd55 ct55),sl55⟩) (c55:codeIn K cd55 "law" = true) (k55:keepIn K (.ref f55) = true)
  (z_ValueError:nsIn K mainGlobals "ValueError" = some none)
  (z_abs:nsIn K mainGlobals "abs" = some none)
  (z_all:nsIn K mainGlobals "all" = some none)
  (z_bool:nsIn K mainGlobals "bool" = some none)
  (z_enumerate:nsIn K mainGlobals "enumerate" = some none)
  (z_int:nsIn K mainGlobals "int" = some none)
  (z_isinstance:nsIn K mainGlobals "isinstance" = some none)
  (z_len:nsIn K mainGlobals "len" = some none)
  (z_max:nsIn K mainGlobals "max" = some none)
  (z_min:nsIn K mainGlobals "min" = some none)
  (z_range:nsIn K mainGlobals "range" = some none)
  (z_str:nsIn K mainGlobals "str" = some none)
  (z_tuple:nsIn K mainGlobals "tuple" = some none)
  {GNUMBERS:Addr} {esGNUMBERS:Array DictEntry} {epGNUMBERS:Nat} (at_NUMBERS:nsIn K mainGlobals "NUMBERS" = some (some (.ref GNUMBERS))) (am_NUMBERS:(GNUMBERS == sysModules) = false) (lt_NUMBERS:K.lookup GNUMBERS = some ⟨.type "dict",none,.dict esGNUMBERS epGNUMBERS,#[]⟩) (kt_NUMBERS:KeysLit w.params esGNUMBERS.toList)
  {tk_NUMBERS_go:Tok} (et_NUMBERS_go:nsIn K GNUMBERS "go" = some (some (.int 1 tk_NUMBERS_go)))
  {tk_NUMBERS_skip:Tok} (et_NUMBERS_skip:nsIn K GNUMBERS "skip" = some (some (.int 1 tk_NUMBERS_skip)))
  {tk_NUMBERS_side:Tok} (et_NUMBERS_side:nsIn K GNUMBERS "side" = some (some (.int 2 tk_NUMBERS_side)))
  {tk_NUMBERS_dot:Tok} (et_NUMBERS_dot:nsIn K GNUMBERS "dot" = some (some (.int 0 tk_NUMBERS_dot)))
  {tk_NUMBERS_left:Tok} (et_NUMBERS_left:nsIn K GNUMBERS "left" = some (some (.int 0 tk_NUMBERS_left)))
  {tk_NUMBERS_right:Tok} (et_NUMBERS_right:nsIn K GNUMBERS "right" = some (some (.int 0 tk_NUMBERS_right)))
  {tk_NUMBERS_round:Tok} (et_NUMBERS_round:nsIn K GNUMBERS "round" = some (some (.int 0 tk_NUMBERS_round)))
  {tk_NUMBERS_mirror:Tok} (et_NUMBERS_mirror:nsIn K GNUMBERS "mirror" = some (some (.int 0 tk_NUMBERS_mirror)))
  {tk_NUMBERS_grow:Tok} (et_NUMBERS_grow:nsIn K GNUMBERS "grow" = some (some (.int 1 tk_NUMBERS_grow)))
  {tk_NUMBERS_quarter:Tok} (et_NUMBERS_quarter:nsIn K GNUMBERS "quarter" = some (some (.int 1 tk_NUMBERS_quarter)))
  {tk_NUMBERS_half:Tok} (et_NUMBERS_half:nsIn K GNUMBERS "half" = some (some (.int 1 tk_NUMBERS_half)))
  {tk_NUMBERS_arc:Tok} (et_NUMBERS_arc:nsIn K GNUMBERS "arc" = some (some (.int 4 tk_NUMBERS_arc)))
  (en_NUMBERS_0:nsIn K GNUMBERS "again" = some none)
  (en_NUMBERS_1:nsIn K GNUMBERS "keep" = some none)
  (en_NUMBERS_2:nsIn K GNUMBERS "ever" = some none)
  (en_NUMBERS_3:nsIn K GNUMBERS "forth" = some none)
  (en_NUMBERS_4:nsIn K GNUMBERS "end" = some none)
  {GDEEDS:Addr} {esGDEEDS:Array DictEntry} {epGDEEDS:Nat} (at_DEEDS:nsIn K mainGlobals "DEEDS" = some (some (.ref GDEEDS))) (lt_DEEDS:K.lookup GDEEDS = some ⟨.type "dict",none,.dict esGDEEDS epGDEEDS,#[]⟩) (kt_DEEDS:KeysLit w.params esGDEEDS.toList)
  (et_DEEDS_go:nsIn K GDEEDS "go" = some (some (.ref f11)))
  (et_DEEDS_skip:nsIn K GDEEDS "skip" = some (some (.ref f12)))
  (et_DEEDS_side:nsIn K GDEEDS "side" = some (some (.ref f10)))
  (et_DEEDS_dot:nsIn K GDEEDS "dot" = some (some (.ref f13)))
  (et_DEEDS_left:nsIn K GDEEDS "left" = some (some (.ref f14)))
  (et_DEEDS_right:nsIn K GDEEDS "right" = some (some (.ref f16)))
  (et_DEEDS_round:nsIn K GDEEDS "round" = some (some (.ref f15)))
  (et_DEEDS_mirror:nsIn K GDEEDS "mirror" = some (some (.ref f17)))
  (et_DEEDS_grow:nsIn K GDEEDS "grow" = some (some (.ref f18)))
  (et_DEEDS_quarter:nsIn K GDEEDS "quarter" = some (some (.ref f19)))
  (et_DEEDS_half:nsIn K GDEEDS "half" = some (some (.ref f20)))
  (et_DEEDS_arc:nsIn K GDEEDS "arc" = some (some (.ref f21)))
  {GLEAST_CHANGE:Addr} {odGLEAST_CHANGE:Option Addr} {nGLEAST_CHANGE:Nat} {slGLEAST_CHANGE:Array (Option Value)} {tGLEAST_CHANGE_0:Tok} {tGLEAST_CHANGE_1:Tok}
  (ag_LEAST_CHANGE:nsIn K mainGlobals "LEAST_CHANGE" = some (some (.ref GLEAST_CHANGE)))
  (lGLEAST_CHANGE:K.lookup GLEAST_CHANGE = some ⟨.type "tuple",odGLEAST_CHANGE,.seq #[.int 3 tGLEAST_CHANGE_0,.int 4 tGLEAST_CHANGE_1] nGLEAST_CHANGE,slGLEAST_CHANGE⟩)
  {GMIDDLE:Addr} {odGMIDDLE:Option Addr} {nGMIDDLE:Nat} {slGMIDDLE:Array (Option Value)}
  {GMIDDLE_0:Addr} {odGMIDDLE_0:Option Addr} {nGMIDDLE_0:Nat} {slGMIDDLE_0:Array (Option Value)} {tGMIDDLE_0_0:Tok} {tGMIDDLE_0_1:Tok}
  {GMIDDLE_1:Addr} {odGMIDDLE_1:Option Addr} {nGMIDDLE_1:Nat} {slGMIDDLE_1:Array (Option Value)} {tGMIDDLE_1_0:Tok} {tGMIDDLE_1_1:Tok}
  (ag_MIDDLE:nsIn K mainGlobals "MIDDLE" = some (some (.ref GMIDDLE)))
  (lGMIDDLE:K.lookup GMIDDLE = some ⟨.type "tuple",odGMIDDLE,.seq #[.ref GMIDDLE_0,.ref GMIDDLE_1] nGMIDDLE,slGMIDDLE⟩)
  (lGMIDDLE_0:K.lookup GMIDDLE_0 = some ⟨.type "tuple",odGMIDDLE_0,.seq #[.int 0 tGMIDDLE_0_0,.int 1 tGMIDDLE_0_1] nGMIDDLE_0,slGMIDDLE_0⟩)
  (lGMIDDLE_1:K.lookup GMIDDLE_1 = some ⟨.type "tuple",odGMIDDLE_1,.seq #[.int 0 tGMIDDLE_1_0,.int 1 tGMIDDLE_1_1] nGMIDDLE_1,slGMIDDLE_1⟩)
  {tGMOST_AGAIN:Tok} (ag_MOST_AGAIN:nsIn K mainGlobals "MOST_AGAIN" = some (some (.int 12 tGMOST_AGAIN)))
  {tGMOST_BLOCKS:Tok} (ag_MOST_BLOCKS:nsIn K mainGlobals "MOST_BLOCKS" = some (some (.int 4 tGMOST_BLOCKS)))
  {tGMOST_IN_A_ROUND:Tok} (ag_MOST_IN_A_ROUND:nsIn K mainGlobals "MOST_IN_A_ROUND" = some (some (.int 300 tGMOST_IN_A_ROUND)))
  {tGMOST_IN_GROW:Tok} (ag_MOST_IN_GROW:nsIn K mainGlobals "MOST_IN_GROW" = some (some (.int 12 tGMOST_IN_GROW)))
  {tGMOST_ROWS:Tok} (ag_MOST_ROWS:nsIn K mainGlobals "MOST_ROWS" = some (some (.int 60 tGMOST_ROWS)))
  {GNOTHING:Addr} {odGNOTHING:Option Addr} {nGNOTHING:Nat} {slGNOTHING:Array (Option Value)} {tGNOTHING_0:Tok} {tGNOTHING_1:Tok}
  (ag_NOTHING:nsIn K mainGlobals "NOTHING" = some (some (.ref GNOTHING)))
  (lGNOTHING:K.lookup GNOTHING = some ⟨.type "tuple",odGNOTHING,.seq #[.int 0 tGNOTHING_0,.int 1 tGNOTHING_1] nGNOTHING,slGNOTHING⟩)
  {GONE:Addr} {odGONE:Option Addr} {nGONE:Nat} {slGONE:Array (Option Value)} {tGONE_0:Tok} {tGONE_1:Tok}
  (ag_ONE:nsIn K mainGlobals "ONE" = some (some (.ref GONE)))
  (lGONE:K.lookup GONE = some ⟨.type "tuple",odGONE,.seq #[.int 1 tGONE_0,.int 1 tGONE_1] nGONE,slGONE⟩)
  {C_NoRow:Addr}
  (ac_NoRow:nsIn K mainGlobals "NoRow" = some (some (.ref C_NoRow))) (kc_NoRow:keepIn K (.ref C_NoRow) = true)
  (ob_NoRow:∃ M nm qn N bs hdct sn sub ab col dd k0 k1 k2 k3 k5,K.lookup C_NoRow = some (excClassObj nm qn C_NoRow N bs (.ref M :: bmV) hdct sn sub ab col dd k0 k1 k2 k3 k5 "ValueError.__new__")/\excIn K M bmV "ValueError.__new__" = true/\∃ cdM,clsIn K M = some cdM/\cdM.mro = .ref M :: bmV)
  (in_NoRow:∃ fI fd,findIn K (.ref C_NoRow) "__init__" = some (some (.ref fI))/\typeIn K (.ref fI) = some (.type "function")/\L2.Fun K "__init__" "NoRow.__init__" sJ fI fd)
  (fa_NoRow:findIn K (.ref C_NoRow) "__setattr__" = some (some (.builtin "object.__setattr__"))) (fc_NoRow:∃ cd,clsIn K C_NoRow = some cd/\aFU cd.mro = true/\cd.hasDict = true) (fm_NoRow:mroIn K C_NoRow (.type "object") = some true) (fn_NoRow:findIn K (.ref C_NoRow) "row" = some none)
  {C_NoText:Addr}
  (ac_NoText:nsIn K mainGlobals "NoText" = some (some (.ref C_NoText))) (kc_NoText:keepIn K (.ref C_NoText) = true)
  (ob_NoText:∃ M nm qn N bs hdct sn sub ab col dd k0 k1 k2 k3 k5,K.lookup C_NoText = some (excClassObj nm qn C_NoText N bs (.ref M :: bmV) hdct sn sub ab col dd k0 k1 k2 k3 k5 "ValueError.__new__")/\excIn K M bmV "ValueError.__new__" = true/\∃ cdM,clsIn K M = some cdM/\cdM.mro = .ref M :: bmV)
  (in_NoText:∃ fI fd,findIn K (.ref C_NoText) "__init__" = some (some (.ref fI))/\typeIn K (.ref fI) = some (.type "function")/\L2.Fun K "__init__" "NoText.__init__" qU fI fd)
  (fa_NoText:findIn K (.ref C_NoText) "__setattr__" = some (some (.builtin "object.__setattr__"))) (fc_NoText:∃ cd,clsIn K C_NoText = some cd/\aFU cd.mro = true/\cd.hasDict = true) (fm_NoText:mroIn K C_NoText (.type "object") = some true) (fn_NoText:findIn K (.ref C_NoText) "line" = some none)
  {C_MillError C_NoKin C_NoNumber C_NoPiece C_TooMuch:Addr}
  (ac_NoKin:nsIn K mainGlobals "NoKin" = some (some (.ref C_NoKin)))
  (ac_NoNumber:nsIn K mainGlobals "NoNumber" = some (some (.ref C_NoNumber)))
  (ac_NoPiece:nsIn K mainGlobals "NoPiece" = some (some (.ref C_NoPiece)))
  (ac_MillError:nsIn K mainGlobals "MillError" = some (some (.ref C_MillError))) (xc_MillError:excIn K C_MillError bmV "ValueError.__new__" = true)
  (ac_TooMuch:nsIn K mainGlobals "TooMuch" = some (some (.ref C_TooMuch))) (xc_TooMuch:excIn K C_TooMuch bmV "ValueError.__new__" = true)
  (ex0_NoRow:findIn K (.ref C_NoRow) "__getattribute__" = some (some (.builtin "BaseException.__getattribute__")))
  (ex1_NoRow:findIn K (.ref C_NoRow) "__getattr__" = some none)
  (ex2_NoRow:findIn K (.ref C_NoRow) "__class__" = some (some (.builtin "object.__class__")))
  (ex3_NoRow:PySem.W.specialIn K (.builtin "object.__class__") "__get__" = some (some (.builtin "getset_descriptor.__get__")))
  (ex4_NoRow:PySem.W.takesIn K (.builtin "object.__class__") = some true)
  (ex5_NoRow:mroIn K C_NoRow (.type "object") = some true)
  (ex6_NoRow:mroIn K C_NoRow (.type "BaseException") = some true)
  (ex0_NoText:findIn K (.ref C_NoText) "__getattribute__" = some (some (.builtin "BaseException.__getattribute__")))
  (ex1_NoText:findIn K (.ref C_NoText) "__getattr__" = some none)
  (ex2_NoText:findIn K (.ref C_NoText) "__class__" = some (some (.builtin "object.__class__")))
  (ex3_NoText:PySem.W.specialIn K (.builtin "object.__class__") "__get__" = some (some (.builtin "getset_descriptor.__get__")))
  (ex4_NoText:PySem.W.takesIn K (.builtin "object.__class__") = some true)
  (ex5_NoText:mroIn K C_NoText (.type "object") = some true)
  (ex6_NoText:mroIn K C_NoText (.type "BaseException") = some true)
  (ex0_TooMuch:findIn K (.ref C_TooMuch) "__getattribute__" = some (some (.builtin "BaseException.__getattribute__")))
  (ex1_TooMuch:findIn K (.ref C_TooMuch) "__getattr__" = some none)
  (ex2_TooMuch:findIn K (.ref C_TooMuch) "__class__" = some (some (.builtin "object.__class__")))
  (ex3_TooMuch:PySem.W.specialIn K (.builtin "object.__class__") "__get__" = some (some (.builtin "getset_descriptor.__get__")))
  (ex4_TooMuch:PySem.W.takesIn K (.builtin "object.__class__") = some true)
  (ex5_TooMuch:mroIn K C_TooMuch (.type "object") = some true)
  (ex6_TooMuch:mroIn K C_TooMuch (.type "BaseException") = some true)
  (eP:exmOne K (.ref C_NoRow) (.ref C_MillError) = some true)
  (eB:exmOne K (.ref C_NoText) (.ref C_MillError) = some true)
  (dM:exmOne K (.ref C_TooMuch) (.ref C_MillError) = some true)
  (gK:kitOne K (.ref C_NoText) (.ref C_NoRow) = some false)
  (fM:kitOne K (.ref C_TooMuch) (.ref C_NoRow) = some false)
  (gD:kitOne K (.ref C_NoRow) (.ref C_NoText) = some false)
  (eX:kitOne K (.ref C_TooMuch) (.ref C_NoText) = some false)
  (fO:kitOne K (.ref C_NoRow) (.ref C_TooMuch) = some false)
  (eZ:kitOne K (.ref C_NoText) (.ref C_TooMuch) = some false)
  (eC:kitOne K (.ref C_NoRow) (.type "ValueError") = some true)
  (dN:kitOne K (.ref C_NoText) (.type "ValueError") = some true)
  (dE:kitOne K (.ref C_TooMuch) (.type "ValueError") = some true)
  (gG:kitAny K (.ref C_NoRow) [.ref C_NoKin,.ref C_NoNumber,.ref C_NoPiece] = some false)
  (fR:kitAny K (.ref C_NoText) [.ref C_NoKin,.ref C_NoNumber,.ref C_NoPiece] = some false)
  (dW:kitAny K (.ref C_TooMuch) [.ref C_NoKin,.ref C_NoNumber,.ref C_NoPiece] = some false)
 :∃ fd:FuncData,(∀ (s:Shared) (v:Value),BindsTo s fd ⟨[v],[]⟩ [("_law_script",v)])/\∀ base:Heap,K.In base->base.Ns mainGlobals mg->jV l.prog w K mg base CX0 151 fa fd ["_law_script"] (pP K sp_law):=by
 have e:=hfa.symm.trans (mg_of X G a55)
 cases e
 have H0:=b0.has X G (ps:=["one","other"]) fun _ _ _ _ _ _ us hl=>by obtain ⟨_,_,rfl⟩:=us2 hl;rfl
 have H1:=b1.has X G (ps:=["one","other"]) fun _ _ _ _ _ _ us hl=>by obtain ⟨_,_,rfl⟩:=us2 hl;rfl
 have H2:=b2.has X G (ps:=["one","other"]) fun _ _ _ _ _ _ us hl=>by obtain ⟨_,_,rfl⟩:=us2 hl;rfl
 have H3:=b3.has X G (ps:=["one","other"]) fun _ _ _ _ _ _ us hl=>by obtain ⟨_,_,rfl⟩:=us2 hl;rfl
 have H4:=b4.has X G (ps:=["p"]) fun _ _ _ _ _ _ us hl=>by obtain ⟨_,rfl⟩:=us1 hl;rfl
 have H5:=b5.has X G (ps:=["number"]) fun _ _ _ _ _ _ us hl=>by obtain ⟨_,rfl⟩:=us1 hl;rfl
 have H6:=b6.has X G (ps:=["c","p"]) fun _ _ _ _ _ _ us hl=>by obtain ⟨_,_,rfl⟩:=us2 hl;rfl
 have H7:=b7.has X G (ps:=["c","p","q"]) fun _ _ _ _ _ _ us hl=>by obtain ⟨_,_,_,rfl⟩:=us3 hl;rfl
 have H8:=b8.has X G (ps:=[]) fun _ _ _ _ _ _ us hl=>by obtain rfl:=us0 hl;rfl
 have H9:=b9.has X G (ps:=["place","turns"]) fun _ _ _ _ _ _ us hl=>by obtain ⟨_,_,rfl⟩:=us2 hl;rfl
 have H10:=b10.has X G (ps:=["row"]) fun _ _ _ _ _ _ us hl=>by obtain ⟨_,rfl⟩:=us1 hl;rfl
 have H11:=b11.has X G (ps:=["row"]) fun _ _ _ _ _ _ us hl=>by obtain ⟨_,rfl⟩:=us1 hl;rfl
 have H12:=b12.has X G (ps:=["row"]) fun _ _ _ _ _ _ us hl=>by obtain ⟨_,rfl⟩:=us1 hl;rfl
 have H13:=b13.has X G (ps:=["row"]) fun _ _ _ _ _ _ us hl=>by obtain ⟨_,rfl⟩:=us1 hl;rfl
 have H14:=b14.has X G (ps:=["row"]) fun _ _ _ _ _ _ us hl=>by obtain ⟨_,rfl⟩:=us1 hl;rfl
 have H15:=b15.has X G (ps:=["row"]) fun _ _ _ _ _ _ us hl=>by obtain ⟨_,rfl⟩:=us1 hl;rfl
 have H16:=b16.has X G (ps:=["row"]) fun _ _ _ _ _ _ us hl=>by obtain ⟨_,rfl⟩:=us1 hl;rfl
 have H17:=b17.has X G (ps:=["row"]) fun _ _ _ _ _ _ us hl=>by obtain ⟨_,rfl⟩:=us1 hl;rfl
 have H18:=b18.has X G (ps:=["row"]) fun _ _ _ _ _ _ us hl=>by obtain ⟨_,rfl⟩:=us1 hl;rfl
 have H19:=b19.has X G (ps:=["row"]) fun _ _ _ _ _ _ us hl=>by obtain ⟨_,rfl⟩:=us1 hl;rfl
 have H20:=b20.has X G (ps:=["row"]) fun _ _ _ _ _ _ us hl=>by obtain ⟨_,rfl⟩:=us1 hl;rfl
 have H21:=b21.has X G (ps:=["row"]) fun _ _ _ _ _ _ us hl=>by obtain ⟨_,rfl⟩:=us1 hl;rfl
 have H22:=b22.has X G (ps:=["row"]) fun _ _ _ _ _ _ us hl=>by obtain ⟨_,rfl⟩:=us1 hl;rfl
 have H23:=b23.has X G (ps:=["row"]) fun _ _ _ _ _ _ us hl=>by obtain ⟨_,rfl⟩:=us1 hl;rfl
 have H24:=b24.has X G (ps:=["rows"]) fun _ _ _ _ _ _ us hl=>by obtain ⟨_,rfl⟩:=us1 hl;rfl
 have H25:=b25.has X G (ps:=["_law_cell","_law_many"]) fun _ _ _ _ _ _ us hl=>by obtain ⟨_,_,rfl⟩:=us2 hl;rfl
 have H26:=b26.has X G (ps:=["rows"]) fun _ _ _ _ _ _ us hl=>by obtain ⟨_,rfl⟩:=us1 hl;rfl
 have H27:=b27.has X G (ps:=["program"]) fun _ _ _ _ _ _ us hl=>by obtain ⟨_,rfl⟩:=us1 hl;rfl
 have H28:=b28.has X G (ps:=["number"]) fun _ _ _ _ _ _ us hl=>by obtain ⟨_,rfl⟩:=us1 hl;rfl
 have H29:=b29.has X G (ps:=["thing"]) fun _ _ _ _ _ _ us hl=>by obtain ⟨_,rfl⟩:=us1 hl;rfl
 have H30:=b30.has X G (ps:=["top","bottom"]) fun _ _ _ _ _ _ us hl=>by obtain ⟨_,_,rfl⟩:=us2 hl;rfl
 have H31:=b31.has X G (ps:=["thing"]) fun _ _ _ _ _ _ us hl=>by obtain ⟨_,rfl⟩:=us1 hl;rfl
 have H32:=b32.has X G (ps:=["word"]) fun _ _ _ _ _ _ us hl=>by obtain ⟨_,rfl⟩:=us1 hl;rfl
 have H33:=b33.has X G (ps:=["thing"]) fun _ _ _ _ _ _ us hl=>by obtain ⟨_,rfl⟩:=us1 hl;rfl
 have H34:=b34.has X G (ps:=["row"]) fun _ _ _ _ _ _ us hl=>by obtain ⟨_,rfl⟩:=us1 hl;rfl
 have H35:=b35.has X G (ps:=["thing"]) fun _ _ _ _ _ _ us hl=>by obtain ⟨_,rfl⟩:=us1 hl;rfl
 have H36:=b36.has X G (ps:=["thing"]) fun _ _ _ _ _ _ us hl=>by obtain ⟨_,rfl⟩:=us1 hl;rfl
 have H37:=b37.has X G (ps:=["block","around"]) fun _ _ _ _ _ _ us hl=>by obtain ⟨_,_,rfl⟩:=us2 hl;rfl
 have H38:=b38.has X G (ps:=["rows"]) fun _ _ _ _ _ _ us hl=>by obtain ⟨_,rfl⟩:=us1 hl;rfl
 have H39:=b39.has X G (ps:=["number","n"]) fun _ _ _ _ _ _ us hl=>by obtain ⟨_,_,rfl⟩:=us2 hl;rfl
 have H40:=b40.has X G (ps:=["number","n"]) fun _ _ _ _ _ _ us hl=>by obtain ⟨_,_,rfl⟩:=us2 hl;rfl
 have H41:=b41.has X G (ps:=["rows"]) fun _ _ _ _ _ _ us hl=>by obtain ⟨_,rfl⟩:=us1 hl;rfl
 have H42:=b42.has X G (ps:=["rows"]) fun _ _ _ _ _ _ us hl=>by obtain ⟨_,rfl⟩:=us1 hl;rfl
 have H43:=b43.has X G (ps:=["rows","number","around"]) fun _ _ _ _ _ _ us hl=>by obtain ⟨_,_,_,rfl⟩:=us3 hl;rfl
 have H44:=b44.has X G (ps:=["rows"]) fun _ _ _ _ _ _ us hl=>by obtain ⟨_,rfl⟩:=us1 hl;rfl
 have H45:=b45.has X G (ps:=["text"]) fun _ _ _ _ _ _ us hl=>by obtain ⟨_,rfl⟩:=us1 hl;rfl
 have H46:=b46.has X G (ps:=["text"]) fun _ _ _ _ _ _ us hl=>by obtain ⟨_,rfl⟩:=us1 hl;rfl
 have H47:=b47.has X G (ps:=["text"]) fun _ _ _ _ _ _ us hl=>by obtain ⟨_,rfl⟩:=us1 hl;rfl
 have H48:=b48.has X G (ps:=["lines"]) fun _ _ _ _ _ _ us hl=>by obtain ⟨_,rfl⟩:=us1 hl;rfl
 have H49:=b49.has X G (ps:=["text"]) fun _ _ _ _ _ _ us hl=>by obtain ⟨_,rfl⟩:=us1 hl;rfl
 have H50:=b50.has X G (ps:=["_law_rows_here"]) fun _ _ _ _ _ _ us hl=>by obtain ⟨_,rfl⟩:=us1 hl;rfl
 have H51:=b51.has X G (ps:=["_law_rows_here"]) fun _ _ _ _ _ _ us hl=>by obtain ⟨_,rfl⟩:=us1 hl;rfl
 have H52:=b52.has X G (ps:=["_law_many","_law_row_here"]) fun _ _ _ _ _ _ us hl=>by obtain ⟨_,_,rfl⟩:=us2 hl;rfl
 have H53:=b53.has X G (ps:=["_law_rows_here"]) fun _ _ _ _ _ _ us hl=>by obtain ⟨_,rfl⟩:=us1 hl;rfl
 have H54:=b54.has X G (ps:=["_law_rows_here","_law_by_text"]) fun _ _ _ _ _ _ us hl=>by obtain ⟨_,_,rfl⟩:=us2 hl;rfl
 have F55:=fun_mk (st:=pF) l55 c55 k55
 have iQ:=mg_none_of X G z_ValueError
 have yR:=mg_none_of X G z_abs
 have aFn:=mg_none_of X G z_all
 have aDe:=mg_none_of X G z_bool
 have iH:=mg_none_of X G z_enumerate
 have sM:=mg_none_of X G z_int
 have aT:=mg_none_of X G z_isinstance
 have eI:=mg_none_of X G z_len
 have aEQ:=mg_none_of X G z_max
 have aFJ:=mg_none_of X G z_min
 have jL:=mg_none_of X G z_range
 have zP:=mg_none_of X G z_str
 have cH:=mg_none_of X G z_tuple
 have aBi:aIH w K mg "DEEDS" [("go","go_deed"),("skip","skip_deed"),("side","side_deed"),("dot","dot_deed"),("left","left_deed"),("right","right_deed"),("round","round_deed"),("mirror","mirror_deed"),("grow","grow_deed"),("quarter","quarter_deed"),("half","half_deed"),("arc","arc_deed")]:=⟨_,_,_,mg_of X G at_DEEDS,lt_DEEDS,kt_DEEDS,fun k n e=>by
  by_cases c_go:k = "go"
  ·subst c_go;cases e;exact ⟨_,et_DEEDS_go,mg_of X G b11.1⟩
  by_cases c_skip:k = "skip"
  ·subst c_skip;cases e;exact ⟨_,et_DEEDS_skip,mg_of X G b12.1⟩
  by_cases c_side:k = "side"
  ·subst c_side;cases e;exact ⟨_,et_DEEDS_side,mg_of X G b10.1⟩
  by_cases c_dot:k = "dot"
  ·subst c_dot;cases e;exact ⟨_,et_DEEDS_dot,mg_of X G b13.1⟩
  by_cases c_left:k = "left"
  ·subst c_left;cases e;exact ⟨_,et_DEEDS_left,mg_of X G b14.1⟩
  by_cases c_right:k = "right"
  ·subst c_right;cases e;exact ⟨_,et_DEEDS_right,mg_of X G b16.1⟩
  by_cases c_round:k = "round"
  ·subst c_round;cases e;exact ⟨_,et_DEEDS_round,mg_of X G b15.1⟩
  by_cases c_mirror:k = "mirror"
  ·subst c_mirror;cases e;exact ⟨_,et_DEEDS_mirror,mg_of X G b17.1⟩
  by_cases c_grow:k = "grow"
  ·subst c_grow;cases e;exact ⟨_,et_DEEDS_grow,mg_of X G b18.1⟩
  by_cases c_quarter:k = "quarter"
  ·subst c_quarter;cases e;exact ⟨_,et_DEEDS_quarter,mg_of X G b19.1⟩
  by_cases c_half:k = "half"
  ·subst c_half;cases e;exact ⟨_,et_DEEDS_half,mg_of X G b20.1⟩
  by_cases c_arc:k = "arc"
  ·subst c_arc;cases e;exact ⟨_,et_DEEDS_arc,mg_of X G b21.1⟩
  simp only [List.lookup,beq_eq_false_iff_ne.mpr c_go,beq_eq_false_iff_ne.mpr c_skip,beq_eq_false_iff_ne.mpr c_side,beq_eq_false_iff_ne.mpr c_dot,beq_eq_false_iff_ne.mpr c_left,beq_eq_false_iff_ne.mpr c_right,beq_eq_false_iff_ne.mpr c_round,beq_eq_false_iff_ne.mpr c_mirror,beq_eq_false_iff_ne.mpr c_grow,beq_eq_false_iff_ne.mpr c_quarter,beq_eq_false_iff_ne.mpr c_half,beq_eq_false_iff_ne.mpr c_arc] at e;cases e⟩
 have uA:aDA w K mg "NUMBERS" aGE aD2:=by
  refine ⟨_,_,_,mg_of X G at_NUMBERS,am_NUMBERS,lt_NUMBERS,kt_NUMBERS,?_,?_⟩
  ·intro k n e
   unfold aGE at e
   by_cases c_go:k = "go"
   ·subst c_go;cases e;exact ⟨_,et_NUMBERS_go⟩
   by_cases c_skip:k = "skip"
   ·subst c_skip;cases e;exact ⟨_,et_NUMBERS_skip⟩
   by_cases c_side:k = "side"
   ·subst c_side;cases e;exact ⟨_,et_NUMBERS_side⟩
   by_cases c_dot:k = "dot"
   ·subst c_dot;cases e;exact ⟨_,et_NUMBERS_dot⟩
   by_cases c_left:k = "left"
   ·subst c_left;cases e;exact ⟨_,et_NUMBERS_left⟩
   by_cases c_right:k = "right"
   ·subst c_right;cases e;exact ⟨_,et_NUMBERS_right⟩
   by_cases c_round:k = "round"
   ·subst c_round;cases e;exact ⟨_,et_NUMBERS_round⟩
   by_cases c_mirror:k = "mirror"
   ·subst c_mirror;cases e;exact ⟨_,et_NUMBERS_mirror⟩
   by_cases c_grow:k = "grow"
   ·subst c_grow;cases e;exact ⟨_,et_NUMBERS_grow⟩
   by_cases c_quarter:k = "quarter"
   ·subst c_quarter;cases e;exact ⟨_,et_NUMBERS_quarter⟩
   by_cases c_half:k = "half"
   ·subst c_half;cases e;exact ⟨_,et_NUMBERS_half⟩
   by_cases c_arc:k = "arc"
   ·subst c_arc;cases e;exact ⟨_,et_NUMBERS_arc⟩
   simp only [List.lookup,beq_eq_false_iff_ne.mpr c_go,beq_eq_false_iff_ne.mpr c_skip,beq_eq_false_iff_ne.mpr c_side,beq_eq_false_iff_ne.mpr c_dot,beq_eq_false_iff_ne.mpr c_left,beq_eq_false_iff_ne.mpr c_right,beq_eq_false_iff_ne.mpr c_round,beq_eq_false_iff_ne.mpr c_mirror,beq_eq_false_iff_ne.mpr c_grow,beq_eq_false_iff_ne.mpr c_quarter,beq_eq_false_iff_ne.mpr c_half,beq_eq_false_iff_ne.mpr c_arc] at e;cases e
  ·intro k hk
   unfold aD2 at hk
   simp only [mem_cons,not_mem_nil,or_false] at hk
   rcases hk with rfl | rfl | rfl | rfl | rfl
   ·exact en_NUMBERS_0
   ·exact en_NUMBERS_1
   ·exact en_NUMBERS_2
   ·exact en_NUMBERS_3
   ·exact en_NUMBERS_4
 have f_NoRow:vW K C_NoRow "row":=⟨fa_NoRow,fc_NoRow,fm_NoRow,fn_NoRow⟩
 have f_NoText:vW K C_NoText "line":=⟨fa_NoText,fc_NoText,fm_NoText,fn_NoText⟩
 have sB:eJ K mg "NoKin" (.ref C_NoKin):=⟨_,.ref C_NoKin,mg_of X G ac_NoKin,rfl,fun H=>eS⟩
 have lB:eJ K mg "NoNumber" (.ref C_NoNumber):=⟨_,.ref C_NoNumber,mg_of X G ac_NoNumber,rfl,fun H=>eS⟩
 have mT:eJ K mg "NoPiece" (.ref C_NoPiece):=⟨_,.ref C_NoPiece,mg_of X G ac_NoPiece,rfl,fun H=>eS⟩
 have nJ:nR K C_NoRow:=⟨ex0_NoRow,ex1_NoRow,ex2_NoRow,ex3_NoRow,ex4_NoRow,ex5_NoRow,ex6_NoRow⟩
 have kU:nR K C_NoText:=⟨ex0_NoText,ex1_NoText,ex2_NoText,ex3_NoText,ex4_NoText,ex5_NoText,ex6_NoText⟩
 have kJ:nR K C_TooMuch:=⟨ex0_TooMuch,ex1_TooMuch,ex2_TooMuch,ex3_TooMuch,ex4_TooMuch,ex5_TooMuch,ex6_TooMuch⟩
 have mH:kitOne K (.ref C_NoRow) (.ref C_NoRow) = some true:=yN
 have kB:kitOne K (.ref C_NoText) (.ref C_NoText) = some true:=yN
 have iR:kitOne K (.ref C_TooMuch) (.ref C_TooMuch) = some true:=yN
 have pW:aAX K mg "MillError" C_MillError:=⟨mg_of X G ac_MillError,xc_MillError⟩
 have iM:aAX K mg "TooMuch" C_TooMuch:=⟨mg_of X G ac_TooMuch,xc_TooMuch⟩
 have lD:eJ K mg "LEAST_CHANGE" (.tup [.int 3,.int 4]):=⟨_,.ref GLEAST_CHANGE,mg_of X G ag_LEAST_CHANGE,rfl,fun H=>(cJ (xs:=[.int (3),.int (4)]) (.inr ⟨_,_,_,lGLEAST_CHANGE,rfl,rfl,by show (2:Nat)<=sizeLine;decide,(.cons ⟨_,rfl⟩ (.cons ⟨_,rfl⟩ .nil))⟩) (bH bO (bH bO cG)))⟩
 have bE:eJ K mg "MIDDLE" sI:=⟨_,.ref GMIDDLE,mg_of X G ag_MIDDLE,rfl,fun H=>(cJ (xs:=[.ref GMIDDLE_0,.ref GMIDDLE_1]) (.inr ⟨_,_,_,lGMIDDLE,rfl,rfl,by show (2:Nat)<=sizeLine;decide,(.cons rfl (.cons rfl .nil))⟩) (bH (cJ (xs:=[.int (0),.int (1)]) (.inr ⟨_,_,_,lGMIDDLE_0,rfl,rfl,by show (2:Nat)<=sizeLine;decide,(.cons ⟨_,rfl⟩ (.cons ⟨_,rfl⟩ .nil))⟩) (bH bO (bH bO cG))) (bH (cJ (xs:=[.int (0),.int (1)]) (.inr ⟨_,_,_,lGMIDDLE_1,rfl,rfl,by show (2:Nat)<=sizeLine;decide,(.cons ⟨_,rfl⟩ (.cons ⟨_,rfl⟩ .nil))⟩) (bH bO (bH bO cG))) cG)))⟩
 have nS:eJ K mg "MOST_AGAIN" (.int 12):=⟨_,.int 12,mg_of X G ag_MOST_AGAIN,⟨_,rfl⟩,fun H=>bO⟩
 have mE:eJ K mg "MOST_BLOCKS" (.int 4):=⟨_,.int 4,mg_of X G ag_MOST_BLOCKS,⟨_,rfl⟩,fun H=>bO⟩
 have iY:eJ K mg "MOST_IN_A_ROUND" (.int 300):=⟨_,.int 300,mg_of X G ag_MOST_IN_A_ROUND,⟨_,rfl⟩,fun H=>bO⟩
 have iZ:eJ K mg "MOST_IN_GROW" (.int 12):=⟨_,.int 12,mg_of X G ag_MOST_IN_GROW,⟨_,rfl⟩,fun H=>bO⟩
 have iI:eJ K mg "MOST_ROWS" (.int 60):=⟨_,.int 60,mg_of X G ag_MOST_ROWS,⟨_,rfl⟩,fun H=>bO⟩
 have dG:eJ K mg "NOTHING" aCd:=⟨_,.ref GNOTHING,mg_of X G ag_NOTHING,rfl,fun H=>(cJ (xs:=[.int (0),.int (1)]) (.inr ⟨_,_,_,lGNOTHING,rfl,rfl,by show (2:Nat)<=sizeLine;decide,(.cons ⟨_,rfl⟩ (.cons ⟨_,rfl⟩ .nil))⟩) (bH bO (bH bO cG)))⟩
 have lE:eJ K mg "ONE" aCG:=⟨_,.ref GONE,mg_of X G ag_ONE,rfl,fun H=>(cJ (xs:=[.int (1),.int (1)]) (.inr ⟨_,_,_,lGONE,rfl,rfl,by show (2:Nat)<=sizeLine;decide,(.cons ⟨_,rfl⟩ (.cons ⟨_,rfl⟩ .nil))⟩) (bH bO (bH bO cG)))⟩
 refine ⟨fnOf "law" "law" (oE pF) (eO pF) (aI pF) .none kV55 dc55 pm55 an55 cd55 ct55,fun s v=>.of_eq rfl,fun base _ _=>?_⟩
 have hW:lY l.prog w K mg base "NoRow" C_NoRow "row":=by
  obtain ⟨fI,fdI,i1,i2,FI⟩:=in_NoRow
  exact ⟨mg_of X G ac_NoRow,kc_NoRow,ob_NoRow,fI,fdI,"self","row",i1,i2,aDq FI zH f_NoRow rfl (by first | exact Or.inl rfl | exact Or.inr (Or.inl rfl) | exact Or.inr (Or.inr rfl)) (by first | exact Or.inl rfl | exact Or.inr (Or.inl rfl) | exact Or.inr (Or.inr rfl)) (by decide) (by decide) (by decide) (by decide) (fun _=>rfl) 0,FI.binds (ps:=["self","row"]) fun _ _ _ _ _ _ us hl=>by obtain ⟨_,_,rfl⟩:=us2 hl;rfl⟩
 have gL:lY l.prog w K mg base "NoText" C_NoText "line":=by
  obtain ⟨fI,fdI,i1,i2,FI⟩:=in_NoText
  exact ⟨mg_of X G ac_NoText,kc_NoText,ob_NoText,fI,fdI,"self","line",i1,i2,aDq FI yG f_NoText rfl (by first | exact Or.inl rfl | exact Or.inr (Or.inl rfl) | exact Or.inr (Or.inr rfl)) (by first | exact Or.inl rfl | exact Or.inr (Or.inl rfl) | exact Or.inr (Or.inr rfl)) (by decide) (by decide) (by decide) (by decide) (fun _=>rfl) 0,FI.binds (ps:=["self","line"]) fun _ _ _ _ _ _ us hl=>by obtain ⟨_,_,rfl⟩:=us2 hl;rfl⟩
 have bC:=oR (P:=l.prog) (w:=w) (base:=base) H0 yR
 have aCB:=aFm H1 bC
 have h_times:=aEo H2 bC
 have w_times:=aEc H2 bC
 have aAD:=aEx (P:=l.prog) (w:=w) (base:=base) H3
 have hU:=sT (P:=l.prog) (w:=w) (base:=base) H4
 have aC8:=aHd (P:=l.prog) (w:=w) (base:=base) H5
 have kH:=xV H6 hU
 have uT:=aCi H7 kH aC8
 have aAE:=aEl (P:=l.prog) (w:=w) (base:=base) H8 bE lE
 have bL:=aBc (P:=l.prog) (w:=w) (base:=base) H9 lE
 have iJ:=zG H10 bE bL
 have uU:=aB5 H11 dG iJ
 have qD:=yZ H12 dG bL
 have rW:=aAT H13 bE aAE
 have pK:=yY H14 bE bL
 have nI:=xF H15 bE bL
 have nU:=xE H16 bE bL
 have mC:=vP (P:=l.prog) (w:=w) (base:=base) H17 bE lE
 have qG:=yT (P:=l.prog) (w:=w) (base:=base) H18 bE
 have kW:=tR H19 bE dG bL
 have pO:=yW H20 bE dG aCB bL
 have rR:=aAB H21 bE bL
 have uS:=aBJ H22 aBi uU iJ qD rW pK nI nU mC qG kW pO rR
 have cB:=vV (P:=l.prog) (w:=w) (base:=base) H23
 have w_rows_within:=wA (P:=l.prog) (w:=w) (base:=base) H23
 have fU:=tF H24 cB
 have uC:=aBU (P:=l.prog) (w:=w) (base:=base) H25 yR jL
 have cU:=tD H26 eI cB
 have fC:=uV H27 iI cU
 have kX:=uB H27 iM iI cU
 have rV:=aAU (P:=l.prog) (w:=w) (base:=base) H28 iZ
 have iF:=aAx (P:=l.prog) (w:=w) (base:=base) H29 aT sM aDe
 have gQ:=yJ H30 bC
 have mM:=vX H31 aT cH eI iF gQ
 have bK:=rS (P:=l.prog) (w:=w) (base:=base) H32 uA
 have iG:=yS (P:=l.prog) (w:=w) (base:=base) H33 aT cH zP eI
 have uH:=aBB H34 bE uT
 have eE:=uI H35 eI aFn iG bK mM rV uH
 have iB:=aAr H36 aT cH eI nS iG iF
 have iA:=aA3 (P:=l.prog) (w:=w) (base:=base) H37 eI mE
 have sH:=aEk H38 cB uS
 have fA:=tO (P:=l.prog) (w:=w) (base:=base) H39
 have xP:=aCA H40 fA
 have jR:=zC H41 lE w_times xP
 have gH:=yV H42 iY lE lD fU sH jR aAD
 have cA:=mS H43 eE iB iA w_rows_within gH 8 (by decide)
 have gI:=tZ H43 hW eE iB iA w_rows_within gH 8 (by decide)
 have cY:=wM H44 cA fC
 have w_program_of:=wV H44 cA kX
 have jB:=yO H44 hW gI cA fC
 have eQ:=aAA (P:=l.prog) (w:=w) (base:=base) H45 sM
 have fW:=vZ H46 eQ gQ
 have kL:=aBF H47 cH eI eQ fW bK
 have w_head_of:=aBR H47 cH eI eQ fW bK
 have gR:=aCe H48 iH cH eI kL bK
 have tW:=aCl H48 gL iH cH eI kL w_head_of bK
 have aC9:=aFl H49 gR cY
 have w_read:=aG5 H49 gR w_program_of
 have aCy:=aGw H49 gL tW gR cY
 have kR:=aAp (P:=l.prog) (w:=w) (base:=base) H50 aEQ
 have fX:=vO (P:=l.prog) (w:=w) (base:=base) H51
 have rE:=aBk (P:=l.prog) (w:=w) (base:=base) H52 aFJ jL cH
 have jQ:=zF (P:=l.prog) (w:=w) (base:=base) H53 zP
 have gE:=aBh H54 aT iQ hW gL iM pW sB lB mT nJ kU kJ f_NoRow f_NoText eP eB dM mH gD fO gK kB eZ fM eX iR eC dN dE gG fR dW cY jB w_program_of jQ aC9 w_read aCy
 exact aHP (P:=l.prog) (w:=w) (base:=base) F55 sM cH jL uC rE kR fX gE
end Lw
def PySem.W.Fast.tw17407676791457782913:Unit:=()
def PySem.W.Fast.tw1509460647681717921:Unit:=()
def PySem.W.Fast.tw9224164292211557378:Unit:=()
def PySem.W.Fast.tw13045621980099112898:Unit:=()
def PySem.W.Fast.tw9100617482707476772:Unit:=()
def PySem.W.Fast.tw1169696349390322726:Unit:=()
def PySem.W.Fast.tw2355998443316248584:Unit:=()
def PySem.W.Fast.tw2394540208444821544:Unit:=()
def PySem.W.Fast.tw2105846188745200649:Unit:=()
def PySem.W.Fast.tw1789924816768027530:Unit:=()
def PySem.W.Fast.tw12448704662527551659:Unit:=()
def PySem.W.Fast.tw4242714028779322539:Unit:=()
def PySem.W.Fast.tw6621538386979949387:Unit:=()
def PySem.W.Fast.tw17218300476888046508:Unit:=()
def PySem.W.Fast.tw14370156196082603727:Unit:=()
def PySem.W.Fast.tw16682148367355207696:Unit:=()
def PySem.W.Fast.tw1821977188105279664:Unit:=()
def PySem.W.Fast.tw5757770891108007411:Unit:=()
def PySem.W.Fast.tw17353842271180317171:Unit:=()
def PySem.W.Fast.tw11872259087637751603:Unit:=()
def PySem.W.Fast.tw335399144943544756:Unit:=()
def PySem.W.Fast.tw4440473460304836182:Unit:=()
def PySem.W.Fast.tw1537298041014717111:Unit:=()
def PySem.W.Fast.tw12817558774726296090:Unit:=()
def PySem.W.Fast.tw15550692789055561179:Unit:=()
def PySem.W.Fast.tw2568221731148399483:Unit:=()
def PySem.W.Fast.tw15103389541399515740:Unit:=()
def PySem.W.Fast.tw3922110344419087966:Unit:=()
def PySem.W.Fast.tw13955670361607046207:Unit:=()
def PySem.W.Fast.tw5040193848749956319:Unit:=()
def PySem.W.Fast.tw5083624945277759807:Unit:=()
def PySem.W.Fast.tw16438757804444523499:Unit:=()
def PySem.W.Fast.tw1481602881035753313:Unit:=()
def PySem.W.Fast.tw18390264863047938069:Unit:=()
def PySem.W.Fast.tw6570442795122565960:Unit:=()
def PySem.W.Fast.tw355591444080615035:Unit:=()
def PySem.W.Fast.tw369001659663884685:Unit:=()
def PySem.W.Fast.tw12236971164701854044:Unit:=()
def PySem.W.Fast.tw2209532687218620149:Unit:=()
def PySem.W.Fast.tw7959638551597986126:Unit:=()
def PySem.W.Fast.tw2950172955060306841:Unit:=()
def PySem.W.Fast.tw5670980129211665123:Unit:=()
def PySem.W.Fast.tw18339229601342008178:Unit:=()
def PySem.W.Fast.tw15825813127331672990:Unit:=()
def PySem.W.Fast.tw17334270616584292403:Unit:=()
def PySem.W.Fast.tw5886733977802536051:Unit:=()
def PySem.W.Fast.tw1937434793180028791:Unit:=()
def PySem.W.Fast.tw13266369797901281655:Unit:=()
def PySem.W.Fast.tw17744385081485953354:Unit:=()
def PySem.W.Fast.tw13465751457390833146:Unit:=()
def PySem.W.Fast.tw15996693732868278566:Unit:=()
def PySem.W.Fast.tw7607172790582462132:Unit:=()
def PySem.W.Fast.tw3673077211677024861:Unit:=()
def PySem.W.Fast.tw13429574518496071105:Unit:=()
def PySem.W.Fast.tw15170787601159206243:Unit:=()
def PySem.W.Fast.tw13964993158713771881:Unit:=()
def PySem.W.Fast.tw10859456657730644532:Unit:=()
def PySem.W.Fast.tw543663770360797213:Unit:=()
def PySem.W.Fast.tw5190796147906439835:Unit:=()
def PySem.W.Fast.tw4543222995720650588:Unit:=()
def PySem.W.Fast.tw1975865288254871928:Unit:=()
def PySem.W.Fast.tw5192856803574466924:Unit:=()
def PySem.W.Fast.tw15726618461472943459:Unit:=()
def PySem.W.Fast.tw6713981258467381961:Unit:=()
def PySem.W.Fast.tw8542385434234555765:Unit:=()
def PySem.W.Fast.tw16073232476268522415:Unit:=()
def PySem.W.Fast.tw1268681454201083672:Unit:=()
def PySem.W.Fast.tw11442249685071561870:Unit:=()
def PySem.W.Fast.tw12603294078185651660:Unit:=()
def PySem.W.Fast.tw15943860184689187040:Unit:=()
def PySem.W.Fast.tw8344626613332494878:Unit:=()
def PySem.W.Fast.tw11339361601521666591:Unit:=()
def PySem.W.Fast.tw13554532076496410955:Unit:=()
def PySem.W.Fast.tw12505393009965528490:Unit:=()
def PySem.W.Fast.tw14490349428999753460:Unit:=()
def PySem.W.Fast.tw7571239489296005145:Unit:=()
def PySem.W.Fast.tw9171840561234519056:Unit:=()
def PySem.W.Fast.tw2666795653915555280:Unit:=()
open PySem PySem.W PyProof.Rows
set_option maxRecDepth 100000 in
set_option maxHeartbeats 0 in
theorem PySem.Challenge.cw_arcmill_k23_sixty_rows_holds : PySem.Challenge.rw_arcmill_k23_sixty_rows.Holds := by
 w_on;o_law;k_head;(case hw=>w_witness2)
 k_fill
 refine Dd.walk_ofD (l:=PySem.Challenge.rw_arcmill_k23_sixty_rows) (n:=63) (k:=151) (x:="_law_script") (sp:=Lw.sp_law) rfl (by decide) rfl ⟨rfl,by decide,by decide⟩ (fun w h Y=>PySem.W.kIn_of Y) ?F Lw.law_here
 case F =>
  intro w mg fa h KX G hmg
  refine' Lw.all_mk KX G hmg ?b0 ?b1 ?b2 ?b3 ?b4 ?b5 ?b6 ?b7 ?b8 ?b9 ?b10 ?b11 ?b12 ?b13 ?b14 ?b15 ?b16 ?b17 ?b18 ?b19 ?b20 ?b21 ?b22 ?b23 ?b24 ?b25 ?b26 ?b27 ?b28 ?b29 ?b30 ?b31 ?b32 ?b33 ?b34 ?b35 ?b36 ?b37 ?b38 ?b39 ?b40 ?b41 ?b42 ?b43 ?b44 ?b45 ?b46 ?b47 ?b48 ?b49 ?b50 ?b51 ?b52 ?b53 ?b54 ?a55 ?l55 ?c55 ?k55 ?z_ValueError ?z_abs ?z_all ?z_bool ?z_enumerate ?z_int ?z_isinstance ?z_len ?z_max ?z_min ?z_range ?z_str ?z_tuple ?at_NUMBERS ?am_NUMBERS ?lt_NUMBERS ?kt_NUMBERS ?et_NUMBERS_go ?et_NUMBERS_skip ?et_NUMBERS_side ?et_NUMBERS_dot ?et_NUMBERS_left ?et_NUMBERS_right ?et_NUMBERS_round ?et_NUMBERS_mirror ?et_NUMBERS_grow ?et_NUMBERS_quarter ?et_NUMBERS_half ?et_NUMBERS_arc ?en_NUMBERS_0 ?en_NUMBERS_1 ?en_NUMBERS_2 ?en_NUMBERS_3 ?en_NUMBERS_4 ?at_DEEDS ?lt_DEEDS ?kt_DEEDS ?et_DEEDS_go ?et_DEEDS_skip ?et_DEEDS_side ?et_DEEDS_dot ?et_DEEDS_left ?et_DEEDS_right ?et_DEEDS_round ?et_DEEDS_mirror ?et_DEEDS_grow ?et_DEEDS_quarter ?et_DEEDS_half ?et_DEEDS_arc ?ag_LEAST_CHANGE ?lGLEAST_CHANGE ?ag_MIDDLE ?lGMIDDLE ?lGMIDDLE_0 ?lGMIDDLE_1 ?ag_MOST_AGAIN ?ag_MOST_BLOCKS ?ag_MOST_IN_A_ROUND ?ag_MOST_IN_GROW ?ag_MOST_ROWS ?ag_NOTHING ?lGNOTHING ?ag_ONE ?lGONE ?ac_NoRow ?kc_NoRow ?ob_NoRow ?in_NoRow ?fa_NoRow ?fc_NoRow ?fm_NoRow ?fn_NoRow ?ac_NoText ?kc_NoText ?ob_NoText ?in_NoText ?fa_NoText ?fc_NoText ?fm_NoText ?fn_NoText ?ac_NoKin ?ac_NoNumber ?ac_NoPiece ?ac_MillError ?xc_MillError ?ac_TooMuch ?xc_TooMuch ?ex0_NoRow ?ex1_NoRow ?ex2_NoRow ?ex3_NoRow ?ex4_NoRow ?ex5_NoRow ?ex6_NoRow ?ex0_NoText ?ex1_NoText ?ex2_NoText ?ex3_NoText ?ex4_NoText ?ex5_NoText ?ex6_NoText ?ex0_TooMuch ?ex1_TooMuch ?ex2_TooMuch ?ex3_TooMuch ?ex4_TooMuch ?ex5_TooMuch ?ex6_TooMuch ?eP ?eB ?dM ?gK ?fM ?gD ?eX ?fO ?eZ ?eC ?dN ?dE ?gG ?fR ?dW
  (case b0 | b1 | b2 | b3 | b4 | b5 | b6 | b7 | b8 | b9 | b10 | b11 | b12 | b13 | b14 | b15 | b16 | b17 | b18 | b19 | b20 | b21 | b22 | b23 | b24 | b25 | b26 | b27 | b28 | b29 | b30 | b31 | b32 | b33 | b34 | b35 | b36 | b37 | b38 | b39 | b40 | b41 | b42 | b43 | b44 | b45 | b46 | b47 | b48 | b49 | b50 | b51 | b52 | b53 | b54 =>exact ⟨by k_is,_,L2.fun_mk (by k_is) (by k_is) (by k_is)⟩)
  (case a55 | l55 | c55 | k55 | z_ValueError | z_abs | z_all | z_bool | z_enumerate | z_int | z_isinstance | z_len | z_max | z_min | z_range | z_str | z_tuple | at_NUMBERS =>k_is)
  (case am_NUMBERS=>decide)
  (case lt_NUMBERS=>k_is)
  (case kt_NUMBERS=>k_keys)
  (case et_NUMBERS_go | et_NUMBERS_skip | et_NUMBERS_side | et_NUMBERS_dot | et_NUMBERS_left | et_NUMBERS_right | et_NUMBERS_round | et_NUMBERS_mirror | et_NUMBERS_grow | et_NUMBERS_quarter | et_NUMBERS_half | et_NUMBERS_arc | en_NUMBERS_0 | en_NUMBERS_1 | en_NUMBERS_2 | en_NUMBERS_3 | en_NUMBERS_4 | at_DEEDS | lt_DEEDS =>k_is)
  (case kt_DEEDS=>k_keys)
  (case et_DEEDS_go | et_DEEDS_skip | et_DEEDS_side | et_DEEDS_dot | et_DEEDS_left | et_DEEDS_right | et_DEEDS_round | et_DEEDS_mirror | et_DEEDS_grow | et_DEEDS_quarter | et_DEEDS_half | et_DEEDS_arc | ag_LEAST_CHANGE | lGLEAST_CHANGE | ag_MIDDLE | lGMIDDLE | lGMIDDLE_0 | lGMIDDLE_1 | ag_MOST_AGAIN | ag_MOST_BLOCKS | ag_MOST_IN_A_ROUND | ag_MOST_IN_GROW | ag_MOST_ROWS | ag_NOTHING | lGNOTHING | ag_ONE | lGONE | ac_NoRow | kc_NoRow =>k_is)
  (case ob_NoRow=>exact ⟨_,_,_,_,_,_,_,_,_,_,_,_,_,_,_,_,by k_is,by (unfold Dd.bmV;k_exc),_,by k_is,rfl⟩)
  (case in_NoRow=>exact ⟨_,_,by k_is,by k_is,L2.fun_mk (by k_is) (by k_is) (by k_is)⟩)
  (case fa_NoRow=>k_is)
  (case fc_NoRow=>exact ⟨_,by k_is,rfl,rfl⟩)
  (case fm_NoRow | fn_NoRow | ac_NoText | kc_NoText =>k_is)
  (case ob_NoText=>exact ⟨_,_,_,_,_,_,_,_,_,_,_,_,_,_,_,_,by k_is,by (unfold Dd.bmV;k_exc),_,by k_is,rfl⟩)
  (case in_NoText=>exact ⟨_,_,by k_is,by k_is,L2.fun_mk (by k_is) (by k_is) (by k_is)⟩)
  (case fa_NoText=>k_is)
  (case fc_NoText=>exact ⟨_,by k_is,rfl,rfl⟩)
  (case fm_NoText | fn_NoText | ac_NoKin | ac_NoNumber | ac_NoPiece | ac_MillError =>k_is)
  (case xc_MillError=>unfold Dd.bmV;k_exc)
  (case ac_TooMuch=>k_is)
  (case xc_TooMuch=>unfold Dd.bmV;k_exc)
  (case ex0_NoRow | ex1_NoRow | ex2_NoRow | ex3_NoRow | ex4_NoRow | ex5_NoRow | ex6_NoRow | ex0_NoText | ex1_NoText | ex2_NoText | ex3_NoText | ex4_NoText | ex5_NoText | ex6_NoText | ex0_TooMuch | ex1_TooMuch | ex2_TooMuch | ex3_TooMuch | ex4_TooMuch | ex5_TooMuch | ex6_TooMuch =>k_is)
  (case eP=>kts_exm)
  (case eB=>kts_exm)
  (case dM=>kts_exm)
  (case gK=>kit_is)
  (case fM=>kit_is)
  (case gD=>kit_is)
  (case eX=>kit_is)
  (case fO=>kit_is)
  (case eZ=>kit_is)
  (case eC=>kit_is)
  (case dN=>kit_is)
  (case dE=>kit_is)
  (case gG=>kit_is)
  (case fR=>kit_is)
  (case dW=>kit_is)
