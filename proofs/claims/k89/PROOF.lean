import PyProof.Rows.All
import Wide.All
import OpenK.AllK
import Wide.FinOn
import Lean
import PyProof.EqAt
import PyProof.EqKinds
import PyProof.TupleCall
import PyProof.NeKinds
import PyProof.IsRules
import PyProof.CompFree
import KE.LcSums
import PyProof.FactsAll.range_1
import PyProof.SeqRoads2
import KE.KRevSl
import PyProof.ZipIter
import PyProof.TupleIter
import PyProof.FitsBits
import PyProof.NoPylong
import KE.IntBitsLaws
import PyProof.CompMap
import PyProof.AutoSeq1
import PyProof.SeqInW
import KE.KDictList
import PyProof.Rows.TupDisplay
import KE.KSortTup
import PyProof.ListMulRoad
import PyProof.Rows.SumAny
import PyProof.StrLawsOcc
import PyProof.FitsReplace
import PyProof.CollectIter
import PyProof.Rows.CountFlat
import PyProof.Draws
import PyProof.EnumMake
import PyProof.Rows.TupTab
import PyProof.Rows.SetFrom
import PySem.Challenge.RW_arcmill_k89_papers_nearly_right
set_option Elab.async false
set_option linter.all false
set_option bootstrap.genMatcherCode false
set_option maxRecDepth 100000
open List (range filterMap_cons mem_cons_self mem_cons_of_mem mem_append_right length_cons map_cons length_map append_nil replicate length length_take getElem?_append_left getElem?_map mem_of_getElem? length_append size_toArray length_drop all_cons all_map drop lookup_cons getElem?_eq_getElem reverse_cons map_append find?_cons mem_cons not_mem_nil cons_append Nodup getElem?_eq_none)
open PySem.W (instObj methodObj Frag lookIn plainGet hasDictIn findIn plainGet_of isFn emptyDict keepIn kitOne kia_one kitx_list callWith_K fnOf codeIn nsIn mg_of mg_none_of)
namespace L2
open PySem PySem.Spec PyProof.Rows
noncomputable abbrev Key:=Sum Int Str
noncomputable def aD5:Key->Value->Bool
 |.inl k,v=>Value.isInt k v
 |.inr x,v=>Value.isStrOf x v
noncomputable def aEi (w:World):Key->Int
 |.inl k=>hashInt k
 |.inr x=>hashStr w x
theorem cT:∀{k:Key}{v:Value},aD5 k v=true->(∃i t,k=Sum.inl i/\v=Value.int i t)∨(∃x t,k=Sum.inr x/\v=Value.str x t)
 |.inl i,v,h=>by obtain⟨t,e⟩:=Value.isInt_shape (k:=i) (v:=v) h;exact .inl ⟨i,t,rfl,e⟩
 |.inr x,v,h=>by obtain⟨t,e⟩:=Value.isStrOf_shape (x:=x) (v:=v) h;exact .inr ⟨x,t,rfl,e⟩
theorem aF9 (a b:Int):decide ((Sum.inl a:Key)=Sum.inl b)=(a==b):=by
 by_cases e:a=b
 ·subst e;simp
 ·have h:¬(Sum.inl a:Key)=Sum.inl b:=λq=>e (Sum.inl.inj q);rw[decide_eq_false h];exact(beq_eq_false_iff_ne.mpr e).symm
theorem aEA (a b:Str):decide ((Sum.inr a:Key)=Sum.inr b)=decide (a=b):=by
 by_cases e:a=b
 ·subst e;simp
 ·have h:¬(Sum.inr a:Key)=Sum.inr b:=λq=>e (Sum.inr.inj q);rw[decide_eq_false h,decide_eq_false e]
theorem aEz (a:Int)(b:Str):decide ((Sum.inl a:Key)=Sum.inr b)=false:=decide_eq_false (λq=>nomatch q)
theorem aEu (a:Str)(b:Int):decide ((Sum.inr a:Key)=Sum.inl b)=false:=decide_eq_false (λq=>nomatch q)
noncomputable def zI (prog:Program)(w:World):PySem.KeyKind prog w Key where
 is:=aD5
 hash:=aEi w
 inj:=λv a b ha hb=>by
  rcases cT ha with⟨i,t,rfl,rfl⟩|⟨x,t,rfl,rfl⟩
  ·rcases cT hb with⟨j,u,rfl,e⟩|⟨y,u,rfl,e⟩
   ·injection e with e1 _;rw[e1]
   ·exact nomatch e
  ·rcases cT hb with⟨j,u,rfl,e⟩|⟨y,u,rfl,e⟩
   ·exact nomatch e
   ·injection e with e1 _;rw[e1]
 byValue:=λk v h=>by rcases cT h with⟨i,t,rfl,rfl⟩|⟨x,t,rfl,rfl⟩<;>rfl
 pyHash:=λhv h=>by
  rcases cT hv with⟨i,t,rfl,rfl⟩|⟨x,t,rfl,rfl⟩
  ·exact wpAny_pyHash_int h
  ·exact wpAny_pyHash_str h
 eqBool:=λhu hv h=>by
  rcases cT hu with⟨i,t,rfl,rfl⟩|⟨x,t,rfl,rfl⟩
  ·rcases cT hv with⟨j,u,rfl,rfl⟩|⟨y,u,rfl,rfl⟩
   ·rw[aF9] at h;exact wpAny_eqBool_int h
   ·rw[aEz] at h;exact SeqAt.EqAt.int_str i t y u _ _ _ _ h
  ·rcases cT hv with⟨j,u,rfl,rfl⟩|⟨y,u,rfl,rfl⟩
   ·rw[aEu] at h;exact SeqAt.EqAt.str_int x t j u _ _ _ _ h
   ·rw[aEA] at h;exact wpAny_eqBool_str h
 «strs»:=λk x t v h=>by
  rcases cT h with⟨i,u,rfl,e⟩|⟨y,u,rfl,e⟩
  ·exact nomatch e
  ·injection e with e1 _
   subst e1;cases v<;>rfl
inductive V where
 |non|bl (b:Bool)|int (i:Int)|str (x:Str)|byt (b:Array UInt8)|flt (b:UInt64)|ref (a:Addr)|ty (n:String)
 deriving DecidableEq
def bM:V->Value->Prop
 |.non,u=>u=Value.none
 |.bl b,u=>u=Value.bool b
 |.int i,u=>∃t,u=Value.int i t
 |.str x,u=>∃t,u=Value.str x t
 |.byt b,u=>∃t,u=Value.bytes b t
 |.flt b,u=>∃t,u=Value.float b t
 |.ref a,u=>u=Value.ref a
 |.ty n,u=>u=Value.type n
abbrev bN:List V->List Value->Prop:=Paired bM
theorem bN.length {xs:List V}{us:List Value}(r:bN xs us):xs.length=us.length:=Paired.length r
theorem bN.get:∀{xs:List V}{us:List Value} {i:Nat} {x:V},bN xs us->xs[i]?=some x->∃u,us[i]?=some u/\bM x u
 |_,_,_,_,.nil,e=>by simp at e
 |_,_,0,_,.cons r _,e=>by simp at e;subst e;exact⟨_,rfl,r⟩
 |_,_,i+1,x,.cons _ t,e=>by obtain⟨u,h1,h2⟩:=bN.get (i:=i) (x:=x) t (by simpa using e);exact⟨u,by simpa using h1,h2⟩
theorem bN.set {x:V}{u:Value}(r:bM x u):∀{xs:List V}{us:List Value} (i:Nat),bN xs us->bN (xs.set i x) (us.set i u)
 |_,_,_,.nil=>.nil
 |_,_,0,.cons _ t=>.cons r t
 |_,_,i+1,.cons q t=>.cons q (bN.set r i t)
theorem bN.append:∀{xs ys:List V}{us ws:List Value},bN xs us->bN ys ws->bN (xs++ys) (us++ws)
 |_,_,_,_,.nil,s=>s
 |_,_,_,_,.cons r t,s=>.cons r (bN.append t s)
theorem bN.take:∀{xs:List V}{us:List Value} (n:Nat),bN xs us->bN (xs.take n) (us.take n)
 |_,_,0,_=>.nil
 |_,_,_+1,.nil=>.nil
 |_,_,n+1,.cons r t=>.cons r (bN.take n t)
theorem bN.drop:∀{xs:List V}{us:List Value} (n:Nat),bN xs us->bN (xs.drop n) (us.drop n)
 |_,_,0,r=>r
 |_,_,_+1,.nil=>.nil
 |_,_,n+1,.cons _ t=>bN.drop n t
def rV:Option V->Option Value->Prop
 |some v,some u=>bM v u
 |none,none=>True
 |_,_=>False
def KV {κ:Type}:List (κ×V)->List (κ×Value)->Prop:=Paired λ(p:κ×V)(q:κ×Value)=>p.1=q.1/\bM p.2 q.2
noncomputable def kV:Key->V
 |.inl i=>.int i
 |.inr x=>.str x
inductive HO where
  |lst (xs:List V)
  |tup (xs:List V)
  |dK (kvs:List (Key×V))|dT (kvs:List (List Key×V))
  |set (S:Int->Bool) (n:Nat)
  |ins (C dx:Addr) (fs:List (Str×V))
  |own (x:Addr)
  |xd (fs:List (Str×V))
  |met (f x:Addr)
  |rng (lo hi:Int)
  |frz (o:Obj) (u:HO)
  |tbl (ps:Array Value)
  |ext (φ:Heap->Prop)
noncomputable abbrev Hp:=Addr->Option HO
noncomputable def upd (H:Hp)(a:Addr)(o:HO):Hp:=λb=>if b=a then some o else H b
theorem cE {H:Hp}{a:Addr}{o:HO}:upd H a o a=some o:=by unfold upd;rw[if_pos rfl]
theorem aS {H:Hp}{a b:Addr}{o:HO}(h:b≠a):upd H a o b=H b:=by unfold upd;rw[if_neg h]
theorem jP {H:Hp}{a b:Addr}{o u:HO}(h:H a=some o)(h':H b=some u)(d:o≠u):a≠b:=by intro e;subst e;rw[h] at h';exact d (Option.some.inj h')
theorem bB {H:Hp}{a b:Addr}{o:HO}(h:H a=some o)(h':H b=none):a≠b:=by intro e;subst e;rw[h] at h';cases h'
section
variable (P:Program)(w:World)
def eC (H:Hp)(h:Heap)(a:Addr):HO->Prop
 |.lst xs=>xs.length<=sizeLine/\∃(its:List Value)(n:Nat),bN xs its/\h.get? a = some { cls:=.type "list",data:=.seq its.toArray n }
 |.tup xs=>xs.length<=sizeLine/\∃its:List Value,bN xs its/\IsTup h a its.toArray
 |.dK kvs=>kvs.length<=sizeLine/\(a==sysModules)=false/\∃vs,KV kvs vs/\h.DictOf (zI P w) a vs
 |.dT kvs=>kvs.length<=sizeLine/\(a==sysModules)=false/\∃xs:List (List Key×Addr×Value),
   Paired (λ(p:List Key×V)(q:List Key×Addr×Value)=>p.1=q.1/\H q.2.1=some (.tup (p.1.map kV))/\bM p.2 q.2.2) kvs xs /\
   ∃o es ep,h.get? a=some o/\o.ExactDict/\o.data=.dict es ep/\es.toList=xs.map (entryOfKey (tupleKind (zI P w)))/\(xs.map (·.1)).Nodup
 |.set S n=>h.SetOf (intKind P w) a S n
 |.ins C dx fs=>H dx=some (.own a)/\fs.length<=1000/\dx≠a/\h.get? a=some (instObj C dx) /\
   ∃mA,h.Ns1 dx mA/\(∀f,rV (fs.lookup f) (mA f))/\PySem.Within mA (fs.map (·.1))
 |.own _=>∃o,h.get? a=some o
 |.xd fs=>∃mA,h.Ns1 a mA/\∀f,rV (fs.lookup f) (mA f)
 |.rng lo hi=>∃t u v,h.get? a = some { cls:=.type "range",data:=.fields #[.int lo t,.int hi u,.int 1 v] }
 |.frz o u=>h.get? a=some o/\eC H h a u
 |.tbl ps=>h.get? a=some { cls:=.none,data:=.fields ps }
 |.met f x=>h.get? a=some (methodObj (.ref f) (.ref x))
 |.ext φ=>φ h/\(∃o,h.get? a=some o)/\∀h1 h2:Heap,φ h1->(∀o,h1.get? a=some o->h2.get? a=some o)->φ h2
def HOk (H:Hp)(h:Heap):Prop:=∀a o,H a=some o->eC P w H h a o
end
section
variable {P:Program}{w:World}{H H':Hp}{h h':Heap}{a:Addr}{o:HO}
theorem eC.lt (x:eC P w H h a o):a<h.objs.size:=by
 cases o with
 |lst xs=>obtain⟨_,_,_,_,e⟩:=x;exact Heap.lt_size e
 |tup xs=>obtain⟨_,_,_,p⟩:=x;exact p.lt
 |dK kvs=>obtain⟨_,_,_,_,o,_,_,e,_⟩:=x;exact Heap.lt_size e
 |dT kvs=>obtain⟨_,_,_,_,o,_,_,e,_⟩:=x;exact Heap.lt_size e
 |set S n=>obtain⟨o,_,_,_,e,_⟩:=x;exact Heap.lt_size e
 |ins C dx fs=>obtain⟨_,_,_,e,_⟩:=x;exact Heap.lt_size e
 |own y=>obtain⟨_,e⟩:=x;exact Heap.lt_size e
 |xd fs=>obtain⟨_,⟨_,_,_,e,_⟩,_⟩:=x;exact Heap.lt_size e
 |rng lo hi=>obtain⟨_,_,_,e⟩:=x;exact Heap.lt_size e
 |frz ob u=>obtain⟨e,_⟩:=x;exact Heap.lt_size e
 |tbl ps=>exact Heap.lt_size (show h.get? a=some _ from x)
 |met f y=>exact Heap.lt_size (show h.get? a=some _ from x)
 |ext φ=>obtain⟨_,⟨_,e⟩,_⟩:=x;exact Heap.lt_size e
theorem Paired.mapP {α β:Type}{F G:α->β->Prop}:∀{l₁:List α}{l₂:List β},Paired F l₁ l₂->(∀a b,F a b->G a b)->Paired G l₁ l₂
 |_,_,.nil,_=>.nil
 |_,_,.cons r t,f=>.cons (f _ _ r) (Paired.mapP t f)
theorem eC.stay (x:eC P w H h a o)(k:∀b u,(b=a∨H b=some (.own a))->h.get? b=some u->h'.get? b=some u)(ho:∀b,H b=some (.own a)->H' b=some (.own a))(ht:∀b xs,H b=some (.tup xs)->H' b=some (.tup xs)):eC P w H' h' a o:=by
 induction o with
 |lst xs=>obtain⟨z,its,n,r,e⟩:=x;exact⟨z,its,n,r,k _ _ (.inl rfl) e⟩
 |tup xs=>obtain⟨z,its,r,ob,e,c⟩:=x;exact⟨z,its,r,ob,k _ _ (.inl rfl) e,c⟩
 |dK kvs=>obtain⟨z,y,vs,r,ob,es,ep,e,c⟩:=x;exact⟨z,y,vs,r,ob,es,ep,k _ _ (.inl rfl) e,c⟩
 |dT kvs =>
  obtain⟨z,y,xs,r,ob,es,ep,e,c⟩:=x;exact⟨z,y,xs,Paired.mapP r λp q z=>⟨z.1,ht _ _ z.2.1,z.2.2⟩,ob,es,ep,k _ _ (.inl rfl) e,c⟩
 |set S n=>obtain⟨ob,es,ep,t,e,c⟩:=x;exact⟨ob,es,ep,t,k _ _ (.inl rfl) e,c⟩
 |ins C dx fs =>
  obtain⟨d,z,ne,e,mA,⟨od,es,ep,e2,c⟩,r⟩:=x;exact⟨ho _ d,z,ne,k _ _ (.inl rfl) e,mA,⟨od,es,ep,k _ _ (.inr d) e2,c⟩,r⟩
 |own y=>obtain⟨ob,e⟩:=x;exact⟨ob,k _ _ (.inl rfl) e⟩
 |xd fs=>obtain⟨mA,⟨od,es,ep,e,c⟩,r⟩:=x;exact⟨mA,⟨od,es,ep,k _ _ (.inl rfl) e,c⟩,r⟩
 |rng lo hi=>obtain⟨t,u,v,e⟩:=x;exact⟨t,u,v,k _ _ (.inl rfl) e⟩
 |frz ob u ih=>obtain⟨e,q⟩:=x;exact⟨k _ _ (.inl rfl) e,ih q⟩
 |tbl ps =>
  have e:h.get? a=some { cls:=.none,data:=.fields ps }:=x;show h'.get? a=some { cls:=.none,data:=.fields ps };exact k a _ (.inl rfl) e
 |met f y =>
  have e:h.get? a=some (methodObj (.ref f) (.ref y)):=x;show h'.get? a=some (methodObj (.ref f) (.ref y));exact k a _ (.inl rfl) e
 |ext φ=>obtain⟨p,⟨o,e⟩,st⟩:=x;exact⟨st _ _ p λo q=>k _ _ (.inl rfl) q,⟨o,k _ _ (.inl rfl) e⟩,st⟩
theorem HOk.lt (x:HOk P w H h)(e:H a=some o):a<h.objs.size:=(x a o e).lt
theorem HOk.fresh (x:HOk P w H h)(e:h.objs.size<=a):H a=none:=by
 cases q:H a with
 |none=>rfl
 |some u=>exact absurd (Nat.lt_of_lt_of_le (x.lt q) e) (Nat.lt_irrefl _)
theorem HOk.kept (x:HOk P w H h)(k:∀b u,h.get? b=some u->h'.get? b=some u):HOk P w H h':=λa o e =>
 (x a o e).stay (λb u _ q=>k b u q) (λ_ q=>q) λ_ _ q=>q
theorem HOk.laid (x:HOk P w H h)(k:∀b u,h.get? b=some u->h'.get? b=some u)(hp:h.objs.size<=a)(new:eC P w (upd H a o) h' a o):HOk P w (upd H a o) h':=λb u e=>by
 have hn:=x.fresh hp;by_cases hb:b=a
 ·subst hb;rw[cE] at e;cases e;exact new
 ·rw[aS hb] at e;exact(x b u e).stay (λc v _ q=>k c v q) (λc q=>by rw[aS (bB q hn)];exact q) λc xs q=>by rw[aS (bB q hn)];exact q
end
def Rd (H:Hp)(a:Addr)(u:HO):Prop:=H a=some u ∨ ∃o,H a=some (.frz o u)
theorem Rd.ok {P:Program}{w:World}{H:Hp}{h:Heap}{a:Addr}{u:HO}(r:Rd H a u)(x:HOk P w H h):eC P w H h a u:=by
 rcases r with r|⟨o,r⟩
 ·exact x a u r
 ·obtain⟨_,q⟩:=x a _ r;exact q
def Mut:Option HO->Prop
 |some (.lst _)=>True
 |some (.dK _)=>True
 |some (.dT _)=>True
 |some (.set _ _)=>True
 |some (.ins _ _ _)=>True
 |some (.ext _)=>True
 |_=>False
section
variable {P:Program}{w:World}{H:Hp}{h h':Heap}{x e:Addr}{o':HO}
theorem HOk.write (ok:HOk P w H h)(mu:Mut (H x))(he:e=x∨H e=some (.own x))(k:∀b u,b≠e->h.get? b=some u->h'.get? b=some u)(heo:∃u,h'.get? e=some u)(new:eC P w (upd H x o') h' x o'):HOk P w (upd H x o') h':=λb u q=>by
 have nown:∀c y,H c=some (.own y)->c≠x:=λc y r z=>by subst z;rw[r] at mu;exact mu
 have ntup:∀c xs,H c=some (.tup xs)->c≠x:=λc xs r z=>by subst z;rw[r] at mu;exact mu
 by_cases hb:b=x
 ·subst hb;rw[cE] at q;cases q;exact new
 ·rw[aS hb] at q;by_cases hbe:b=e
  ·have q':H b=some (.own x):=by
    rcases he with z|z
    ·exact absurd (hbe.trans z) hb
    ·rw[hbe];exact z
   rw[q] at q';cases q';obtain⟨v,hv⟩:=heo;exact⟨v,by rw[hbe];exact hv⟩
  ·refine(ok b u q).stay (λc v hc r=>k c v ?_ r) (λc r=>by rw[aS (nown c b r)];exact r) λc xs r=>by rw[aS (ntup c xs r)];exact r
   rcases hc with rfl|hc
   ·exact hbe
   ·rintro rfl;rcases he with z|z
    ·exact nown c b hc z
    ·rw[hc] at z;cases z;exact hb rfl
end
structure Un (fs ex:List Addr)(H H':Hp)(h h':Heap):Prop where
 keep:∀b o,h.get? b=some o->H b=none->b∉fs->b∉ex->h'.get? b=some o
 slot:∀b o,h.get? b=some o->H b=none->b∈fs->b∉ex->∃sl,h'.get? b=some { o with slots:=sl }
 free:∀b o,h.get? b=some o->H b=none->b∉ex->H' b=none
 there:∀b o,h.get? b=some o->b∉ex->∃o',h'.get? b=some o'
 tups:∀b xs,H b=some (.tup xs)->H' b=some (.tup xs)
 frzs:∀b o u,H b=some (.frz o u)->H' b=some (.frz o u)
 tbls:∀b ps,H b=some (.tbl ps)->∃more,H' b=some (.tbl (ps++more))
section
variable {fs fs' ex ex':List Addr}{H H1 H2:Hp}{h h1 h2 h':Heap}{a x e:Addr}{o:HO}
theorem Un.any (u:Un fs ex H H1 h h1){b:Addr}{ob:Obj}(q:h.get? b=some ob)(n:H b=none)(hx:b∉ex):∃sl,h1.get? b=some { ob with slots:=sl }:=by
 by_cases hb:b∈fs
 ·exact u.slot b ob q n hb hx
 ·exact⟨ob.slots,u.keep b ob q n hb hx⟩
theorem Un.trans (a:Un fs ex H H1 h h1)(b:Un fs ex H1 H2 h1 h2):Un fs ex H H2 h h2 where
 keep:=λc ob q n hc hx=>b.keep c ob (a.keep c ob q n hc hx) (a.free c ob q n hx) hc hx
 slot:=λc ob q n hc hx=>by obtain⟨sl,e1⟩:=a.slot c ob q n hc hx;obtain⟨sl',e2⟩:=b.slot c _ e1 (a.free c ob q n hx) hc hx;exact⟨sl',e2⟩
 free:=λc ob q n hx=>by obtain⟨o',e1⟩:=a.there c ob q hx;exact b.free c o' e1 (a.free c ob q n hx) hx
 there:=λc ob q hx=>by obtain⟨o',e1⟩:=a.there c ob q hx;exact b.there c o' e1 hx
 tups:=λc xs q=>b.tups c xs (a.tups c xs q)
 frzs:=λc ob xs q=>b.frzs c ob xs (a.frzs c ob xs q)
 tbls:=λc ps q=>by obtain⟨m1,e1⟩:=a.tbls c ps q;obtain⟨m2,e2⟩:=b.tbls c _ e1;exact⟨m1++m2,by rw[e2,Array.append_assoc]⟩
theorem Un.kept (k:∀b u,h.get? b=some u->h'.get? b=some u):Un fs ex H H h h' :=
 ⟨λb ob q _ _ _=>k b ob q,λb ob q _ _ _=>⟨ob.slots,k b ob q⟩,λ_ _ _ n _=>n,λb ob q _=>⟨ob,k b ob q⟩,λ_ _ q=>q,λ_ _ _ q=>q,λ_ ps q=>⟨#[],by rw[q];simp⟩⟩
theorem Un.refl:Un fs ex H H h h:=Un.kept λ_ _ q=>q
theorem Un.laid (k:∀b u,h.get? b=some u->h'.get? b=some u)(hp:h.objs.size<=a)(hn:H a=none):Un fs ex H (upd H a o) h h' where
 keep:=λb u q _ _ _=>k b u q
 slot:=λb u q _ _ _=>⟨u.slots,k b u q⟩
 free:=λb u q n _=>by rw[aS (Nat.ne_of_lt (Nat.lt_of_lt_of_le (Heap.lt_size q) hp))];exact n
 there:=λb u q _=>⟨u,k b u q⟩
 tups:=λb xs q=>by rw[aS (bB q hn)];exact q
 frzs:=λb u xs q=>by rw[aS (bB q hn)];exact q
 tbls:=λb ps q=>⟨#[],by rw[aS (bB q hn),q];simp⟩
theorem Un.write (mu:Mut (H x))(he:e=x∨H e=some (.own x))(k:∀b u,b≠e->h.get? b=some u->h'.get? b=some u)(heo:∃u,h'.get? e=some u):Un fs ex H (upd H x o) h h':=by
 have hx:∀b,H b=none->b≠x:=λb n z=>by subst z;rw[n] at mu;exact mu
 have hb:∀b,H b=none->b≠e:=λb n z=>by
  subst z;rcases he with r|r
  ·exact hx b n r
  ·rw[n] at r;cases r
 have hm:∀b u,H b=some u->¬Mut (some u)->b≠x:=λb u q nm z=>by subst z;rw[q] at mu;exact nm mu
 refine⟨λb u q n _ _=>k b u (hb b n) q,λb u q n _ _=>⟨u.slots,k b u (hb b n) q⟩,λb u q n _=>by rw[aS (hx b n)];exact n,λb u q _=>?_,
  λb xs q=>by rw[aS (hm b _ q λz=>z)];exact q,λb u xs q=>by rw[aS (hm b _ q λz=>z)];exact q,λb ps q=>⟨#[],by rw[aS (hm b _ q λz=>z),q];simp⟩⟩
 by_cases hbe:b=e
 ·subst hbe;exact heo
 ·exact⟨u,k b u hbe q⟩
end
noncomputable def trk (h:Heap)(H:Hp):List Addr:=(range h.objs.size).filter λa=>(H a).isSome
noncomputable def uK (h:Heap)(H:Hp):Heap:=PySem.W.hideAll h (trk h H)
theorem zX (h:Heap)(H:Hp):(uK h H).objs.size=h.objs.size:=PySem.W.hideAll_size _ _
theorem aBq {h:Heap}{H:Hp}{b:Addr}{o:Obj}(e:h.get? b=some o)(n:H b=none):(uK h H).get? b=some o :=
 PySem.W.hideAll_get _ e λhm=>by have q:(H b).isSome=true:=(List.mem_filter.mp hm).2;rw[n] at q;simp at q
theorem aCL {h:Heap}{H:Hp}{b:Addr}{o:Obj}(e:(uK h H).get? b=some o):h.get? b=some o/\H b=none:=by
 have e':h.get? b=some o:=PySem.W.of_hideAll (trk h H) e;refine⟨e',?_⟩;cases q:H b with
 |none=>rfl
 |some x =>
  have hm:b∈trk h H:=List.mem_filter.mpr ⟨List.mem_range.mpr (Heap.lt_size e'),by simp[q]⟩;have z:(uK h H).get? b=none:=PySem.W.hideAll_none (trk h H) hm;rw[z] at e;cases e
noncomputable def aDL (g h:Heap)(L:Addr):List (Addr×Obj):=(range h.objs.size).filterMap λa=>if a=L∨(g.get? a).isSome=true then none else (h.get? a).map λo=>(a,o)
noncomputable def bV (g h:Heap)(L d:Addr):List (Addr×Obj):=(aDL g h L).filter λp=>decide (p.1≠d)
structure Mod (K:Frag)(mg:Str->Option Value)(base:Heap):Prop where
 kin:K.In base
 glob:base.Ns mainGlobals mg
 blt:∃mb,base.Ns builtinsNs mb/\∀x:Str,x ≠ "__name__"->mb x=bootBuiltins x
 nolimit:base.NoLimit
structure Cx where
 prog:Program
 w:World
 K:Frag
 mg:Str->Option Value
 base:Heap
 A:Around
 N:List Str
 s₀:Shared
 H₀:Hp
 env:Env
 outer:List Env
 stack:List Env
 ex:List Addr
 fn:Str->Bool
 calm:Bool
 pn:List (Addr×Obj)
 xe:Value->Shared->Prop
noncomputable def frs (l:List Env):List Addr:=l.filterMap (·.frame)
noncomputable abbrev Cx.fs (X:Cx):List Addr:=frs X.outer
def Vis (sc:Scope)(x:Str):Prop:=sc.names.lookup x=some .local∨sc.names.lookup x=some .cell∨sc.names.lookup x=some .free
def Loc (sc:Scope)(x:Str):Prop:=sc.names.lookup x=some .local∨sc.names.lookup x=some .cell
def aHI (env:Env)(h:Heap)(m:Str->Option Value)(x:Str)(u:Value):Prop :=
 (env.kindOf x=some .local/\m x=some u)∨((env.kindOf x=some .cell∨env.kindOf x=some .free)/\∃c,env.cells.lookup x=some c/\h.IsCell c (some u))
structure Cx.Ok (X:Cx):Prop where
 mod:Mod X.K X.mg X.base
 kind:X.env.scope.kind=.function
 glob:X.env.globals=mainGlobals
 blt:X.env.builtins=builtinsNs
 above:X.s₀.heap.objs.size<=X.env.locals
 inj:∀x y c,X.env.cells.lookup x=some c->X.env.cells.lookup y=some c->x=y
 has:∀x,(X.env.kindOf x=some .cell∨X.env.kindOf x=some .free)->∃c,X.env.cells.lookup x=some c
 cab:∀x c,X.fn x=true->X.env.cells.lookup x=some c->X.s₀.heap.objs.size<=c
 hd:X.calm=true->X.A.handled=none
 frames:X.A.frames=some X.stack
 stk:X.stack=X.outer∨(X.stack=X.env::X.outer/\X.env.frame=some X.env.locals)
 exf:∀b∈X.ex,b≠X.env.locals/\∀x c,X.env.cells.lookup x=some c->c≠b
 bs:∀b o,X.base.get? b=some o->X.s₀.heap.get? b=some o/\X.H₀ b=none
 bsz:X.base.objs.size<=X.s₀.heap.objs.size
 noex:∀b o,X.base.get? b=some o->b∉X.ex
 exfs:∀b∈X.ex,b∉X.fs
 funs:X.s₀.heap.FunFrames X.base X.outer
 frf:∀b∈X.fs,X.H₀ b=none
structure Inv (X:Cx)(pins:List (Addr×Obj))(σ:List (Option V))(H:Hp)(s:Shared):Prop where
 ok:X.Ok
 os:s.os=X.s₀.os
 bare:AllBare s.gens
 base:Un X.fs X.ex X.H₀ H X.s₀.heap s.heap
 loc:∃m,s.heap.Ns X.env.locals m/\∀(i:Nat)(x:Str) (v:V),X.N[i]?=some x->σ[i]?=some (some v)->Vis X.env.scope x->∃u,bM v u/\aHI X.env s.heap m x u
 cell:∀x c,X.env.cells.lookup x=some c->∃v,s.heap.IsCell c v
 free:H X.env.locals=none
 freeC:∀x c,X.env.cells.lookup x=some c->H c=none
 pin:∀p∈X.pn++pins,s.heap.get? p.1=some p.2/\H p.1=none/\p.1≠X.env.locals/\p.1∉X.fs/\∀v,p.2.data ≠ .cell v
 hok:HOk X.prog X.w H s.heap
 len:σ.length=X.N.length
section
variable {X:Cx}{pins:List (Addr×Obj)}{σ:List (Option V)}{H H':Hp}{s:Shared}{h':Heap}
theorem Cx.Ok.nofr (ok:X.Ok){b:Addr}{o:Obj}(e:X.base.get? b=some o):b∉X.fs:=λhb=>by have:=(ok.funs.mem hb).1;rw[e] at this;cases this
theorem Inv.bs (I:Inv X pins σ H s):∀b o,X.base.get? b=some o->s.heap.get? b=some o/\H b=none:=λb o e =>
 ⟨I.base.keep b o (I.ok.bs b o e).1 (I.ok.bs b o e).2 (I.ok.nofr e) (I.ok.noex b o e),I.base.free b o (I.ok.bs b o e).1 (I.ok.bs b o e).2 (I.ok.noex b o e)⟩
theorem Inv.bk (I:Inv X pins σ H s):∀b o,X.base.get? b=some o->s.heap.get? b=some o:=λb o e=>(I.bs b o e).1
theorem Inv.mod (I:Inv X pins σ H s):Mod X.K X.mg X.base:=I.ok.mod
theorem Inv.kIn (I:Inv X pins σ H s):X.K.In s.heap:=I.ok.mod.kin.keeps I.bk
theorem Inv.lt (I:Inv X pins σ H s):X.env.locals<s.heap.objs.size:=let ⟨_,hn,_⟩:=I.loc;hn.lt
theorem Inv.sz (I:Inv X pins σ H s):X.s₀.heap.objs.size<=s.heap.objs.size:=Nat.le_trans I.ok.above (Nat.le_of_lt I.lt)
theorem Inv.nofs (I:Inv X pins σ H s){a:Addr}(h:s.heap.objs.size<=a):a∉X.fs:=λhb=>by obtain⟨_,o,ho,_⟩:=I.ok.funs.mem hb;exact absurd (Nat.lt_of_lt_of_le (Heap.lt_size ho) (Nat.le_trans I.sz h)) (Nat.lt_irrefl _)
theorem Inv.cne (I:Inv X pins σ H s):∀x c,X.env.cells.lookup x=some c->c≠X.env.locals:=λx c e z=>by obtain⟨v,o,ho,hd⟩:=I.cell x c e;obtain⟨m,⟨o',es,ep,ho',hd',_⟩,_⟩:=I.loc;rw[z,ho'] at ho;cases ho;rw[hd'] at hd;cases hd
theorem Inv.funs (I:Inv X pins σ H s):s.heap.FunFrames X.base X.outer:=by
 have all:∀(l:List Env),(∀b∈frs l,b∈X.fs)->X.s₀.heap.FunFrames X.base l->s.heap.FunFrames X.base l:=by
  intro l
  induction l with
  |nil=>intro _ _;trivial
  |cons env r ih =>
   intro hs hl;obtain⟨hk,⟨L,o,hf,hn,ho,hd⟩,hr⟩:=hl;have hL:L∈X.fs:=hs L (by unfold frs;rw[filterMap_cons,hf];exact mem_cons_self);obtain⟨sl,e⟩:=I.base.slot L o ho (I.ok.frf L hL) hL λz=>I.ok.exfs L z hL;exact⟨hk,⟨L,_,hf,hn,e,hd⟩,ih (λb hb=>hs b (by unfold frs;rw[filterMap_cons,hf];exact mem_cons_of_mem _ hb)) hr⟩
 exact all X.outer (λ_ hb=>hb) I.ok.funs
theorem Inv.stack (I:Inv X pins σ H s):s.heap.FunFrames X.base X.stack:=by
 rcases I.ok.stk with e|⟨e,hf⟩
 ·rw[e];exact I.funs
 ·rw[e];obtain⟨m,hn,_⟩:=I.loc;refine .cons (by rw[I.ok.kind];decide) hf hn ?_ I.funs;exact Heap.get?_none_of_le (Nat.le_trans I.ok.bsz I.ok.above)
theorem Inv.stkSub (I:Inv X pins σ H s):∀b∈frs X.stack,b∈X.env.locals::X.fs:=λb hb=>by
 rcases I.ok.stk with e|⟨e,hf⟩
 ·rw[e] at hb;exact mem_cons_of_mem _ hb
 ·rw[e] at hb;unfold frs at hb;rw[filterMap_cons,hf] at hb;exact hb
theorem Inv.stkFree (I:Inv X pins σ H s):∀b∈frs X.stack,H b=none:=λb hb=>by
 rcases List.mem_cons.mp (I.stkSub b hb) with e|hb
 ·rw[e];exact I.free
 ·obtain⟨_,o,ho,_⟩:=I.ok.funs.mem hb;exact I.base.free b o ho (I.ok.frf b hb) λz=>I.ok.exfs b z hb
theorem Inv.step {g':Array GenState}{t':Nat}{d':Drawn}{ch:List Addr}(I:Inv X pins σ H s)(hch:∀b∈ch,(b∈X.ex∨X.s₀.heap.objs.size<=b)/\b≠X.env.locals/\(∀x c,X.env.cells.lookup x=some c->c≠b)/\∀p∈X.pn++pins,p.1≠b)(keep:∀b o,b≠X.env.locals->b∉X.fs->b∉ch->s.heap.get? b=some o->H b=none->h'.get? b=some o)(slot:∀b o,b≠X.env.locals->b∈X.fs->b∉ch->s.heap.get? b=some o->H b=none->∃sl,h'.get? b=some { o with slots:=sl })(free:∀b o,b∉ch->s.heap.get? b=some o->H b=none->H' b=none)(there:∀b o,b∉ch->s.heap.get? b=some o->∃o',h'.get? b=some o')(tups:∀b xs,H b=some (.tup xs)->H' b=some (.tup xs))(frzs:∀b o u,H b=some (.frz o u)->H' b=some (.frz o u))(tbls:∀b ps,H b=some (.tbl ps)->∃more,H' b=some (.tbl (ps++more)))(ns:∀m,s.heap.Ns X.env.locals m->h'.Ns X.env.locals m)(hok:HOk X.prog X.w H' h')(hg:AllBare g') :
  Inv X pins σ H' { s with heap:=h',gens:=g',drawn:=d',toks:=t' }:=by
 have neL:∀b o,X.s₀.heap.get? b=some o->b≠X.env.locals:=λb o e=>Nat.ne_of_lt (Nat.lt_of_lt_of_le (Heap.lt_size e) I.ok.above);have neC:∀b o,X.s₀.heap.get? b=some o->b∉X.ex->b∉ch:=λb o e hx hb=>by
  rcases (hch b hb).1 with z|z
  ·exact hx z
  ·exact absurd (Nat.lt_of_lt_of_le (Heap.lt_size e) z) (Nat.lt_irrefl _)
 have cellK:∀x c,X.env.cells.lookup x=some c->∀v,s.heap.IsCell c v->h'.IsCell c v:=λx c e v ⟨o,ho,hd⟩=>by
  have nch:c∉ch:=λz=>(hch c z).2.2.1 x c e rfl;by_cases hc:c∈X.fs
  ·obtain⟨sl,q⟩:=slot c o (I.cne x c e) hc nch ho (I.freeC x c e);exact⟨_,q,hd⟩
  ·exact⟨o,keep c o (I.cne x c e) hc nch ho (I.freeC x c e),hd⟩
 refine⟨I.ok,I.os,hg,⟨λb o e n hb hx=>?_,λb o e n hb hx=>?_,λb o e n hx=>?_,λb o e hx=>?_,λb xs e=>tups b xs (I.base.tups b xs e),λb o xs e=>frzs b o xs (I.base.frzs b o xs e),λb ps e=>?_⟩,?_,λx c e=>?_,?_,λx c e=>?_,λp hp=>?_,hok,I.len⟩
 ·exact keep b o (neL b o e) hb (neC b o e hx) (I.base.keep b o e n hb hx) (I.base.free b o e n hx)
 ·obtain⟨sl,e1⟩:=I.base.slot b o e n hb hx;obtain⟨sl',e2⟩:=slot b _ (neL b o e) hb (neC b o e hx) e1 (I.base.free b o e n hx);exact⟨sl',e2⟩
 ·obtain⟨o',e1⟩:=I.base.there b o e hx;exact free b o' (neC b o e hx) e1 (I.base.free b o e n hx)
 ·obtain⟨o',e1⟩:=I.base.there b o e hx;exact there b o' (neC b o e hx) e1
 ·obtain⟨m1,e1⟩:=I.base.tbls b ps e;obtain⟨m2,e2⟩:=tbls b _ e1;exact⟨m1++m2,by rw[e2,Array.append_assoc]⟩
 ·obtain⟨m,hn,hl⟩:=I.loc;refine⟨m,ns m hn,λi x v e1 e2 e3=>?_⟩;obtain⟨u,r,l⟩:=hl i x v e1 e2 e3;refine⟨u,r,?_⟩;rcases l with l|⟨k,c,e,z⟩
  ·exact .inl l
  ·exact .inr ⟨k,c,e,cellK x c e _ z⟩
 ·obtain⟨v,z⟩:=I.cell x c e;exact⟨v,cellK x c e v z⟩
 ·obtain⟨m,⟨o,_,_,ho,_⟩,_⟩:=I.loc;exact free _ o (λz=>(hch _ z).2.1 rfl) ho I.free
 ·obtain⟨v,o,ho,hd⟩:=I.cell x c e;exact free c o (λz=>(hch c z).2.2.1 x c e rfl) ho (I.freeC x c e)
 ·obtain⟨e,n,ne,nf,d⟩:=I.pin p hp;have nch:p.1∉ch:=λz=>(hch p.1 z).2.2.2 p hp rfl;exact⟨keep p.1 p.2 ne nf nch e n,free p.1 p.2 nch e n,ne,nf,d⟩
theorem Inv.un {t':Nat}(I:Inv X pins σ H s)(u:Un X.fs [] H H' s.heap h')(hok:HOk X.prog X.w H' h'):Inv X pins σ H' { s with heap:=h',toks:=t' }:=by
 obtain⟨m,⟨o,es,ep,ho,r⟩,_⟩:=id I.loc;obtain⟨sl,hL⟩:=u.any ho I.free (by simp);exact I.step (g':=s.gens) (d':=s.drawn) (ch:=[]) (λ_ z=>nomatch z) (λb o _ hb _ e n=>u.keep b o e n hb (by simp)) (λb o _ hb _ e n=>u.slot b o e n hb (by simp)) (λb o _ e n=>u.free b o e n (by simp)) (λb o _ e=>u.there b o e (by simp)) u.tups u.frzs u.tbls (λm' hm=>by obtain⟨o',es',ep',ho',r'⟩:=hm;rw[ho] at ho';cases ho';exact⟨_,es',ep',hL,r'⟩) hok I.bare
theorem Inv.call {g':Array GenState}{t':Nat}{d':Drawn}{ch:List Addr}(I:Inv X pins σ H s)(u:Un (frs X.stack) ch H H' s.heap h')(hok:HOk X.prog X.w H' h')(hg:AllBare g')(hch:∀b∈ch,(b∈X.ex∨X.s₀.heap.objs.size<=b)/\b≠X.env.locals/\(∀x c,X.env.cells.lookup x=some c->c≠b)/\∀p∈X.pn++pins,p.1≠b) :
  Inv X pins σ H' { s with heap:=h',gens:=g',drawn:=d',toks:=t' }:=by
 obtain⟨m,⟨o,es,ep,ho,r⟩,_⟩:=id I.loc;obtain⟨sl,hL⟩:=u.any ho I.free λz=>(hch _ z).2.1 rfl;exact I.step (ch:=ch) hch (λb o hL hb hc e n=>u.keep b o e n (λz=>(List.mem_cons.mp (I.stkSub b z)).elim hL hb) hc) (λb o _ _ hc e n=>u.any e n hc) (λb o hc e n=>u.free b o e n hc) (λb o hc e=>u.there b o e hc) u.tups u.frzs u.tbls (λm' hm=>by obtain⟨o',es',ep',ho',r'⟩:=hm;rw[ho] at ho';cases ho';exact⟨_,es',ep',hL,r'⟩) hok hg
theorem Inv.turned {t':Nat}{it:Addr}(I:Inv X pins σ H s)(k:∀b o,b≠it->s.heap.get? b=some o->h'.get? b=some o)(hn:H it=none)(hL:it≠X.env.locals)(h1:it∈X.ex∨X.s₀.heap.objs.size<=it)(h2:∀x c,X.env.cells.lookup x=some c->c≠it)(h3:∀p∈X.pn++pins,p.1≠it):Inv X pins σ H { s with heap:=h',toks:=t' }:=by
 have nit:∀b u,H b=some u->b≠it:=λb u e z=>by rw[z,hn] at e;cases e
 refine I.step (g':=s.gens) (d':=s.drawn) (ch:=[it]) (λb hb=>?_) (λb o _ _ hc e _=>k b o (λz=>hc (by simp[z])) e) (λb o _ _ hc e _=>⟨o.slots,k b o (λz=>hc (by simp[z])) e⟩) (λ_ _ _ _ n=>n)
  (λb o hc e=>⟨o,k b o (λz=>hc (by simp[z])) e⟩) (λ_ _ e=>e) (λ_ _ _ e=>e) (λb ps e=>⟨#[],by rw[e];simp⟩) (λm hm=>?_) (λb u e=>?_) I.bare
 ·have e:b=it:=by simpa using hb
  subst e;exact⟨h1,hL,h2,h3⟩
 ·obtain⟨o,es,ep,ho,r⟩:=hm;exact⟨o,es,ep,k _ o (Ne.symm hL) ho,r⟩
 ·refine(I.hok b u e).stay (λc v hc q=>k c v ?_ q) (λ_ q=>q) λ_ _ q=>q;rcases hc with z|z
  ·rw[z];exact nit b u e
  ·exact nit c _ z
theorem Inv.tok (I:Inv X pins σ H s)(t:Nat):Inv X pins σ H { s with toks:=t }:=I.un (h':=s.heap) (t':=t) Un.refl I.hok
theorem Inv.kept {t':Nat}(I:Inv X pins σ H s)(k:∀b u,s.heap.get? b=some u->h'.get? b=some u):Inv X pins σ H { s with heap:=h',toks:=t' }:=I.un (Un.kept k) (I.hok.kept k)
theorem Inv.laid {a:Addr}{o:HO}{t':Nat}(I:Inv X pins σ H s)(k:∀b u,s.heap.get? b=some u->h'.get? b=some u)(hp:s.heap.objs.size<=a)(new:eC X.prog X.w (upd H a o) h' a o) :
  Inv X pins σ (upd H a o) { s with heap:=h',toks:=t' }:=I.un (Un.laid k hp (I.hok.fresh hp)) (I.hok.laid k hp new)
theorem Inv.write {x e:Addr}{o:HO}{t':Nat}(I:Inv X pins σ H s)(mu:Mut (H x))(he:e=x∨H e=some (.own x))(k:∀b u,b≠e->s.heap.get? b=some u->h'.get? b=some u)(heo:∃u,h'.get? e=some u)(new:eC X.prog X.w (upd H x o) h' x o):Inv X pins σ (upd H x o) { s with heap:=h',toks:=t' }:=I.un (Un.write mu he k heo) (I.hok.write mu he k heo new)
theorem Inv.pins_of {pins':List (Addr×Obj)}(I:Inv X pins σ H s)(h:∀p∈pins',s.heap.get? p.1=some p.2/\H p.1=none/\p.1≠X.env.locals/\p.1∉X.fs/\∀v,p.2.data ≠ .cell v):Inv X pins' σ H s :=
 ⟨I.ok,I.os,I.bare,I.base,I.loc,I.cell,I.free,I.freeC,λp hp=>(List.mem_append.mp hp).elim (λz=>I.pin p (List.mem_append_left _ z)) (h p),I.hok,I.len⟩
theorem wS {N:List Str}(hN:N.Nodup){i j:Nat}{x:Str}(a:N[i]?=some x)(b:N[j]?=some x):i=j:=by obtain⟨h1,e1⟩:=List.getElem?_eq_some_iff.mp a;obtain⟨h2,e2⟩:=List.getElem?_eq_some_iff.mp b;exact(List.getElem_inj hN).mp (e1.trans e2.symm)
theorem sZ {M:Model}{A:Around}{E:Value->Shared->Prop}{i:Nat}{x:Str}{v:V}{u:Value}{Q:Unit->Shared->Prop}(I:Inv X pins σ H s)(hN:X.N.Nodup)(hi:X.N[i]?=some x)(hx:Loc X.env.scope x)(r:bM v u)(h:∀s',Inv X pins (σ.set i (some v)) H s'->(∃a,Heap.SameBut a s.heap s'.heap/\(a=X.env.locals∨X.env.cells.lookup x=some a))->Q () s')(hf:X.fn x=true∨X.env.scope.names.lookup x=some .local:=by first|exact .inl rfl|exact .inr rfl|assumption):wpAny M A (storeName X.env x u) Q E s:=by
 obtain⟨m,hn,hl⟩:=id I.loc;have hcls:(X.env.scope.kind == .class||(X.env.scope.kind == .module&&X.env.locals != X.env.globals))=false:=by rw[I.ok.kind];rfl
 have hiσ:i<σ.length:=by rw[I.len];exact(List.getElem?_eq_some_iff.mp hi).1
 have cne:=I.cne;have tracked:∀{a:Addr}{h':Heap},(∃o,s.heap.get? a=some o/\H a=none)->Heap.SameBut a s.heap h'->HOk X.prog X.w H h':=λ{a h'} ha hs b ob e=>by
  obtain⟨_,_,hfree⟩:=ha;refine(I.hok b ob e).stay (λc w' hc q=>(hs.2 c ?_).trans q) (λ_ q=>q) λ_ _ q=>q;rintro rfl;rcases hc with rfl|hc
  ·rw[hfree] at e;cases e
  ·rw[hfree] at hc;cases hc
 rcases hx with hk|hk
 ·refine wpAny_storeName_local hk hn (λh' hn' hs=>?_) hcls;obtain⟨oL,_,_,hoL,_⟩:=id hn;refine h _ ⟨I.ok,I.os,I.bare,⟨λb o e n hb hx=>?_,λb o e n hb hx=>?_,I.base.free,λb o e hx=>?_,I.base.tups,I.base.frzs,I.base.tbls⟩,⟨_,hn',λj y v' e1 e2 e3=>?_⟩,λy c e=>?_,I.free,I.freeC,λp hp=>?_,tracked ⟨oL,hoL,I.free⟩ hs,by simpa using I.len⟩ ⟨_,hs,.inl rfl⟩
  ·exact(hs.2 b (Nat.ne_of_lt (Nat.lt_of_lt_of_le (Heap.lt_size e) I.ok.above))).trans (I.base.keep b o e n hb hx)
  ·obtain⟨sl,e1⟩:=I.base.slot b o e n hb hx;exact⟨sl,(hs.2 b (Nat.ne_of_lt (Nat.lt_of_lt_of_le (Heap.lt_size e) I.ok.above))).trans e1⟩
  ·obtain⟨o',e1⟩:=I.base.there b o e hx;exact⟨o',(hs.2 b (Nat.ne_of_lt (Nat.lt_of_lt_of_le (Heap.lt_size e) I.ok.above))).trans e1⟩
  ·by_cases hj:j=i
   ·subst hj;rw[hi] at e1;cases e1;rw[List.getElem?_set_self hiσ] at e2;cases e2;exact⟨u,r,.inl ⟨hk,by simp⟩⟩
   ·rw[List.getElem?_set_ne (Ne.symm hj)] at e2;obtain⟨u',r',q⟩:=hl j y v' e1 e2 e3;refine⟨u',r',?_⟩;rcases q with⟨k,e⟩|⟨k,c,e,z⟩
    ·refine .inl ⟨k,?_⟩;have:y≠x:=λe=>hj (wS hN e1 (e ▸ hi));simp[this,e]
    ·exact .inr ⟨k,c,e,z.sameBut hs (cne y c e)⟩
  ·obtain⟨w',z⟩:=I.cell y c e;exact⟨w',z.sameBut hs (cne y c e)⟩
  ·obtain⟨e,n,ne,nf,d⟩:=I.pin p hp;exact⟨(hs.2 p.1 ne).trans e,n,ne,nf,d⟩
 ·have hfn:X.fn x=true:=by
   rcases hf with z|z
   ·exact z
   ·rw[z] at hk;cases hk
  obtain⟨c,hc⟩:=I.ok.has x (.inl hk);obtain⟨w',z⟩:=I.cell x c hc;refine wpAny_storeName_cell I.ok.kind hk hc z (λh' hc' hs=>?_);obtain⟨oc,hoc,hocd⟩:=id z;refine h { s with heap:=h' } ⟨I.ok,I.os,I.bare,⟨λb o e n hb hx=>?_,λb o e n hb hx=>?_,I.base.free,λb o e hx=>?_,I.base.tups,I.base.frzs,I.base.tbls⟩,⟨m,hn.sameBut hs (Ne.symm (cne x c hc)),λj y v' e1 e2 e3=>?_⟩,λy c' e=>?_,I.free,I.freeC,λp hp=>?_,tracked ⟨oc,hoc,I.freeC x c hc⟩ hs,by simpa using I.len⟩ ⟨c,hs,.inr hc⟩
  ·exact(hs.2 b (Nat.ne_of_lt (Nat.lt_of_lt_of_le (Heap.lt_size e) (I.ok.cab x c hfn hc)))).trans (I.base.keep b o e n hb hx)
  ·obtain⟨sl,e1⟩:=I.base.slot b o e n hb hx;exact⟨sl,(hs.2 b (Nat.ne_of_lt (Nat.lt_of_lt_of_le (Heap.lt_size e) (I.ok.cab x c hfn hc)))).trans e1⟩
  ·obtain⟨o',e1⟩:=I.base.there b o e hx;exact⟨o',(hs.2 b (Nat.ne_of_lt (Nat.lt_of_lt_of_le (Heap.lt_size e) (I.ok.cab x c hfn hc)))).trans e1⟩
  ·by_cases hj:j=i
   ·subst hj;rw[hi] at e1;cases e1;rw[List.getElem?_set_self hiσ] at e2;cases e2;exact⟨u,r,.inr ⟨.inl hk,c,hc,hc'⟩⟩
   ·rw[List.getElem?_set_ne (Ne.symm hj)] at e2;obtain⟨u',r',q⟩:=hl j y v' e1 e2 e3;refine⟨u',r',?_⟩;rcases q with q|⟨k,c',e,z'⟩
    ·exact .inl q
    ·refine .inr ⟨k,c',e,z'.sameBut hs ?_⟩;rintro rfl;exact hj (wS hN e1 (I.ok.inj _ _ _ e hc ▸ hi))
  ·by_cases hcc:c'=c
   ·subst hcc;exact⟨_,hc'⟩
   ·obtain⟨w2,z2⟩:=I.cell y c' e;exact⟨w2,z2.sameBut hs hcc⟩
  ·obtain⟨e,n,ne,nf,d⟩:=I.pin p hp;refine⟨(hs.2 p.1 ?_).trans e,n,ne,nf,d⟩;intro q;rw[q,hoc] at e;have q':oc=p.2:=Option.some.inj e;exact d w' (by rw[<- q'];exact hocd)
theorem kL {M:Model}{A:Around}{E:Value->Shared->Prop}{i:Nat}{x:Str}{v:V}{u:Value}{Q:Unit->Shared->Prop}(I:Inv X pins σ H s)(hN:X.N.Nodup)(hi:X.N[i]?=some x)(hx:Loc X.env.scope x)(r:bM v u)(h:∀s',Inv X pins (σ.set i (some v)) H s'->Q () s')(hf:X.fn x=true∨X.env.scope.names.lookup x=some .local:=by first|exact .inl rfl|exact .inr rfl|assumption):wpAny M A (storeName X.env x u) Q E s :=
 sZ I hN hi hx r (λs' I' _=>h s' I') hf
theorem Inv.call' {s':Shared}{ch:List Addr}(I:Inv X pins σ H s)(ho:s'.os=s.os)(u:Un (frs X.stack) ch H H' s.heap s'.heap)(hok:HOk X.prog X.w H' s'.heap)(hg:AllBare s'.gens)(hch:∀b∈ch,(b∈X.ex∨X.s₀.heap.objs.size<=b)/\b≠X.env.locals/\(∀x c,X.env.cells.lookup x=some c->c≠b)/\∀p∈X.pn++pins,p.1≠b):Inv X pins σ H' s':=by obtain⟨h',g',d',t',o'⟩:=s';have e:o'=s.os:=ho;subst e;exact I.call (g':=g') (t':=t') (d':=d') u hok hg hch
end
abbrev XK:=Value->Option Addr->Hp->Prop
noncomputable abbrev St:=List (Option V)
abbrev VK:=V->Hp->Prop
abbrev TE:=St->Hp->VK->Prop
abbrev TT:=St->Hp->(Bool->Hp->Prop)->Prop
abbrev TA:=St->Hp->(List V->Hp->Prop)->Prop
structure rO where
 nx:St->Hp->Prop
 rt:VK
 bk:St->Hp->Prop:=λ_ _=>False
 ct:St->Hp->Prop:=λ_ _=>False
abbrev TS:=rO->St->Hp->Prop
def EP (X:Cx)(pins:List (Addr×Obj))(σ:St)(Q:VK)(u:Value)(s':Shared):Prop:=∃v H',Inv X pins σ H' s'/\bM v u/\Q v H'
def TP (X:Cx)(pins:List (Addr×Obj))(σ:St)(Q:Bool->Hp->Prop)(b:Bool)(s':Shared):Prop:=∃H',Inv X pins σ H' s'/\Q b H'
def AP (X:Cx)(pins:List (Addr×Obj))(σ:St)(Q:List V->Hp->Prop)(us:List Value)(s':Shared):Prop:=∃vs H',Inv X pins σ H' s'/\bN vs us/\Q vs H'
def SP (X:Cx)(pins:List (Addr×Obj))(D:rO)(f:Flow)(s':Shared):Prop :=
 match f with
 |.next=>∃σ' H',Inv X pins σ' H' s'/\D.nx σ' H'
 |.brk=>∃σ' H',Inv X pins σ' H' s'/\D.bk σ' H'
 |.cont=>∃σ' H',Inv X pins σ' H' s'/\D.ct σ' H'
 |.ret u=>∃v σ' H',Inv X pins σ' H' s'/\bM v u/\D.rt v H'
def PE (X:Cx)(e:Expr)(t:TE):Prop :=
 ∀(pins:List (Addr×Obj)) (s:Shared) (σ:St) (H:Hp) (Q:VK),Inv X pins σ H s->t σ H Q->wpAny (model X.prog X.w) X.A (eval e X.env) (EP X pins σ Q) X.xe s
def PT (X:Cx)(e:Expr)(t:TT):Prop :=
 ∀(pins:List (Addr×Obj)) (s:Shared) (σ:St) (H:Hp) (Q:Bool->Hp->Prop),Inv X pins σ H s->t σ H Q->wpAny (model X.prog X.w) X.A (isTrue e X.env (eval e X.env)) (TP X pins σ Q) X.xe s
def PW (X:Cx)(e:Expr)(t:TT):Prop :=
 ∀(whole:Sem Value)(pins:List (Addr×Obj)) (s:Shared) (σ:St) (H:Hp) (Q:Bool->Hp->Prop),Inv X pins σ H s->t σ H Q->wpAny (model X.prog X.w) X.A (isTrue e X.env whole) (TP X pins σ Q) X.xe s
theorem PW.pt {X:Cx}{e:Expr}{t:TT}(h:PW X e t):PT X e t:=h _
def PA (X:Cx)(es:List Expr)(t:TA):Prop :=
 ∀(pos:Pos)(pins:List (Addr×Obj)) (s:Shared) (σ:St) (H:Hp) (Q:List V->Hp->Prop),Inv X pins σ H s->t σ H Q->wpAny (model X.prog X.w) X.A (spliced (backTo pos (starEach es X.env))) (AP X pins σ Q) X.xe s
def PS (X:Cx)(st:Stmt)(t:TS):Prop :=
 ∀(pins:List (Addr×Obj)) (s:Shared) (σ:St) (H:Hp) (D:rO),Inv X pins σ H s->t D σ H->wpAny (model X.prog X.w) X.A (exec st X.env) (SP X pins D) X.xe s
def PSs (X:Cx)(st:List Stmt)(t:TS):Prop :=
 ∀(pins:List (Addr×Obj)) (s:Shared) (σ:St) (H:Hp) (D:rO),Inv X pins σ H s->t D σ H->wpAny (model X.prog X.w) X.A (execs st X.env) (SP X pins D) X.xe s
theorem thn {α:Type}{t:Sem α}{Q Q':α->Shared->Prop}{M:Model}{A:Around}{E:Value->Shared->Prop}{s:Shared}(h:wpAny M A t Q E s)(hQ:∀a s,Q a s->Q' a s):wpAny M A t Q' E s:=wpAny_mono h hQ λ_ _ x=>x
section
variable {X:Cx}
def aI4 (i:Nat):TE:=λσ H Q=>∃v,σ[i]?=some (some v)/\Q v H
def tC (v:V):TE:=λ_ H Q=>Q v H
theorem aFh {i:Nat}{x:Str}{pos:Pos}(hN:X.N[i]?=some x)(hv:Vis X.env.scope x)(hd:(x==("__debug__":Str))=false:=by decide)(hcd:(x==("__classdict__":Str))=false:=by decide):PE X (.Name x pos) (aI4 i):=by
 intro pins s σ H Q I h;obtain⟨v,e,h⟩:=h;obtain⟨m,hn,hl⟩:=I.loc;obtain⟨u,r,l⟩:=hl i x v hN e hv;have fin:EP X pins σ Q u s:=⟨v,H,I,r,h⟩;rcases l with⟨hk,hm⟩|⟨hk,c,hc,hcell⟩
 ·exact wpAny_Name (wpAny_loadName_local I.ok.kind hk hn hm fin) hd
 ·rcases hk with hk|hk
  ·exact wpAny_Name (wpAny_loadName_cell I.ok.kind hk hc hcell fin) hd
  ·exact wpAny_Name (wpAny_loadName_free I.ok.kind hk hc hcell fin hcd) hd
theorem aGe {i j pos}:PE X (.Constant (.int i) j pos) (tC (.int i)):=λ_ _ _ H _ I h=>wpAny_Constant_int ⟨.int i,H,I.tok _,⟨_,rfl⟩,h⟩
theorem aH7 {b j pos}:PE X (.Constant (.bool b) j pos) (tC (.bl b)):=λ_ _ _ H _ I h=>Constant_bool ⟨.bl b,H,I,rfl,h⟩
theorem aFq {x j pos}:PE X (.Constant (.str x) j pos) (tC (.str x)):=λ_ _ _ H _ I h=>Calls.Constant_str ⟨.str x,H,I.tok _,⟨_,rfl⟩,h⟩
def Gl (X:Cx)(x:Str):Prop:=X.env.kindOf x=some .globalImplicit
theorem zL {E:Value->Shared->Prop}{pins:List (Addr×Obj)}{s:Shared}{σ:St}{H:Hp}{x:Str}{u:Value}{pos:Pos}{Q:Value->Shared->Prop}(I:Inv X pins σ H s)(hg:Gl X x)(hm:X.mg x=some u)(h:Q u s)(hd:(x==("__debug__":Str))=false:=by decide):wpAny (model X.prog X.w) X.A (eval (.Name x pos) X.env) Q E s :=
 Calls.Name_function_global I.ok.kind hg (Calls.loadGlobal_global (by rw[I.ok.glob];exact I.mod.glob.keeps I.bk) hm h) hd
theorem rE {E:Value->Shared->Prop}{pins:List (Addr×Obj)}{s:Shared}{σ:St}{H:Hp}{x:Str}{u:Value}{pos:Pos}{Q:Value->Shared->Prop}(I:Inv X pins σ H s)(hg:Gl X x)(hm:X.mg x=none)(hv:bootBuiltins x=some u)(h:Q u s)(hn:x ≠ "__name__":=by decide)(hd:(x==("__debug__":Str))=false:=by decide):wpAny (model X.prog X.w) X.A (eval (.Name x pos) X.env) Q E s:=by obtain⟨mb,h1,h2⟩:=I.mod.blt;exact Calls.Name_function_global I.ok.kind hg (Calls.loadGlobal_builtin (by rw[I.ok.glob];exact I.mod.glob.keeps I.bk) hm (by rw[I.ok.blt];exact h1.keeps I.bk) ((h2 x hn).trans hv) h) hd
theorem aCz {x:Str}{v:V}{u:Value}{pos:Pos}(hg:Gl X x)(hm:X.mg x = none)(hv:bootBuiltins x = some u)(r:bM v u)(hn:x ≠ "__name__":=by decide)(hd:(x==("__debug__":Str))=false:=by decide):PE X (.Name x pos) (tC v) :=
 λ_ _ _ H _ I h=>rE I hg hm hv ⟨v,H,I,r,h⟩ hn hd
variable {a b:Expr}{ta tb:TE}{pos:Pos}
def tB (t:TE):TT:=λσ H Q=>t σ H λx H1=>∃c,x=.bl c/\Q c H1
theorem aEC {e:Expr}{t:TE}(h:PE X e t)(he:∀whole,isTrue e X.env whole=(do let v <- whole;standAt e.pos;holding [v] (truthy v)):=by intro _;rfl):PT X e (tB t):=by intro pins s σ H Q I hw;refine isTrue_plain (thn (h pins s σ H _ I hw) λv s1 ⟨x,H1,I1,r1,q1⟩=>?_) (he _);obtain⟨d,rfl,q⟩:=q1;cases r1;exact wpAny_truthy_bool ⟨H1,I1,q⟩
variable {tA tB':TT}{bV:List Expr}
def aIK (t u:TT):TT:=λσ H Q=>t σ H λc H1=>if c=true then u σ H1 Q else Q false H1
def tOr (t u:TT):TT:=λσ H Q=>t σ H λc H1=>if c=true then Q true H1 else u σ H1 Q
def aI6 (t:TT):TT:=λσ H Q=>t σ H λc H1=>Q (!c) H1
theorem aCR (ha:PT X a tA):PW X (.BoolOp .And [a] pos) tA:=by
 intro wh pins s σ H Q I h;refine isTrue_and (thn (ha pins s σ H Q I h) λc s1 e=>?_);cases c with
 |true=>exact isTrue_and_nil e
 |false=>exact e
theorem aFu (ha:PT X a tA):PW X (.BoolOp .Or [a] pos) tA:=by
 intro wh pins s σ H Q I h;refine isTrue_or (thn (ha pins s σ H Q I h) λc s1 e=>?_);cases c with
 |false=>exact isTrue_or_nil e
 |true=>exact e
theorem aFr (ha:PT X a tA)(hb:PW X (.BoolOp .And (b::bV) pos) tB'):PW X (.BoolOp .And (a::b::bV) pos) (aIK tA tB'):=by
 intro wh pins s σ H Q I h;refine isTrue_and (thn (ha pins s σ H _ I h) λc s1 ⟨H1,I1,q1⟩=>?_);cases c with
 |true=>exact hb wh pins s1 σ H1 Q I1 q1
 |false=>exact⟨H1,I1,q1⟩
theorem aHj (ha:PT X a tA)(hb:PW X (.BoolOp .Or (b::bV) pos) tB'):PW X (.BoolOp .Or (a::b::bV) pos) (tOr tA tB'):=by
 intro wh pins s σ H Q I h;refine isTrue_or (thn (ha pins s σ H _ I h) λc s1 ⟨H1,I1,q1⟩=>?_);cases c with
 |true=>exact⟨H1,I1,q1⟩
 |false=>exact hb wh pins s1 σ H1 Q I1 q1
theorem aGw (ha:PT X a tA):PT X (.UnaryOp .Not a pos) (aI6 tA):=by intro pins s σ H Q I h;exact isTrue_not (ha pins s σ H (λc H1=>Q (!c) H1) I h)
def aHq (ta tb:TE):TE:=λσ H Q=>ta σ H λx H1=>∃c,x=.bl c/\if c=true then tb σ H1 Q else Q (.bl false) H1
def aIS (ta tb:TE):TE:=λσ H Q=>ta σ H λx H1=>∃c,x=.bl c/\if c=true then Q (.bl true) H1 else tb σ H1 Q
def aIb (ta:TE):TE:=λσ H Q=>ta σ H λx H1=>∃c,x=.bl c/\Q (.bl (!c)) H1
theorem aFb {op}{t:TE}(h:PE X a t):PE X (.BoolOp op [a] pos) t:=λpins s σ H Q I hw=>BoolOp_one (h pins s σ H Q I hw)
theorem aEh (ha:PE X a ta)(hb:PE X (.BoolOp .And (b::bV) pos) tb):PE X (.BoolOp .And (a::b::bV) pos) (aHq ta tb):=by
 intro pins s σ H Q I h;refine BoolOp_and (thn (ha pins s σ H _ I h) λv s1 ⟨x,H1,I1,r1,q1⟩=>?_);obtain⟨c,rfl,q1⟩:=q1;cases r1;refine wpAny_truthy_bool ?_;cases c with
 |true=>exact hb pins s1 σ H1 Q I1 q1
 |false=>exact⟨.bl false,H1,I1,rfl,q1⟩
theorem aIf (ha:PE X a ta)(hb:PE X (.BoolOp .Or (b::bV) pos) tb):PE X (.BoolOp .Or (a::b::bV) pos) (aIS ta tb):=by
 intro pins s σ H Q I h;refine BoolOp_or (thn (ha pins s σ H _ I h) λv s1 ⟨x,H1,I1,r1,q1⟩=>?_);obtain⟨c,rfl,q1⟩:=q1;cases r1;refine wpAny_truthy_bool ?_;cases c with
 |false=>exact hb pins s1 σ H1 Q I1 q1
 |true=>exact⟨.bl true,H1,I1,rfl,q1⟩
theorem aGD (ha:PE X a ta):PE X (.UnaryOp .Not a pos) (aIb ta):=by intro pins s σ H Q I h;refine UnaryOp_ (thn (ha pins s σ H _ I h) λv s1 ⟨x,H1,I1,r1,q1⟩=>?_);obtain⟨c,rfl,q1⟩:=q1;cases r1;exact not_of (wpAny_truthy_bool ⟨.bl (!c),H1,I1,rfl,q1⟩)
def tIf (t:TT)(ta tb:TE):TE:=λσ H Q=>t σ H λc H1=>if c=true then ta σ H1 Q else tb σ H1 Q
theorem aBh {c:Expr}(hc:PT X c tA)(ha:PE X a ta)(hb:PE X b tb):PE X (.IfExp c a b pos) (tIf tA ta tb):=by
 intro pins s σ H Q I h;refine wpAny_IfExp (thn (hc pins s σ H _ I h) λd s1 ⟨H1,I1,q1⟩=>?_);cases d with
 |true=>exact ha pins s1 σ H1 Q I1 q1
 |false=>exact hb pins s1 σ H1 Q I1 q1
end
def SqL (K:Frag)(H:Hp)(a:Addr)(xs:List V):Prop :=
 Rd H a (.lst xs) ∨
  ∃(o:Obj)(its:Array Value) (n:Nat),K.lookup a = some o/\o.cls = .type "list"/\o.dict=none/\o.data=.seq its n/\its.size<=sizeLine/\bN xs its.toList
def SqT (K:Frag)(H:Hp)(a:Addr)(xs:List V):Prop :=
 Rd H a (.tup xs) ∨
  ∃(o:Obj)(its:Array Value) (n:Nat),K.lookup a = some o/\o.cls = .type "tuple"/\o.data=.seq its n/\its.size<=sizeLine/\bN xs its.toList
noncomputable def aIN:Value->Option V
 |.none=>some .non
 |.bool b=>some (.bl b)
 |.int i _=>some (.int i)
 |.str x _=>some (.str x)
 |.bytes b _=>some (.byt b)
 |.float b _=>some (.flt b)
 |.ref a=>some (.ref a)
 |.type n=>some (.ty n)
 |_=>none
theorem bM.abs {x:V}{u:Value}(r:bM x u):aIN u=some x:=by
 cases x with
 |non=>cases r;rfl
 |bl _=>cases r;rfl
 |int _=>obtain⟨t,rfl⟩:=r;rfl
 |str _=>obtain⟨t,rfl⟩:=r;rfl
 |byt _=>obtain⟨t,rfl⟩:=r;rfl
 |flt _=>obtain⟨t,rfl⟩:=r;rfl
 |ref _=>cases r;rfl
 |ty _=>cases r;rfl
theorem bM.inj {x y:V}{u:Value}(r:bM x u)(q:bM y u):x=y:=Option.some.inj (r.abs.symm.trans q.abs)
theorem bN.inj:∀{xs ys:List V}{us:List Value},bN xs us->bN ys us->xs=ys
 |_,_,_,.nil,.nil=>rfl
 |_,_,_,.cons r t,.cons r' t'=>by rw[r.inj r',bN.inj t t']
section
variable {X:Cx}{pins:List (Addr×Obj)}{σ:St}{H:Hp}{s:Shared}{a:Addr}{xs ys:List V}
theorem SqL.of {K:Frag}(h:H a=some (.lst xs)):SqL K H a xs:=.inl (.inl h)
theorem SqT.of {K:Frag}(h:H a=some (.tup xs)):SqT K H a xs:=.inl (.inl h)
theorem Inv.list (I:Inv X pins σ H s)(h:SqL X.K H a xs):∃its:List Value,bN xs its/\PlainL s.heap a its.toArray/\xs.length<=sizeLine:=by
 rcases h with h|⟨o,its,n,hk,hc,hd,hs,hz,r⟩
 ·obtain⟨z,its,n,r,e⟩:=h.ok I.hok;exact⟨its,r,⟨_,n,e,rfl,rfl,rfl⟩,z⟩
 ·refine⟨its.toList,r,⟨o,n,I.kIn a o hk,hc,hd,by simpa using hs⟩,?_⟩;have e:=r.length;simp only[Array.length_toList] at e;omega
theorem Inv.tuple (I:Inv X pins σ H s)(h:SqT X.K H a xs):∃its:List Value,bN xs its/\IsTup s.heap a its.toArray/\xs.length<=sizeLine:=by
 rcases h with h|⟨o,its,n,hk,hc,hs,hz,r⟩
 ·obtain⟨z,its,r,p⟩:=h.ok I.hok;exact⟨its,r,p,z⟩
 ·refine⟨its.toList,r,⟨o,I.kIn a o hk,hc,n,by simpa using hs⟩,?_⟩;have e:=r.length;simp only[Array.length_toList] at e;omega
theorem Inv.list_inj (I:Inv X pins σ H s)(h:SqL X.K H a xs)(h':SqL X.K H a ys):xs=ys:=by
 obtain⟨its,r,⟨o,n,e,_,_,d⟩,_⟩:=I.list h;obtain⟨its',r',⟨o',n',e',_,_,d'⟩,_⟩:=I.list h';rw[e] at e';cases e';rw[d] at d';injection d' with d1 _
 have:its=its':=by simpa using congrArg Array.toList d1
 subst this;exact r.inj r'
theorem Inv.tuple_inj (I:Inv X pins σ H s)(h:SqT X.K H a xs)(h':SqT X.K H a ys):xs=ys:=by
 obtain⟨its,r,⟨o,e,_,n,d⟩,_⟩:=I.tuple h;obtain⟨its',r',⟨o',e',_,n',d'⟩,_⟩:=I.tuple h';rw[e] at e';cases e';rw[d] at d';injection d' with d1 _
 have:its=its':=by simpa using congrArg Array.toList d1
 subst this;exact r.inj r'
end
noncomputable abbrev Cx.wish (X:Cx)(E:Value->Shared->Prop):Cx:={ X with xe:=E }
noncomputable abbrev Cx.nox (X:Cx):Cx:=X.wish λ_ _=>False
theorem Cx.Ok.wish {X:Cx}(ok:X.Ok)(E:Value->Shared->Prop):(X.wish E).Ok :=
 ⟨ok.mod,ok.kind,ok.glob,ok.blt,ok.above,ok.inj,ok.has,ok.cab,ok.hd,ok.frames,ok.stk,ok.exf,ok.bs,ok.bsz,ok.noex,ok.exfs,ok.funs,ok.frf⟩
theorem Cx.Ok.unwish {X:Cx}{E:Value->Shared->Prop}(ok:(X.wish E).Ok):X.Ok :=
 ⟨ok.mod,ok.kind,ok.glob,ok.blt,ok.above,ok.inj,ok.has,ok.cab,ok.hd,ok.frames,ok.stk,ok.exf,ok.bs,ok.bsz,ok.noex,ok.exfs,ok.funs,ok.frf⟩
section
variable {X:Cx}{pins:List (Addr×Obj)}{σ:St}{H:Hp}{s:Shared}{E:Value->Shared->Prop}
theorem Inv.wish (I:Inv X pins σ H s)(E:Value->Shared->Prop):Inv (X.wish E) pins σ H s:=⟨I.ok.wish E,I.os,I.bare,I.base,I.loc,I.cell,I.free,I.freeC,I.pin,I.hok,I.len⟩
theorem Inv.unwish (I:Inv (X.wish E) pins σ H s):Inv X pins σ H s:=⟨I.ok.unwish,I.os,I.bare,I.base,I.loc,I.cell,I.free,I.freeC,I.pin,I.hok,I.len⟩
theorem SP.unwish {D:rO}{f:Flow}{s':Shared}(h:SP (X.wish E) pins D f s'):SP X pins D f s':=by
 cases f with
 |next=>obtain⟨σ',H',I,q⟩:=h;exact⟨σ',H',I.unwish,q⟩
 |brk=>obtain⟨σ',H',I,q⟩:=h;exact⟨σ',H',I.unwish,q⟩
 |cont=>obtain⟨σ',H',I,q⟩:=h;exact⟨σ',H',I.unwish,q⟩
 |ret u=>obtain⟨v,σ',H',I,r,q⟩:=h;exact⟨v,σ',H',I.unwish,r,q⟩
theorem PSs.nox {st:List Stmt}{t:TS}(h:PSs X.nox st t):PSs X st t:=λpins s σ H D I hw =>
 wpAny_mono (h pins s σ H D (I.wish _) hw) (λ_ _ q=>q.unwish) λ_ _ z=>False.elim z
end
section
variable {X:Cx}{st:Stmt}{bV:List Stmt}{t u:TS}{e:Expr}{te:TE}{pos:Pos}
def aGX:TS:=λD σ H=>D.nx σ H
def aJc (t u:TS):TS:=λD σ H=>t { D with nx:=u D } σ H
theorem aC7:PSs X [] aGX:=λ_ _ σ H _ I h=>wpAny_execs_nil ⟨σ,H,I,h⟩
theorem wI (h1:PS X st t)(h2:PSs X bV u):PSs X (st::bV) (aJc t u):=by
 intro pins s σ H D I h;refine wpAny_execs_cons (thn (h1 pins s σ H { D with nx:=u D } I h) λf s1 q=>?_);cases f with
 |next =>
  obtain⟨σ',H',I',q⟩:=q;exact h2 pins s1 σ' H' D I' q
 |ret v=>exact q
 |brk=>exact q
 |cont=>exact q
theorem aDt (h1:PS X st t):PSs X [st] t:=by
 intro pins s σ H D I h;refine wpAny_execs_cons (thn (h1 pins s σ H D I h) λf s1 q=>?_);cases f with
 |next=>exact wpAny_execs_nil q
 |ret v=>exact q
 |brk=>exact q
 |cont=>exact q
theorem Inv.quiet {pins:List (Addr×Obj)}{σ:St}{H:Hp}{s:Shared}(I:Inv X pins σ H s):interactive X.env=false:=by simp[interactive,I.ok.kind]
def aIh (te:TE):TS:=λD σ H=>te σ H λ_ H1=>D.nx σ H1
theorem aDA (he:PE X e te)(hs:swapsWith e none pos.line X.env=pure false:=by rfl):PS X (.Expr e pos) (aIh te):=by intro pins s σ H D I h;exact wpAny_Expr_any (thn (he pins s σ H _ I h) λv s1 ⟨x,H1,I1,r1,q1⟩=>⟨σ,H1,I1,q1⟩) I.quiet hs
def aIw (te:TE):TS:=λD σ H=>te σ H D.rt
theorem aGK (he:PE X e te):PS X (.Return (some e) pos) (aIw te):=by intro pins s σ H D I h;exact wpAny_Return_some (thn (he pins s σ H _ I h) λv s1 ⟨x,H1,I1,r1,q1⟩=>⟨x,σ,H1,I1,r1,q1⟩)
def aIY (c:TT)(t u:TS):TS:=λD σ H=>c σ H λb H1=>if b=true then t D σ H1 else u D σ H1
theorem aHL {c:Expr}{a b:List Stmt}{tc:TT}(hc:PT X c tc)(ha:PSs X a t)(hb:PSs X b u):PS X (.If c a b pos) (aIY tc t u):=by
 intro pins s σ H D I h;refine wpAny_If (thn (hc pins s σ H _ I h) λd s1 ⟨H1,I1,q1⟩=>?_);cases d with
 |true=>exact ha pins s1 σ H1 D I1 q1
 |false=>exact hb pins s1 σ H1 D I1 q1
end
abbrev TG:=V->St->Hp->(St->Hp->Prop)->Prop
abbrev TGs:=List V->St->Hp->(St->Hp->Prop)->Prop
def PG (X:Cx)(target:Expr)(t:TG):Prop :=
 ∀(pins:List (Addr×Obj)) (s:Shared) (σ:St) (H:Hp) (v:V) (u:Value) (Q:St->Hp->Prop),Inv X pins σ H s->bM v u->t v σ H Q ->
  wpAny (model X.prog X.w) X.A (assign target X.env u) (λ_ s'=>∃σ' H',Inv X pins σ' H' s'/\Q σ' H') X.xe s
def PGs (X:Cx)(ts:List Expr)(t:TGs):Prop :=
 ∀(pins:List (Addr×Obj)) (s:Shared) (σ:St) (H:Hp) (vs:List V) (us:List Value) (Q:St->Hp->Prop),Inv X pins σ H s->bN vs us->t vs σ H Q ->
  wpAny (model X.prog X.w) X.A (assignInOrder ((assignEach ts X.env).map (·.2)) us) (λ_ s'=>∃σ' H',Inv X pins σ' H' s'/\Q σ' H') X.xe s
abbrev aFw:=V->V->V->Hp->(Hp->Prop)->Prop
def aFi (X:Cx)(t:aFw):Prop :=
 ∀(pins:List (Addr×Obj)) (s:Shared) (σ:St) (H:Hp) (o i v:V) (ov iv u:Value) (Q:Hp->Prop),Inv X pins σ H s->bM o ov->bM i iv->bM v u->t o i v H Q ->
  wpAny (model X.prog X.w) X.A (setItem ov iv u) (λ_ s'=>∃H',Inv X pins σ H' s'/\Q H') X.xe s
abbrev TIp:=V->V->Hp->VK->Prop
def PIp (X:Cx)(op:Operator)(t:TIp):Prop :=
 ∀(pins:List (Addr×Obj)) (s:Shared) (σ:St) (H:Hp) (x y:V) (v u:Value) (Q:VK),Inv X pins σ H s->bM x v->bM y u->t x y H Q ->
  wpAny (model X.prog X.w) X.A (inplaceOp op v u) (EP X pins σ Q) X.xe s
section
variable {X:Cx}{pos:Pos}
def aD2 (i:Nat):TG:=λv σ H Q=>Q (σ.set i (some v)) H
theorem aCI {i:Nat}{x:Str}(hN:X.N.Nodup)(hi:X.N[i]?=some x)(hx:Loc X.env.scope x)(hf:X.fn x=true∨X.env.scope.names.lookup x=some .local:=by first|exact .inl rfl|exact .inr rfl|assumption):PG X (.Name x pos) (aD2 i):=by intro pins s σ H v u Q I r h;exact wpAny_assign_Name (kL I hN hi hx r (λs' I'=>⟨_,H,I',h⟩) hf)
def aIz:TGs:=λvs σ H Q=>vs=[]/\Q σ H
def aHR (t:TG)(u:TGs):TGs:=λvs σ H Q=>∃v r,vs=v::r/\t v σ H λσ' H'=>u r σ' H' Q
theorem aDu:PGs X [] aIz:=by intro pins s σ H vs us Q I r h;obtain⟨e,h⟩:=h;subst e;cases r;exact assignInOrder_nil ⟨σ,H,I,h⟩
theorem aBS {e:Expr}{es:List Expr}{t:TG}{u:TGs}(h1:PG X e t)(h2:PGs X es u)(hs:(assignEach (e::es) X.env).map (·.2)=assign e X.env::(assignEach es X.env).map (·.2):=by rfl):PGs X (e::es) (aHR t u):=by
 intro pins s σ H vs us Q I r h;obtain⟨v,vr,e1,h⟩:=h;subst e1;cases r with
 |cons r rr =>
  rw[hs];refine assignInOrder_cons (thn (h1 pins s σ H _ _ _ I r h) λ_ s1 ⟨σ1,H1,I1,q1⟩=>?_);exact h2 pins s1 σ1 H1 _ _ Q I1 rr q1
def aIC (K:Frag)(n:Nat)(t:TGs):TG:=λv σ H Q=>∃a xs,v=.ref a/\SqT K H a xs/\xs.length=n/\t xs σ H Q
theorem aEf {es:List Expr}{k:Nat}{t:TGs}{n:Nat}(hc:X.calm=true)(h:PGs X es t)(hn:(assignEach es X.env).length=n:=by rfl)(hst:(assignEach es X.env).findIdx? (·.1)=none:=by rfl):PG X (.Tuple es k pos) (aIC X.K n t):=by intro pins s σ H v u Q I r hw;obtain⟨a,xs,e1,hq,hl,hw⟩:=hw;subst e1;cases r;obtain⟨its,rv,ht,hz⟩:=I.tuple hq;refine assign_Tuple_tuple (I.ok.hd hc) ht (by simp[hn,<- hl,rv.length]) hst λh' hx=>?_;have I1:Inv X pins σ H { s with heap:=h' }:=I.kept (t':=s.toks) λb o e=>hx b o (Nat.ne_of_lt (Heap.lt_size e)) e;exact h pins _ σ H xs _ Q I1 (by simpa using rv) hw
def aI7 (to ti:TE)(t:aFw):TG:=λv σ H Q=>to σ H λo H1=>ti σ H1 λi H2=>t o i v H2 λH3=>Q σ H3
theorem aBN {o i:Expr}{to ti:TE}{t:aFw}(ho:PE X o to)(hi:PE X i ti)(hs:aFi X t)(ha:∀v,assign (.Subscript o i pos) X.env v=(do
   let ov <- holding [v] (eval o X.env)
   let iv <- holding [v,ov] (eval i X.env)
   standAt pos
   holding [v,ov,iv] (setItem ov iv v)
   release [v,ov,iv] []):=by intro _;rfl):PG X (.Subscript o i pos) (aI7 to ti t):=by
 intro pins s σ H v u Q I r h;rw[ha];refine wpAny_bind (wpAny_holding (thn (ho pins s σ H _ I h) λov s1 ⟨x,H1,I1,r1,q1⟩=>?_));refine wpAny_bind (wpAny_holding (thn (hi pins s1 σ H1 _ I1 q1) λiv s2 ⟨y,H2,I2,r2,q2⟩=>?_));refine wpAny_bind (wpAny_standAt (wpAny_bind (wpAny_holding (thn (hs pins s2 σ H2 x y v ov iv u _ I2 r1 r2 r q2) λ_ s3 ⟨H3,I3,q3⟩=>?_))));exact wpAny_release ⟨σ,H3,I3,q3⟩
def aHO (te:TE)(g:TG):TS:=λD σ H=>te σ H λx H1=>g x σ H1 D.nx
theorem aGM {tg e:Expr}{te:TE}{g:TG}(he:PE X e te)(hg:PG X tg g)(hs:swapsWithSole [tg] e pos.line X.env=pure false:=by rfl)(hw:swappedStores [tg] e X.env=pure none:=by rfl)(h1:(assignEach [tg] X.env).map (·.2)=[assign tg X.env]:=by rfl):PS X (.Assign [tg] e pos) (aHO te g):=by intro pins s σ H D I h;refine wpAny_Assign_stores (thn (he pins s σ H _ I h) λv s1 ⟨x,H1,I1,r1,q1⟩=>?_) hs hw;rw[h1];exact thn (hg pins s1 σ H1 x v _ I1 r1 q1) λ_ s2 q=>q
theorem aGj {i:Nat}{x:Str}{e:Expr}{te:TE}{pos':Pos}(hN:X.N.Nodup)(hi:X.N[i]?=some x)(hx:Loc X.env.scope x)(he:PE X e te)(hs:swapsWith e (some (.Name x pos')) pos.line X.env=pure false:=by rfl)(hf:X.fn x=true∨X.env.scope.names.lookup x=some .local:=by first|exact .inl rfl|exact .inr rfl|assumption) :
  PS X (.Assign [.Name x pos'] e pos) (aHO te (aD2 i)):=by
 intro pins s σ H D I h;refine wpAny_Assign_Name (thn (he pins s σ H _ I h) λv s1 ⟨y,H1,I1,r1,q1⟩=>?_) hs;exact kL I1 hN hi hx r1 (λs2 I2=>⟨_,H1,I2,q1⟩) hf
def aIv (i j:Nat)(ta:TA):TS:=λD σ H=>ta σ H λvs H1=>∃v w,vs=[v,w]/\D.nx ((σ.set i (some v)).set j (some w)) H1
theorem aGF {i j:Nat}{x y:Str}{a b:Expr}{ta:TA}{px py pt:Pos}{kt k2 pt2}(hc:X.calm=true)(hN:X.N.Nodup)(hi:X.N[i]?=some x)(hj:X.N[j]?=some y)(hij:i≠j)(hx:X.env.scope.names.lookup x=some .local)(hy:X.env.scope.names.lookup y=some .local)(ha:PA X [a,b] ta)(hw:swappedStores [.Tuple [.Name x px,.Name y py] kt pt] (.Tuple [a,b] k2 pt2) X.env=pure (some [x,y]))(hs:swapsWithSole [.Tuple [.Name x px,.Name y py] kt pt] (.Tuple [a,b] k2 pt2) pos.line X.env=pure false:=by rfl) :
  PS X (.Assign [.Tuple [.Name x px,.Name y py] kt pt] (.Tuple [a,b] k2 pt2) pos) (aIv i j ta):=by
 intro pins s σ H D I h;rw[exec_Assign_arm];refine wpAny_bind (wpAny_standAt ?_);rw[hs];refine wpAny_bind (wpAny_pure ?_);rw[if_neg (by decide)];refine wpAny_bind (Tuple_ (thn (ha _ pins s σ H _ I h) λus s1 ⟨vs,H1,I1,r1,q1⟩=>?_));obtain⟨v,w,e1,q1⟩:=q1;subst e1;obtain⟨u1,u2,rfl,rv,rw'⟩:∃u1 u2,us=[u1,u2]/\bM v u1/\bM w u2:=by
  cases r1 with
  |cons p q =>
   cases q with
   |cons p' q' =>
    cases q';exact⟨_,_,rfl,p,p'⟩
 refine wpAny_newObj_type ?_ (by show 2<=sizeLine;decide);have I2:Inv X pins σ H1 { s1 with heap:=s1.heap.push { cls:=.type "tuple",data:=.seq [u1,u2].toArray } }:=I1.kept (t':=s1.toks) λb o e=>Heap.get?_push_of_some _ e;rw[hw];refine wpAny_bind (wpAny_pure ?_);show wpAny (model X.prog X.w) X.A (do rule "assign.swapped-stores";let items <- unpackItems (.ref s1.heap.objs.size) 2 none;assignInOrder [λv=>bindName X.env y v,λv=>bindName X.env x v] items.reverse;pure Flow.next) _ _ _;refine wpAny_bind (wpAny_rule (wpAny_bind (unpackItems_tuple (items:=#[u1,u2]) (I.ok.hd hc) (IsTup.new s1.heap _) λh' hx'=>?_)));have I3:=I2.kept (h':=h') (t':=s1.toks) λb o e=>hx' b o (Nat.ne_of_lt (Heap.lt_size e)) e;show wpAny _ _ (assignInOrder [λv=>bindName X.env y v,λv=>bindName X.env x v] [u2,u1] >>= λ_=>pure Flow.next) _ _ _;refine wpAny_bind (assignInOrder_cons (wpAny_bindName (kL I3 hN hj (.inl hy) rw' (λs2 I4=>?_) (.inr hy))));refine assignInOrder_cons (wpAny_bindName (kL I4 hN hi (.inl hx) rv (λs3 I5=>assignInOrder_nil (wpAny_pure ?_)) (.inr hx)));rw[List.set_comm _ _ (Ne.symm hij)] at I5;exact⟨_,H1,I5,q1⟩
def aIA (i:Nat)(te:TE)(ti:TIp):TS:=λD σ H=>∃x,σ[i]?=some (some x)/\te σ H λy H1=>ti x y H1 λz H2=>D.nx (σ.set i (some z)) H2
theorem aGb {i:Nat}{x:Str}{e:Expr}{te:TE}{op:Operator}{ti:TIp}{pos':Pos}(hN:X.N.Nodup)(hi:X.N[i]?=some x)(hx:Loc X.env.scope x)(he:PE X e te)(ho:PIp X op ti)(hf:X.fn x=true∨X.env.scope.names.lookup x=some .local:=by first|exact .inl rfl|exact .inr rfl|assumption) :
  PS X (.AugAssign (.Name x pos') op e pos) (aIA i te ti):=by
 intro pins s σ H D I h;obtain⟨v,e1,h⟩:=h;obtain⟨m,hn,hl⟩:=I.loc;have vis:Vis X.env.scope x:=by rcases hx with k|k;exact .inl k;exact .inr (.inl k)
 obtain⟨u,r,l⟩:=hl i x v hi e1 vis;refine wpAny_AugAssign_Name ?_;have go:wpAny (model X.prog X.w) X.A (eval e X.env) (λw s₂=>wpAny (model X.prog X.w) X.A (inplaceOp op u w) (λr s₃=>wpAny (model X.prog X.w) X.A (storeName X.env x r) (λ_=>SP X pins D .next) X.xe s₃) X.xe s₂) X.xe s:=by refine thn (he pins s σ H _ I h) λw s1 ⟨y,H1,I1,r1,q1⟩=>?_;refine thn (ho pins s1 σ H1 v y u w _ I1 r r1 q1) λz s2 ⟨zv,H2,I2,r2,q2⟩=>?_;exact kL I2 hN hi hx r2 (λs3 I3=>⟨_,H2,I3,q2⟩) hf
 rcases l with⟨hk,hm⟩|⟨hk,c,hc,hcell⟩
 ·exact wpAny_loadName_local I.ok.kind hk hn hm go
 ·rcases hk with hk|hk
  ·exact wpAny_loadName_cell I.ok.kind hk hc hcell go
  ·rcases hx with k|k
   ·have:X.env.scope.names.lookup x=some .free:=hk;rw[k] at this;cases this
   ·have:X.env.scope.names.lookup x=some .free:=hk;rw[k] at this;cases this
noncomputable def ipI (f:Int->Int->Int):TIp:=λx y H Q=>∃i j,x=.int i/\y=.int j/\Q (.int (f i j)) H
theorem aFm:PIp X .Sub (ipI λi j=>i-j):=by intro pins s σ H x y v u Q I r1 r2 h;obtain⟨i,j,e1,e2,q⟩:=h;subst e1;subst e2;obtain⟨t,rfl⟩:=r1;obtain⟨t',rfl⟩:=r2;exact isub_int ⟨.int _,H,I.tok _,⟨_,rfl⟩,q⟩
end
section
variable {X:Cx}{pos:Pos}
def aFJ (c:TT)(tb:TS):TS:=λD σ H=>∃W:Nat->St->Hp->Prop,(∃m,W m σ H)/\∀m σ H,W m σ H ->
 c σ H λb H1=>if b=true then ∃N:St->Hp->Prop,(∀σ' H',N σ' H'->∃m',m'<m/\W m' σ' H')/\tb { D with nx:=N,ct:=N,bk:=D.nx } σ H1 else D.nx σ H1
theorem aBU {c:Expr}{body:List Stmt}{tc:TT}{tb:TS}(hp:PassesOwn (model X.prog X.w) X.A X.env X.xe)(hc:PT X c tc)(hb:PSs X body tb):PS X (.While c body [] pos) (aFJ tc tb):=by
 intro pins s σ H D I h;obtain⟨W,⟨m0,w0⟩,turn⟩:=h;refine wpAny_While (codeAny_whileLoop (λn s'=>∃σ' H',Inv X pins σ' H' s'/\W n σ' H') ?_ m0 ⟨σ,H,I,w0⟩);rintro n s1 ⟨σ1,H1,I1,w1⟩;refine wpAny_passesOwn hp (thn (hc pins s1 σ1 H1 _ I1 (turn n σ1 H1 w1)) λb s2 ⟨H2,I2,q2⟩=>?_);cases b with
 |true =>
  obtain⟨N,hN,q2⟩:=q2;rw[if_pos rfl];refine wpAny_passesOwn hp (thn (hb pins s2 σ1 H2 _ I2 q2) λf s3 q3=>?_);cases f with
  |next =>
   obtain⟨σ3,H3,I3,n3⟩:=q3;obtain⟨m',hm,w3⟩:=hN σ3 H3 n3;exact⟨m',hm,σ3,H3,I3,w3⟩
  |cont =>
   obtain⟨σ3,H3,I3,n3⟩:=q3;obtain⟨m',hm,w3⟩:=hN σ3 H3 n3;exact⟨m',hm,σ3,H3,I3,w3⟩
  |brk=>exact q3
  |ret v=>exact q3
 |false =>
  rw[if_neg Bool.false_ne_true];exact wpAny_execs_nil ⟨σ1,H2,I2,q2⟩
end
structure It where
 go:Nat->Hp->Prop
 yld:Nat->Hp->V->Hp->Prop
 stop:Nat->Hp->Prop
def rQ (X:Cx)(pins:List (Addr×Obj))(H:Hp)(b:Addr):Prop :=
 H b=none/\b≠X.env.locals/\b∉X.fs/\(b∈X.ex∨X.s₀.heap.objs.size<=b)/\(∀x c,X.env.cells.lookup x=some c->c≠b)/\∀p∈X.pn++pins,p.1≠b
theorem Inv.fpOk {X:Cx}{pins:List (Addr×Obj)}{σ:St}{H H':Hp}{s:Shared}{b:Addr}(I:Inv X pins σ H s)(hb:s.heap.objs.size<=b)(hn:H' b=none):rQ X pins H' b:=by
 refine⟨hn,Nat.ne_of_gt (Nat.lt_of_lt_of_le I.lt hb),I.nofs hb,.inr (Nat.le_trans I.sz hb),λx c e z=>?_,λp hp z=>?_⟩
 ·obtain⟨v,q⟩:=I.cell x c e;exact absurd (Nat.lt_of_lt_of_le q.lt (by rw[z];exact hb)) (Nat.lt_irrefl _)
 ·exact absurd (Nat.lt_of_lt_of_le (Heap.lt_size (I.pin p hp).1) (by rw[z];exact hb)) (Nat.lt_irrefl _)
structure aCp (P:Program)(w:World)(K:Frag)(tg:Expr)(J:It)(fp:List Addr)(it:Addr)(tn:Nat->Heap->Prop):Prop where
 mem:it∈fp
 obj:∀i h,tn i h->∀b∈fp,∃o,h.get? b=some o/\∀v,o.data ≠ .cell v
 keep:∀i h h',tn i h->(∀b∈fp,∀o,h.get? b=some o->h'.get? b=some o)->tn i h'
 item:∀(X:Cx),X.prog=P->X.w=w->X.K=K->X.calm=true->∀(i:Nat)(pins:List (Addr×Obj)) (s:Shared) (σ:St) (H:Hp) (E:Value->Shared->Prop),Inv X pins σ H s->(∀b∈fp,rQ X pins H b)->tn i s.heap->J.go i H ->
  wpAny (model P w) X.A (pyNext (.ref it)) (λr s1=>∃u,r=some u /\
   wpAny (model P w) X.A (letOwnedTupleGo tg (.ref it) u) (λ_ s2=>∃x H',Inv X pins σ H' s2/\bM x u/\J.yld i H x H'/\tn (i+1) s2.heap/\∀b∈fp,H' b=none) E s1) E s
 done:∀(X:Cx),X.prog=P->X.w=w->X.K=K->X.calm=true->∀(i:Nat)(pins:List (Addr×Obj)) (s:Shared) (σ:St) (H:Hp) (E:Value->Shared->Prop),Inv X pins σ H s->(∀b∈fp,rQ X pins H b)->tn i s.heap->J.stop i H ->
  wpAny (model P w) X.A (pyNext (.ref it)) (λr s1=>r=none/\Inv X pins σ H s1) E s
 self:∀(A:Around)(i:Nat) (s:Shared) (Q:Value->Shared->Prop) (E:Value->Shared->Prop),tn i s.heap->Q (.ref it) s->wpAny (model P w) A (pyIter (.ref it)) Q E s
abbrev TI:=St->Hp->(It->Hp->Prop)->Prop
def PIE (X:Cx)(pins:List (Addr×Obj))(σ:St)(tg:Expr)(R:It->Hp->Prop)(itv:Value)(s2:Shared):Prop :=
 ∃(it:Addr)(fp:List Addr) (tn:Nat->Heap->Prop) (J:It) (H':Hp),itv=.ref it/\Inv X pins σ H' s2/\aCp X.prog X.w X.K tg J fp it tn/\tn 0 s2.heap/\(∀b∈fp,rQ X pins H' b)/\R J H'
def PI (X:Cx)(tg iter:Expr)(wi:TI):Prop :=
 ∀(pins:List (Addr×Obj)) (s:Shared) (σ:St) (H:Hp) (R:It->Hp->Prop),Inv X pins σ H s->wi σ H R ->
  wpAny (model X.prog X.w) X.A (eval iter X.env) (λv s1=>wpAny (model X.prog X.w) X.A (pyIter v) (PIE X pins σ tg R) X.xe s1) X.xe s
theorem aBQ {M:Model}{A:Around}{E:Value->Shared->Prop}{s:Shared}{tg:Expr}{it:Addr}{u:Value}{o:Obj}{n:String}{vs:Array Value}{Q:Unit->Shared->Prop}(ho:s.heap.get? it=some o)(hc:o.cls=.type n)(hd:o.data=.fields vs)(hn:["enumerate","zip","dict_itemiterator","dict_reverseitemiterator","odict_iterator","itertools.zip_longest","itertools.pairwise"].contains n=false)(hQ:Q () s):wpAny M A (letOwnedTupleGo tg (.ref it) u) Q E s:=by
 unfold letOwnedTupleGo;cases tg<;>first
  |exact wpAny_pure hQ
  |(cases u<;>first
    |exact wpAny_pure hQ
    |(
      refine wpAny_bind (wpAny_load ho ?_);rw[hc,hd];show wpAny M A (if (["enumerate","zip","dict_itemiterator","dict_reverseitemiterator","odict_iterator","itertools.zip_longest","itertools.pairwise"].contains n&&vs[0]?==some (rawInt _))=true then _ else _) Q E s;rw[if_neg (by intro h;rw[hn,Bool.false_and] at h;cases h)];exact wpAny_pure hQ))
noncomputable def Itl (K:Frag)(a:Addr):It :=
 ⟨λi H=>∃xs x,SqL K H a xs/\xs[i]?=some x,λi H x H'=>H'=H/\∀xs,SqL K H a xs->xs[i]?=some x,λi H=>∃xs,SqL K H a xs/\xs.length<=i⟩
noncomputable def Itt (K:Frag)(a:Addr):It :=
 ⟨λi H=>∃xs x,SqT K H a xs/\xs[i]?=some x,λi H x H'=>H'=H/\∀xs,SqT K H a xs->xs[i]?=some x,λi H=>∃xs,SqT K H a xs/\xs.length<=i⟩
noncomputable def Itr (lo:Int)(n:Nat):It:=⟨λi _=>i<n,λi H x H'=>H'=H/\x=.int (lo+i),λi _=>n<=i⟩
theorem aAk {P:Program}{w:World}{K:Frag}{tg:Expr}(a it:Addr):aCp P w K tg (Itl K a) [it] it (λi h=>h.IsListIter it a i) where
 mem:=by simp
 obj:=λi h st b hb=>by
  have e:b=it:=by simpa using hb
  subst e;obtain⟨o,e,c,d⟩:=st;exact⟨o,e,λv z=>by rw[d] at z;cases z⟩
 keep:=λi h h' st k=>st.at λo e=>k it (by simp) o e
 item:=by intro X hP hw hK hc i pins s σ H E I hf st hg;subst hP hw hK;obtain⟨xs,x,hq,hx⟩:=hg;obtain⟨its,rv,p,hz⟩:=I.list hq;obtain⟨u,hu,ru⟩:=rv.get hx;obtain⟨f0,f1,f2,f3,f4,f5⟩:=hf it (by simp);refine wpAny_pyNext_list_item st p.isList (x:=u) (by simpa using hu) λh' st' sb=>?_;have I1:Inv X pins σ H { s with heap:=h' }:=I.turned (t':=s.toks) (λb o hb e=>(sb.2 b hb).trans e) f0 f1 f3 f4 f5;obtain⟨o,e,c,d⟩:=id st';exact⟨u,rfl,aBQ (s:={ s with heap:=h' }) e c d (by decide) ⟨x,H,I1,ru,⟨rfl,λys hy=>by rw[I.list_inj hy hq];exact hx⟩,st',λb hb=>(hf b hb).1⟩⟩
 done:=by intro X hP hw hK hc i pins s σ H E I hf st hg;subst hP hw hK;obtain⟨xs,hq,hx⟩:=hg;obtain⟨its,rv,p,hz⟩:=I.list hq;obtain⟨f0,f1,f2,f3,f4,f5⟩:=hf it (by simp);have hl:=rv.length;exact wpAny_pyNext_list_end (I.ok.hd hc) st p.isList (by simp;omega) λh' eb=>⟨rfl,I.turned (t':=s.toks) (λb o hb e=>eb b o hb e) f0 f1 f3 f4 f5⟩
 self:=λ_ _ _ _ _ st h=>wpAny_pyIter_listiter st h
theorem xC {P:Program}{w:World}{K:Frag}{tg:Expr}(a it:Addr):aCp P w K tg (Itt K a) [it] it (λi h=>h.IsTupleIter it a i) where
 mem:=by simp
 obj:=λi h st b hb=>by
  have e:b=it:=by simpa using hb
  subst e;obtain⟨o,e,c,d⟩:=st;exact⟨o,e,λv z=>by rw[d] at z;cases z⟩
 keep:=λi h h' st k=>st.at λo e=>k it (by simp) o e
 item:=by intro X hP hw hK hc i pins s σ H E I hf st hg;subst hP hw hK;obtain⟨xs,x,hq,hx⟩:=hg;obtain⟨its,rv,p,hz⟩:=I.tuple hq;obtain⟨u,hu,ru⟩:=rv.get hx;obtain⟨f0,f1,f2,f3,f4,f5⟩:=hf it (by simp);refine wpAny_pyNext_tuple_item st (show s.heap.IsTuple a its.toArray from p) (x:=u) (by simpa using hu) λh' st' sb=>?_;have I1:Inv X pins σ H { s with heap:=h' }:=I.turned (t':=s.toks) (λb o hb e=>(sb.2 b hb).trans e) f0 f1 f3 f4 f5;obtain⟨o,e,c,d⟩:=id st';exact⟨u,rfl,aBQ (s:={ s with heap:=h' }) e c d (by decide) ⟨x,H,I1,ru,⟨rfl,λys hy=>by rw[I.tuple_inj hy hq];exact hx⟩,st',λb hb=>(hf b hb).1⟩⟩
 done:=by intro X hP hw hK hc i pins s σ H E I hf st hg;subst hP hw hK;obtain⟨xs,hq,hx⟩:=hg;obtain⟨its,rv,p,hz⟩:=I.tuple hq;obtain⟨f0,f1,f2,f3,f4,f5⟩:=hf it (by simp);have hl:=rv.length;exact wpAny_pyNext_tuple_end (I.ok.hd hc) st (show s.heap.IsTuple a its.toArray from p) (by simp;omega) λh' eb=>⟨rfl,I.turned (t':=s.toks) (λb o hb e=>eb b o hb e) f0 f1 f3 f4 f5⟩
 self:=λ_ _ _ _ _ st h=>wpAny_pyIter_tupleiter st h
theorem xR {P:Program}{w:World}{K:Frag}{tg:Expr}(it:Addr)(lo:Int)(n:Nat):aCp P w K tg (Itr lo n) [it] it (λi h=>IsRangeIter h it (lo+(i:Nat)*1) ((n:Int)-(i:Nat)) 1) where
 mem:=by simp
 obj:=λi h st b hb=>by
  have e:b=it:=by simpa using hb
  subst e;exact⟨_,st,λv z=>by have z':Data.fields _=Data.cell v:=z;cases z'⟩
 keep:=λi h h' st k=>k it (by simp) _ st
 item:=by intro X hP hw hK hc i pins s σ H E I hf st hg;subst hP hw hK;obtain⟨f0,f1,f2,f3,f4,f5⟩:=hf it (by simp);have W:=Walks.range (prog:=X.prog) (w:=X.w) (I.ok.hd hc) it lo 1 n;refine W.item i s _ _ hg st λv h' tk hv st' kk=>?_;obtain⟨t,rfl⟩:=hv;have I1:Inv X pins σ H { s with heap:=h',toks:=tk }:=I.turned (λb o hb e=>kk b o (by simpa using hb) e) f0 f1 f3 f4 f5;refine⟨_,rfl,aBQ (s:={ s with heap:=h',toks:=tk }) (n:="range_iterator") st' rfl rfl (by decide) ⟨.int (lo+i),H,I1,⟨t,?_⟩,⟨rfl,rfl⟩,st',λb hb=>(hf b hb).1⟩⟩;rw[Int.mul_one]
 done:=by intro X hP hw hK hc i pins s σ H E I hf st hg;subst hP hw hK;obtain⟨f0,f1,f2,f3,f4,f5⟩:=hf it (by simp);exact wpAny_pyNext_range_end (I.ok.hd hc) st (by have:n<=i:=hg;omega) λh' eb=>⟨rfl,I.turned (t':=s.toks) (λb o hb e=>eb b o hb e) f0 f1 f3 f4 f5⟩
 self:=λ_ _ _ _ _ st h=>wpAny_pyIter_rangeiter st h
section
variable {X:Cx}{tg:Expr}
noncomputable def aIo (K:Frag)(tl:TE):TI:=λσ H R=>tl σ H λx H1=>∃a,x=.ref a/\(∃xs,SqL K H1 a xs)/\R (Itl K a) H1
noncomputable def aIM (K:Frag)(tl:TE):TI:=λσ H R=>tl σ H λx H1=>∃a,x=.ref a/\(∃xs,SqT K H1 a xs)/\R (Itt K a) H1
theorem zO {l:Expr}{tl:TE}(hl:PE X l tl):PI X tg l (aIo X.K tl):=by
 intro pins s σ H R I h;refine thn (hl pins s σ H _ I h) λv s1 ⟨x,H1,I1,r1,q1⟩=>?_;obtain⟨a,e,⟨xs,hq⟩,q⟩:=q1;subst e;cases r1;obtain⟨its,rv,p,hz⟩:=I1.list hq;refine wpAny_pyIter_list p.isList ?_;refine⟨s1.heap.objs.size,[s1.heap.objs.size],_,_,H1,rfl,I1.kept (t':=s1.toks) λb o e=>Heap.get?_push_of_some _ e,aAk a _,⟨_,Heap.get?_push_size _ rfl,rfl,rfl⟩,λb hb=>?_,q⟩;have e:b=s1.heap.objs.size:=by simpa using hb
 subst e;exact I1.fpOk (Nat.le_refl _) (I1.hok.fresh (Nat.le_refl _))
theorem aGg {l:Expr}{tl:TE}(hl:PE X l tl):PI X tg l (aIM X.K tl):=by
 intro pins s σ H R I h;refine thn (hl pins s σ H _ I h) λv s1 ⟨x,H1,I1,r1,q1⟩=>?_;obtain⟨a,e,⟨xs,hq⟩,q⟩:=q1;subst e;cases r1;obtain⟨its,rv,p,hz⟩:=I1.tuple hq;refine wpAny_pyIter_tuple (show s1.heap.IsTuple a its.toArray from p) ?_;refine⟨s1.heap.objs.size,[s1.heap.objs.size],_,_,H1,rfl,I1.kept (t':=s1.toks) λb o e=>Heap.get?_push_of_some _ e,xC a _,⟨_,Heap.get?_push_size _ rfl,rfl,rfl⟩,λb hb=>?_,q⟩;have e:b=s1.heap.objs.size:=by simpa using hb
 subst e;exact I1.fpOk (Nat.le_refl _) (I1.hok.fresh (Nat.le_refl _))
theorem aBJ {pins:List (Addr×Obj)}{σ:St}{H:Hp}{s:Shared}{R:It->Hp->Prop}{E:Value->Shared->Prop}{lo hi:Int}{t u v:Tok}{tk:Nat}(I:Inv X pins σ H s)(h1:-(2^62)<=lo)(h2:lo<2^62)(h3:-(2^62)<=hi)(h4:hi<2^62)(q:R (Itr lo (hi-lo).toNat) H):wpAny (model X.prog X.w) X.A (pyIter (.ref s.heap.objs.size)) (PIE X pins σ tg R) E { s with heap:=s.heap.push { cls:=.type "range",data:=.fields #[.int lo t,.int hi u,.int 1 v] },toks:=tk }:=by
 refine wpAny_pyIter_range (IsRange.new ..) (small_one h1 h2 h3 h4) ?_;have I1:Inv X pins σ H { s with heap:=s.heap.push { cls:=.type "range",data:=.fields #[.int lo t,.int hi u,.int 1 v] },toks:=tk }:=I.kept λb o e=>Heap.get?_push_of_some _ e;refine⟨(s.heap.push { cls:=.type "range",data:=.fields #[.int lo t,.int hi u,.int 1 v] }).objs.size,[(s.heap.push { cls:=.type "range",data:=.fields #[.int lo t,.int hi u,.int 1 v] }).objs.size],_,_,H,rfl,
  I1.kept (t':=tk) λb o e=>Heap.get?_push_of_some _ e,xR _ lo (hi-lo).toNat,?_,λb hb=>?_,q⟩
 ·have e1:lo+((0:Nat):Int)*1=lo:=by simp
  have e2:(((hi-lo).toNat:Nat):Int)-((0:Nat):Int)=Builtin.Range.rangeSize lo hi 1:=by rw[rangeSize_one];split<;>omega
  show IsRangeIter _ _ (lo+((0:Nat):Int)*1) ((((hi-lo).toNat:Nat):Int)-((0:Nat):Int)) 1;rw[e1,e2];exact Heap.get?_push_size _ rfl
 ·have e:b = (s.heap.push { cls:=.type "range",data:=.fields #[.int lo t,.int hi u,.int 1 v] }).objs.size:=by simpa using hb
  subst e;exact I1.fpOk (Nat.le_refl _) (I1.hok.fresh (Nat.le_refl _))
noncomputable def aHA (ta:TA):TI:=λσ H R=>ta σ H λvs H1=>∃j:Int,vs=[.int j]/\-(2^62)<=j/\j<2^62/\R (Itr 0 j.toNat) H1
theorem aAg {a:Expr}{ta:TA}{p pos:Pos}(hg:Gl X "range")(hm:X.mg "range" = none)(ha:PA X [a] ta)(hs:starEach [a] X.env = [(false,eval a X.env)]:=by rfl):PI X tg (.Call (.Name "range" p) [a] [] pos) (aHA ta):=by
 intro pins s σ H R I h;refine Call_ (rE I hg hm boot_range (PyProof.Rows.callWith_type1 (thn (ha pos pins s σ H _ I h) λus s1 ⟨vs,H1,I1,r1,q1⟩=>?_) hs rfl));obtain⟨j,e,q1,q2,q⟩:=q1;subst e;cases r1 with
 |cons r rr =>
  cases rr;obtain⟨t,rfl⟩:=r;exact call_range_1 (aBJ I1 (by omega) (by omega) q1 q2 (by simpa using q))
def aIt (wi:TI)(g:TG)(tb:TS):TS:=λD σ H=>wi σ H λJ H1=>∃W:Nat->Nat->St->Hp->Prop,(∃m,W 0 m σ H1)/\∀i m σ H,W i m σ H ->
 (J.stop i H/\D.nx σ H)∨(J.go i H/\∃N:St->Hp->Prop,(∀σ' H',N σ' H'->∃m',m'<m/\W (i+1) m' σ' H')/\∀x H',J.yld i H x H'->g x σ H' λσ2 H2=>tb { D with nx:=N,ct:=N,bk:=D.nx } σ2 H2)
noncomputable def uR (fp:List Addr)(h:Heap):List (Addr×Obj):=fp.filterMap λb=>(h.get? b).map λo=>(b,o)
theorem jO {fp:List Addr}{h:Heap}{b:Addr}{o:Obj}(hb:b∈fp)(e:h.get? b=some o):(b,o)∈uR fp h:=List.mem_filterMap.mpr ⟨b,hb,by rw[e];rfl⟩
theorem zR {fp:List Addr}{h:Heap}{p:Addr×Obj}(hp:p∈uR fp h):p.1∈fp/\h.get? p.1=some p.2:=by
 obtain⟨b,hb,e⟩:=List.mem_filterMap.mp hp;cases q:h.get? b with
 |none=>rw[q] at e;cases e
 |some o =>
  rw[q] at e;have e':(b,o)=p:=Option.some.inj e;subst e';exact⟨hb,q⟩
theorem Inv.pinned {pins:List (Addr×Obj)}{σ:St}{H:Hp}{s:Shared}{fp:List Addr}(I:Inv X pins σ H s)(hf:∀b∈fp,rQ X pins H b)(ho:∀b∈fp,∃o,s.heap.get? b=some o/\∀v,o.data ≠ .cell v):Inv X (pins++uR fp s.heap) σ H s :=
 I.pins_of λp hp=>(List.mem_append.mp hp).elim (λz=>I.pin p (mem_append_right _ z)) λz=>by obtain⟨hb,e⟩:=zR z;obtain⟨f0,f1,f2,_⟩:=hf p.1 hb;obtain⟨o,e',d⟩:=ho p.1 hb;rw[e] at e';cases e';exact⟨e,f0,f1,f2,d⟩
theorem Inv.unpinned {pins pl:List (Addr×Obj)}{σ:St}{H:Hp}{s:Shared}(I:Inv X (pins++pl) σ H s):Inv X pins σ H s:=I.pins_of λp hp=>I.pin p (mem_append_right _ (List.mem_append_left _ hp))
theorem aB7 {iter:Expr}{body:List Stmt}{wi:TI}{g:TG}{tb:TS}{pos:Pos}(hp:PassesOwn (model X.prog X.w) X.A X.env X.xe)(hc:X.calm=true)(hi:PI X tg iter wi)(hg:PG X tg g)(hb:PSs X body tb)(hs:∀x,foldedSetIterable iter X.env x=pure x:=by intro _;rfl):PS X (.For tg iter body [] pos) (aIt wi g tb):=by
 intro pins s σ H D I h;refine wpAny_For (thn (hi pins s σ H _ I h) λv s1 h1=>thn h1 λitv s2 h2=>?_) hs;obtain⟨it,fp,tn,J,H2,e,I2,T,st2,f2,W,⟨m0,w0⟩,turn⟩:=h2;subst e;have stat:∀{H':Hp},(∀b∈fp,H' b=none)->∀b∈fp,rQ X pins H' b:=λhn b hb=>⟨hn b hb,(f2 b hb).2⟩;refine codeAny_forLoop_any (λn s'=>∃i σ' H',Inv X pins σ' H' s'/\tn i s'.heap/\(∀b∈fp,H' b=none)/\W i n σ' H') ?_ m0 ⟨0,σ,H2,I2,st2,λb hb=>(f2 b hb).1,w0⟩;rintro n s3 ⟨i,σ3,H3,I3,st3,fr3,w3⟩;rcases turn i n σ3 H3 w3 with⟨stop,qn⟩|⟨go,N,hN,step⟩
 ·refine wpAny_passesOwn hp (thn (T.done X rfl rfl rfl hc i pins s3 σ3 H3 X.xe I3 (stat fr3) st3 stop) λr s4 ⟨hr,I4⟩=>?_);subst hr;exact wpAny_execs_nil ⟨σ3,H3,I4,qn⟩
 ·refine wpAny_passesOwn hp (thn (T.item X rfl rfl rfl hc i pins s3 σ3 H3 X.xe I3 (stat fr3) st3 go) λr s4 ⟨u,hr,h4⟩=>?_);subst hr;refine wpAny_passesOwn hp (thn h4 λ_ s5 ⟨x,H5,I5,r5,y5,st5,fr5⟩=>?_);have I5':=I5.pinned (stat fr5) (T.obj _ _ st5);refine wpAny_passesOwn hp (thn (hg _ s5 σ3 H5 x u _ I5' r5 (step x H5 y5)) λ_ s6 ⟨σ6,H6,I6,q6⟩=>?_);refine wpAny_passesOwn hp (thn (hb _ s6 σ6 H6 _ I6 q6) λf s7 q7=>?_);have again:∀{σ7:St}{H7:Hp},Inv X (pins++uR fp s5.heap) σ7 H7 s7->N σ7 H7->∃m,m<n/\∃i σ' H',Inv X pins σ' H' s7/\tn i s7.heap/\(∀b∈fp,H' b=none)/\W i m σ' H':=λ{σ7 H7} I7 n7=>by obtain⟨m',hm,w7⟩:=hN σ7 H7 n7;refine⟨m',hm,i+1,σ7,H7,I7.unpinned,T.keep _ _ _ st5 λb hb o e=>(I7.pin (b,o) (mem_append_right _ (mem_append_right _ (jO hb e)))).1,λb hb=>?_,w7⟩;obtain⟨o,e,d⟩:=T.obj _ _ st5 b hb;exact(I7.pin (b,o) (mem_append_right _ (mem_append_right _ (jO hb e)))).2.1
  cases f with
  |next=>obtain⟨σ7,H7,I7,n7⟩:=q7;exact again I7 n7
  |cont=>obtain⟨σ7,H7,I7,n7⟩:=q7;exact again I7 n7
  |brk=>obtain⟨σ7,H7,I7,q7⟩:=q7;exact⟨σ7,H7,I7.unpinned,q7⟩
  |ret v=>obtain⟨x7,σ7,H7,I7,r7,q7⟩:=q7;exact⟨x7,σ7,H7,I7.unpinned,r7,q7⟩
end
abbrev R2:=V->V->Hp->VK->Prop
def OpR (X:Cx)(f:Value->Value->Sem Value)(r:R2):Prop :=
 ∀(pins:List (Addr×Obj)) (s:Shared) (σ:St) (H:Hp) (x y:V) (v u:Value) (Q:VK),Inv X pins σ H s->bM x v->bM y u->r x y H Q ->
  wpAny (model X.prog X.w) X.A (f v u) (EP X pins σ Q) X.xe s
def UnR (X:Cx)(f:Value->Sem Value)(r:V->Hp->VK->Prop):Prop :=
 ∀(pins:List (Addr×Obj)) (s:Shared) (σ:St) (H:Hp) (x:V) (v:Value) (Q:VK),Inv X pins σ H s->bM x v->r x H Q ->
  wpAny (model X.prog X.w) X.A (f v) (EP X pins σ Q) X.xe s
def jQ (X:Cx)(f:Value)(r:List V->Hp->VK->Prop):Prop :=
 ∀(pins:List (Addr×Obj)) (s:Shared) (σ:St) (H:Hp) (xs:List V) (us:List Value) (Q:VK),Inv X pins σ H s->bN xs us->r xs H Q ->
  wpAny (model X.prog X.w) X.A (call f us) (EP X pins σ Q) X.xe s
def tOp (r:R2)(ta tb:TE):TE:=λσ H Q=>ta σ H λx H1=>tb σ H1 λy H2=>r x y H2 Q
def tUn (r:V->Hp->VK->Prop)(ta:TE):TE:=λσ H Q=>ta σ H λx H1=>r x H1 Q
def rI (C:Int->Int->Prop)(g:Int->Int->V):R2:=λx y H Q=>∃i j,x=.int i/\y=.int j/\C i j/\Q (g i j) H
def rI0 (g:Int->Int->V):R2:=λx y H Q=>∃i j,x=.int i/\y=.int j/\Q (g i j) H
def rU (g:Int->V):V->Hp->VK->Prop:=λx H Q=>∃i,x=.int i/\Q (g i) H
section
variable {X:Cx}{a b c:Expr}{ta tb tc:TE}{pos:Pos}
theorem aGG (ha:PE X a ta)(hb:PE X b tb){pins:List (Addr×Obj)}{s:Shared}{σ:St}{H:Hp}{R:V->V->Hp->Prop}(I:Inv X pins σ H s)(h:ta σ H λx H1=>tb σ H1 λy H2=>R x y H2){Q:Value->Shared->Prop}{f:Value->Value->Sem Value}(hf:∀v u s2 x y H2,Inv X pins σ H2 s2->bM x v->bM y u->R x y H2->wpAny (model X.prog X.w) X.A (f v u) Q X.xe s2) :
  wpAny (model X.prog X.w) X.A (eval a X.env) (λv s₁=>wpAny (model X.prog X.w) X.A (eval b X.env) (λu s₂=>wpAny (model X.prog X.w) X.A (f v u) Q X.xe s₂) X.xe s₁) X.xe s:=by
 refine thn (ha pins s σ H _ I h) λv s1 ⟨x,H1,I1,r1,q1⟩=>?_;refine thn (hb pins s1 σ H1 _ I1 q1) λu s2 ⟨y,H2,I2,r2,q2⟩=>?_;exact hf v u s2 x y H2 I2 r1 r2 q2
theorem aHt {op:Operator}{r:R2}(ho:OpR X (binaryOp op) r)(ha:PE X a ta)(hb:PE X b tb):PE X (.BinOp a op b pos) (tOp r ta tb):=by intro pins s σ H Q I h;exact wpAny_BinOp (aGG ha hb I h λv u s2 x y H2 I2 rx ry q=>ho pins s2 σ H2 x y v u Q I2 rx ry q)
theorem aIj {op:UnaryOp}{r:V->Hp->VK->Prop}(ho:UnR X (unaryOp op) r)(ha:PE X a ta):PE X (.UnaryOp op a pos) (tUn r ta):=by intro pins s σ H Q I h;exact UnaryOp_ (thn (ha pins s σ H _ I h) λv s1 ⟨x,H1,I1,r1,q1⟩=>ho pins s1 σ H1 x v Q I1 r1 q1)
theorem opI {f:Value->Value->Sem Value}{C:Int->Int->Prop}{g:Int->Int->Int}(rule:∀(i j:Int)(t u:Tok) (s:Shared) (Q:Value->Shared->Prop) (E:Value->Shared->Prop),C i j->Q (.int (g i j) s.toks) { s with toks:=s.toks+1 }->wpAny (model X.prog X.w) X.A (f (.int i t) (.int j u)) Q E s) :
  OpR X f (rI C λi j=>.int (g i j)):=by
 intro pins s σ H x y v u Q I rx ry h;obtain⟨i,j,rfl,rfl,hc,q⟩:=h;obtain⟨t,rfl⟩:=rx;obtain⟨t',rfl⟩:=ry;exact rule i j t t' s _ _ hc ⟨.int (g i j),H,I.tok _,⟨_,rfl⟩,q⟩
theorem aHa {f:Value->Value->Sem Value}{g:Int->Int->Int}(rule:∀(i j:Int)(t u:Tok) (s:Shared) (Q:Value->Shared->Prop) (E:Value->Shared->Prop),Q (.int (g i j) s.toks) { s with toks:=s.toks+1 }->wpAny (model X.prog X.w) X.A (f (.int i t) (.int j u)) Q E s) :
  OpR X f (rI0 λi j=>.int (g i j)):=by
 intro pins s σ H x y v u Q I rx ry h;obtain⟨i,j,rfl,rfl,q⟩:=h;obtain⟨t,rfl⟩:=rx;obtain⟨t',rfl⟩:=ry;exact rule i j t t' s _ _ ⟨.int (g i j),H,I.tok _,⟨_,rfl⟩,q⟩
theorem aDE {f:Value->Value->Sem Value}{g:Int->Int->Bool}(rule:∀(i j:Int)(t u:Tok) (s:Shared) (Q:Value->Shared->Prop) (E:Value->Shared->Prop),Q (.bool (g i j)) s->wpAny (model X.prog X.w) X.A (f (.int i t) (.int j u)) Q E s) :
  OpR X f (rI0 λi j=>.bl (g i j)):=by
 intro pins s σ H x y v u Q I rx ry h;obtain⟨i,j,rfl,rfl,q⟩:=h;obtain⟨t,rfl⟩:=rx;obtain⟨t',rfl⟩:=ry;exact rule i j t t' s _ _ ⟨.bl (g i j),H,I,rfl,q⟩
def aGP (i j:Int):Prop:=0<=j/\j<=1000000/\i.natAbs<2^64
theorem aEY:OpR X (binaryOp .Add) (rI0 λi j=>.int (i+j)):=aHa λ_ _ _ _ _ _ _ q=>add_int q
theorem aGJ:OpR X (binaryOp .Sub) (rI0 λi j=>.int (i-j)):=aHa λ_ _ _ _ _ _ _ q=>sub_int q
theorem aC8:OpR X (binaryOp .Mod) (rI (λ_ j=>j≠0) λi j=>.int (i.fmod j)):=opI λ_ _ _ _ _ _ _ hc q=>mod_int' hc q
theorem aEW:OpR X (binaryOp .Pow) (rI aGP λi j=>.int (i^j.toNat)):=opI λ_ _ _ _ _ _ _ hc q=>pow_int_small hc.1 hc.2.1 hc.2.2 q
theorem unI {f:Value->Sem Value}{g:Int->Int}(rule:∀(i:Int)(t:Tok) (s:Shared) (Q:Value->Shared->Prop) (E:Value->Shared->Prop),Q (.int (g i) s.toks) { s with toks:=s.toks+1 }->wpAny (model X.prog X.w) X.A (f (.int i t)) Q E s) :
  UnR X f (rU λi=>.int (g i)):=by
 intro pins s σ H x v Q I rx h;obtain⟨i,rfl,q⟩:=h;obtain⟨t,rfl⟩:=rx;exact rule i t s _ _ ⟨.int (g i),H,I.tok _,⟨_,rfl⟩,q⟩
theorem aF8:UnR X (unaryOp .USub) (rU λi=>.int (-i)):=unI λ_ _ _ _ _ q=>neg_int q
end
section
variable {X:Cx}{a b c:Expr}{ta tb tc:TE}{pos:Pos}
theorem aH0:OpR X (compareOp .Lt) (rI0 λi j=>.bl (decide (i<j))):=aDE λ_ _ _ _ _ _ _ q=>lt_int q
theorem aG1:OpR X (compareOp .LtE) (rI0 λi j=>.bl (decide (i<=j))):=aDE λ_ _ _ _ _ _ _ q=>le_int q
theorem aHw:OpR X (compareOp .Gt) (rI0 λi j=>.bl (decide (j<i))):=aDE λ_ _ _ _ _ _ _ q=>gt_int q
theorem aHy:OpR X (compareOp .GtE) (rI0 λi j=>.bl (decide (j<=i))):=aDE λ_ _ _ _ _ _ _ q=>ge_int q
theorem uU (b:Expr){op:CmpOp}(h:op ≠ .In:=by decide)(h2:op ≠ .NotIn:=by decide):behindInMarks op b=false:=by
 have e1:(op==CmpOp.In)=false:=by cases op<;>first|rfl|exact absurd rfl h
 have e2:(op==CmpOp.NotIn)=false:=by cases op<;>first|rfl|exact absurd rfl h2
 cases b<;>simp[behindInMarks,e1,e2]
theorem aDb {op:CmpOp}{r:R2}(ho:OpR X (compareOp op) r)(ha:PE X a ta)(hb:PE X b tb)(hm:behindInMarks op b=false):PE X (.Compare a [op] [b] pos) (tOp r ta tb):=by intro pins s σ H Q I h;exact wpAny_Compare1 (aGG ha hb I h λv u s2 x y H2 I2 rx ry q=>ho pins s2 σ H2 x y v u Q I2 rx ry q) hm
def aId (t:TE):TT:=λσ H Q=>t σ H λx H'=>∃k,x=.bl k/\Q k H'
theorem aC2 {op:CmpOp}{r:R2}(ho:OpR X (compareOp op) r)(ha:PE X a ta)(hb:PE X b tb)(hm:behindInMarks op b=false):PT X (.Compare a [op] [b] pos) (aId (tOp r ta tb)):=by
 intro pins s σ H Q I h;refine wpAny_isTrue_Compare1 (thn (ha pins s σ H _ I h) λv s1 ⟨x,H1,I1,r1,q1⟩=>thn (hb pins s1 σ H1 _ I1 q1) λu s2 ⟨y,H2,I2,r2,q2⟩ =>
  thn (ho pins s2 σ H2 x y v u _ I2 r1 r2 q2) λc s3 ⟨z,H3,I3,r3,k,e,q3⟩=>?_) hm
 subst e;cases r3;exact wpAny_truthy_bool ⟨H3,I3,q3⟩
def aA6 (r r':R2)(ta tb tc:TE):TE:=λσ H Q=>ta σ H λx H1=>tb σ H1 λy H2=>r x y H2 λz H3=>∃k,z=.bl k /\
 (if k=true then tc σ H3 λw' H4=>r' y w' H4 Q else Q (.bl false) H3)
theorem aAY {op op':CmpOp}{r r':R2}(ho:OpR X (compareOp op) r)(ho':OpR X (compareOp op') r')(ha:PE X a ta)(hb:PE X b tb)(hc:PE X c tc)(hm:lastMarks [op,op'] [b,c]=false:=by with_unfolding_all rfl):PE X (.Compare a [op,op'] [b,c] pos) (aA6 r r' ta tb tc):=by
 intro pins s σ H Q I h;refine Compare_chain (thn (ha pins s σ H _ I h) λv s1 ⟨x,H1,I1,r1,q1⟩=>chain_link (thn (hb pins s1 σ H1 _ I1 q1) λu s2 ⟨y,H2,I2,r2,q2⟩ =>
  thn (ho pins s2 σ H2 x y v u _ I2 r1 r2 q2) λd s3 ⟨z,H3,I3,r3,k,e,q3⟩=>?_)) hm
 subst e;cases r3;refine wpAny_truthy_bool ?_;cases k with
 |false=>exact ite_ff ⟨.bl false,H3,I3,rfl,q3⟩
 |true=>exact ite_tt (chain_last (thn (hc pins s3 σ H3 _ I3 q3) λw' s4 ⟨z',H4,I4,r4,q4⟩=>ho' pins s4 σ H4 y z' u w' Q I4 r2 r4 q4))
theorem tT:(sizeLine:Nat)<2^63:=by rw[sizeLine_eq];decide
theorem sI {x:V}{us:List Value}(r:bN [x] us):∃u,us=[u]/\bM x u:=by
 cases r with
 |cons r1 r2=>cases r2;exact⟨_,rfl,r1⟩
theorem aBc:jQ X (.builtin "abs") (λxs H Q=>∃i,xs=[.int i]/\Q (.int (if i<0 then -i else i)) H):=by intro pins s σ H xs us Q I r h;obtain⟨i,rfl,q⟩:=h;obtain⟨u,rfl,t,rfl⟩:=sI r;exact call_abs_int λu tk=>⟨.int (if i<0 then -i else i),H,I.tok _,⟨_,rfl⟩,q⟩
theorem aAu:jQ X (.type "int") (λxs H Q=>(∃i,xs=[.int i]/\Q (.int i) H) ∨ ∃k,xs=[.bl k]/\Q (.int (if k then 1 else 0)) H):=by
 intro pins s σ H xs us Q I r h;rcases h with⟨i,rfl,q⟩|⟨k,rfl,q⟩
 ·obtain⟨u,rfl,t,rfl⟩:=sI r;exact call_int_int ⟨.int i,H,I,⟨_,rfl⟩,q⟩
 ·obtain⟨u,rfl,r1⟩:=sI r;cases r1;exact call_int_bool ⟨.int (if k then 1 else 0),H,I.tok _,⟨_,rfl⟩,q⟩
end
structure xX (h:Heap)(x dx C:Addr)(mA:Str->Option Value):Prop where
 obj:h.get? x=some (instObj C dx)
 ns:h.Ns1 dx mA
 ne:dx≠x
theorem aAp {h:Heap}{dx:Addr}{mA:Str->Option Value}(n:h.Ns1 dx mA):∃od,h.get? dx=some od/\∀name,lookIn name od=some (mA name):=by
 obtain⟨o,es,ep,ho,hd,hk,_,hm⟩:=n;refine⟨o,ho,λname=>?_⟩;have e:=hm name;unfold nsFind findBy at e;rw[<- Array.find?_toList] at e;unfold lookIn;rw[hd];dsimp only;split
 ·rename_i y q;rw[q] at e;exact congrArg some e
 ·rename_i q;rw[q] at e;have a:es.toList.any (·.refKey)=false:=by rw[List.any_eq_false];intro y hy;obtain⟨z,t,hkey⟩:=hk y (Array.mem_toList_iff.mp hy);simp[DictEntry.refKey,hkey]
  have a':¬es.toList.any (·.refKey)=true:=by rw[a];exact Bool.false_ne_true
  rw[if_neg a'];exact congrArg some e
theorem xX.look {h:Heap}{x dx C:Addr}{mA:Str->Option Value}(I:xX h x dx C mA):∃od,PySem.W.InstAt h x (instObj C dx) C (some od)/\∀name,lookIn name od=some (mA name) :=
 let ⟨od,ho,hl⟩:=aAp I.ns
 ⟨od,⟨I.obj,rfl,rfl,ho⟩,hl⟩
section
variable {prog:Program}{w:World}{A:Around}{E:Value->Shared->Prop}{s:Shared}{K:Frag}{x dx C f:Addr}{mA:Str->Option Value}{name:Str}{v:Value}
theorem aDR {expr:Bool}{Q:Value->Shared->Prop}(X:K.In s.heap)(I:xX s.heap x dx C mA)(hg:plainGet K C name=true)(hh:hasDictIn K C=true)(ha:findIn K (.ref C) name=some none)(hv:mA name=some v)(hv':PySem.W.handedIn v=true)(h:Q v { s with toks:=s.toks+1 }) :
  wpAny (model prog w) A (getAttr (.ref x) name expr) Q E s:=by
 obtain⟨od,J,hl⟩:=I.look;exact PySem.W.get_value X J (plainGet_of hg).1 (PySem.W.findObj_own hh ha rfl (by rw[hl,hv])) hv' h
theorem aBt {pl:Sem Bool}{Q:Value×List Value->Shared->Prop}(X:K.In s.heap)(I:xX s.heap x dx C mA)(hg:plainGet K C name=true)(hf:findIn K (.ref C) name=some (some (.ref f)))(ht:isFn K (.ref f)=true)(hv:mA name=none)(h:Q (.ref f,[.ref x]) s) :
  wpAny (model prog w) A (getMethod (.ref x) name pl) Q E s:=by
 obtain⟨od,J,hl⟩:=I.look;exact PySem.W.method_fn X J (plainGet_of hg).1 (plainGet_of hg).2 hf (beq_iff_eq.mp ht) (by show(lookIn name od).map (·.isSome)=some false;rw[hl,hv];rfl) h
theorem aDa {ns:List Str}{Q:Unit->Shared->Prop}(X:K.In s.heap)(I:xX s.heap x dx C mA)(hs:findIn K (.ref C) "__setattr__" = some (some (.builtin "object.__setattr__")))(hp:PySem.W.plainOver K C=true)(ht:PySem.W.takerIn K C name=some none)(hh:hasDictIn K C=true)(hw:PySem.Within mA ns)(hsz:ns.length<=sizeLine)(h:∀h',xX h' x dx C (λy=>if y=name then some v else mA y)->Heap.SameBut dx s.heap h'->Q () { s with heap:=h',toks:=s.toks+2 }) :
  wpAny (model prog w) A (setAttr (.ref x) name v) Q E s:=by
 obtain⟨od,J,hl⟩:=I.look;refine PySem.W.set_plain X J hs (PySem.W.osa_open (s:={ s with toks:=s.toks+1 }) (r:=none) X J hp ht λb=>?_);obtain⟨cd,hc,hd'⟩:=PySem.W.any_some hh;have hx:s.heap.get? x=some ⟨.ref C,some dx,.plain,#[]⟩:=I.obj;refine wpAny_bind (wpAny_pure (wpAny_bind (wpAny_bind (wpAny_loadPart hx (wpAny_bind (PySem.W.Looks.here (s:={ s with toks:=s.toks+1 }) (PySem.W.looks_clsIn X hc) ?_))))));rw[hd'];refine wpAny_pure (a:=some dx) (wpAny_bind (wpAny_pure (wpAny_bind ?_)));refine wpAny_nsSet1 (s:={ s with toks:=s.toks+1 }) I.ns λh' hn2 hs2=>?_;obtain⟨oD,esD,epD,hoD,hdD,hcD⟩:=hn2.count (PySem.Within.cons name v hw);refine wpAny_bind (wpAny_lookBehind hoD (by rw[hdD];exact pastItsLine_dict (Nat.le_trans hcD (by rw[length_cons];omega))) ?_);exact wpAny_pure (h _ ⟨(hs2.2 _ (Ne.symm I.ne)).trans I.obj,hn2,I.ne⟩ hs2)
theorem aBy {R:Result->Shared->Prop}{vs:List Value}{kw:List (Str×Value)}(X:K.In s.heap)(hm:PySem.W.makesIn K C=true)(hi:findIn K (.ref C) "__init__" = some (some (.ref f)))(hf:PySem.W.typeIn K (.ref f) = some (.type "function"))(h:codeAny (model prog w) (A.under (.builtin "type.__call__" ⟨.ref C::vs,kw⟩)) (.call (.ref f) ⟨.ref (s.heap.objs.size+1)::vs,kw⟩) (PySem.W.InitBack (s.heap.objs.size+1) R)
   { s with heap:=(s.heap.push emptyDict).push (instObj C s.heap.objs.size) }) :
  codeAny (model prog w) A (.call (.ref C) ⟨vs,kw⟩) R s:=by
 obtain⟨hh,g,d,t,os⟩:=s;exact PySem.W.make_core (PySem.W.makes_of X hm) (PySem.W.looks_findIn X hi) (λself=>PySem.W.bind_fn X self hf) (.inl rfl) h
end
noncomputable def jM (f:Str)(v:V):List (Str×V)->List (Str×V)
 |[]=>[(f,v)]
 |(g,x)::r=>if g=f then (g,v)::r else (g,x)::jM f v r
theorem oP (f g:Str)(v:V):∀fs:List (Str×V),(jM f v fs).lookup g=if g=f then some v else fs.lookup g
 |[]=>by
  show List.lookup g [(f,v)]=_;by_cases h:g=f
  ·have hb:(g==f)=true:=beq_iff_eq.mpr h;simp only[List.lookup,hb,if_pos h]
  ·have hb:(g==f)=false:=beq_eq_false_iff_ne.mpr h;simp only[List.lookup,hb,if_neg h]
 |(k,x)::r=>by
  have ih:=oP f g v r;rw[show jM f v ((k,x)::r)=(if k=f then (k,v)::r else (k,x)::jM f v r) from rfl];by_cases hk:k=f
  ·rw[if_pos hk];by_cases h:g=k
   ·have hb:(g==k)=true:=beq_iff_eq.mpr h;simp only[List.lookup,hb,if_pos (h.trans hk)]
   ·have hb:(g==k)=false:=beq_eq_false_iff_ne.mpr h;simp only[List.lookup,hb,if_neg (λe:g=f=>h (e.trans hk.symm))]
  ·rw[if_neg hk];by_cases h:g=k
   ·have hb:(g==k)=true:=beq_iff_eq.mpr h;simp only[List.lookup,hb,if_neg (λe:g=f=>hk (h.symm.trans e))]
   ·have hb:(g==k)=false:=beq_eq_false_iff_ne.mpr h;simp only[List.lookup,hb];exact ih
theorem nL (f:Str)(v:V):∀fs:List (Str×V),f∈(jM f v fs).map (·.1)/\∀g,g∈fs.map (·.1)->g∈(jM f v fs).map (·.1)
 |[]=>⟨by simp[jM],λg h=>by simp at h⟩
 |(k,x)::r=>by
  obtain⟨i1,i2⟩:=nL f v r;rw[show jM f v ((k,x)::r)=(if k=f then (k,v)::r else (k,x)::jM f v r) from rfl];by_cases hk:k=f
  ·rw[if_pos hk];subst hk;exact⟨by simp,λg h=>by simpa using h⟩
  ·rw[if_neg hk];refine⟨?_,λg h=>?_⟩
   ·rw[map_cons];exact mem_cons_of_mem _ i1
   ·rw[map_cons] at h ⊢;rcases List.mem_cons.mp h with e|e
    ·exact List.mem_cons.mpr (.inl e)
    ·exact mem_cons_of_mem _ (i2 g e)
theorem oK (f:Str)(v:V):∀fs:List (Str×V),(jM f v fs).length<=fs.length+1
 |[]=>by simp[jM]
 |(k,x)::r=>by
  have ih:=oK f v r;rw[show jM f v ((k,x)::r)=(if k=f then (k,v)::r else (k,x)::jM f v r) from rfl];by_cases hk:k=f
  ·rw[if_pos hk,length_cons,length_cons];omega
  ·rw[if_neg hk,length_cons,length_cons];omega
theorem rV.some_of {v:V}{o:Option Value}(r:rV (some v) o):∃u,o=some u/\bM v u:=by
 cases o with
 |none=>exact(show False from r).elim
 |some u=>exact⟨u,rfl,r⟩
theorem rV.none_of {o:Option Value}(r:rV none o):o=none:=by
 cases o with
 |none=>rfl
 |some u=>exact(show False from r).elim
theorem aAa {v:V}{u:Value}(r:bM v u):PySem.W.handedIn u=true:=by
 cases v with
 |non=>cases (show u=Value.none from r);rfl
 |bl b=>cases (show u=Value.bool b from r);rfl
 |int i=>obtain⟨t,e⟩:=(show ∃t,u=Value.int i t from r);cases e;rfl
 |str x=>obtain⟨t,e⟩:=(show ∃t,u=Value.str x t from r);cases e;rfl
 |byt b=>obtain⟨t,e⟩:=(show ∃t,u=Value.bytes b t from r);cases e;rfl
 |flt b=>obtain⟨t,e⟩:=(show ∃t,u=Value.float b t from r);cases e;rfl
 |ref a=>cases (show u=Value.ref a from r);rfl
 |ty n=>cases (show u=Value.type n from r);rfl
section
variable {P:Program}{w:World}{H H':Hp}{h h':Heap}{a C dx:Addr}{fs fs':List (Str×V)}
theorem pQ (hok:HOk P w H h)(e:H a=some (.ins C dx fs)):∃mA,xX h a dx C mA/\(∀f,rV (fs.lookup f) (mA f))/\PySem.Within mA (fs.map (·.1))/\fs.length<=1000/\H dx=some (.own a):=by obtain⟨d,z,ne,ob,mA,n,r,q⟩:=(show eC P w H h a (.ins C dx fs) from hok a _ e);exact⟨mA,⟨ob,n,ne⟩,r,q,z,d⟩
end
structure Cls (K:Frag)(C:Addr):Prop where
 pg:plainGet K C Str.empty=true
 hd:hasDictIn K C=true
 po:PySem.W.plainOver K C=true
 sa:findIn K (.ref C) "__setattr__" = some (some (.builtin "object.__setattr__"))
theorem Cls.get {K:Frag}{C:Addr}(c:Cls K C)(f:Str):plainGet K C f=true:=c.pg
def mC (K:Frag)(C:Addr)(f:Str):Prop:=findIn K (.ref C) f=some none
theorem mC.taker {K:Frag}{C:Addr}{f:Str}(n:mC K C f):PySem.W.takerIn K C f=some none:=by unfold PySem.W.takerIn;rw[show findIn K (.ref C) f=some none from n];rfl
structure xI (K:Frag)(C:Addr)(m:Str)(f:Addr):Prop where
 at_:findIn K (.ref C) m=some (some (.ref f))
 fn:isFn K (.ref f)=true
 kp:keepIn K (.ref f)=true
section
variable {X:Cx}{pins:List (Addr×Obj)}{σ:St}{H:Hp}{s:Shared}{a C dx:Addr}{fs:List (Str×V)}{f:Str}{v:V}{A:Around}{E:Value->Shared->Prop}
theorem yG {b:Bool}{Q:Value->Shared->Prop}(I:Inv X pins σ H s)(e:H a=some (.ins C dx fs))(c:Cls X.K C)(n:mC X.K C f)(l:fs.lookup f=some v)(h:∀u s',Inv X pins σ H s'->bM v u->Q u s'):wpAny (model X.prog X.w) A (getAttr (.ref a) f b) Q E s:=by obtain⟨mA,O,r,_,_,_⟩:=pQ I.hok e;obtain⟨u,hu,ru⟩:=rV.some_of (v:=v) (o:=mA f) (by rw[<- l];exact r f);exact aDR I.kIn O (c.get f) c.hd n hu (aAa ru) (h u _ (I.tok _) ru)
theorem xB {m:Str}{g:Addr}{pl:Sem Bool}{Q:Value×List Value->Shared->Prop}(I:Inv X pins σ H s)(e:H a=some (.ins C dx fs))(c:Cls X.K C)(k:xI X.K C m g)(l:fs.lookup m=none)(h:Q (.ref g,[.ref a]) s):wpAny (model X.prog X.w) A (getMethod (.ref a) m pl) Q E s:=by obtain⟨mA,O,r,_,_,_⟩:=pQ I.hok e;have hn:mA m=none:=rV.none_of (by rw[<- l];exact r m);exact aBt I.kIn O (c.get m) k.at_ k.fn hn h
theorem xP {y:V}{u:Value}{Q:Unit->Shared->Prop}(I:Inv X pins σ H s)(e:H a=some (.ins C dx fs))(c:Cls X.K C)(n:mC X.K C f)(hl:fs.length<1000)(ry:bM y u)(h:∀s',Inv X pins σ (upd H a (.ins C dx (jM f y fs))) s'->Q () s'):wpAny (model X.prog X.w) A (setAttr (.ref a) f u) Q E s:=by
 obtain⟨mA,O,r,wi,_,ho⟩:=pQ I.hok e;have hz:(fs.map (·.1)).length<=sizeLine:=by rw[length_map,sizeLine_eq];omega
 refine aDa I.kIn O c.sa c.po n.taker c.hd wi hz λh' O' sb=>h _ ?_;have hd:∃o,h'.get? dx=some o:=let ⟨o,_,_,e',_⟩:=O'.ns;⟨o,e'⟩
 refine I.write (x:=a) (e:=dx) (by rw[e];exact True.intro) (.inr ho) (λb q hb z=>(sb.2 b hb).trans z) hd ?_;refine⟨by rw[aS O.ne];exact ho,?_,O.ne,O'.obj,_,O'.ns,λg=>?_,λg hg=>?_⟩
 ·have:=oK f y fs;omega
 ·show rV ((jM f y fs).lookup g) (if g=f then some u else mA g);rw[oP];by_cases q:g=f
  ·rw[if_pos q,if_pos q];exact ry
  ·rw[if_neg q,if_neg q];exact r g
 ·by_cases q:g=f
  ·rw[q];exact(nL f y fs).1
  ·refine(nL f y fs).2 g (wi g λz=>hg ?_);show(if g=f then some u else mA g)=none;rw[if_neg q];exact z
theorem Inv.made (I:Inv X pins σ H s):Inv X pins σ (upd (upd H s.heap.objs.size (.own (s.heap.objs.size+1))) (s.heap.objs.size+1) (.ins C s.heap.objs.size []))
  { s with heap:=(s.heap.push emptyDict).push (instObj C s.heap.objs.size) }:=by
 have e1:(s.heap.push emptyDict).get? s.heap.objs.size=some emptyDict:=Heap.get?_push_size s.heap rfl;have e2:((s.heap.push emptyDict).push (instObj C s.heap.objs.size)).get? (s.heap.objs.size+1)=some (instObj C s.heap.objs.size):=by
  have:=Heap.get?_push_size (s.heap.push emptyDict) (o:=instObj C s.heap.objs.size) rfl
  rwa [Heap.size_push] at this
 have e3:(s.heap.push emptyDict).Ns s.heap.objs.size (λ_=>none):=⟨emptyDict,#[],_,e1,rfl,(λe he=>absurd he (by simp)),λ_=>rfl⟩;have I1:=I.laid (a:=s.heap.objs.size) (o:=.own (s.heap.objs.size+1)) (h':=s.heap.push emptyDict) (t':=s.toks) (λb u q=>Heap.get?_push_of_some _ q) (Nat.le_refl _) ⟨_,e1⟩;refine I1.laid (a:=s.heap.objs.size+1) (o:=.ins C s.heap.objs.size []) (t':=s.toks) (λb u q=>Heap.get?_push_of_some _ q) (Nat.le_of_eq (Heap.size_push _ _)) ?_;have ne:s.heap.objs.size≠s.heap.objs.size+1:=Nat.ne_of_lt (Nat.lt_succ_self _);refine⟨by rw[aS ne,cE],Nat.zero_le _,ne,e2,λ_=>none,(Heap.Ns1.of_empty e3).at λo q=>Heap.get?_push_of_some _ q,λ_=>True.intro,λy hy=>absurd rfl hy⟩
theorem aCN {prog:Program}{w:World}{env:Env}{e:Expr}{f:Str}{pos:Pos}{s:Shared}{Q:Value->Shared->Prop}(hb:attributeBase e f env (eval e env)=eval e env)(h:wpAny (model prog w) A (eval e env) (λo s₁=>wpAny (model prog w) A (getAttr o f true) Q E s₁) E s):wpAny (model prog w) A (eval (.Attribute e f pos) env) Q E s :=
 Attribute_any_ h (by rw[arm_eval_Attribute,hb])
end
def aI3 (K:Frag)(ta:TE)(f:Str):TE:=λσ H Q=>ta σ H λx H1=>∃a C dx fs v,x=.ref a/\H1 a=some (.ins C dx fs)/\Cls K C/\mC K C f/\fs.lookup f=some v/\Q v H1
def aIs (K:Frag)(ta tv:TE)(f:Str):TS:=λD σ H=>tv σ H λy H1=>ta σ H1 λx H2=>∃a C dx fs,x=.ref a/\H2 a=some (.ins C dx fs)/\Cls K C/\mC K C f/\fs.length<1000 /\
 D.nx σ (upd H2 a (.ins C dx (jM f y fs)))
section
variable {X:Cx}{o e value:Expr}{f:Str}{pos pos' tpos:Pos}{ta tv:TE}
theorem aEc (he:PE X e ta)(hb:attributeBase e f X.env (eval e X.env)=eval e X.env):PE X (.Attribute e f pos) (aI3 X.K ta f):=by intro pins s σ H Q I h;refine aCN hb (thn (he pins s σ H _ I h) λu s1 ⟨x,H1,I1,rx,a,C,dx,fs,v,ex,ea,c,n,l,q⟩=>?_);subst ex;obtain rfl:u=Value.ref a:=rx;exact yG I1 ea c n l λu' s2 I2 ru=>⟨v,H1,I2,ru,q⟩
theorem aFv (ha:PE X o ta)(hv:PE X value tv)(hs:swapsWith value (some (.Attribute o f pos')) pos.line X.env=pure false):PS X (.Assign [.Attribute o f pos'] value pos) (aIs X.K ta tv f):=by intro pins s σ H D I h;refine plainObj_wpAny_Assign_Attribute (thn (hv pins s σ H _ I h) λu s1 ⟨y,H1,I1,ry,q⟩=>thn (ha pins s1 σ H1 _ I1 q) λov s2 ⟨x,H2,I2,rx,a,C,dx,fs,ex,ea,c,n,l,q2⟩=>?_) hs;subst ex;obtain rfl:ov=Value.ref a:=rx;exact xP I2 ea c n l ry λs3 I3=>⟨σ,_,I3,q2⟩
end
section
variable {X:Cx}{pins:List (Addr×Obj)}{σ:St}{H:Hp}{s:Shared}{A:Around}{E:Value->Shared->Prop}{Q:Value->Shared->Prop}{c:Value}{b:Bool}
inductive oZ (K:Frag) (H:Hp):V->Value->Prop where
 |non:oZ K H .non (.type "NoneType")
 |bl (x:Bool):oZ K H (.bl x) (.type "bool")
 |int (i:Int):oZ K H (.int i) (.type "int")
 |str (x:Str):oZ K H (.str x) (.type "str")
 |flt (x:UInt64):oZ K H (.flt x) (.type "float")
 |lst {a:Addr} {xs:List V} (e:H a = some (.lst xs)):oZ K H (.ref a) (.type "list")
 |frz {a:Addr} {o:Obj} {xs:List V} (e:H a = some (.frz o (.lst xs))):oZ K H (.ref a) (.type "list")
 |tup {a:Addr} {xs:List V} (e:H a = some (.tup xs)):oZ K H (.ref a) (.type "tuple")
 |dK {a:Addr} {kvs:List (Key×V)} (e:H a = some (.dK kvs)):oZ K H (.ref a) (.type "dict")
 |dT {a:Addr} {kvs:List (List Key×V)} (e:H a = some (.dT kvs)):oZ K H (.ref a) (.type "dict")
 |ins {a C dx:Addr} {fs:List (Str×V)} (e:H a = some (.ins C dx fs)) (cl:Cls K C) (ha:findIn K (.ref C) "__class__" = some (some (.builtin "object.__class__")))
   (hn:PySem.W.specialIn K (.builtin "object.__class__") "__get__" = some (some (.builtin "getset_descriptor.__get__"))) (htk:PySem.W.takesIn K (.builtin "object.__class__")=some true)
   (hm:PySem.W.mroIn K C (.type "object")=some true):oZ K H (.ref a) (.ref C)
theorem jC {x:V}{u t:Value}(I:Inv X pins σ H s)(rx:bM x u)(ty:oZ X.K H x t)(e:kitOne X.K t c=some b)(h:∀tk,Q (.bool b) { s with toks:=tk }) :
  wpAny (model X.prog X.w) A (call (.builtin "isinstance") [u,c]) Q E s:=by
 cases ty with
 |non=>cases (show u=Value.none from rx);exact kia_one PySem.W.kitx_none I.kIn True.intro e (λz=>nomatch z) h
 |bl y=>cases (show u=Value.bool y from rx);exact kia_one PySem.W.kitx_bool I.kIn True.intro e (λz=>nomatch z) h
 |int i=>obtain⟨t,q⟩:=(show ∃t,u=Value.int i t from rx);cases q;exact kia_one PySem.W.kitx_int I.kIn True.intro e (λz=>nomatch z) h
 |str y=>obtain⟨t,q⟩:=(show ∃t,u=Value.str y t from rx);cases q;exact kia_one PySem.W.kitx_str I.kIn True.intro e (λz=>nomatch z) h
 |flt y=>obtain⟨t,q⟩:=(show ∃t,u=Value.float y t from rx);cases q;exact kia_one PySem.W.kitx_float I.kIn True.intro e (λz=>nomatch z) h
 |@lst a xs ea =>
  cases (show u=Value.ref a from rx);obtain⟨_,_,n,_,h1⟩:=(show eC X.prog X.w H s.heap a (.lst xs) from I.hok a _ ea);exact kia_one kitx_list I.kIn ⟨_,h1,rfl⟩ e (λz=>nomatch z) h
 |@frz a ob xs ea =>
  cases (show u=Value.ref a from rx);obtain⟨_,_,_,n,_,h1⟩:=(show eC X.prog X.w H s.heap a (.frz ob (.lst xs)) from I.hok a _ ea);exact kia_one kitx_list I.kIn ⟨_,h1,rfl⟩ e (λz=>nomatch z) h
 |@tup a xs ea =>
  cases (show u=Value.ref a from rx);obtain⟨_,_,_,p⟩:=(show eC X.prog X.w H s.heap a (.tup xs) from I.hok a _ ea);obtain⟨o,h1,h2,_⟩:=p;exact kia_one PySem.W.kitx_tuple I.kIn ⟨o,h1,h2⟩ e (λz=>nomatch z) h
 |@dK a kvs ea =>
  cases (show u=Value.ref a from rx);obtain⟨_,_,vs,_,p⟩:=(show eC X.prog X.w H s.heap a (.dK kvs) from I.hok a _ ea);obtain⟨o,es,ep,h1,h2,_⟩:=p;exact kia_one PySem.W.kitx_dict I.kIn ⟨o,h1,h2.1⟩ e (λz=>nomatch z) h
 |@dT a kvs ea =>
  cases (show u=Value.ref a from rx);obtain⟨_,_,xs,_,o,es,ep,h1,h2,_⟩:=(show eC X.prog X.w H s.heap a (.dT kvs) from I.hok a _ ea);exact kia_one PySem.W.kitx_dict I.kIn ⟨o,h1,h2.1⟩ e (λz=>nomatch z) h
 |@ins a C dx fs ea cl ha hn htk hm =>
  cases (show u=Value.ref a from rx);obtain⟨mA,O,_⟩:=pQ I.hok ea;obtain⟨od,J,_⟩:=O.look;exact kia_one (PySem.W.kitx_own (cl.get _) cl.hd ha hn htk hm) I.kIn J e (λz=>nomatch z) h
end
structure cM (k:Nat)(A:Around):Prop where
 hd:A.handled=none
 dp:A.depth+3*k+5<recursionLimit
 un:A.units+16*k+200<cLine
theorem cM.mono {j k:Nat}{A:Around}(r:cM k A)(h:j<=k):cM j A:=⟨r.hd,by have:=r.dp;omega,by have:=r.un;omega⟩
theorem cM.deeper {k:Nat}{A:Around}(r:cM (k+1) A)(env:Env):cM k (A.deeper env) :=
 ⟨r.hd,by have:=r.dp;show A.depth+1+3*k+5<_;omega,by have:=r.un;show A.units+3+16*k+200<_;omega⟩
theorem xG {A:Around}{C:Addr}{us:List Value}{kw:List (Str×Value)}:(A.under (.builtin "type.__call__" ⟨.ref C::us,kw⟩)).depth=A.depth+1:=by first|rfl|simp[Around.under,Code.weight,Code.isCreation,Code.isGuard,Code.isCaller,Code.frames,Code.isFrame,guardIds]
theorem xL {A:Around}{C:Addr}{us:List Value}{kw:List (Str×Value)}:(A.under (.builtin "type.__call__" ⟨.ref C::us,kw⟩)).units=A.units+1:=by first|rfl|simp[Around.under,Code.cUnits,Code.frames,Code.isFrame]
theorem cM.make {k:Nat}{A:Around}(r:cM (k+1) A)(C:Addr)(us:List Value)(kw:List (Str×Value)):cM k (A.under (.builtin "type.__call__" ⟨.ref C::us,kw⟩)) :=
 ⟨r.hd,by have:=r.dp;rw[xG];omega,by have:=r.un;rw[xL];omega⟩
theorem cM.depth {k:Nat}{A:Around}(r:cM k A):A.depth<recursionLimit:=by have:=r.dp;omega
theorem cM.units {k:Nat}{A:Around}(r:cM k A):A.units+64<cLine:=by have:=r.un;omega
def aGS:TA:=λ_ H Q=>Q [] H
def aDY (ta:TE)(tr:TA):TA:=λσ H Q=>ta σ H λx H1=>tr σ H1 λxs H2=>Q (x::xs) H2
section
variable {X:Cx}{e:Expr}{es:List Expr}{te:TE}{t:TA}{pos:Pos}
theorem uS:PA X [] aGS:=λ_ _ _ _ H Q I h=>Calls.spliced_nil ⟨[],H,I,.nil,h⟩
theorem mT (ha:PE X e te)(hr:PA X es t)(hs:starEach (e::es) X.env=(false,eval e X.env)::starEach es X.env:=by rfl):PA X (e::es) (aDY te t):=by intro pos pins s σ H Q I h;rw[hs];show wpAny _ _ (spliced ((false,eval e X.env)::backTo pos (starEach es X.env))) _ _ s;refine Calls.spliced_cons (thn (ha pins s σ H _ I h) λu s1 ⟨x,H1,I1,r1,q1⟩=>?_);exact thn (hr pos pins s1 σ H1 _ I1 q1) λus s2 ⟨xs,H2,I2,r2,q2⟩=>⟨x::xs,H2,I2,.cons r1 r2,q2⟩
def aIJ (t:TA):TE:=λσ H Q=>t σ H λxs H1=>xs.length<=sizeLine/\∀p,H1 p=none->Q (.ref p) (upd H1 p (.tup xs))
def aIH (t:TA):TE:=λσ H Q=>t σ H λxs H1=>xs.length<=sizeLine/\∀p,H1 p=none->Q (.ref p) (upd H1 p (.lst xs))
theorem aEv {x1}(h:PA X es t):PE X (.Tuple es x1 pos) (aIJ t):=by intro pins s σ H Q I hq;refine wpAny_Tuple_spliced (thn (h pos pins s σ H _ I hq) λus s1 ⟨xs,H1,I1,r,z,q⟩=>⟨by rw[<- r.length];exact z,?_⟩);have hf:H1 s1.heap.objs.size=none:=I1.hok.fresh (Nat.le_refl _);refine⟨.ref s1.heap.objs.size,upd H1 s1.heap.objs.size (.tup xs),I1.laid (t':=s1.toks) (λb u e=>Heap.get?_push_of_some _ e) (Nat.le_refl _) ?_,rfl,q _ hf⟩;exact⟨z,us,r,⟨_,Heap.get?_push_size _ rfl,rfl,_,rfl⟩⟩
theorem aFY (h:PA X es t):PE X (.List es pos) (aIH t):=by intro pins s σ H Q I hq;refine wpAny_List_spliced (thn (h pos pins s σ H _ I hq) λus s1 ⟨xs,H1,I1,r,z,q⟩=>⟨by rw[<- r.length];exact z,?_⟩);have hf:H1 s1.heap.objs.size=none:=I1.hok.fresh (Nat.le_refl _);refine⟨.ref s1.heap.objs.size,upd H1 s1.heap.objs.size (.lst xs),I1.laid (t':=s1.toks) (λb u e=>Heap.get?_push_of_some _ e) (Nat.le_refl _) ?_,rfl,q _ hf⟩;exact⟨z,us,0,r,Heap.get?_push_size _ rfl⟩
end
abbrev Sp:=List V->Hp->VK->XK->Prop
abbrev CXT:=List Env->Hp->Shared->XK->Value->Shared->Prop
structure xK (P:Program)(w:World)(K:Frag)(mg:Str->Option Value)(base:Heap)(A:Around)(outer:List Env)(s:Shared)(H:Hp):Prop where
 frames:A.frames=some outer
 mod:Mod K mg base
 bs:∀b o,base.get? b=some o->s.heap.get? b=some o/\H b=none
 bsz:base.objs.size<=s.heap.objs.size
 funs:s.heap.FunFrames base outer
 frf:∀b∈frs outer,H b=none
 hok:HOk P w H s.heap
 bare:AllBare s.gens
def CE (outer:List Env)(P:Program)(w:World)(H:Hp)(s:Shared)(Q:VK)(u:Value)(s':Shared):Prop :=
 ∃v H',s'.os=s.os/\AllBare s'.gens/\Un (frs outer) [] H H' s.heap s'.heap/\HOk P w H' s'.heap/\bM v u/\Q v H'
def CR (CX:CXT)(outer:List Env)(P:Program)(w:World)(H:Hp)(s:Shared)(Q:VK)(E:XK)(r:Result)(s':Shared):Prop :=
 match r with
 |.ok (.ret u)=>CE outer P w H s Q u s'
 |.ok _=>False
 |.error e=>CX outer H s E e s'
structure iM (P:Program)(w:World)(K:Frag)(mg:Str->Option Value)(base:Heap)(CX:CXT)(k:Nat)(f:Addr)(fd:FuncData)(ps:List Str)(sp:Sp):Prop where
 len:∀vs H Q E,sp vs H Q E->vs.length=ps.length
 run:∀(A:Around)(outer:List Env) (s:Shared) (H:Hp) (args:Args) (us:List Value) (vs:List V) (Q:VK) (E:XK),cM k A->xK P w K mg base A outer s H->BindsTo s fd args (ps.zip us)->bN vs us->sp vs H Q E ->
  codeAny (model P w) A (.call (.ref f) args) (CR CX outer P w H s Q E) s
theorem iM.imp {P:Program}{w:World}{K:Frag}{mg:Str->Option Value}{base:Heap}{CX:CXT}{k:Nat}{f:Addr}{fd:FuncData}{ps:List Str}{sp sp':Sp}(F:iM P w K mg base CX k f fd ps sp)(h:∀vs H Q E,sp' vs H Q E->sp vs H Q E):iM P w K mg base CX k f fd ps sp' :=
 ⟨λvs H Q E q=>F.len vs H Q E (h _ _ _ _ q),λA outer s H args us vs Q E hr he hb hv hs=>F.run A outer s H args us vs Q E hr he hb hv (h _ _ _ _ hs)⟩
theorem xK.make {P:Program}{w:World}{K:Frag}{mg:Str->Option Value}{base:Heap}{A:Around}{outer:List Env}{s:Shared}{H:Hp}(e:xK P w K mg base A outer s H)(C:Addr)(us:List Value)(kw:List (Str×Value)) :
  xK P w K mg base (A.under (.builtin "type.__call__" ⟨.ref C::us,kw⟩)) outer s H:=⟨by first|exact e.frames|(simpa[Around.under,Code.envs,Code.isFrame,pushEnvs] using e.frames),e.mod,e.bs,e.bsz,e.funs,e.frf,e.hok,e.bare⟩
section
variable {X:Cx}{pins:List (Addr×Obj)}{σ:St}{H:Hp}{s s':Shared}
theorem Inv.env0 (I:Inv X pins σ H s):xK X.prog X.w X.K X.mg X.base X.A X.stack s H :=
 ⟨I.ok.frames,I.ok.mod,I.bs,Nat.le_trans I.ok.bsz I.sz,I.stack,I.stkFree,I.hok,I.bare⟩
theorem Inv.after {Q:VK}{u:Value}(I:Inv X pins σ H s)(h:CE X.stack X.prog X.w H s Q u s'):EP X pins σ Q u s':=by obtain⟨v,H',os,bare,un,hok,r,q⟩:=h;obtain⟨hh,g,d,t,os'⟩:=s';obtain rfl:os'=s.os:=os;exact⟨v,H',I.call (h':=hh) (g':=g) (d':=d) (t':=t) (ch:=[]) un hok bare (λb z=>absurd z (by simp)),r,q⟩
end
def aHk (sp:Sp)(dvs:List V)(E:XK)(t:TA):TE:=λσ H Q=>t σ H λvs H1=>sp (vs++dvs) H1 Q E
def aHV (C:Addr)(m:Str)(sp:Sp)(dvs:List V)(E:XK)(ta:TE)(t:TA):TE:=λσ H Q=>ta σ H λx H1=>∃a dx fs,x=.ref a/\H1 a=some (.ins C dx fs)/\fs.lookup m=none /\
 t σ H1 λvs H2=>sp (x::(vs++dvs)) H2 Q E
def aHr (C:Addr)(sp:Sp)(dvs:List V)(E:XK)(t:TA):TE:=λσ H Q=>t σ H λvs H1=>∀x dx,H1 x=none->H1 dx=none->dx≠x ->
 sp (.ref x::(vs++dvs)) (upd (upd H1 dx (.own x)) x (.ins C dx [])) (λv H2=>v=.non/\Q (.ref x) H2) E
def hX (K:Frag)(fd:FuncData)(ps:List Str)(ds:List Value):Prop :=
 ∀(s:Shared)(us:List Value),K.In s.heap->(us++ds).length=ps.length->BindsTo s fd ⟨us,[]⟩ (ps.zip (us++ds))
theorem hX.all {K:Frag}{fd:FuncData}{ps:List Str}(h:∀us:List Value,us.length=ps.length->bindArgs fd ⟨us,[]⟩=pure (ps.zip us)):hX K fd ps []:=λs us _ hl=>by rw[append_nil] at hl ⊢;exact .of_eq (h us hl)
def lR (CX:CXT)(X:Cx)(E:XK):Prop:=∀(pins:List (Addr×Obj)) (σ:St) (H:Hp) (s:Shared) (e:Value) (s':Shared),Inv X pins σ H s->CX X.stack H s E e s'->X.xe e s'
section
variable {X:Cx}{CX:CXT}{k:Nat}{f C:Addr}{fd:FuncData}{ps:List Str}{sp:Sp}{dvs:List V}{ds:List Value}{E:XK}{x m:Str}{p pos apos:Pos}{e o:Expr}{es:List Expr}{ta:TE}{t:TA}
theorem aCl {pins:List (Addr×Obj)}{σ:St}{H:Hp}{s:Shared}{Q:VK}{us:List Value}{vs:List V}(F:iM X.prog X.w X.K X.mg X.base CX k f fd ps sp)(hr:cM k X.A)(hb:hX X.K fd ps ds)(hd:bN dvs ds)(hx:lR CX X E)(I:Inv X pins σ H s)(r:bN vs us)(h:sp (vs++dvs) H Q E):wpAny (model X.prog X.w) X.A (call (.ref f) us) (EP X pins σ Q) X.xe s:=by
 have r2:bN (vs++dvs) (us++ds):=r.append hd;have hl:(us++ds).length=ps.length:=by rw[<- r2.length];exact F.len _ _ _ _ h
 refine wpAny_call (codeAny_mono (F.run X.A X.stack s H ⟨us,[]⟩ (us++ds) (vs++dvs) Q E hr I.env0 (hb s us I.kIn hl) r2 h) λr s' hq=>?_);cases r with
 |error e=>exact hx pins σ H s e s' I hq
 |ok fl =>
  cases fl with
  |ret u=>exact I.after hq
  |next=>exact False.elim hq
  |brk=>exact False.elim hq
  |cont=>exact False.elim hq
theorem aCS (F:iM X.prog X.w X.K X.mg X.base CX k f fd ps sp)(hr:cM k X.A)(hg:Gl X x)(hm:X.mg x=some (.ref f))(hk:keepIn X.K (.ref f)=true)(hb:hX X.K fd ps ds)(hd:bN dvs ds)(hx:lR CX X E)(ha:PA X (e::es) t)(hdb:(x==("__debug__":Str))=false:=by decide)(he:starEach (e::es) X.env=(false,eval e X.env)::starEach es X.env:=by rfl)(hpl:(backTo pos (starEach es X.env)).any (·.1)=false:=by rfl) :
  PE X (.Call (.Name x p) (e::es) [] pos) (aHk sp dvs E t):=by
 intro pins s σ H Q I h;refine wpAny_Call_Name_kw (zL I hg hm ?_ hdb);refine callWith_K (h₀:=X.base) I.ok.mod.kin hk (thn (ha pos pins s σ H _ I h) λus s1 ⟨vs,H1,I1,r,q⟩=>⟨I1.kIn,?_⟩) he hpl;exact aCl F hr hb hd hx I1 r q
theorem aDf {pl:Sem Bool}(he:PE X o ta)(c:Cls X.K C)(hm:xI X.K C m f)(F:iM X.prog X.w X.K X.mg X.base CX k f fd ps sp)(hr:cM k X.A)(hb:hX X.K fd ps ds)(hd:bN dvs ds)(hx:lR CX X E)(ha:PA X (e::es) t)(hst:starEach (e::es) X.env=(false,eval e X.env)::starEach es X.env:=by rfl)(hpl:(backTo pos (starEach es X.env)).any (·.1)=false:=by rfl)(ht:eval (.Call (.Attribute o m apos) (e::es) [] pos) X.env=(do
   let ov <- eval o X.env
   standAt apos.atName
   let (f,first) <- holding [ov] (getMethod ov m pl)
   callWith pos f first (backTo pos (starEach (e::es) X.env)) (backToKw pos (keywordEach [] X.env))):=by rfl) :
  PE X (.Call (.Attribute o m apos) (e::es) [] pos) (aHV C m sp dvs E ta t):=by
 intro pins s σ H Q I h;refine PySem.W.methodCall_KW (pl:=pl) (thn (he pins s σ H _ I h) λu s1 ⟨x,H1,I1,rx,a,dx,fs,ex,ea,l,q⟩=>?_) ht;subst ex;obtain rfl:u=Value.ref a:=rx;refine xB I1 ea c hm l ?_;refine callWith_K (first:=[.ref a]) (h₀:=X.base) I.ok.mod.kin hm.kp (thn (ha pos pins s1 σ H1 _ I1 q) λus s2 ⟨vs,H2,I2,r,q2⟩=>⟨I2.kIn,?_⟩) hst hpl;exact aCl (us:=.ref a::us) (vs:=.ref a::vs) F hr hb hd hx I2 (.cons rfl r) q2
structure Mk (K:Frag)(C f:Addr):Prop where
 makes:PySem.W.makesIn K C=true
 init:findIn K (.ref C) "__init__"=some (some (.ref f))
 fn:isFn K (.ref f)=true
 kp:keepIn K (.ref C)=true
theorem aBl {pins:List (Addr×Obj)}{σ:St}{H:Hp}{s:Shared}{Q:VK}{us:List Value}{vs:List V}(M:Mk X.K C f)(F:iM X.prog X.w X.K X.mg X.base CX k f fd ps sp)(hr:cM (k+1) X.A)(hb:hX X.K fd ps ds)(hd:bN dvs ds)(hx:lR CX X E)(I:Inv X pins σ H s)(r:bN vs us)(h:∀x dx,H x=none->H dx=none->dx≠x->sp (.ref x::(vs++dvs)) (upd (upd H dx (.own x)) x (.ins C dx [])) (λv H2=>v=.non/\Q (.ref x) H2) E) :
  wpAny (model X.prog X.w) X.A (call (.ref C) us) (EP X pins σ Q) X.xe s:=by
 have hq:=h (s.heap.objs.size+1) s.heap.objs.size (I.hok.fresh (Nat.le_succ _)) (I.hok.fresh (Nat.le_refl _)) (Nat.ne_of_lt (Nat.lt_succ_self _));have I2:=Inv.made (C:=C) I;have r2:bN (V.ref (s.heap.objs.size+1)::(vs++dvs)) (Value.ref (s.heap.objs.size+1)::(us++ds)):=.cons rfl (r.append hd);have hl:(Value.ref (s.heap.objs.size+1)::us++ds).length=ps.length:=by have e:=r2.length;rw[F.len _ _ _ _ hq] at e;exact e.symm
 refine wpAny_call (aBy (f:=f) I.kIn M.makes M.init (beq_iff_eq.mp M.fn) (codeAny_mono (F.run _ X.stack _ _ ⟨Value.ref (s.heap.objs.size+1)::us,[]⟩ (Value.ref (s.heap.objs.size+1)::(us++ds)) _ _ E (hr.make C us [])
  (I2.env0.make C us []) (hb _ (Value.ref (s.heap.objs.size+1)::us) I2.kIn hl) r2 hq) λr s' hq'=>?_))
 cases r with
 |error e=>exact hx pins σ _ _ e s' I2 hq'
 |ok fl =>
  cases fl with
  |ret u =>
   obtain⟨v,H',I3,rv,ev,q3⟩:=I2.after hq';subst ev;exact⟨rv,⟨V.ref (s.heap.objs.size+1),H',I3,rfl,q3⟩⟩
  |next=>exact False.elim hq'
  |brk=>exact False.elim hq'
  |cont=>exact False.elim hq'
theorem aCQ (M:Mk X.K C f)(F:iM X.prog X.w X.K X.mg X.base CX k f fd ps sp)(hr:cM (k+1) X.A)(hg:Gl X x)(hm:X.mg x=some (.ref C))(hb:hX X.K fd ps ds)(hd:bN dvs ds)(hx:lR CX X E)(ha:PA X (e::es) t)(hdb:(x==("__debug__":Str))=false:=by decide)(he:starEach (e::es) X.env=(false,eval e X.env)::starEach es X.env:=by rfl)(hpl:(backTo pos (starEach es X.env)).any (·.1)=false:=by rfl) :
  PE X (.Call (.Name x p) (e::es) [] pos) (aHr C sp dvs E t):=by
 intro pins s σ H Q I h;refine wpAny_Call_Name_kw (zL I hg hm ?_ hdb);refine callWith_K (h₀:=X.base) I.ok.mod.kin M.kp (thn (ha pos pins s σ H _ I h) λus s1 ⟨vs,H1,I1,r,q⟩=>⟨I1.kIn,?_⟩) he hpl;exact aBl M F hr hb hd hx I1 r q
end
section
variable {X:Cx}{CX:CXT}{k:Nat}{f C:Addr}{fd:FuncData}{ps ks:List Str}{sp:Sp}{E:XK}{x m:Str}{p pos apos kpos:Pos}{e o:Expr}{es:List Expr}{kws:List Keyword}{te ta:TE}{t tk:TA}{nm:Option Str}
variable {g:List Value->List Value->List Value}{gV:List V->List V->List V}
end
structure aQ (N P:List Str)(sc:Scope):Prop where
 kind:sc.kind=.function
 co:sc.isCoroutine=false
 gen:sc.isGenerator=false
 nd:N.Nodup
 pre:N.take P.length=P
 par:∀x∈P,sc.names.lookup x=some .local∨sc.names.lookup x=some .cell
 nofree:∀y∈sc.names,y.2 ≠ .free
theorem sE {kindOf:Str->Option NameKind}{x:Str}:∀{binds:List (Str×Value)}{m:Str->Option Value},(∀v,(x,v)∉binds)->bindL kindOf binds m x=m x
 |[],_,_=>rfl
 |(n,v)::r,m,h=>by
  unfold bindL;rw[sE λw hw=>h w (mem_cons_of_mem _ hw)];split
  ·have:x≠n:=by rintro rfl;exact h v mem_cons_self
   simp[this]
  ·rfl
theorem sV {kindOf:Str->Option NameKind}{x:Str}:∀{binds:List (Str×Value)}{m:Str->Option Value},(∀v,(x,v)∉binds)->bindC kindOf binds m x=m x
 |[],_,_=>rfl
 |(n,v)::r,m,h=>by
  unfold bindC;rw[sV λw hw=>h w (mem_cons_of_mem _ hw)];split
  ·rfl
  ·have:x≠n:=by rintro rfl;exact h v mem_cons_self
   simp[this]
theorem sC {kindOf:Str->Option NameKind}{x:Str}{v:Value}:∀{P:List Str}{vs:List Value} {i:Nat} {m:Str->Option Value},P.Nodup->P[i]?=some x->vs[i]?=some v->kindOf x=some .local ->
  bindL kindOf (P.zip vs) m x=some v
 |[],_,_,_,_,h,_,_=>by simp at h
 |_::_,[],_,_,_,_,h,_=>by simp at h
 |p::P,w::vs,0,m,nd,h1,h2,hk=>by simp at h1 h2;subst h1;subst h2;show bindL kindOf ((p,w)::P.zip vs) m p=_;unfold bindL;rw[sE λv hv=>(List.nodup_cons.mp nd).1 (List.of_mem_zip hv).1,if_pos hk];simp
 |p::P,w::vs,i+1,m,nd,h1,h2,hk=>by show bindL kindOf ((p,w)::P.zip vs) m x=_;unfold bindL;exact sC (i:=i) (List.nodup_cons.mp nd).2 (by simpa using h1) (by simpa using h2) hk
theorem sJ {kindOf:Str->Option NameKind}{x:Str}{v:Value}:∀{P:List Str}{vs:List Value} {i:Nat} {m:Str->Option Value},P.Nodup->P[i]?=some x->vs[i]?=some v->kindOf x≠some .local ->
  bindC kindOf (P.zip vs) m x=some v
 |[],_,_,_,_,h,_,_=>by simp at h
 |_::_,[],_,_,_,_,h,_=>by simp at h
 |p::P,w::vs,0,m,nd,h1,h2,hk=>by simp at h1 h2;subst h1;subst h2;show bindC kindOf ((p,w)::P.zip vs) m p=_;unfold bindC;rw[sV λv hv=>(List.nodup_cons.mp nd).1 (List.of_mem_zip hv).1,if_neg hk];simp
 |p::P,w::vs,i+1,m,nd,h1,h2,hk=>by show bindC kindOf ((p,w)::P.zip vs) m x=_;unfold bindC;exact sJ (i:=i) (List.nodup_cons.mp nd).2 (by simpa using h1) (by simpa using h2) hk
noncomputable def start (N:List Str)(vs:List V):St:=vs.map some++replicate (N.length-vs.length) none
noncomputable def nZ (CX:CXT)(P:Program)(w:World)(K:Frag)(mg:Str->Option Value)(base:Heap)(N:List Str)(qual:Str)(scope:Scope)(f:Addr)(cd:Value)(A:Around)(outer:List Env)(s:Shared)(H:Hp)(E:XK):Cx where
 prog:=P
 w:=w
 K:=K
 mg:=mg
 base:=base
 A:=A.deeper (envOfC qual scope s.heap.objs.size f cd)
 N:=N
 s₀:=s
 H₀:=H
 env:=envOfC qual scope s.heap.objs.size f cd
 outer:=outer
 stack:=envOfC qual scope s.heap.objs.size f cd::outer
 ex:=[]
 calm:=true
 fn:=λ_=>true
 pn:=[]
 xe:=λe s'=>wpAny (model P w) (A.deeper (envOfC qual scope s.heap.objs.size f cd)) (leaving (envOfC qual scope s.heap.objs.size f cd) e) (λ_ s''=>CX outer H s E e s'') (λe' s''=>CX outer H s E e' s'') s'
theorem vS {sc:Scope}{n:Nat}{x:Str}(h:sc.names.lookup x=some .cell):∃c,(cellsFrom n sc.names []).lookup x=some c:=by have q:=PySem.W.cellsFrom_some sc.names n [] (.inl h);exact Option.isSome_iff_exists.mp q
theorem zU {CX:CXT}{P:Program}{w:World}{K:Frag}{mg:Str->Option Value}{base:Heap}{N ps:List Str}{qual:Str}{scope:Scope}{f:Addr}{cd:Value}{A:Around}{outer:List Env}{s s1:Shared}{H:Hp}{E:XK}{us:List Value}{vs:List V}(S:aQ N ps scope)(hd:A.handled=none)(e0:xK P w K mg base A outer s H)(hl:vs.length=ps.length)(r:bN vs us)(x:InCallC s s.heap.objs.size (bindL (envOfC qual scope s.heap.objs.size f cd).kindOf (ps.zip us) λ_=>none) (cellsFrom (s.heap.objs.size+1) scope.names []) (bindC (envOfC qual scope s.heap.objs.size f cd).kindOf (ps.zip us) λ_=>none) s1) :
  Inv (nZ CX P w K mg base N qual scope f cd A outer s H E) [] (start N vs) H s1:=by
 have hpl:ps.length<=N.length:=by have:=congrArg length S.pre;rw[length_take] at this;omega
 obtain⟨h1,tk,rfl,hk⟩:=x.done;have noA:∀b:Addr,b∉(nZ CX P w K mg base N qual scope f cd A outer s H E).ex:=λb z=>absurd (show b∈([]:List Addr) from z) (by simp);refine⟨⟨e0.mod,S.kind,rfl,rfl,Nat.le_refl _,λy z c h1 h2=>?_,λy hy=>?_,λy c _ h=>?_,λ_=>hd,Around.frames_deeper e0.frames,.inr ⟨rfl,rfl⟩,λb z=>absurd z (noA b),e0.bs,e0.bsz,λb _ _=>noA b,λb z=>absurd z (noA b),e0.funs,e0.frf⟩,
  rfl,e0.bare,Un.kept hk,⟨_,x.toInCall.ns,λi y v h1 h2 h3=>?_⟩,λy c h=>⟨_,x.cell y c h⟩,e0.hok.fresh (Nat.le_refl _),λy c h=>?_,λp hp=>absurd (show p∈([]:List (Addr×Obj)) from hp) (by simp),e0.hok.kept hk,?_⟩
 ·exact name_of_addr x.apart (PySem.mem_of_lookup h1) (PySem.mem_of_lookup h2)
 ·have hy:scope.names.lookup y=some .cell∨scope.names.lookup y=some .free:=hy;rcases hy with hy|hy
  ·exact vS hy
  ·exact absurd rfl (S.nofree _ (PySem.mem_of_lookup hy))
 ·exact Nat.le_of_lt (x.above y c (PySem.mem_of_lookup h))
 ·have hi:i<vs.length:=by
   unfold start at h2;by_cases hi:i<vs.length
   ·exact hi
   ·rw[List.getElem?_append_right (by simpa using hi)] at h2;rw[List.getElem?_replicate] at h2;split at h2<;>cases h2
  have ha:vs[i]?=some v:=by
   unfold start at h2;rw[getElem?_append_left (by simpa using hi),getElem?_map] at h2;cases e:vs[i]? with
   |none=>rw[e] at h2;cases h2
   |some a=>rw[e] at h2;cases h2;rfl
  obtain⟨u,hu,rv⟩:=r.get ha;have hp:ps[i]?=some y:=by rw[<- S.pre,List.getElem?_take_of_lt (by omega)];exact h1
  have ndP:ps.Nodup:=by rw[<- S.pre];exact S.nd.sublist (List.take_sublist _ _)
  refine⟨u,rv,?_⟩;rcases S.par y (mem_of_getElem? hp) with k|k
  ·exact .inl ⟨k,sC ndP hp hu k⟩
  ·obtain⟨c,e⟩:=vS (n:=s.heap.objs.size+1) k;refine .inr ⟨.inl k,c,e,?_⟩;have q:=x.cell y c e;rw[sJ ndP hp hu (by show scope.names.lookup y≠_;rw[k];decide)] at q;exact q
 ·exact e0.hok.fresh (Nat.le_of_lt (x.above y c (PySem.mem_of_lookup h)))
 ·unfold start;show _=N.length;rw[length_append,length_map,List.length_replicate];omega
theorem aHY {CX:CXT}{P:Program}{w:World}{K:Frag}{mg:Str->Option Value}{base:Heap}{k:Nat}{f:Addr}{name qual:Str}{params:Arguments}{body:List Stmt}{scope:Scope}{dV kV doc pm cdv ct oc:Value}{an od:Option Addr}{osl:Array (Option Value)}{N ps:List Str}{sp:Sp}(lk:K.lookup f=some ⟨oc,od,.func (fnOf name qual params body scope dV kV doc pm an cdv ct),osl⟩)(hcd:codeIn K cdv qual=true)(S:aQ N ps scope)(len:∀vs H Q E,sp vs H Q E->vs.length=ps.length)(hbody:∀(A:Around)(outer:List Env) (s:Shared) (H:Hp) (vs:List V) (Q:VK) (E:XK),cM k (A.deeper (envOfC qual scope s.heap.objs.size f cdv))->sp vs H Q E ->
   ∃t,PSs (nZ CX P w K mg base N qual scope f cdv A outer s H E) body t/\t { nx:=λ_ H'=>Q .non H',rt:=Q } (start N vs) H) :
  iM P w K mg base CX (k+1) f (fnOf name qual params body scope dV kV doc pm an cdv ct) ps sp:=by
 refine⟨len,λA outer s H args us vs Q E hr e0 hb r hsp=>?_⟩;have hl:=len _ _ _ _ hsp;have KX:K.In s.heap:=e0.mod.kin.keeps λb o e=>(e0.bs b o e).1;have lim:s.heap.NoLimit:=e0.mod.nolimit.keeps λb o e=>(e0.bs b o e).1;have hkind:∀y∈ps.zip us,scope.names.lookup y.1=some .local∨(scope.names.lookup y.1=some .cell/\((cellsFrom (s.heap.objs.size+1) scope.names []).lookup y.1).isSome=true):=λ⟨n,v⟩ hy=>by
  rcases S.par n (List.of_mem_zip hy).1 with q|q
  ·exact .inl q
  ·exact .inr ⟨q,PySem.W.cellsFrom_some _ _ _ (.inl q)⟩
 refine codeAny_call_function hr.depth (KX _ _ lk) rfl S.co S.gen rfl (PySem.W.codeRec_of KX hcd) (hb _ _ _ _ ?_);refine wpAny_newFunctionEnv_cells S.kind hkind λenv he s1 x=>?_;subst he;refine⟨lim.keeps x.toInCall.keep,codeAny_func ?_⟩;obtain⟨t,ht,hq⟩:=hbody A outer s H vs Q E (hr.deeper _) hsp;have I:Inv (nZ CX P w K mg base N qual scope f cdv A outer s H E) [] (start N vs) H s1:=zU S hr.hd e0 hl r x;refine wpAny_mono (ht [] s1 (start N vs) H _ I hq) (λfl s' hs=>?_) λe s' hs=>hs;have fin:∀{σ':St}{H':Hp} {v:V} {u:Value},Inv (nZ CX P w K mg base N qual scope f cdv A outer s H E) [] σ' H' s'->bM v u->Q v H'->CE outer P w H s Q u s' :=
  λ{σ' H' v u} J rv q=>⟨v,H',J.os,J.bare,J.base,J.hok,rv,q⟩
 cases fl with
 |ret u =>
  obtain⟨v,σ',H',J,rv,q⟩:=hs;exact fin J rv q
 |next =>
  obtain⟨σ',H',J,q⟩:=hs;exact fin (v:=V.non) (u:=Value.none) J rfl q
 |brk =>
  obtain⟨_,_,_,q⟩:=hs;exact False.elim q
 |cont =>
  obtain⟨_,_,_,q⟩:=hs;exact False.elim q
section
variable {X:Cx}{x:Str}{p pos:Pos}{e:Expr}{es:List Expr}{t:TA}{id T:String}{r:List V->Hp->VK->Prop}
def tCB (r:List V->Hp->VK->Prop)(t:TA):TE:=λσ H Q=>t σ H λvs H1=>r vs H1 Q
theorem rF (hc:jQ X (.builtin id) r)(hg:Gl X x)(hm:X.mg x = none)(hv:bootBuiltins x = some (.builtin id))(ha:PA X (e :: es) t)(hn:x ≠ "__name__":=by decide)(hdb:(x==("__debug__":Str))=false:=by decide)(he:starEach (e::es) X.env=(false,eval e X.env)::starEach es X.env:=by rfl)(hpl:(backTo pos (starEach es X.env)).any (·.1)=false:=by rfl):PE X (.Call (.Name x p) (e::es) [] pos) (tCB r t):=by intro pins s σ H Q I h;refine wpAny_Call_Name_kw (rE I hg hm hv ?_ hn hdb);exact PyProof.Rows.callWith_builtin1 (thn (ha pos pins s σ H _ I h) λus s1 ⟨vs,H1,I1,r1,q1⟩=>hc pins s1 σ H1 vs us Q I1 r1 q1) he hpl
theorem sH (hc:jQ X (.type T) r)(hg:Gl X x)(hm:X.mg x = none)(hv:bootBuiltins x = some (.type T))(ha:PA X (e :: es) t)(hn:x ≠ "__name__":=by decide)(hdb:(x==("__debug__":Str))=false:=by decide)(he:starEach (e::es) X.env=(false,eval e X.env)::starEach es X.env:=by rfl)(hpl:(backTo pos (starEach es X.env)).any (·.1)=false:=by rfl):PE X (.Call (.Name x p) (e::es) [] pos) (tCB r t):=by intro pins s σ H Q I h;refine wpAny_Call_Name_kw (rE I hg hm hv ?_ hn hdb);exact PyProof.Rows.callWith_type1 (thn (ha pos pins s σ H _ I h) λus s1 ⟨vs,H1,I1,r1,q1⟩=>hc pins s1 σ H1 vs us Q I1 r1 q1) he hpl
end
end L2
namespace HT
open PySem PyProof.Rows
section
open PySem.SeqAt
open PySem.AutoSeq1 (wpAny_loadPart')
open PySem.MeetsSeq PySem.MeetsSeq2 PySem.MeetsSeq3
end
section
variable {prog:Program}{w:World}{A:Around}{E:Value->Shared->Prop}{s:Shared}
theorem cat_tup {t b:Addr}{vs ws:List Value}{Q:Value->Shared->Prop}(ht:IsTup s.heap t vs.toArray)(hb:IsTup s.heap b ws.toArray)(hv:vs≠[])(h1:ws = []->Q (.ref t) s)(h2:ws≠[]->Q (.ref s.heap.objs.size) { s with heap:=s.heap.push { cls:=.type "tuple",data:=.seq (vs++ws).toArray } })(hsz:vs.length+ws.length<=sizeLine):wpAny (model prog w) A (binaryOp .Add (.ref t) (.ref b)) Q E s:=by
 obtain⟨⟨cls,dd,data,sl⟩,ho,hc,n,hd⟩:=id ht;obtain⟨⟨cls2,dd2,data2,sl2⟩,ho2,hc2,n2,hd2⟩:=id hb;simp only at hc hd hc2 hd2;subst hc hd hc2 hd2;have e:vs.toArray++ws.toArray=(vs++ws).toArray:=by simp
 by_cases hw:ws=[]
 ·exact concat_meets ⟨_,ho,rfl⟩ ⟨_,ho2,rfl⟩ noFill_tuple_add seq_tuple_add PySem.F.slot_tuple_add PySem.F.entry_tuple_add (PySem.F.args_tuple_add_2 _ _)
   (tuple_addW1 t b vs.toArray ws.toArray n n2 dd dd2 sl sl2 (by simpa using hv) (by simp[hw])) ⟨ho,ho2,h1 hw⟩
 ·refine concat_meets ⟨_,ho,rfl⟩ ⟨_,ho2,rfl⟩ noFill_tuple_add seq_tuple_add PySem.F.slot_tuple_add PySem.F.entry_tuple_add (PySem.F.args_tuple_add_2 _ _)
   (tuple_addW2 t b vs.toArray ws.toArray n n2 dd dd2 sl sl2 (by simpa using hv) (by simpa using hw) (by rw[size_toArray,size_toArray];exact hsz)) ⟨ho,ho2,?_⟩
  rw[e];exact h2 hw
noncomputable def sIx (n d:Nat):Option Int->Nat
 |none=>d
 |some v=>if v<0 then (v+(n:Int)).toNat else min v.toNat n
theorem aFt (n d:Nat)(hd:d<=n)(o:Option Int):sIx n d o<=n:=by
 cases o with
 |none=>exact hd
 |some v =>
  show(if v<0 then (v+(n:Int)).toNat else min v.toNat n)<=n;by_cases hv:v<0
  ·rw[if_pos hv];omega
  ·rw[if_neg hv];exact Nat.min_le_right _ _
theorem yR (v:Int)(n d:Nat):(if v<0 then max (v+(n:Int)) 0 else min v (n:Int))=((sIx n d (some v):Nat):Int):=by
 show(if v<0 then max (v+(n:Int)) 0 else min v (n:Int))=(((if v<0 then (v+(n:Int)).toNat else min v.toNat n):Nat):Int);by_cases hv:v<0
 ·simp only[if_pos hv];omega
 ·simp only[if_neg hv];omega
theorem wY (lo hi:Option Int)(n:Nat):Builtin.Slice.sliceAdjust lo hi 1 (n:Int)=(((sIx n 0 lo:Nat):Int),((sIx n n hi:Nat):Int)):=by
 have h1:¬((1:Int)<0):=by omega
 unfold Builtin.Slice.sliceAdjust;simp only[h1,if_false];refine Prod.ext ?_ ?_
 ·cases lo with
  |none=>rfl
  |some v=>exact yR v n 0
 ·cases hi with
  |none=>rfl
  |some v=>exact yR v n n
theorem yD (i j:Nat):Builtin.Slice.slicePlaces (i:Int) (j:Int) 1=j-i:=by
 unfold Builtin.Slice.slicePlaces;have h1:(1:Int) > 0:=by omega
 simp only[h1,if_true,Int.ediv_one];split<;>omega
theorem qH {v:Value}{o:Option Int}{Q:Option Int->Shared->Prop}(p:IsPart v o)(h:Q o s):wpAny (model prog w) A (Builtin.Slice.slicePartIndex v) Q E s:=by
 cases p with
 |none=>exact slicePart_none h
 |int i t=>exact slicePart_int h
theorem nM {sl:Addr}{vl vu:Value}{lo hi:Option Int}{n:Nat}{Q:Int×Int×Nat->Shared->Prop}(hs:s.heap.IsSliceOf sl vl vu .none)(pl:IsPart vl lo)(pu:IsPart vu hi)(h:Q (((sIx n 0 lo:Nat):Int),1,sIx n n hi-sIx n 0 lo) s):wpAny (model prog w) A (Builtin.Slice.sliceApplied (.ref sl) (pure (n:Int))) Q E s:=by obtain⟨os,hos,hcs,hds⟩:=id hs;unfold Builtin.Slice.sliceApplied Builtin.Slice.sliceFields;refine wpAny_bind (wpAny_bind (wpAny_field hos hds (x:=vl) rfl (wpAny_bind (wpAny_field hos hds (x:=vu) rfl (wpAny_bind (wpAny_field hos hds (x:=.none) rfl (wpAny_pure ?_)))))));refine wpAny_bind (slicePart_none ?_);show wpAny _ _ (if ((1:Int)==0)=true then _ else _) _ _ s;rw[if_neg (by decide)];refine wpAny_bind (qH pl (wpAny_bind (qH pu (wpAny_bind (wpAny_pure ?_)))));show wpAny _ _ (match Builtin.Slice.sliceAdjust lo hi 1 (n:Int) with|(lo,hi)=>pure (lo,(1:Int),Builtin.Slice.slicePlaces lo hi 1)) _ _ s;rw[wY lo hi n];show wpAny _ _ (pure (((sIx n 0 lo:Nat):Int),(1:Int),Builtin.Slice.slicePlaces ((sIx n 0 lo:Nat):Int) ((sIx n n hi:Nat):Int) 1)) _ _ s;rw[yD];exact wpAny_pure h
theorem aAT (xs:Array Value)(i k:Nat):((range k).filterMap λ(m:Nat)=>xs[((i:Int)+(m:Int)*1).toNat]?).toArray=((xs.toList.drop i).take k).toArray:=by
 have e:(λ(m:Nat)=>xs[((i:Int)+(m:Int)*1).toNat]?)=λm=>xs[i+m]?:=by
  funext m;have:((i:Int)+(m:Int)*1).toNat=i+m:=by omega
  rw[this]
 rw[e];have:=pick_run xs i k;rw[List.filterMap_map] at this;have e2:((λx=>xs[x]?) ∘ λx=>i+x)=λm=>xs[i+m]?:=rfl;rw[e2] at this;rw[this]
theorem getItem_tuple_cut {t sl:Addr}{items:Array Value}{vl vu:Value}{lo hi:Option Int}{Q:Value->Shared->Prop}(ht:IsTup s.heap t items)(hs:s.heap.IsSliceOf sl vl vu .none)(pl:IsPart vl lo)(pu:IsPart vu hi)(hw:¬(sIx items.size 0 lo=0/\sIx items.size items.size hi=items.size))(h:Q (.ref s.heap.objs.size) { s with heap:=s.heap.push { cls:=.type "tuple",data:=.seq ((items.toList.drop (sIx items.size 0 lo)).take (sIx items.size items.size hi-sIx items.size 0 lo)).toArray } })(hsz:items.size<=sizeLine):wpAny (model prog w) A (getItem (.ref t) (.ref sl)) Q E s:=by
 have htake:sizeOk (.seq ((items.toList.drop (sIx items.size 0 lo)).take (sIx items.size items.size hi-sIx items.size 0 lo)).toArray):=by show((items.toList.drop (sIx items.size 0 lo)).take (sIx items.size items.size hi-sIx items.size 0 lo)).toArray.size<=sizeLine;rw[size_toArray,length_take,length_drop,Array.length_toList];omega
 have hj:sIx items.size items.size hi<=items.size:=aFt _ _ (Nat.le_refl _) hi;obtain⟨os,hos,hcs,hds⟩:=id hs;have hTs:s.TypeIs (.ref sl) "slice":=⟨os,hos,hcs⟩;unfold getItem;try with_reducible refine wpAny_holding ?_
 first|refine wpAny_bind (wpAny_pure ?_)|skip
 refine wpAny_bind (wpAny_sequenceKey ht.typeIs (by decide) ?_);refine wpAny_bind (wpAny_callSpecial?_slot (name:=Str.ofString "__getitem__") ht.typeIs PyProof.Rows.slot_tuple_getitem
  (wpAny_call_entry PyProof.Rows.slot_tuple_getitem ht.typeIs entry_tuple_getitem ?_ (args_tuple_getitem _ _)))
 show wpAny _ _ (Builtin.Tuple.tupleItemsOf (.ref t) >>= _) _ _ s;refine wpAny_bind (tupleItemsOf_ ht ?_);refine wpAny_bind (wpAny_typeOf hTs ?_);rw[if_pos (by decide)];refine wpAny_bind (nM hs pl pu ?_);have hno:¬((((sIx items.size 0 lo:Nat):Int)==0&&(1:Int)==1&&(sIx items.size items.size hi-sIx items.size 0 lo)==items.size)=true):=by intro q;rw[Bool.and_eq_true,Bool.and_eq_true] at q;have q1:((sIx items.size 0 lo:Nat):Int)=0:=eq_of_beq q.1.1;have q2:sIx items.size items.size hi-sIx items.size 0 lo=items.size:=eq_of_beq q.2;exact hw ⟨by omega,by omega⟩
 show wpAny _ _ (if (((sIx items.size 0 lo:Nat):Int)==0&&(1:Int)==1&&(sIx items.size items.size hi-sIx items.size 0 lo)==items.size)=true then _ else _) _ _ s;rw[if_neg hno,aAT];first
  |exact wpAny_bind (m:=Builtin.Tuple.tupleExact _) (wpAny_newObj_type (wpAny_pure ⟨_,rfl,wpAny_pure h⟩) htake)
  |exact wpAny_bind (m:=Builtin.Tuple.tupleExact _) (wpAny_newObj_type (wpAny_bind (wpAny_pure (wpAny_pure ⟨_,rfl,wpAny_pure h⟩))) htake)
  |exact wpAny_bind (wpAny_bind (m:=Builtin.Tuple.tupleExact _) (wpAny_newObj_type (wpAny_pure (wpAny_pure ⟨_,rfl,wpAny_pure h⟩)) htake))
  |exact wpAny_bind (wpAny_bind (m:=Builtin.Tuple.tupleExact _) (wpAny_newObj_type (wpAny_pure ⟨_,rfl,wpAny_pure h⟩) htake))
end
end HT
namespace L2
open PySem PySem.Spec PyProof.Rows
abbrev TO:=St->Hp->(Option Int->Hp->Prop)->Prop
def PO (X:Cx)(e:Option Expr)(t:TO):Prop :=
 ∀(pins:List (Addr×Obj)) (s:Shared) (σ:St) (H:Hp) (Q:Option Int->Hp->Prop),Inv X pins σ H s->t σ H Q ->
  wpAny (model X.prog X.w) X.A (evalPart e X.env) (λu s'=>∃o H',Inv X pins σ H' s'/\IsPart u o/\Q o H') X.xe s
def aDO:TO:=λ_ H Q=>Q none H
def aHu (t:TE):TO:=λσ H Q=>t σ H λx H1=>∃i,x=.int i/\Q (some i) H1
section
variable {X:Cx}{e:Expr}{te:TE}{lo hi:Option Expr}{tl th:TO}{pos p2:Pos}
theorem aCF:PO X none aDO:=by intro pins s σ H Q I h;rw[evalPart_none];exact wpAny_pure ⟨none,H,I,.none,h⟩
theorem aCC (h:PE X e te):PO X (some e) (aHu te):=by intro pins s σ H Q I hw;rw[evalPart_some];refine thn (h pins s σ H _ I hw) λu s1 ⟨x,H1,I1,r1,q1⟩=>?_;obtain⟨i,rfl,q⟩:=q1;obtain⟨t,rfl⟩:=r1;exact⟨some i,H1,I1,.int i t,q⟩
def SlR (X:Cx)(r:V->Option Int->Option Int->Hp->VK->Prop):Prop :=
 ∀(pins:List (Addr×Obj)) (s:Shared) (σ:St) (H:Hp) (x:V) (v vl vu:Value) (lo hi:Option Int) (sl:Addr) (Q:VK),Inv X pins σ H s->bM x v->s.heap.IsSliceOf sl vl vu .none->IsPart vl lo->IsPart vu hi->r x lo hi H Q ->
  ∃T id,typeLookup (.type T) "__getitem__"=pure (some (.builtin id))/\s.TypeIs v T/\wpAny (model X.prog X.w) X.A (getItem v (.ref sl)) (EP X pins σ Q) X.xe s
def tSl (r:V->Option Int->Option Int->Hp->VK->Prop)(te:TE)(tl th:TO):TE:=λσ H Q=>te σ H λx H1=>tl σ H1 λl H2=>th σ H2 λu H3=>r x l u H3 Q
theorem wB {r:V->Option Int->Option Int->Hp->VK->Prop}(hr:SlR X r)(he:PE X e te)(hl:PO X lo tl)(hu:PO X hi th):PE X (.Subscript e (.Slice lo hi none p2) pos) (tSl r te tl th):=by intro pins s σ H Q I h;refine Subscript_ (thn (he pins s σ H _ I h) λv s1 ⟨x,H1,I1,r1,q1⟩=>?_);refine wpAny_Slice (thn (hl pins s1 σ H1 _ I1 q1) λvl s2 ⟨l,H2,I2,pl,q2⟩=>thn (hu pins s2 σ H2 _ I2 q2) λvu s3 ⟨u,H3,I3,pu,q3⟩=>?_);rw[evalPart_none];refine wpAny_pure ?_;have I4:Inv X pins σ H3 { s3 with heap:=s3.heap.push { cls:=.type "slice",data:=.fields #[vl,vu,.none] } }:=I3.kept (t':=s3.toks) λb ob q=>Heap.get?_push_of_some _ q;obtain⟨T,id,hT,ht,hg⟩:=hr pins { s3 with heap:=s3.heap.push { cls:=.type "slice",data:=.fields #[vl,vu,.none] } } σ H3 x v vl vu l u s3.heap.objs.size Q I4 r1 (Heap.IsSliceOf.new ..) pl pu q3;show wpAny (model X.prog X.w) X.A (subscriptTail e (.Slice lo hi none p2) v (.ref s3.heap.objs.size)) (EP X pins σ Q) X.xe { s3 with heap:=s3.heap.push { cls:=.type "slice",data:=.fields #[vl,vu,.none] } };exact tail_any (ops:=[.ref s3.heap.objs.size,v]) ht hT hg (by with_unfolding_all rfl)
noncomputable def vQ (xs:List V)(lo hi:Option Int):List V:=(xs.drop (HT.sIx xs.length 0 lo)).take (HT.sIx xs.length xs.length hi-HT.sIx xs.length 0 lo)
theorem oO (xs:List V)(lo hi:Option Int):(vQ xs lo hi).length<=xs.length:=by unfold vQ;rw[length_take,length_drop];omega
def aIP (K:Frag):V->Option Int->Option Int->Hp->VK->Prop:=λx lo hi H Q=>∃a xs,x=.ref a/\SqT K H a xs /\
 ¬(HT.sIx xs.length 0 lo=0/\HT.sIx xs.length xs.length hi=xs.length)/\∀p,H p=none->Q (.ref p) (upd H p (.tup (vQ xs lo hi)))
theorem aGv:SlR X (aIP X.K):=by
 intro pins s σ H x v vl vu lo hi sl Q I rx hs pl pu h;obtain⟨a,xs,rfl,hx,hw,q⟩:=h;cases rx;obtain⟨its,r,ht,hz⟩:=I.tuple hx;have hlen:its.toArray.size=xs.length:=by rw[size_toArray];exact r.length.symm
 refine⟨"tuple",_,PyProof.Rows.slot_tuple_getitem.lookup,ht.typeIs,?_⟩;refine HT.getItem_tuple_cut ht hs pl pu (by rw[hlen];exact hw) ?_ (by rw[hlen];exact hz);rw[hlen];refine⟨.ref s.heap.objs.size,_,I.laid (t':=s.toks) (o:=.tup (vQ xs lo hi)) (λb ob q=>Heap.get?_push_of_some _ q) (Nat.le_refl _) ?_,rfl,q _ (I.hok.fresh (Nat.le_refl _))⟩;exact⟨Nat.le_trans (oO xs lo hi) hz,_,(r.drop (HT.sIx xs.length 0 lo)).take (HT.sIx xs.length xs.length hi-HT.sIx xs.length 0 lo),IsTup.new _ _⟩
def aGQ (K:Frag):R2:=λx y H Q=>∃a b xs ys,x=.ref a/\y=.ref b/\SqT K H a xs/\SqT K H b ys/\xs≠[]/\xs.length+ys.length<=sizeLine /\
 (ys=[]->Q (.ref a) H)/\(ys≠[]->∀p,H p=none->Q (.ref p) (upd H p (.tup (xs++ys))))
theorem bN.nil_iff {xs:List V}{us:List Value}(r:bN xs us):us=[]↔xs=[]:=by
 cases r with
 |nil=>simp
 |cons _ _=>simp
theorem yT:OpR X (binaryOp .Add) (aGQ X.K):=by intro pins s σ H x y v u Q I rx ry h;obtain⟨a,b,xs,ys,rfl,rfl,ha,hb,hx,hz,q1,q2⟩:=h;cases rx;cases ry;obtain⟨its,r1,p1,_⟩:=I.tuple ha;obtain⟨its2,r2,p2,_⟩:=I.tuple hb;refine HT.cat_tup p1 p2 (λz=>hx (r1.nil_iff.mp z)) (λz=>⟨.ref a,H,I,rfl,q1 (r2.nil_iff.mp z)⟩) (λz=>?_) (by rw[<- r1.length,<- r2.length];exact hz);refine⟨.ref s.heap.objs.size,_,I.laid (t':=s.toks) (o:=.tup (xs++ys)) (λb ob q=>Heap.get?_push_of_some _ q) (Nat.le_refl _) ?_,rfl,q2 (λw=>z (r2.nil_iff.mpr w)) _ (I.hok.fresh (Nat.le_refl _))⟩;exact⟨by rw[length_append];exact hz,_,r1.append r2,IsTup.new _ _⟩
end
noncomputable def ixN (n:Nat)(i:Int):Option Nat:=if 0<=i then (if i<n then some i.toNat else none) else if -(n:Int)<=i then some (i+n).toNat else none
noncomputable def atI {α:Type}(xs:List α)(i:Int):Option α:=(ixN xs.length i).bind λj=>xs[j]?
theorem yY {n:Nat}{i:Int}{j:Nat}(h:ixN n i=some j):seqIndex? i n=some j/\j<n/\-(n:Int)<=i/\i<n:=by
 unfold ixN at h;by_cases h0:0<=i
 ·rw[if_pos h0] at h;by_cases h1:i<n
  ·rw[if_pos h1] at h;have e:i.toNat=j:=Option.some.inj h;exact⟨by rw[seqIndex_of h0 h1,e],by omega,by omega,h1⟩
  ·rw[if_neg h1] at h;cases h
 ·rw[if_neg h0] at h;by_cases h1:-(n:Int)<=i
  ·rw[if_pos h1] at h;have e:(i+n).toNat=j:=Option.some.inj h;exact⟨by rw[seqIndex_neg (by omega) h1,e],by omega,h1,by omega⟩
  ·rw[if_neg h1] at h;cases h
theorem zB {α:Type}{xs:List α}{i:Int}{v:α}(h:atI xs i=some v):∃j,seqIndex? i xs.length=some j/\xs[j]?=some v/\j<xs.length/\-(xs.length:Int)<=i/\i<xs.length:=by
 unfold atI at h;cases e:ixN xs.length i with
 |none=>rw[e] at h;cases h
 |some j =>
  rw[e] at h;obtain⟨h1,h2,h3,h4⟩:=yY e;exact⟨j,h1,h,h2,h3,h4⟩
theorem mX {α:Type}{xs:List α}{j:Nat}{v:α}(h:xs[j]?=some v):atI xs (j:Int)=some v:=by
 have hj:j<xs.length:=(List.getElem?_eq_some_iff.mp h).1;have e:ixN xs.length (j:Int)=some j:=by unfold ixN;rw[if_pos (by omega),if_pos (by omega)];simp
 unfold atI;rw[e];exact h
theorem aBC {α:Type}(xs:List α)(v:α):atI (xs++[v]) (-1)=some v:=by
 have hl:(xs++[v]).length=xs.length+1:=by simp
 have e:ixN (xs++[v]).length (-1)=some xs.length:=by unfold ixN;rw[hl,if_neg (by decide),if_pos (by omega)];congr 1;omega
 unfold atI;rw[e];show(xs++[v])[xs.length]?=some v;simp
def mS (b:Expr):Prop:=∀o i,subscripted b false o i=operate [o,i] (getItem o i)
def IxR (X:Cx)(r:R2):Prop :=
 ∀(value slice:Expr)(pins:List (Addr×Obj)) (s:Shared) (σ:St) (H:Hp) (x y:V) (v u:Value) (Q:VK),Inv X pins σ H s->bM x v->bM y u->r x y H Q ->
  subscripted slice false v u=operate [v,u] (getItem v u)->wpAny (model X.prog X.w) X.A (subscriptTail value slice v u) (EP X pins σ Q) X.xe s
def MtR (X:Cx)(id:String)(r:V->List V->Hp->VK->Prop):Prop :=
 ∀(pins:List (Addr×Obj)) (s:Shared) (σ:St) (H:Hp) (x:V) (xs:List V) (v:Value) (us:List Value) (Q:VK),Inv X pins σ H s->bM x v->bN xs us->r x xs H Q ->
  wpAny (model X.prog X.w) X.A (call (.builtin id) (v::us)) (EP X pins σ Q) X.xe s
section
variable {X:Cx}{a b:Expr}{ta tb:TE}{pos:Pos}
theorem aHf {r:R2}(hr:IxR X r)(ha:PE X a ta)(hb:PE X b tb)(hs:mS b):PE X (.Subscript a b pos) (tOp r ta tb):=by intro pins s σ H Q I h;exact Subscript_ (aGG ha hb I h λv u s2 x y H2 I2 rx ry q=>hr a b pins s2 σ H2 x y v u Q I2 rx ry q (hs _ _))
def aIE (K:Frag):R2:=λx y H Q=>∃p xs i v,x=.ref p/\y=.int i/\SqL K H p xs/\atI xs i=some v/\Q v H
def aIB (K:Frag):R2:=λx y H Q=>∃p xs i v,x=.ref p/\y=.int i/\SqT K H p xs/\atI xs i=some v/\Q v H
theorem zA:IxR X (aIE X.K):=by
 intro value slice pins s σ H x y v u Q I rx ry h hs;obtain⟨p,xs,i,z,rfl,rfl,hq,he,q⟩:=h;cases rx;obtain⟨t,rfl⟩:=ry;obtain⟨its,r,pl,hz⟩:=I.list hq;obtain⟨j,h1,h2,h3,h4,h5⟩:=zB he;obtain⟨w,ew,rw'⟩:=r.get h2;have hl:=r.length;have hn:=tT;have fin:EP X pins σ Q w s:=⟨z,H,I,rw',q⟩;by_cases h0:0<=i
 ·have hj:i.toNat=j:=by rw[seqIndex_of h0 h5] at h1;exact Option.some.inj h1
  exact item_listR pl.isList h0 (by omega) (by rw[hj];simpa using ew) fin hs
 ·have hj:(i+(its.toArray.size:Int)).toNat=j:=by rw[seqIndex_neg (by omega) h4] at h1;rw[size_toArray,<- hl];exact Option.some.inj h1
  exact subscriptTail_builtinR (x:=w) pl.isList.typeIs slot_list_getitem.lookup
   (wpAny_getItem_list_neg (Q:=λr s'=>r=w/\EP X pins σ Q r s') pl.isList (by omega) (by rw[size_toArray]<;>omega) (by omega) (by rw[hj];simpa using ew) ⟨rfl,fin⟩) hs
theorem aF2:IxR X (aIB X.K):=by
 intro value slice pins s σ H x y v u Q I rx ry h hs;obtain⟨p,xs,i,z,rfl,rfl,hq,he,q⟩:=h;cases rx;obtain⟨t,rfl⟩:=ry;obtain⟨its,r,pl,hz⟩:=I.tuple hq;obtain⟨j,h1,h2,h3,h4,h5⟩:=zB he;obtain⟨w,ew,rw'⟩:=r.get h2;have hl:=r.length;have hn:=tT;have fin:EP X pins σ Q w s:=⟨z,H,I,rw',q⟩;exact subscriptTail_builtinR (x:=w) pl.typeIs slot_tuple_getitem.lookup
  (getItem_tuple (j:=j) (Q:=λr s'=>r=w/\EP X pins σ Q r s') pl (by omega) (by omega) (by rw[size_toArray,<- hl];exact h1) (by simpa using ew) ⟨rfl,fin⟩) hs
theorem yI (its:List Value)(n j:Nat)(u:Value):Obj.mapSeq (·.setIfInBounds j u) { cls:=.type "list",data:=.seq its.toArray n } = { cls:=.type "list",data:=.seq (its.set j u).toArray n }:=by simp[Obj.mapSeq]
theorem Inv.lst {pins:List (Addr×Obj)}{σ:St}{H:Hp}{s:Shared}{p:Addr}{xs:List V}(I:Inv X pins σ H s)(h:H p=some (.lst xs)) :
  ∃(its:List Value)(n:Nat),bN xs its/\s.heap.get? p = some { cls:=.type "list",data:=.seq its.toArray n }/\xs.length<=sizeLine:=by
 obtain⟨z,its,n,r,e⟩:=I.hok p _ h;exact⟨its,n,r,e,z⟩
theorem Inv.lstUpd {pins:List (Addr×Obj)}{σ:St}{H:Hp}{s:Shared}{p:Addr}{xs ys:List V}{its its':List Value}{n n':Nat}{f:Obj->Obj}(I:Inv X pins σ H s)(h:H p=some (.lst xs))(ho:s.heap.get? p = some { cls:=.type "list",data:=.seq its.toArray n })(hf:f { cls:=.type "list",data:=.seq its.toArray n } = { cls:=.type "list",data:=.seq its'.toArray n' })(r:bN ys its')(hz:ys.length<=sizeLine)(t:Nat) :
  Inv X pins σ (upd H p (.lst ys)) { s with heap:=s.heap.update p f,toks:=t }:=by
 have e:(s.heap.update p f).get? p = some { cls:=.type "list",data:=.seq its'.toArray n' }:=by rw[Heap.get?_update_self f ho (by rw[hf]<;>rfl),hf]
 refine I.write (x:=p) (e:=p) (by rw[h];trivial) (.inl rfl) (λb u hb q=>(Heap.get?_update_other _ _ (Ne.symm hb)).trans q) ⟨_,e⟩ ?_;exact⟨hz,its',n',r,e⟩
def aIn:V->V->V->Hp->(Hp->Prop)->Prop:=λo i v H Q=>∃p xs k j,o=.ref p/\i=.int k/\H p=some (.lst xs)/\ixN xs.length k=some j/\Q (upd H p (.lst (xs.set j v)))
theorem aAL:aFi X aIn:=by
 intro pins s σ H o i v ov iv u Q I ro ri rv h;obtain⟨p,xs,k,j,rfl,rfl,hp,hj,q⟩:=h;cases ro;obtain⟨t,rfl⟩:=ri;obtain⟨its,n,r,ho,hz⟩:=I.lst hp;obtain⟨h1,h2,h3,h4⟩:=yY hj;have hl:=r.length;have hn:=tT;have I':Inv X pins σ (upd H p (.lst (xs.set j v))) { s with heap:=s.heap.update p (Obj.mapSeq (·.setIfInBounds j u)) } :=
  I.lstUpd hp ho (yI its n j u) (r.set rv j) (by rw[List.length_set];exact hz) s.toks
 by_cases h0:0<=k
 ·have hk:k.toNat=j:=by rw[seqIndex_of h0 h4] at h1;exact Option.some.inj h1
  exact PySem.W.ki_setAt ho h0 (by omega) (by rw[size_toArray,<- hl];exact h4) (by rw[hk];exact⟨_,I',q⟩)
 ·have hk:(k+(its.toArray.size:Int)).toNat=j:=by rw[seqIndex_neg (by omega) h3] at h1;rw[size_toArray,<- hl];exact Option.some.inj h1
  exact PySem.W.ki_setBack ho (by omega) (by rw[size_toArray,<- hl];exact h3) (by omega) (by rw[hk];exact⟨_,I',q⟩)
theorem uW (lo hi:Option Int)(n:Nat):(sliceBounds lo hi none n).1=((HT.sIx n 0 lo:Nat):Int)/\(sliceBounds lo hi none n).2.1=((HT.sIx n n hi:Nat):Int)/\(sliceBounds lo hi none n).2.2=1:=by
 refine⟨?_,?_,rfl⟩
 ·cases lo with
  |none=>simp[sliceBounds,HT.sIx]
  |some i =>
   simp only[sliceBounds,HT.sIx,Option.getD_none,show(1:Int) > 0 by decide,if_true];by_cases h:i<0
   ·simp only[h,if_true]<;>omega
   ·simp only[h,if_false]<;>omega
 ·cases hi with
  |none=>simp[sliceBounds,HT.sIx]
  |some i =>
   simp only[sliceBounds,HT.sIx,Option.getD_none,show(1:Int) > 0 by decide,if_true];by_cases h:i<0
   ·simp only[h,if_true]<;>omega
   ·simp only[h,if_false]<;>omega
theorem rL (its:List Value)(lo hi:Option Int):slicePick its.toArray lo hi none=((its.drop (HT.sIx its.length 0 lo)).take (HT.sIx its.length its.length hi-HT.sIx its.length 0 lo)).toArray:=by obtain⟨h1,h2,h3⟩:=uW lo hi its.toArray.size;unfold slicePick;rw[h1,h2,h3];simp only[sliceRange_one,pick_run,size_toArray]<;>rfl
def aII (K:Frag):V->Option Int->Option Int->Hp->VK->Prop:=λx lo hi H Q=>∃a xs,x=.ref a/\SqL K H a xs/\∀p,H p=none->Q (.ref p) (upd H p (.lst (vQ xs lo hi)))
theorem aCM:SlR X (aII X.K):=by intro pins s σ H x v vl vu lo hi sl Q I rx hs pl pu h;obtain⟨a,xs,rfl,hx,q⟩:=h;cases rx;obtain⟨its,r,ht,hz⟩:=I.list hx;have hlen:=r.length;refine⟨"list",_,slot_list_getitem.lookup,ht.isList.typeIs,?_⟩;refine wpAny_getItem_list_slice ht.isList hs pl pu .none (by simp) ?_ (by rw[size_toArray]<;>omega);rw[rL,<- hlen];refine⟨.ref s.heap.objs.size,_,I.laid (t':=s.toks) (o:=.lst (vQ xs lo hi)) (λb ob q=>Heap.get?_push_of_some _ q) (Nat.le_refl _) ?_,rfl,q _ (I.hok.fresh (Nat.le_refl _))⟩;exact⟨Nat.le_trans (oO xs lo hi) hz,_,0,(r.drop (HT.sIx xs.length 0 lo)).take (HT.sIx xs.length xs.length hi-HT.sIx xs.length 0 lo),Heap.get?_push_size _ rfl⟩
noncomputable def aB1:V->Bool
 |.non=>true
 |.bl _=>true
 |.int _=>true
 |.str _=>true
 |_=>false
noncomputable def eqV:V->V->Bool
 |.non,.non=>true
 |.bl a,.bl b=>a==b
 |.bl a,.int b=>(if a then 1 else 0)==b
 |.int a,.bl b=>a==(if b then 1 else 0)
 |.int a,.int b=>a==b
 |.str a,.str b=>a==b
 |_,_=>false
theorem aBH {A:Around}{s:Shared}{y x:V}{u v:Value}(ry:bM y u)(rx:bM x v)(fy:aB1 y=true)(fx:aB1 x=true):SeqAt.EqAt A s u v (eqV y x):=by
 cases y with
 |non =>
  cases ry;cases x with
  |non=>cases rx;exact SeqAt.EqAt.same _
  |bl b=>cases rx;exact SeqAt.EqAt.none_bool b
  |int b=>obtain⟨t,rfl⟩:=rx;exact SeqAt.EqAt.none_int b t
  |str b=>obtain⟨t,rfl⟩:=rx;exact SeqAt.EqAt.none_str b t
  |_=>exact absurd (show false=true from fx) Bool.false_ne_true
 |bl a =>
  cases ry;cases x with
  |non=>cases rx;exact SeqAt.EqAt.bool_none a
  |bl b=>cases rx;exact SeqAt.EqAt.bool_bool a b
  |int b=>obtain⟨t,rfl⟩:=rx;exact SeqAt.EqAt.bool_int a b t
  |str b=>obtain⟨t,rfl⟩:=rx;exact SeqAt.EqAt.bool_str a b t
  |_=>exact absurd (show false=true from fx) Bool.false_ne_true
 |int a =>
  obtain⟨t',rfl⟩:=ry;cases x with
  |non=>cases rx;exact SeqAt.EqAt.int_none a t'
  |bl b=>cases rx;exact SeqAt.EqAt.int_bool a t' b
  |int b=>obtain⟨t,rfl⟩:=rx;exact SeqAt.EqAt.int_int a t' b t
  |str b=>obtain⟨t,rfl⟩:=rx;exact SeqAt.EqAt.int_str a t' b t
  |_=>exact absurd (show false=true from fx) Bool.false_ne_true
 |str a =>
  obtain⟨t',rfl⟩:=ry;cases x with
  |non=>cases rx;exact SeqAt.EqAt.str_none a t'
  |bl b=>cases rx;exact SeqAt.EqAt.str_bool a t' b
  |int b=>obtain⟨t,rfl⟩:=rx;exact SeqAt.EqAt.str_int a t' b t
  |str b=>obtain⟨t,rfl⟩:=rx;exact SeqAt.EqAt.str_str a t' b t
  |_=>exact absurd (show false=true from fx) Bool.false_ne_true
 |_=>exact absurd (show false=true from fy) Bool.false_ne_true
theorem tN:jQ X (.builtin "len") (λxs H Q=>∃p ys,xs=[.ref p]/\(SqL X.K H p ys∨SqT X.K H p ys)/\Q (.int ys.length) H):=by
 intro pins s σ H xs us Q I r h;obtain⟨p,ys,rfl,hq,q⟩:=h;obtain⟨u,rfl,rx⟩:=sI r;cases rx;have hn:=tT;rcases hq with hq|hq
 ·obtain⟨its,r',pl,hz⟩:=I.list hq;have hlen:=r'.length;exact Calls.call_len_list pl.isList (by simp only[size_toArray]<;>omega) ⟨.int ys.length,H,I.tok _,⟨s.toks+1,by rw[size_toArray,hlen]⟩,q⟩
 ·obtain⟨its,r',pl,hz⟩:=I.tuple hq;have hlen:=r'.length;exact len_tuple pl (by simp only[size_toArray]<;>omega) ⟨.int ys.length,H,I.tok _,⟨s.toks+1,by rw[size_toArray,hlen]⟩,q⟩
theorem rW:jQ X (.type "tuple") (λxs H Q=>∃p ys,xs=[.ref p]/\((SqL X.K H p ys/\∀l,H l=none->Q (.ref l) (upd H l (.tup ys)))∨(SqT X.K H p ys/\Q (.ref p) H))):=by
 intro pins s σ H xs us Q I r h;obtain⟨p,ys,rfl,h⟩:=h;obtain⟨u,rfl,rx⟩:=sI r;cases rx;rcases h with⟨hq,q⟩|⟨hq,q⟩
 ·obtain⟨its,r',pl,hz⟩:=I.list hq;have hlen:=r'.length;refine call_tuple_list pl.isList (λh' kp=>?_) (by simp only[size_toArray]<;>omega);have I1:Inv X pins σ H { s with heap:=h' }:=I.kept (t':=s.toks) kp;have I2:Inv X pins σ (upd H h'.objs.size (.tup ys)) { s with heap:=h'.push { cls:=.type "tuple",data:=.seq its.toArray } } :=
   I1.laid (t':=s.toks) (λb o e=>Heap.get?_push_of_some _ e) (Nat.le_refl _) (show eC X.prog X.w _ _ _ (.tup ys) from⟨hz,its,r',IsTup.new _ _⟩)
  exact⟨.ref h'.objs.size,_,I2,rfl,q _ (I1.hok.fresh (Nat.le_refl _))⟩
 ·obtain⟨its,r',pl,hz⟩:=I.tuple hq;exact call_tuple_same pl ⟨.ref p,H,I,rfl,q⟩
def tyV (K:Frag)(T:String)(x:V)(H:Hp):Prop:=match x with
 |.str _=>T = "str"
 |.int _=>T = "int"
 |.ref p=>(T = "list"/\∃xs,SqL K H p xs)∨(T = "tuple"/\∃o,K.lookup p = some o/\o.cls = .type "tuple"/\o.dict=none) ∨
   (T = "dict"/\((∃kvs,H p = some (.dK kvs)) ∨ ∃kvs,H p = some (.dT kvs)))∨(T = "set"/\∃S n,H p=some (.set S n))
 |_=>False
theorem aFS {pins:List (Addr×Obj)}{σ:St}{H:Hp}{s:Shared}{T:String}{x:V}{v:Value}(I:Inv X pins σ H s)(r:bM x v)(ty:tyV X.K T x H) :
  s.TypeIs v T/\∀a,v=.ref a->∃ob,s.heap.get? a=some ob/\ob.dict=none:=by
 cases x with
 |str z =>
  obtain⟨t,rfl⟩:=r;cases (show T = "str" from ty);exact⟨typeIs_str s z t,λ_ e=>nomatch e⟩
 |int i =>
  obtain⟨t,rfl⟩:=r;cases (show T = "int" from ty);exact⟨typeIs_int s i t,λ_ e=>nomatch e⟩
 |ref p =>
  cases r;rcases ty with⟨rfl,xs,hq⟩|⟨rfl,o,hk,hc,hd⟩|⟨rfl,hk⟩|⟨rfl,S,n,hk⟩
  ·obtain⟨its,_,pl,_⟩:=I.list hq;refine⟨pl.isList.typeIs,λa e=>?_⟩;cases e;obtain⟨o,n,e,c,hd,_⟩:=pl;exact⟨o,e,hd⟩
  ·refine⟨⟨o,I.kIn p o hk,hc⟩,λa e=>?_⟩;cases e;exact⟨o,I.kIn _ o hk,hd⟩
  ·have z:∃o,s.heap.get? p=some o/\o.ExactDict:=by
    rcases hk with⟨kvs,hk⟩|⟨kvs,hk⟩
    ·obtain⟨_,_,_,_,o,_,_,e,ex,_⟩:=I.hok p _ hk;exact⟨o,e,ex⟩
    ·obtain⟨_,_,_,_,o,_,_,e,ex,_⟩:=I.hok p _ hk;exact⟨o,e,ex⟩
   obtain⟨o,e,ex⟩:=z;refine⟨⟨o,e,ex.1⟩,λa e2=>?_⟩;cases e2;exact⟨o,e,ex.2.1⟩
  ·obtain⟨o,_,_,_,e,ex,_⟩:=I.hok p _ hk;refine⟨⟨o,e,ex.1⟩,λa e2=>?_⟩;cases e2;exact⟨o,e,ex.2.1⟩
 |_=>exact False.elim ty
def tBM (K:Frag)(T:String)(r:V->List V->Hp->VK->Prop)(to:TE)(t:TA):TE:=λσ H Q=>to σ H λx H1=>tyV K T x H1/\t σ H1 λxs H2=>r x xs H2 Q
variable {o e:Expr}{es:List Expr}{to:TE}{t:TA}{name:Str}{apos cpos:Pos}{T id:String}{r:V->List V->Hp->VK->Prop}
theorem aHB (pa:PlainAttrs T)(slot:Slot T name id)(hty:typeOf (.builtin id) = pure (.type "method_descriptor"))(hm:MtR X id r)(ho:PE X o to)(ha:PA X (e::es) t)(hbase:attributeBase o name X.env (eval o X.env)=eval o X.env:=by rfl)(hfew:((backTo cpos (starEach (e::es) X.env)).all (λx=>!x.1)&&(backToKw cpos (keywordEach [] X.env)).all (λx=>x.1.isSome)
  &&decide ((e::es).length+([]:List Keyword).length+(if ([]:List Keyword).isEmpty then 0 else 1)<30))=true:=by rfl)(hline:(apos.endLine==cpos.line)=true:=by rfl)(hs:starEach (e::es) X.env=(false,eval e X.env)::starEach es X.env:=by rfl)(hplain:(backTo cpos (starEach es X.env)).any (·.1)=false:=by rfl) :
  PE X (.Call (.Attribute o name apos) (e::es) [] cpos) (tBM X.K T r to t):=by
 intro pins s σ H Q I h;refine wpAny_Call_method_late hbase hfew hline rfl (thn (ho pins s σ H _ I h) λv s1 ⟨x,H1,I1,r1,ty,q1⟩=>?_);obtain⟨h1,h2⟩:=aFS I1 r1 ty;refine⟨T,id,pa,slot,hty,h1,h2,?_⟩;have hA:=ha cpos pins s1 σ H1 _ I1 q1;rw[hs] at hA ⊢;refine Calls.callWith_builtin (by show(false||(backTo cpos (starEach es X.env)).any (·.1))=false;rw[hplain]<;>rfl) (Calls.evalArgs_plain ?_);exact thn hA λus s2 ⟨vs,H2,I2,r2,q2⟩=>hm pins s2 σ H2 x vs v us Q I2 r1 r2 q2
end
def MtM (X:Cx)(id:String)(r:V->List V->Hp->VK->Prop):Prop :=
 ∀(pins:List (Addr×Obj)) (s:Shared) (σ:St) (H:Hp) (x:V) (xs:List V) (v:Value) (us:List Value) (Q:VK),Inv X pins σ H s->bM x v->bN xs us->r x xs H Q ->
  wpAny (model X.prog X.w) X.A (call (.builtin id) (v::us)) (EP X pins σ Q) X.xe s
theorem bN.one:∀{x:V}{us:List Value},bN [x] us->∃u,us=[u]/\bM x u
 |_,_,.cons r .nil=>⟨_,rfl,r⟩
theorem bN.two:∀{x y:V}{us:List Value},bN [x,y] us->∃u v,us=[u,v]/\bM x u/\bM y v
 |_,_,_,.cons r (.cons q .nil)=>⟨_,_,rfl,r,q⟩
section
variable {X:Cx}{pins:List (Addr×Obj)}{σ:St}{H:Hp}{s:Shared}{l b:Addr}{xs ys zs:List V}
theorem Inv.lset {its its':List Value}{n:Nat}{f:Array Value->Array Value}{t':Nat}(I:Inv X pins σ H s)(hH:H l=some (.lst xs))(e:s.heap.get? l = some { cls:=.type "list",data:=.seq its.toArray n })(hf:f its.toArray=its'.toArray)(hv:bN ys its')(hz:ys.length<=sizeLine) :
  Inv X pins σ (upd H l (.lst ys)) { s with heap:=s.heap.update l (Obj.mapSeq f),toks:=t' }:=by
 have q:=PySem.IsL.update e f;rw[hf] at q;refine I.write (x:=l) (e:=l) (by rw[hH];exact trivial) (.inl rfl) (λb' u hb hu=>(Heap.get?_update_other s.heap (Obj.mapSeq f) (Ne.symm hb)).trans hu) ⟨_,q⟩ ?_;exact⟨hz,its',_,hv,q⟩
theorem Inv.lnew {its:List Value}{t':Nat}(I:Inv X pins σ H s)(hv:bN ys its)(hz:ys.length<=sizeLine) :
  Inv X pins σ (upd H s.heap.objs.size (.lst ys)) { s with heap:=s.heap.push { cls:=.type "list",data:=.seq its.toArray },toks:=t' } :=
 I.laid (λ_ _ q=>Heap.get?_push_of_some _ q) (Nat.le_refl _) ⟨hz,its,0,hv,Heap.get?_push_size _ rfl⟩
theorem Inv.fresh (I:Inv X pins σ H s):H s.heap.objs.size=none:=I.hok.fresh (Nat.le_refl _)
theorem Inv.lstM (I:Inv X pins σ H s)(hH:H l = some (.lst xs)):xs.length<=sizeLine/\∃(its:List Value)(n:Nat),bN xs its/\xs.length = its.length/\s.heap.get? l = some { cls:=.type "list",data:=.seq its.toArray n }:=by obtain⟨z,its,n,r,e⟩:=I.hok l _ hH;exact⟨z,its,n,r,r.length,e⟩
end
section
variable {X:Cx}
def aCJ:V->List V->Hp->VK->Prop:=λx vs H Q=>∃l xs y,x=.ref l/\vs=[y]/\H l=some (.lst xs)/\xs.length<sizeLine/\Q .non (upd H l (.lst (xs++[y])))
theorem zY:MtM X "list.append" aCJ:=by intro pins s σ H x vs v us Q I rx rv h;obtain⟨l,xs,y,rfl,rfl,hH,hz,q⟩:=h;cases rx;obtain⟨u,rfl,ru⟩:=rv.one;obtain⟨z,its,n,r,hl,e⟩:=I.lstM hH;refine call_meets F.slot_list_append ⟨_,e,rfl⟩ F.entry_list_append (F.args_list_append_2 _ _) (PySem.list_append l its.toArray n u (by rw[size_toArray];omega)) ⟨e,?_⟩;refine⟨.non,_,I.lset (its':=its++[u]) hH e (by simp) (r.append (.cons ru .nil)) ?_,rfl,q⟩;rw[length_append,List.length_singleton];omega
def aJa:R2:=λx y H Q=>∃l b xs zs,x=.ref l/\y=.ref b/\H l=some (.lst xs)/\H b=some (.lst zs)/\xs.length+zs.length<=sizeLine/\∀p,H p=none->Q (.ref p) (upd H p (.lst (xs++zs)))
theorem aE3:OpR X (binaryOp .Add) aJa:=by
 intro pins s σ H x y v u Q I rx ry h;obtain⟨l,b,xs,zs,rfl,rfl,hH,hB,hz,q⟩:=h;cases rx;cases ry;obtain⟨z,its,n,r,hl,e⟩:=I.lstM hH;obtain⟨z2,its2,n2,r2,hl2,e2⟩:=I.lstM hB;refine PySem.P.add_list e e2 ?_ (by rw[size_toArray,size_toArray];omega);have ea:its.toArray++its2.toArray=(its++its2).toArray:=by simp
 rw[ea];exact⟨.ref _,_,I.lnew (t':=s.toks) (r.append r2) (by rw[length_append];omega),rfl,q _ I.fresh⟩
end
section
variable {prog:Program}{w:World}{A:Around}{E:Value->Shared->Prop}{s:Shared}
end
section
variable {X:Cx}
end
end L2
namespace Att
open PySem PySem.W PySem.Calls PyProof.Rows
theorem oW {P:Params}{h:Heap}:∀(ns:List Int)(vs:List Value),WellAll P h vs (ns.map WData.int)->IntsAre vs ns:=by
 intro ns
 induction ns with
 |nil =>
  intro vs w;rw[List.map_nil] at w;cases w;exact .nil
 |cons n ns ih =>
  intro vs w;rw[map_cons] at w;cases w with
  |cons a b =>
   cases a;exact .cons _ _ (ih _ b)
theorem aAr {l:OpenLaw}{n:Nat}(hn:l.most=some n){P:Params}{h:Heap}{args:List WData}{vals:List Value}(hpre:l.row.toRowW.claim.pre args=true)(hwl:WellAll P h vals args) :
  ∃a vs ns,vals = [Value.ref a]/\args = [WData.list (ns.map WData.int)]/\h.get? a = some { cls:=.type "list",data:=.seq vs.toArray }/\IntsAre vs ns/\ns.length<=n:=by
 have hsh:WShape.hasAll [] args [.list .int]=true:=(pre_splitW hpre).1;have hc:l.pre.holds [] { args:=args }=true:=(pre_splitW hpre).2;obtain⟨d,r,rfl,h1,h2⟩:=hasAllW_cons hsh;obtain rfl:=hasAllW_nil h2;obtain⟨xs,rfl,h3⟩:=hasW_list h1;obtain⟨ns,rfl⟩:=items_int h3;have hlen:ns.length<=n:=by
  unfold OpenLaw.pre at hc;have h4:(WTm.not (.lt (.lit (.int (n:Int))) (.len (.arg 0)))).holds [] { args:=[.list (ns.map .int)] }=true:=by have h4:=(holds_andW hc).1;rw[hn] at h4;exact h4
  have h5:=condW_of h4 (w_not (w_lt w_lit (w_len_list (w_arg rfl))));rw[length_map] at h5;refine Nat.le_of_not_lt λq=>?_;have q':(n:Int)<((ns.length:Nat):Int):=by omega
  first
   |(rw[decide_eq_true q'] at h5;exact absurd h5 (by decide))
   |(simp at h5;omega)
 cases hwl with
 |cons w1 w2 =>
  cases w2;cases w1 with
  |list ho hall=>exact⟨_,_,ns,rfl,rfl,ho,oW ns _ hall,hlen⟩
theorem zT (l:OpenLaw)(args:List WData):l.row.toRowW.claim.post args (.bool true) args=true :=
 postW_of (r:=l.row.toRowW) (X:=(true==true))
  (show WShape.has [] (.bool true) .bool=true by first|rfl|decide|simp[WShape.has,WShape.arms,WShape.armsAll])
  (show(WTm.eq .res (.lit (.bool true))).value [] { args:=args,res:=some (.bool true),after:=args }=some (.bool (true==true)) from w_eq_bool (w_res rfl) w_lit) rfl
theorem attach_call {l:OpenLaw}{n:Nat}{q:Program}{loose:List Str}{XP:(Str->Option Value)->Heap->Prop}{YP:World->Heap->Prop}{d:DefRec}(hn:l.most=some n)(hdf:d.params.defaults=[])(call:∀(w:World)(s₀ s₁:Shared) (mg mb:Str->Option Value) (fa:Addr) (o:Obj) (pm cd doc:Value) (a:Addr) (vs:List Value) (ns:List Int),
   Ground q loose [] XP w s₀ mg mb s₁.heap->YP w s₁.heap ->
   s₁.heap.get? fa=some o->o.data=.func (docDef d.name d.params d.body d.scope pm cd doc)->s₁.heap.CodeRec cd d.name->mg d.name=some (.ref fa) ->
   s₁.heap.get? a = some { cls:=.type "list",data:=.seq vs.toArray }->IntsAre vs ns->ns.length<=n->s₁.gens=#[] ->
   codeAny (model l.prog w) callerA (.call (.ref fa) ⟨[.ref a],[]⟩) (λr s'=>r=.ok (.ret (.bool true))/\OldK s₁.heap s'.heap/\s'.os=s₁.os/\AllBare s'.gens) s₁) :
  WalkO q loose XP YP l.row.toRowW d [] (λf vs=>PySem.call f vs):=by
 intro w s₀ s₁ mg mb G Y fa o pm cd doc dV kV ho hd hcd hD hmg hg args vals as hpre hlay hrd hwl hlo;obtain rfl:dV=.none:=Dflts.none hD hdf;obtain rfl:kV=.none:=Dflts.noKw hD;obtain⟨a,vs,ns,rfl,rfl,hobj,hints,hlen⟩:=aAr hn hpre hwl;refine enter_call (codeAny_mono (call w s₀ s₁ mg mb fa o pm cd doc a vs ns G Y ho (fd_plain hd) hcd hmg hobj hints hlen hg) λr s' hq=>?_);obtain⟨rfl,h2,h3,h4⟩:=hq;exact⟨.inl ⟨.bool true,.bool true,[],rfl,λ_=>rfl,.bool true,zT l _,λ_=>⟨List.Pairwise.nil,λ_ hm=>(nomatch hm)⟩⟩,h2,h3,h4⟩
section
variable {prog:Program}{w:World}{A:Around}{E:Value->Shared->Prop}{s:Shared}{K:Frag}
end
end Att
namespace L2
open PySem PySem.Spec PyProof.Rows
theorem nK:∀{vs:List Value}{ns:List Int},IntsAre vs ns->bN (ns.map V.int) vs
 |_,_,.nil=>.nil
 |_,_,.cons n t h=>.cons ⟨t,rfl⟩ (nK h)
def aFR (H:Hp):Prop:=∀b,H b=none ∨ ∃o xs,H b=some (.frz o (.lst xs))
theorem aB2 {P:Program}{w:World}{K:Frag}{mg mb:Str->Option Value}{CX:CXT}{k:Nat}{fa a:Addr}{fd:FuncData}{x:Str}{sp:Sp}{s₁:Shared}{vs:List Value}{ns:List Int}(KX:K.In s₁.heap)(hns:s₁.heap.Ns mainGlobals mg)(hb:s₁.heap.Ns builtinsNs mb)(hbb:∀x:Str,x ≠ "__name__"->mb x=bootBuiltins x)(hlim:s₁.heap.NoLimit)(hg:s₁.gens=#[])(ha:s₁.heap.get? a = some { cls:=.type "list",data:=.seq vs.toArray })(hi:IntsAre vs ns)(hl:ns.length<=sizeLine)(hr:cM k callerA)(F:∀base:Heap,K.In base->base.Ns mainGlobals mg->iM P w K mg base CX k fa fd [x] sp)(hbind:∀(s:Shared)(u:Value),BindsTo s fd ⟨[u],[]⟩ [(x,u)])(hsp:∀H:Hp,aFR H->SqL K H a (ns.map V.int)->sp [.ref a] H (λv _=>v=.bl true) λ_ _ _=>False)(hCX:∀H e s',CX [] H s₁ (λ_ _ _=>False) e s'->False) :
  codeAny (model P w) callerA (.call (.ref fa) ⟨[.ref a],[]⟩) (λr s'=>r=.ok (.ret (.bool true))/\OldK s₁.heap s'.heap/\s'.os=s₁.os/\AllBare s'.gens) s₁:=by
 have rv:=nK hi;have lenV:=hi.length;have core:∀H:Hp,aFR H->SqL K H a (ns.map V.int)->HOk P w H s₁.heap->(∀b,H b≠none->b=a)->(H a≠none->K.lookup a=none) ->
   codeAny (model P w) callerA (.call (.ref fa) ⟨[.ref a],[]⟩) (λr s'=>r=.ok (.ret (.bool true))/\OldK s₁.heap s'.heap/\s'.os=s₁.os/\AllBare s'.gens) s₁:=by
  intro H hO hS hok hA hK;have base_of:∀{b:Addr}{o:Obj},s₁.heap.get? b=some o->H b=none->(uK s₁.heap H).get? b=some o:=λe n=>aBq e n;have noA:∀{b:Addr}{o:Obj} {es:Array DictEntry} {ep:Nat},s₁.heap.get? b=some o->o.data=.dict es ep->H b=none:=λ{b o es ep} e d=>by
   cases q:H b with
   |none=>rfl
   |some u =>
    have e':b=a:=hA b (by rw[q];simp);subst e';rw[ha] at e;cases e;have d':Data.seq vs.toArray _=Data.dict es ep:=d;cases d'
  have nsK:∀{b:Addr}{m:Str->Option Value},s₁.heap.Ns b m->(uK s₁.heap H).Ns b m:=λ{b m} ⟨o,es,ep,e,d,r⟩=>⟨o,es,ep,base_of e (noA e d),d,r⟩;have hKb:K.In (uK s₁.heap H):=λb o e=>base_of (KX b o e) (by
   cases q:H b with
   |none=>rfl
   |some u =>
    have e':b=a:=hA b (by rw[q];simp);subst e';rw[hK (by rw[q];simp)] at e;cases e)
  have hM:Mod K mg (uK s₁.heap H):=⟨hKb,nsK hns,⟨mb,nsK hb,hbb⟩,let ⟨mc,h1,h2⟩:=hlim;⟨mc,nsK h1,h2⟩⟩;have e0:xK P w K mg (uK s₁.heap H) callerA [] s₁ H:=⟨rfl,hM,λb o e=>aCL e,Nat.le_of_eq (zX _ _),trivial,λb hb=>absurd (show b∈([]:List Addr) from hb) (by simp),hok,.of_eq hg⟩;refine codeAny_mono ((F _ hKb (nsK hns)).run callerA [] s₁ H ⟨[.ref a],[]⟩ [.ref a] [.ref a] _ _ hr e0 (hbind s₁ (.ref a)) (.cons rfl .nil) (hsp H hO hS)) λr s' h=>?_;cases r with
  |error e=>exact(hCX H e s' h).elim
  |ok fl =>
   cases fl with
   |next=>exact False.elim h
   |brk=>exact False.elim h
   |cont=>exact False.elim h
   |ret u =>
    obtain⟨v,H',os,bare,un,hok',r',q⟩:=h;have q':v=.bl true:=q;subst q';obtain rfl:u=Value.bool true:=r';refine⟨rfl,OldK.of_keep λb o e=>?_,os,bare⟩;cases q:H b with
    |none=>exact un.keep b o e q (by intro z;exact absurd (show b∈([]:List Addr) from z) (by simp)) (by simp)
    |some u =>
     rcases hO b with z|⟨ob,xs,z⟩
     ·rw[q] at z;cases z
     ·have z2:=un.frzs b ob _ z;obtain⟨e1,_⟩:=hok b _ z;obtain⟨e2,_⟩:=hok' b _ z2;rw[e] at e1;cases e1;exact e2
 cases hk:K.lookup a with
 |some o =>
  have e:=KX a o hk;rw[ha] at e;cases e;refine core (λ_=>none) (λ_=>.inl rfl) (.inr ⟨_,vs.toArray,_,hk,rfl,rfl,rfl,by rw[size_toArray,lenV];exact hl,by simpa using rv⟩) (λb u z=>by have z':(none:Option HO)=some u:=z;cases z') (λb z=>absurd rfl z) λz=>absurd rfl z
 |none =>
  refine core (λb=>if b = a then some (.frz { cls:=.type "list",data:=.seq vs.toArray } (.lst (ns.map V.int))) else none) (λb=>?_) (.inl (.inr ⟨{ cls:=.type "list",data:=.seq vs.toArray },if_pos rfl⟩)) (λb u z=>?_) (λb z=>?_) λ_=>hk
  ·by_cases hb:b=a
   ·exact .inr ⟨_,_,if_pos hb⟩
   ·exact .inl (if_neg hb)
  ·by_cases hb:b=a
   ·have z':=(if_pos hb).symm.trans z;cases z';subst hb;exact⟨ha,by rw[length_map];exact hl,vs,_,rv,ha⟩
   ·have z':=(if_neg hb).symm.trans z;cases z'
  ·by_cases hb:b=a
   ·exact hb
   ·exact absurd (if_neg hb) z
noncomputable def jE (s:Stmt):Arguments:=match s with
 |.FunctionDef _ a _ _ _ _ _ _ _ _=>a
 |_=>{ posonlyargs:=[],args:=[],vararg:=none,kwonlyargs:=[],kw_defaults:=[],kwarg:=none,defaults:=[] }
noncomputable def dI (s:Stmt):List Stmt:=match s with
 |.FunctionDef _ _ b _ _ _ _ _ _ _=>b
 |_=>[]
noncomputable def aI (s:Stmt):Scope:=match s with
 |.FunctionDef _ _ _ _ _ _ sc _ _ _=>sc
 |_=>{ kind:=.function,names:=[],isGenerator:=false,isCoroutine:=false }
noncomputable abbrev CX0:CXT:=λ_ _ _ _ _ _=>False
noncomputable abbrev E0:XK:=λ_ _ _=>False
theorem aCf {X:Cx}:lR CX0 X E0:=λ_ _ _ _ _ _ _ h=>h.elim
structure Fun (K:Frag)(x qual:Str)(st:Stmt)(f:Addr)(fd:FuncData):Prop where
 ex:∃(oc:Value)(od:Option Addr) (kV doc pm:Value) (an:Option Addr) (cdv ct:Value) (osl:Array (Option Value)),
  fd=fnOf x qual (jE st) (dI st) (aI st) .none kV doc pm an cdv ct/\K.lookup f=some ⟨oc,od,.func fd,osl⟩/\codeIn K cdv qual=true
 kp:keepIn K (.ref f)=true
section
variable {P:Program}{w:World}{K:Frag}{mg:Str->Option Value}{base:Heap}
theorem Fun.ok {x qual:Str}{st:Stmt}{f:Addr}{fd:FuncData}{N ps:List Str}{k:Nat}{sp:Sp}(F:Fun K x qual st f fd)(S:aQ N ps (aI st))(len:∀vs H Q E,sp vs H Q E->vs.length=ps.length)(hbody:∀(cdv:Value)(A:Around) (outer:List Env) (s:Shared) (H:Hp) (vs:List V) (Q:VK) (E:XK),cM k (A.deeper (envOfC qual (aI st) s.heap.objs.size f cdv))->sp vs H Q E ->
   ∃t,PSs (nZ CX0 P w K mg base N qual (aI st) f cdv A outer s H E).nox (dI st) t/\t { nx:=λ_ H'=>Q .non H',rt:=Q } (start N vs) H):iM P w K mg base CX0 (k+1) f fd ps sp:=by
 obtain⟨oc,od,kV,doc,pm,an,cdv,ct,osl,rfl,lk,hcd⟩:=F.ex;refine aHY lk hcd S len λA outer s H vs Q E hr hsp=>?_;obtain⟨t,h,q⟩:=hbody cdv A outer s H vs Q E hr hsp;exact⟨t,h.nox,q⟩
theorem Fun.binds {x qual:Str}{st:Stmt}{f:Addr}{fd:FuncData}{ps:List Str}(F:Fun K x qual st f fd)(h:∀(kV doc pm:Value)(an:Option Addr) (cdv ct:Value) (us:List Value),us.length=ps.length->bindArgs (fnOf x qual (jE st) (dI st) (aI st) .none kV doc pm an cdv ct) ⟨us,[]⟩=pure (ps.zip us)):hX K fd ps []:=by obtain⟨oc,od,kV,doc,pm,an,cdv,ct,osl,rfl,lk,hcd⟩:=F.ex;exact .all (h kV doc pm an cdv ct)
theorem fun_mk {x qual:Str}{st:Stmt}{f:Addr}{oc:Value}{od an:Option Addr}{osl:Array (Option Value)}{kV doc pm cdv ct:Value}(l:K.lookup f=some ⟨oc,od,.func (fnOf x qual (jE st) (dI st) (aI st) .none kV doc pm an cdv ct),osl⟩)(c:codeIn K cdv qual=true)(k:keepIn K (.ref f)=true):Fun K x qual st f (fnOf x qual (jE st) (dI st) (aI st) .none kV doc pm an cdv ct):=⟨⟨oc,od,kV,doc,pm,an,cdv,ct,osl,rfl,l,c⟩,k⟩
end
theorem dG {n:Nat}(h:n<=1000):n<sizeLine:=Nat.lt_of_le_of_lt h (by decide)
section
variable {X:Cx}
end
def aDg (H H':Hp):Prop:=∀b o,H b=some o->H' b=some o
theorem aDg.trans {H H1 H2:Hp}(a:aDg H H1)(b:aDg H1 H2):aDg H H2:=λc o h=>b c o (a c o h)
end L2
set_option maxHeartbeats 4000000
namespace Dd
open PySem PySem.Spec PyProof.Rows L2
inductive D where
 |non|bl (b:Bool)|int (i:Int)|str (x:Str)|tup (xs:List D)|fz (xs:List D)|ref (a:Addr)
def SqX (K:Frag)(H:Hp)(a:Addr)(xs:List V):Prop :=
 (∃o,H a=some (.frz o (.lst xs))) ∨
 ∃(its:Array Value)(n:Nat),K.lookup a = some { cls:=.type "list",data:=.seq its n }/\its.size<=sizeLine/\bN xs its.toList
theorem SqX.sq {K:Frag}{H:Hp}{a:Addr}{xs:List V}(h:SqX K H a xs):SqL K H a xs:=by
 rcases h with⟨o,h⟩|⟨its,n,h,z,r⟩
 ·exact .inl (.inr ⟨o,h⟩)
 ·exact .inr ⟨_,its,n,h,rfl,rfl,rfl,z,r⟩
mutual
def Rep (K:Frag)(H:Hp):D->V->Prop
 |.non,v=>v=.non
 |.bl b,v=>v=.bl b
 |.int i,v=>v=.int i
 |.str x,v=>v=.str x
 |.ref a,v=>v=.ref a
 |.tup ds,v=>∃a xs,v=.ref a/\SqT K H a xs/\bG K H ds xs
 |.fz ds,v=>∃a xs,v=.ref a/\SqX K H a xs/\bG K H ds xs
def bG (K:Frag)(H:Hp):List D->List V->Prop
 |[],vs=>vs=[]
 |d::ds,vs=>∃v r,vs=v::r/\Rep K H d v/\bG K H ds r
end
structure Ext (H H':Hp):Prop where
 tup:∀a xs,H a=some (.tup xs)->H' a=some (.tup xs)
 frz:∀a o u,H a=some (.frz o u)->H' a=some (.frz o u)
theorem Ext.refl (H:Hp):Ext H H:=⟨λ_ _ h=>h,λ_ _ _ h=>h⟩
theorem Ext.trans {H H1 H2:Hp}(a:Ext H H1)(b:Ext H1 H2):Ext H H2:=⟨λc xs h=>b.tup c xs (a.tup c xs h),λc o u h=>b.frz c o u (a.frz c o u h)⟩
theorem Ext.new {H:Hp}{p:Addr}(h:H p=none)(o:HO):Ext H (upd H p o) :=
 ⟨λa xs e=>by rw[aS (bB e h)];exact e,λa ob u e=>by rw[aS (bB e h)];exact e⟩
theorem Ext.put {H:Hp}{p:Addr}{xs:List V}(h:H p=some (.lst xs))(o:HO):Ext H (upd H p o) :=
 ⟨λa ys e=>by rw[aS (jP e h (by intro z;cases z))];exact e,λa ob u e=>by rw[aS (jP e h (by intro z;cases z))];exact e⟩
section
variable {K:Frag}{H H':Hp}
theorem qA (e:Ext H H'){a:Addr}{xs:List V}(h:SqT K H a xs):SqT K H' a xs:=by
 rcases h with(h|⟨o,h⟩)|h
 ·exact .inl (.inl (e.tup _ _ h))
 ·exact .inl (.inr ⟨o,e.frz _ _ _ h⟩)
 ·exact .inr h
theorem jF (e:Ext H H'){a:Addr}{xs:List V}(h:SqX K H a xs):SqX K H' a xs:=by
 rcases h with⟨o,h⟩|h
 ·exact .inl ⟨o,e.frz _ _ _ h⟩
 ·exact .inr h
mutual
theorem Rep.ext (e:Ext H H'):∀{d:D}{v:V},Rep K H d v->Rep K H' d v
 |.non,_,h=>by unfold Rep at h ⊢;exact h
 |.bl _,_,h=>by unfold Rep at h ⊢;exact h
 |.int _,_,h=>by unfold Rep at h ⊢;exact h
 |.str _,_,h=>by unfold Rep at h ⊢;exact h
 |.ref _,_,h=>by unfold Rep at h ⊢;exact h
 |.tup ds,_,h=>by unfold Rep at h ⊢;obtain⟨a,xs,e1,sq,r⟩:=h;exact⟨a,xs,e1,qA e sq,bG.ext e r⟩
 |.fz ds,_,h=>by unfold Rep at h ⊢;obtain⟨a,xs,e1,sq,r⟩:=h;exact⟨a,xs,e1,jF e sq,bG.ext e r⟩
theorem bG.ext (e:Ext H H'):∀{ds:List D}{vs:List V},bG K H ds vs->bG K H' ds vs
 |[],_,h=>by unfold bG at h ⊢;exact h
 |d::ds,_,h=>by unfold bG at h ⊢;obtain⟨v,r,e1,hv,hr⟩:=h;exact⟨v,r,e1,Rep.ext e hv,bG.ext e hr⟩
end
theorem cN {i:Int}:Rep K H (.int i) (.int i):=by unfold Rep;rfl
theorem dH {b:Bool}:Rep K H (.bl b) (.bl b):=by unfold Rep;rfl
theorem aCK {x:Str}:Rep K H (.str x) (.str x):=by unfold Rep;rfl
theorem zJ:Rep K H .non .non:=by unfold Rep;rfl
theorem eJ {a:Addr}:Rep K H (.ref a) (.ref a):=by unfold Rep;rfl
theorem aW {i:Int}{v:V}(h:Rep K H (.int i) v):v=.int i:=by unfold Rep at h;exact h
theorem bS {b:Bool}{v:V}(h:Rep K H (.bl b) v):v=.bl b:=by unfold Rep at h;exact h
theorem cV {x:Str}{v:V}(h:Rep K H (.str x) v):v=.str x:=by unfold Rep at h;exact h
theorem cW {v:V}(h:Rep K H .non v):v=.non:=by unfold Rep at h;exact h
theorem aO {a:Addr}{v:V}(h:Rep K H (.ref a) v):v=.ref a:=by unfold Rep at h;exact h
theorem bF {ds:List D}{v:V}(h:Rep K H (.tup ds) v):∃a xs,v=.ref a/\SqT K H a xs/\bG K H ds xs:=by unfold Rep at h;exact h
theorem lZ {ds:List D}{v:V}(h:Rep K H (.fz ds) v):∃a xs,v=.ref a/\SqX K H a xs/\bG K H ds xs:=by unfold Rep at h;exact h
theorem dF {ds:List D}{a:Addr}{xs:List V}(sq:SqT K H a xs)(r:bG K H ds xs):Rep K H (.tup ds) (.ref a):=by unfold Rep;exact⟨a,xs,rfl,sq,r⟩
theorem cP:bG K H [] []:=by unfold bG;rfl
theorem bE {vs:List V}(h:bG K H [] vs):vs=[]:=by unfold bG at h;exact h
theorem cF {d:D}{ds:List D}{v:V}{vs:List V}(h:Rep K H d v)(r:bG K H ds vs):bG K H (d::ds) (v::vs):=by unfold bG;exact⟨v,vs,rfl,h,r⟩
theorem aR {d:D}{ds:List D}{vs:List V}(h:bG K H (d::ds) vs):∃v r,vs=v::r/\Rep K H d v/\bG K H ds r:=by unfold bG at h;exact h
theorem bG.length:∀{ds:List D}{vs:List V},bG K H ds vs->ds.length=vs.length
 |[],_,h=>by rw[bE h];rfl
 |d::ds,_,h=>by obtain⟨v,r,rfl,_,hr⟩:=aR h;rw[length_cons,length_cons,bG.length hr]
theorem bG.get:∀{ds:List D}{vs:List V} {i:Nat} {d:D},bG K H ds vs->ds[i]?=some d->∃v,vs[i]?=some v/\Rep K H d v
 |[],_,i,d,h,e=>by simp at e
 |d0::ds,_,0,d,h,e=>by obtain⟨v,r,rfl,hv,hr⟩:=aR h;simp at e;subst e;exact⟨v,rfl,hv⟩
 |d0::ds,_,i+1,d,h,e=>by obtain⟨v,r,rfl,hv,hr⟩:=aR h;exact bG.get (i:=i) hr (by simpa using e)
theorem bG.getV:∀{ds:List D}{vs:List V} {i:Nat} {v:V},bG K H ds vs->vs[i]?=some v->∃d,ds[i]?=some d/\Rep K H d v
 |[],_,i,v,h,e=>by rw[bE h] at e;simp at e
 |d0::ds,_,0,v,h,e=>by obtain⟨v0,r,rfl,hv,hr⟩:=aR h;simp at e;subst e;exact⟨d0,rfl,hv⟩
 |d0::ds,_,i+1,v,h,e=>by obtain⟨v0,r,rfl,hv,hr⟩:=aR h;exact bG.getV (i:=i) hr (by simpa using e)
theorem bG.set {d:D}{v:V}(h:Rep K H d v):∀{ds:List D}{vs:List V} (i:Nat),bG K H ds vs->bG K H (ds.set i d) (vs.set i v)
 |[],_,i,r=>by rw[bE r];exact cP
 |d0::ds,_,0,r=>by obtain⟨v0,r0,rfl,hv,hr⟩:=aR r;exact cF h hr
 |d0::ds,_,i+1,r=>by obtain⟨v0,r0,rfl,hv,hr⟩:=aR r;exact cF hv (bG.set h i hr)
theorem bG.append:∀{ds es:List D}{vs us:List V},bG K H ds vs->bG K H es us->bG K H (ds++es) (vs++us)
 |[],es,vs,us,h,q=>by rw[bE h];exact q
 |d::ds,es,_,us,h,q=>by obtain⟨v,r,rfl,hv,hr⟩:=aR h;exact cF hv (bG.append hr q)
theorem bG.take:∀{ds:List D}{vs:List V} (n:Nat),bG K H ds vs->bG K H (ds.take n) (vs.take n)
 |ds,vs,0,h=>by rw[List.take_zero,List.take_zero];exact cP
 |[],_,n+1,h=>by rw[bE h];exact cP
 |d::ds,_,n+1,h=>by obtain⟨v,r,rfl,hv,hr⟩:=aR h;exact cF hv (bG.take n hr)
theorem bG.drop:∀{ds:List D}{vs:List V} (n:Nat),bG K H ds vs->bG K H (ds.drop n) (vs.drop n)
 |ds,vs,0,h=>h
 |[],_,n+1,h=>by rw[bE h];exact cP
 |d::ds,_,n+1,h=>by obtain⟨v,r,rfl,hv,hr⟩:=aR h;exact bG.drop n hr
theorem sT:∀(ns:List Int),bG K H (ns.map D.int) (ns.map V.int)
 |[]=>cP
 |n::ns=>cF cN (sT ns)
end
inductive AK where
 |l (a:Addr)|d (a:Addr)|o (a:Addr)
deriving DecidableEq
instance:Coe Addr AK:=⟨AK.l⟩
noncomputable abbrev DM:=AK->Option (List D)
noncomputable def bC (M:DM)(a:Addr)(ds:List D):DM:=λb=>if b=AK.l a then some ds else M b
noncomputable def pG (M:DM)(a:Addr)(ds:List D):DM:=λb=>if b=AK.d a then some ds else M b
noncomputable def uH (M:DM)(a:Addr)(ds:List D):DM:=λb=>if b=AK.o a then some ds else M b
theorem uA {M:DM}{a b:Addr}{ds:List D}:bC M a ds (.o b)=M (.o b):=if_neg λe=>nomatch e
theorem tH {M:DM}{a b:Addr}{ds:List D}:pG M a ds (.o b)=M (.o b):=if_neg λe=>nomatch e
theorem eO {M:DM}{a b:Addr}{ds:List D}:uH M a ds (.l b)=M (.l b):=if_neg λe=>nomatch e
theorem jX {M:DM}{a b:Addr}{ds:List D}:uH M a ds (.d b)=M (.d b):=if_neg λe=>nomatch e
theorem eU {M:DM}{a:Addr}{ds:List D}:uH M a ds (.o a)=some ds:=if_pos rfl
theorem zP {M:DM}{a b:Addr}{ds:List D}(h:b≠a):uH M a ds (.o b)=M (.o b):=if_neg λe=>h (AK.o.inj e)
theorem iZ {M:DM}{a:Addr}{b:AK}{ds:List D}(h:b≠AK.o a):uH M a ds b=M b:=if_neg h
theorem aJ {M:DM}{a:Addr}{ds:List D}:bC M a ds a=some ds:=if_pos rfl
theorem cD {M:DM}{a b:Addr}{ds:List D}(h:b≠a):bC M a ds b=M b:=if_neg λe=>h (AK.l.inj e)
theorem rC {M:DM}{a:Addr}{b:AK}{ds:List D}(h:b≠AK.l a):bC M a ds b=M b:=if_neg h
theorem tP {M:DM}{a b:Addr}{ds:List D}:bC M a ds (.d b)=M (.d b):=if_neg λe=>nomatch e
theorem iW {M:DM}{a:Addr}{ds:List D}:pG M a ds (.d a)=some ds:=if_pos rfl
theorem yK {M:DM}{a b:Addr}{ds:List D}(h:b≠a):pG M a ds (.d b)=M (.d b):=if_neg λe=>h (AK.d.inj e)
theorem wO {M:DM}{a:Addr}{b:AK}{ds:List D}(h:b≠AK.d a):pG M a ds b=M b:=if_neg h
theorem uD {M:DM}{a b:Addr}{ds:List D}:pG M a ds (.l b)=M (.l b):=if_neg λe=>nomatch e
theorem bK {M:DM}{a b:Addr}{o:List D}(h:M a=some o)(h':M b=none):a≠b:=by intro e;subst e;rw[h] at h';cases h'
theorem cJ {M:DM}{a b:AK}{o:List D}(h:M a=some o)(h':M b=none):a≠b:=by intro e;subst e;rw[h] at h';cases h'
def mY (a:Addr)(es:List DictEntry):Heap->Prop:=λh=>(a==sysModules) = false/\es.length<=sizeLine/\∃ep,h.get? a = some { cls:=.type "dict",data:=.dict es.toArray ep }
def aCB (K:Frag)(H:Hp)(d:D)(e:DictEntry):Prop:=∃k v kv vv,d=.tup [.int e.hash,k,v]/\bM kv e.key/\Rep K H k kv/\bM vv e.val/\Rep K H v vv
theorem aCB.ext {K:Frag}{H H':Hp}{d:D}{e:DictEntry}(h:aCB K H d e)(x:Ext H H'):aCB K H' d e :=
 let ⟨k,v,kv,vv,a,b,c,f,g⟩:=h;⟨k,v,kv,vv,a,b,c.ext x,f,g.ext x⟩
abbrev oJ (K:Frag)(H:Hp)(ds:List D)(es:List DictEntry):Prop:=Paired (aCB K H) ds es
theorem eR {K:Frag}{H H':Hp}{ds:List D}{es:List DictEntry}(h:oJ K H ds es)(x:Ext H H'):oJ K H' ds es:=Paired.mapP h λ_ _ r=>r.ext x
noncomputable def pF (C:Addr)(gs:List (Str×D)):List D:=.ref C::gs.map λp=>.tup [.str p.1,p.2]
theorem wA:∀{gs gs':List (Str×D)},(gs.map λp=>D.tup [.str p.1,p.2])=(gs'.map λp=>D.tup [.str p.1,p.2])->gs=gs'
 |[],[],_=>rfl
 |[],_::_,h=>by cases h
 |_::_,[],h=>by cases h
 |a::r,b::r',h=>by have e:=List.cons.inj h;have e1:=List.cons.inj (D.tup.inj e.1);rw[wA e.2,show a=b from Prod.ext (D.str.inj e1.1) (List.cons.inj e1.2).1]
theorem qR {C C':Addr}{gs gs':List (Str×D)}(h:pF C gs=pF C' gs'):C=C'/\gs=gs' :=
 have h:=List.cons.inj (show(D.ref C::_)=(D.ref C'::_) from h)
 ⟨D.ref.inj h.1,wA h.2⟩
abbrev kZ (K:Frag)(H:Hp)(gs:List (Str×D))(fs:List (Str×V)):Prop:=Paired (λ(g:Str×D)(f:Str×V)=>g.1=f.1/\Rep K H g.2 f.2) gs fs
theorem fD {K:Frag}{H H':Hp}{gs:List (Str×D)}{fs:List (Str×V)}(h:kZ K H gs fs)(x:Ext H H'):kZ K H' gs fs:=Paired.mapP h λ_ _ r=>⟨r.1,r.2.ext x⟩
structure bI (K:Frag)(M:DM)(H:Hp):Prop where
 l:∀(a:Addr) ds,M (.l a)=some ds->∃xs,H a=some (.lst xs)/\bG K H ds xs
 d:∀(a:Addr) ds,M (.d a)=some ds->∃es,H a=some (.ext (mY a es))/\oJ K H ds es
 o:∀(a:Addr) ds,M (.o a)=some ds->∃C dx gs fs,ds=pF C gs/\H a=some (.ins C dx fs)/\kZ K H gs fs
theorem Ext.putX {H:Hp}{p:Addr}{φ:Heap->Prop}(h:H p=some (.ext φ))(o:HO):Ext H (upd H p o) :=
 ⟨λa ys e=>by rw[aS (jP e h (by intro z;cases z))];exact e,λa ob u e=>by rw[aS (jP e h (by intro z;cases z))];exact e⟩
section
variable {K:Frag}{H H':Hp}{M M':DM}
theorem bI.fresh (h:bI K M H){p:Addr}(e:H p=none):M p=none:=by
 cases q:M p with
 |none=>rfl
 |some ds=>obtain⟨xs,z,_⟩:=h.l p ds q;rw[e] at z;cases z
theorem bI.freshD (h:bI K M H){p:Addr}(e:H p=none):M (.d p)=none:=by
 cases q:M (.d p) with
 |none=>rfl
 |some ds=>obtain⟨xs,z,_⟩:=h.d p ds q;rw[e] at z;cases z
theorem bI.freshO (h:bI K M H){p:Addr}(e:H p=none):M (.o p)=none:=by
 cases q:M (.o p) with
 |none=>rfl
 |some ds=>obtain⟨_,_,_,_,_,z,_⟩:=h.o p ds q;rw[e] at z;cases z
theorem bI.new (h:bI K M H){p:Addr}(e:H p=none)(o:HO):bI K M (upd H p o) where
 l:=λa ds q=>by obtain⟨xs,z,r⟩:=h.l a ds q;exact⟨xs,by rw[aS (bB z e)];exact z,r.ext (Ext.new e o)⟩
 d:=λa ds q=>by obtain⟨xs,z,r⟩:=h.d a ds q;exact⟨xs,by rw[aS (bB z e)];exact z,eR r (Ext.new e o)⟩
 o:=λa ds q=>by obtain⟨C,dx,gs,fs,w,z,r⟩:=h.o a ds q;exact⟨C,dx,gs,fs,w,by rw[aS (bB z e)];exact z,fD r (Ext.new e o)⟩
theorem bI.lnew (h:bI K M H){p:Addr}(e:H p=none){xs:List V}{ds:List D}(r:bG K H ds xs):bI K (bC M p ds) (upd H p (.lst xs)) where
 l:=λa es q=>by
  by_cases ha:a=p
  ·subst ha;rw[aJ] at q;cases q;exact⟨xs,cE,r.ext (Ext.new e _)⟩
  ·rw[cD ha] at q;obtain⟨ys,z,r2⟩:=h.l a es q;exact⟨ys,by rw[aS ha];exact z,r2.ext (Ext.new e _)⟩
 d:=λa es q=>by rw[tP] at q;obtain⟨ys,z,r2⟩:=h.d a es q;exact⟨ys,by rw[aS (bB z e)];exact z,eR r2 (Ext.new e _)⟩
 o:=λa es q=>by rw[uA] at q;obtain⟨C,dx,gs,fs,w,z,r⟩:=h.o a es q;exact⟨C,dx,gs,fs,w,by rw[aS (bB z e)];exact z,fD r (Ext.new e _)⟩
theorem bI.put (h:bI K M H){p:Addr}{xs0:List V}(e:H p=some (.lst xs0)){xs:List V}{ds:List D}(r:bG K H ds xs):bI K (bC M p ds) (upd H p (.lst xs)) where
 l:=λa es q=>by
  by_cases ha:a=p
  ·subst ha;rw[aJ] at q;cases q;exact⟨xs,cE,r.ext (Ext.put e _)⟩
  ·rw[cD ha] at q;obtain⟨ys,z,r2⟩:=h.l a es q;exact⟨ys,by rw[aS ha];exact z,r2.ext (Ext.put e _)⟩
 d:=λa es q=>by rw[tP] at q;obtain⟨ys,z,r2⟩:=h.d a es q;exact⟨ys,by rw[aS (jP z e (by intro z;cases z))];exact z,eR r2 (Ext.put e _)⟩
 o:=λa es q=>by rw[uA] at q;obtain⟨C,dx,gs,fs,w,z,r⟩:=h.o a es q;exact⟨C,dx,gs,fs,w,by rw[aS (jP z e (by intro z;cases z))];exact z,fD r (Ext.put e _)⟩
theorem bI.knew (h:bI K M H){p:Addr}(e:H p=none){xs:List DictEntry}{ds:List D}(r:oJ K H ds xs):bI K (pG M p ds) (upd H p (.ext (mY p xs))) where
 d:=λa es q=>by
  by_cases ha:a=p
  ·subst ha;rw[iW] at q;cases q;exact⟨xs,cE,eR r (Ext.new e _)⟩
  ·rw[yK ha] at q;obtain⟨ys,z,r2⟩:=h.d a es q;exact⟨ys,by rw[aS ha];exact z,eR r2 (Ext.new e _)⟩
 l:=λa es q=>by rw[uD] at q;obtain⟨ys,z,r2⟩:=h.l a es q;exact⟨ys,by rw[aS (bB z e)];exact z,r2.ext (Ext.new e _)⟩
 o:=λa es q=>by rw[tH] at q;obtain⟨C,dx,gs,fs,w,z,r⟩:=h.o a es q;exact⟨C,dx,gs,fs,w,by rw[aS (bB z e)];exact z,fD r (Ext.new e _)⟩
theorem bI.kput (h:bI K M H){p:Addr}{φ:Heap->Prop}(e:H p=some (.ext φ)){xs:List DictEntry}{ds:List D}(r:oJ K H ds xs):bI K (pG M p ds) (upd H p (.ext (mY p xs))) where
 d:=λa es q=>by
  by_cases ha:a=p
  ·subst ha;rw[iW] at q;cases q;exact⟨xs,cE,eR r (Ext.putX e _)⟩
  ·rw[yK ha] at q;obtain⟨ys,z,r2⟩:=h.d a es q;exact⟨ys,by rw[aS ha];exact z,eR r2 (Ext.putX e _)⟩
 l:=λa es q=>by rw[uD] at q;obtain⟨ys,z,r2⟩:=h.l a es q;exact⟨ys,by rw[aS (jP z e (by intro z;cases z))];exact z,r2.ext (Ext.putX e _)⟩
 o:=λa es q=>by rw[tH] at q;obtain⟨C,dx,gs,fs,w,z,r⟩:=h.o a es q;exact⟨C,dx,gs,fs,w,by rw[aS (jP z e (by intro z;cases z))];exact z,fD r (Ext.putX e _)⟩
theorem Ext.putI {p C dx:Addr}{fs:List (Str×V)}(h:H p=some (.ins C dx fs))(o:HO):Ext H (upd H p o) :=
 ⟨λa ys e=>by rw[aS (jP e h (by intro z;cases z))];exact e,λa ob u e=>by rw[aS (jP e h (by intro z;cases z))];exact e⟩
theorem bI.onew (h:bI K M H){p dx C:Addr}(e:H p=none)(e':H dx=none)(ne:dx≠p):bI K (uH M p (pF C [])) (upd (upd H dx (.own p)) p (.ins C dx [])):=by
 have h1:=h.new e' (.own p);have e1:upd H dx (.own p) p=none:=by rw[aS (Ne.symm ne)];exact e
 generalize upd H dx (.own p)=H1 at h1 e1;have h2:=h1.new e1 (.ins C dx []);refine⟨λa es q=>?_,λa es q=>?_,λa es q=>?_⟩
 ·rw[eO] at q;exact h2.l a es q
 ·rw[jX] at q;exact h2.d a es q
 ·by_cases ha:a=p
  ·subst ha;rw[eU] at q;cases q;exact⟨C,dx,[],[],rfl,cE,.nil⟩
  ·rw[zP ha] at q;exact h2.o a es q
theorem bI.oput (h:bI K M H){p dx C:Addr}{fs0 fs:List (Str×V)}{gs:List (Str×D)}(e:H p=some (.ins C dx fs0))(r:kZ K H gs fs):bI K (uH M p (pF C gs)) (upd H p (.ins C dx fs)) where
 l:=λa es q=>by rw[eO] at q;obtain⟨ys,z,r2⟩:=h.l a es q;exact⟨ys,by rw[aS (jP z e (by intro z;cases z))];exact z,r2.ext (Ext.putI e _)⟩
 d:=λa es q=>by rw[jX] at q;obtain⟨ys,z,r2⟩:=h.d a es q;exact⟨ys,by rw[aS (jP z e (by intro z;cases z))];exact z,eR r2 (Ext.putI e _)⟩
 o:=λa es q=>by
  by_cases ha:a=p
  ·subst ha;rw[eU] at q;cases q;exact⟨C,dx,gs,fs,rfl,cE,fD r (Ext.putI e _)⟩
  ·rw[zP ha] at q;obtain⟨C',dx',gs',fs',w,z,r2⟩:=h.o a es q;exact⟨C',dx',gs',fs',w,by rw[aS ha];exact z,fD r2 (Ext.putI e _)⟩
def aT (M M':DM):Prop:=∀a o,M a=some o->M' a=some o
theorem aT.refl (M:DM):aT M M:=λ_ _ h=>h
theorem aT.trans {M1 M2 M3:DM}(a:aT M1 M2)(b:aT M2 M3):aT M1 M3:=λc o h=>b c o (a c o h)
theorem aT.new {M:DM}{p:Addr}(h:M p=none)(ds:List D):aT M (bC M p ds):=λa o e=>by rw[rC (cJ e h)];exact e
theorem bI.sub (h:bI K M' H)(s:aT M M'):bI K M H:=⟨λa ds q=>h.l a ds (s _ ds q),λa ds q=>h.d a ds (s _ ds q),λa ds q=>h.o a ds (s _ ds q)⟩
end
noncomputable abbrev cC:=List (Option D)
structure fA (K:Frag)(H:Hp)(ρ:cC)(σ:L2.St):Prop where
 len:ρ.length=σ.length
 get:∀(i:Nat) d,ρ[i]?=some (some d)->∃v,σ[i]?=some (some v)/\Rep K H d v
section
variable {K:Frag}{H H':Hp}{ρ:cC}{σ:L2.St}
theorem fA.ext (h:fA K H ρ σ)(e:Ext H H'):fA K H' ρ σ:=⟨h.len,λi d q=>let ⟨v,a,b⟩:=h.get i d q;⟨v,a,b.ext e⟩⟩
theorem fA.set (h:fA K H ρ σ){d:D}{v:V}(r:Rep K H d v)(i:Nat):fA K H (ρ.set i (some d)) (σ.set i (some v)):=by
 refine⟨by rw[List.length_set,List.length_set,h.len],λj d' q=>?_⟩;rw[List.getElem?_set] at q;by_cases hij:i=j
 ·subst hij;rw[if_pos rfl] at q;by_cases hl:i<ρ.length
  ·rw[if_pos hl] at q;cases q;exact⟨v,by rw[List.getElem?_set,if_pos rfl,if_pos (by rw[<- h.len];exact hl)],r⟩
  ·rw[if_neg hl] at q;cases q
 ·rw[if_neg hij] at q;obtain⟨u,a,b⟩:=h.get j d' q;exact⟨u,by rw[List.getElem?_set,if_neg hij];exact a,b⟩
end
abbrev DQ:=D->DM->Prop
abbrev DE:=cC->DM->DQ->Prop
abbrev DT:=cC->DM->(Bool->DM->Prop)->Prop
abbrev DA:=cC->DM->(List D->DM->Prop)->Prop
structure iD where
 nx:cC->DM->Prop
 rt:DQ
 bk:cC->DM->Prop:=λ_ _=>False
 ct:cC->DM->Prop:=λ_ _=>False
abbrev DS:=iD->cC->DM->Prop
abbrev DG:=D->cC->DM->(cC->DM->Prop)->Prop
abbrev DGs:=List D->cC->DM->(cC->DM->Prop)->Prop
noncomputable def LQ (K:Frag)(H:Hp)(Q:DQ):VK:=λv H'=>∃d M',Rep K H' d v/\bI K M' H'/\Ext H H'/\Q d M'
def LT (K:Frag)(H:Hp)(Q:Bool->DM->Prop):Bool->Hp->Prop:=λb H'=>∃M',bI K M' H'/\Ext H H'/\Q b M'
def LA (K:Frag)(H:Hp)(Q:List D->DM->Prop):List V->Hp->Prop:=λvs H'=>∃ds M',bG K H' ds vs/\bI K M' H'/\Ext H H'/\Q ds M'
def LN (K:Frag)(H:Hp)(Q:cC->DM->Prop):L2.St->Hp->Prop:=λσ' H'=>∃ρ' M',fA K H' ρ' σ'/\bI K M' H'/\Ext H H'/\Q ρ' M'
structure nQ (K:Frag)(H:Hp)(D:iD)(E:rO):Prop where
 nx:∀σ' H',LN K H D.nx σ' H'->E.nx σ' H'
 rt:∀v H',LQ K H D.rt v H'->E.rt v H'
 bk:∀σ' H',LN K H D.bk σ' H'->E.bk σ' H'
 ct:∀σ' H',LN K H D.ct σ' H'->E.ct σ' H'
def low (K:Frag)(t:DE):TE:=λσ H Q=>∃ρ M Q',fA K H ρ σ/\bI K M H/\t ρ M Q'/\∀v H',LQ K H Q' v H'->Q v H'
def aFs (K:Frag)(t:DT):TT:=λσ H Q=>∃ρ M Q',fA K H ρ σ/\bI K M H/\t ρ M Q'/\∀v H',LT K H Q' v H'->Q v H'
def aHT (K:Frag)(t:DA):TA:=λσ H Q=>∃ρ M Q',fA K H ρ σ/\bI K M H/\t ρ M Q'/\∀v H',LA K H Q' v H'->Q v H'
def aBi (K:Frag)(t:DS):TS:=λE σ H=>∃ρ M D,fA K H ρ σ/\bI K M H/\t D ρ M/\nQ K H D E
def uG (K:Frag)(g:DG):TG:=λv σ H Q=>∃d ρ M Q',Rep K H d v/\fA K H ρ σ/\bI K M H/\g d ρ M Q'/\∀σ' H',LN K H Q' σ' H'->Q σ' H'
def aHi (K:Frag)(g:DGs):TGs:=λvs σ H Q=>∃ds ρ M Q',bG K H ds vs/\fA K H ρ σ/\bI K M H/\g ds ρ M Q'/\∀σ' H',LN K H Q' σ' H'->Q σ' H'
abbrev PDE (X:Cx)(e:Expr)(t:DE):Prop:=PE X e (low X.K t)
abbrev PDT (X:Cx)(e:Expr)(t:DT):Prop:=PT X e (aFs X.K t)
abbrev PDW (X:Cx)(e:Expr)(t:DT):Prop:=PW X e (aFs X.K t)
abbrev PDA (X:Cx)(es:List Expr)(t:DA):Prop:=PA X es (aHT X.K t)
abbrev PDS (X:Cx)(st:Stmt)(t:DS):Prop:=PS X st (aBi X.K t)
abbrev kU (X:Cx)(st:List Stmt)(t:DS):Prop:=PSs X st (aBi X.K t)
abbrev PDG (X:Cx)(e:Expr)(g:DG):Prop:=PG X e (uG X.K g)
abbrev wG (X:Cx)(es:List Expr)(g:DGs):Prop:=PGs X es (aHi X.K g)
section
variable {K:Frag}{H H1:Hp}
theorem LQ.back {Q:DQ}{v:V}{H2:Hp}(e:Ext H H1)(h:LQ K H1 Q v H2):LQ K H Q v H2:=let ⟨d,M,a,b,c,q⟩:=h;⟨d,M,a,b,e.trans c,q⟩
theorem LT.back {Q:Bool->DM->Prop}{v:Bool}{H2:Hp}(e:Ext H H1)(h:LT K H1 Q v H2):LT K H Q v H2:=let ⟨M,b,c,q⟩:=h;⟨M,b,e.trans c,q⟩
theorem LN.back {Q:cC->DM->Prop}{v:L2.St}{H2:Hp}(e:Ext H H1)(h:LN K H1 Q v H2):LN K H Q v H2:=let ⟨d,M,a,b,c,q⟩:=h;⟨d,M,a,b,e.trans c,q⟩
theorem nQ.at {D:iD}{E:rO}(h:nQ K H D E)(e:Ext H H1):nQ K H1 D E :=
 ⟨λs H2 q=>h.nx s H2 (q.back e),λs H2 q=>h.rt s H2 (q.back e),λs H2 q=>h.bk s H2 (q.back e),λs H2 q=>h.ct s H2 (q.back e)⟩
end
section
variable {X:Cx}{e:Expr}{st:Stmt}{sts:List Stmt}
theorem cA {t u:TE}(h:PE X e t)(k:∀σ H Q,u σ H Q->t σ H Q):PE X e u:=λpins s σ H Q I q=>h pins s σ H Q I (k σ H Q q)
theorem yH {t u:TT}(h:PT X e t)(k:∀σ H Q,u σ H Q->t σ H Q):PT X e u:=λpins s σ H Q I q=>h pins s σ H Q I (k σ H Q q)
theorem aCk {t u:TT}(h:PW X e t)(k:∀σ H Q,u σ H Q->t σ H Q):PW X e u:=λwh pins s σ H Q I q=>h wh pins s σ H Q I (k σ H Q q)
theorem aBx {es:List Expr}{t u:TA}(h:PA X es t)(k:∀σ H Q,u σ H Q->t σ H Q):PA X es u:=λpos pins s σ H Q I q=>h pos pins s σ H Q I (k σ H Q q)
theorem gG {t u:TS}(h:PS X st t)(k:∀D σ H,u D σ H->t D σ H):PS X st u:=λpins s σ H D I q=>h pins s σ H D I (k D σ H q)
theorem uT {t u:TS}(h:PSs X sts t)(k:∀D σ H,u D σ H->t D σ H):PSs X sts u:=λpins s σ H D I q=>h pins s σ H D I (k D σ H q)
theorem uC {t u:TG}(h:PG X e t)(k:∀v σ H Q,u v σ H Q->t v σ H Q):PG X e u:=λpins s σ H v w Q I r q=>h pins s σ H v w Q I r (k v σ H Q q)
theorem yM {es:List Expr}{t u:TGs}(h:PGs X es t)(k:∀v σ H Q,u v σ H Q->t v σ H Q):PGs X es u:=λpins s σ H v w Q I r q=>h pins s σ H v w Q I r (k v σ H Q q)
end
section
variable {X:Cx}{a b c e:Expr}{es:List Expr}{ta tb tc te:DE}{tA tB:DT}{t:DA}{pos:Pos}
def xZ (i:Nat):DE:=λρ M Q=>match ρ[i]? with
 |some (some d)=>Q d M
 |_=>False
theorem aEj (i:Nat){x:Str}{pos:Pos}(hN:X.N[i]?=some x:=by rfl)(hv:Vis X.env.scope x:=by first|exact Or.inl rfl|exact Or.inr (Or.inl rfl)|exact Or.inr (Or.inr rfl))(hd:(x==("__debug__":Str))=false:=by decide)(hcd:(x==("__classdict__":Str))=false:=by decide):PDE X (.Name x pos) (xZ i) :=
 cA (aFh (i:=i) hN hv hd hcd) λσ H Q ⟨ρ,M,Q',re,hm,q,k⟩=>by
  unfold xZ at q;split at q
  ·rename_i d e;obtain⟨v,e1,r⟩:=re.get i d e;exact⟨v,e1,k v H ⟨d,M,r,hm,.refl H,q⟩⟩
  ·exact q.elim
def dC (d:D):DE:=λ_ M Q=>Q d M
theorem aFB {i j pos}:PDE X (.Constant (.int i) j pos) (dC (.int i)):=cA aGe λσ H Q ⟨ρ,M,Q',re,hm,q,k⟩=>k _ H ⟨_,M,cN,hm,.refl H,q⟩
theorem aHD {i j pos}:PDE X (.Constant (.bool i) j pos) (dC (.bl i)):=cA aH7 λσ H Q ⟨ρ,M,Q',re,hm,q,k⟩=>k _ H ⟨_,M,dH,hm,.refl H,q⟩
theorem aGr {x j pos}:PDE X (.Constant (.str x) j pos) (dC (.str x)):=cA aFq λσ H Q ⟨ρ,M,Q',re,hm,q,k⟩=>k _ H ⟨_,M,aCK,hm,.refl H,q⟩
abbrev D2:=D->D->DM->DQ->Prop
def OpL (K:Frag)(r:R2)(r':D2):Prop:=∀x y H M dx dy Q,Rep K H dx x->Rep K H dy y->bI K M H->r' dx dy M Q->r x y H (LQ K H Q)
def OpD (X:Cx)(f:Value->Value->Sem Value)(r':D2):Prop :=
 OpR X f λx y H Q=>∃dx dy M Q',Rep X.K H dx x/\Rep X.K H dy y/\bI X.K M H/\r' dx dy M Q'/\∀v H',LQ X.K H Q' v H'->Q v H'
theorem yL {pins:List (Addr×Obj)}{σ:L2.St}{Q Q':VK}{u:Value}{s:Shared}(h:EP X pins σ Q u s)(k:∀v H,Q v H->Q' v H):EP X pins σ Q' u s:=let ⟨v,H,a,b,c⟩:=h;⟨v,H,a,b,k v H c⟩
theorem OpD.of {f:Value->Value->Sem Value}{r:R2}{r':D2}(h:OpR X f r)(l:OpL X.K r r'):OpD X f r':=λpins s σ H x y v u Q I rx ry ⟨dx,dy,M,Q',r1,r2,hm,q,k⟩ =>
 thn (h pins s σ H x y v u _ I rx ry (l x y H M dx dy Q' r1 r2 hm q)) λv s h=>yL h k
def dOp (r:D2)(ta tb:DE):DE:=λρ M Q=>ta ρ M λx M1=>tb ρ M1 λy M2=>r x y M2 Q
theorem uY {r':D2}{σ:L2.St}{H:Hp}{Q:VK}{R:V->V->Hp->VK->Prop}(hR:∀x y H1 Q1,(∃dx dy M Q',Rep X.K H1 dx x/\Rep X.K H1 dy y/\bI X.K M H1/\r' dx dy M Q'/\∀v H',LQ X.K H1 Q' v H'->Q1 v H')->R x y H1 Q1)(h:low X.K (dOp r' ta tb) σ H Q):low X.K ta σ H λx H1=>low X.K tb σ H1 λy H2=>R x y H2 Q:=by obtain⟨ρ,M,Q',re,hm,q,k⟩:=h;refine⟨ρ,M,_,re,hm,q,λx H1 ⟨dx,M1,rx,hm1,e1,q1⟩=>⟨ρ,M1,_,re.ext e1,hm1,q1,λy H2 ⟨dy,M2,ry,hm2,e2,q2⟩=>?_⟩⟩;exact hR x y H2 Q ⟨dx,dy,M2,Q',rx.ext e2,ry,hm2,q2,λv H' z=>k v H' (z.back (e1.trans e2))⟩
theorem aHQ {op:Operator}{r:D2}(ho:OpD X (binaryOp op) r)(ha:PDE X a ta)(hb:PDE X b tb):PDE X (.BinOp a op b pos) (dOp r ta tb) :=
 cA (aHt ho ha hb) λσ H Q h=>uY (λ_ _ _ _ z=>z) h
theorem aEO {op:CmpOp}{r:D2}(ho:OpD X (compareOp op) r)(ha:PDE X a ta)(hb:PDE X b tb)(hm:behindInMarks op b=false:=by exact uU _):PDE X (.Compare a [op] [b] pos) (dOp r ta tb) :=
 cA (aDb ho ha hb hm) λσ H Q h=>uY (λ_ _ _ _ z=>z) h
def sL (t:DE):DT:=λρ M Q=>t ρ M λd M'=>match d with
 |.bl k=>Q k M'
 |_=>False
theorem wF {σ:L2.St}{H:Hp}{Q:Bool->Hp->Prop}(h:aFs X.K (sL te) σ H Q):low X.K te σ H λx H'=>∃k,x=.bl k/\Q k H':=by
 obtain⟨ρ,M,Q',re,hm,q,k⟩:=h;refine⟨ρ,M,_,re,hm,q,λx H1 ⟨d,M1,rd,hm1,e1,q1⟩=>?_⟩;cases d with
 |bl c=>exact⟨c,bS rd,k c H1 ⟨M1,hm1,e1,q1⟩⟩
 |_=>exact q1.elim
theorem aE0 {op:CmpOp}{r:D2}(ho:OpD X (compareOp op) r)(ha:PDE X a ta)(hb:PDE X b tb)(hm:behindInMarks op b=false:=by exact uU _):PDT X (.Compare a [op] [b] pos) (sL (dOp r ta tb)) :=
 yH (aC2 ho ha hb hm) λσ H Q h=>uY (R:=λx y H Q1=>∃dx dy M Q',Rep X.K H dx x/\Rep X.K H dy y/\bI X.K M H/\r dx dy M Q'/\∀v H',LQ X.K H Q' v H'->Q1 v H') (λ_ _ _ _ z=>z) (wF h)
theorem aFg (h:PDE X e te)(he:∀whole,isTrue e X.env whole=(do let v <- whole;standAt e.pos;holding [v] (truthy v)):=by intro _;rfl):PDT X e (sL te) :=
 yH (aEC h he) λσ H Q h=>wF h
def aEK (t u:DT):DT:=λρ M Q=>t ρ M λc M1=>if c=true then u ρ M1 Q else Q false M1
def dOr (t u:DT):DT:=λρ M Q=>t ρ M λc M1=>if c=true then Q true M1 else u ρ M1 Q
def aGI (t:DT):DT:=λρ M Q=>t ρ M λc M1=>Q (!c) M1
variable {bV:List Expr}
theorem aCY (ha:PDT X a tA):PDW X (.BoolOp .And [a] pos) tA:=aCR ha
theorem aFG (ha:PDT X a tA):PDW X (.BoolOp .Or [a] pos) tA:=aFu ha
theorem aE8 (ha:PDT X a tA)(hb:PDW X (.BoolOp .And (b::bV) pos) tB):PDW X (.BoolOp .And (a::b::bV) pos) (aEK tA tB) :=
 aCk (aFr ha hb) λσ H Q ⟨ρ,M,Q',re,hm,q,k⟩=>⟨ρ,M,_,re,hm,q,λc H1 ⟨M1,hm1,e1,q1⟩=>by
  cases c with
  |true=>exact⟨ρ,M1,_,re.ext e1,hm1,q1,λv H' z=>k v H' (z.back e1)⟩
  |false=>exact k false H1 ⟨M1,hm1,e1,q1⟩⟩
theorem aHm (ha:PDT X a tA)(hb:PDW X (.BoolOp .Or (b::bV) pos) tB):PDW X (.BoolOp .Or (a::b::bV) pos) (dOr tA tB) :=
 aCk (aHj ha hb) λσ H Q ⟨ρ,M,Q',re,hm,q,k⟩=>⟨ρ,M,_,re,hm,q,λc H1 ⟨M1,hm1,e1,q1⟩=>by
  cases c with
  |false=>exact⟨ρ,M1,_,re.ext e1,hm1,q1,λv H' z=>k v H' (z.back e1)⟩
  |true=>exact k true H1 ⟨M1,hm1,e1,q1⟩⟩
theorem aI5 (h:PDW X e tA):PDT X e tA:=PW.pt h
theorem aFM (ha:PDT X a tA):PDT X (.UnaryOp .Not a pos) (aGI tA) :=
 yH (aGw ha) λσ H Q ⟨ρ,M,Q',re,hm,q,k⟩=>⟨ρ,M,_,re,hm,q,λc H1 ⟨M1,hm1,e1,q1⟩=>k (!c) H1 ⟨M1,hm1,e1,q1⟩⟩
def aCo (ta tb:DE):DE:=λρ M Q=>ta ρ M λx M1=>match x with
 |.bl c=>if c=true then tb ρ M1 Q else Q (.bl false) M1
 |_=>False
def aF0 (ta tb:DE):DE:=λρ M Q=>ta ρ M λx M1=>match x with
 |.bl c=>if c=true then Q (.bl true) M1 else tb ρ M1 Q
 |_=>False
def aBn (ta:DE):DE:=λρ M Q=>ta ρ M λx M1=>match x with
 |.bl c=>Q (.bl (!c)) M1
 |_=>False
theorem aEd {op}(h:PDE X a ta):PDE X (.BoolOp op [a] pos) ta:=aFb h
theorem aGs (ha:PDE X a ta)(hb:PDE X (.BoolOp .And (b::bV) pos) tb):PDE X (.BoolOp .And (a::b::bV) pos) (aCo ta tb) :=
 cA (aEh ha hb) λσ H Q ⟨ρ,M,Q',re,hm,q,k⟩=>⟨ρ,M,_,re,hm,q,λx H1 ⟨d,M1,rd,hm1,e1,q1⟩=>by
  cases d with
  |bl c =>
   refine⟨c,bS rd,?_⟩;cases c with
   |true=>exact⟨ρ,M1,_,re.ext e1,hm1,q1,λv H' z=>k v H' (z.back e1)⟩
   |false=>exact k _ H1 ⟨_,M1,dH,hm1,e1,q1⟩
  |_=>exact q1.elim⟩
theorem aHF (ha:PDE X a ta)(hb:PDE X (.BoolOp .Or (b::bV) pos) tb):PDE X (.BoolOp .Or (a::b::bV) pos) (aF0 ta tb) :=
 cA (aIf ha hb) λσ H Q ⟨ρ,M,Q',re,hm,q,k⟩=>⟨ρ,M,_,re,hm,q,λx H1 ⟨d,M1,rd,hm1,e1,q1⟩=>by
  cases d with
  |bl c =>
   refine⟨c,bS rd,?_⟩;cases c with
   |false=>exact⟨ρ,M1,_,re.ext e1,hm1,q1,λv H' z=>k v H' (z.back e1)⟩
   |true=>exact k _ H1 ⟨_,M1,dH,hm1,e1,q1⟩
  |_=>exact q1.elim⟩
theorem aEG (ha:PDE X a ta):PDE X (.UnaryOp .Not a pos) (aBn ta) :=
 cA (aGD ha) λσ H Q ⟨ρ,M,Q',re,hm,q,k⟩=>⟨ρ,M,_,re,hm,q,λx H1 ⟨d,M1,rd,hm1,e1,q1⟩=>by
  cases d with
  |bl c=>exact⟨c,bS rd,k _ H1 ⟨_,M1,dH,hm1,e1,q1⟩⟩
  |_=>exact q1.elim⟩
def aF1 (t:DT)(ta tb:DE):DE:=λρ M Q=>t ρ M λc M1=>if c=true then ta ρ M1 Q else tb ρ M1 Q
theorem aA5 (hc:PDT X c tA)(ha:PDE X a ta)(hb:PDE X b tb):PDE X (.IfExp c a b pos) (aF1 tA ta tb) :=
 cA (aBh hc ha hb) λσ H Q ⟨ρ,M,Q',re,hm,q,k⟩=>⟨ρ,M,_,re,hm,q,λc H1 ⟨M1,hm1,e1,q1⟩=>by
  cases c with
  |true=>exact⟨ρ,M1,_,re.ext e1,hm1,q1,λv H' z=>k v H' (z.back e1)⟩
  |false=>exact⟨ρ,M1,_,re.ext e1,hm1,q1,λv H' z=>k v H' (z.back e1)⟩⟩
def lF:DA:=λ_ M Q=>Q [] M
def fT (ta:DE)(tr:DA):DA:=λρ M Q=>ta ρ M λx M1=>tr ρ M1 λxs M2=>Q (x::xs) M2
theorem aBP:PDA X [] lF:=aBx uS λσ H Q ⟨ρ,M,Q',re,hm,q,k⟩=>k [] H ⟨[],M,cP,hm,.refl H,q⟩
theorem zK (ha:PDE X e te)(hr:PDA X es t)(hs:starEach (e::es) X.env=(false,eval e X.env)::starEach es X.env:=by rfl):PDA X (e::es) (fT te t) :=
 aBx (mT ha hr hs) λσ H Q ⟨ρ,M,Q',re,hm,q,k⟩=>⟨ρ,M,_,re,hm,q,λx H1 ⟨dx,M1,rx,hm1,e1,q1⟩=>⟨ρ,M1,_,re.ext e1,hm1,q1,λxs H2 ⟨dxs,M2,rxs,hm2,e2,q2⟩ =>
  k _ H2 ⟨dx::dxs,M2,cF (rx.ext e2) rxs,hm2,e1.trans e2,q2⟩⟩⟩
def aFI (t:DA):DE:=λρ M Q=>t ρ M λxs M1=>xs.length<=1000/\Q (.tup xs) M1
def aEq (t:DA):DE:=λρ M Q=>t ρ M λxs M1=>xs.length<=1000/\∀p:Addr,M1 p=none->Q (.ref p) (bC M1 p xs)
theorem aEk {x1}(h:PDA X es t):PDE X (.Tuple es x1 pos) (aFI t) :=
 cA (aEv h) λσ H Q ⟨ρ,M,Q',re,hm,q,k⟩=>⟨ρ,M,_,re,hm,q,λxs H1 ⟨ds,M1,rs,hm1,e1,q1,q2⟩=>⟨by rw[<- rs.length];exact Nat.le_of_lt (dG q1),λp hp =>
  k _ _ ⟨.tup ds,M1,dF (.of cE) (rs.ext (Ext.new hp _)),hm1.new hp _,e1.trans (Ext.new hp _),q2⟩⟩⟩
theorem aFe (h:PDA X es t):PDE X (.List es pos) (aEq t) :=
 cA (aFY h) λσ H Q ⟨ρ,M,Q',re,hm,q,k⟩=>⟨ρ,M,_,re,hm,q,λxs H1 ⟨ds,M1,rs,hm1,e1,q1,q2⟩=>⟨by rw[<- rs.length];exact Nat.le_of_lt (dG q1),λp hp =>
  k _ _ ⟨.ref p,_,eJ,hm1.lnew hp rs,e1.trans (Ext.new hp _),q2 p (hm1.fresh hp)⟩⟩⟩
end
section
variable {X:Cx}{st:Stmt}{bV:List Stmt}{t u:DS}{e:Expr}{te:DE}{pos:Pos}
def aBW:DS:=λE ρ M=>E.nx ρ M
def aEx (t u:DS):DS:=λE ρ M=>t { E with nx:=u E } ρ M
theorem aDC:kU X [] aBW:=uT aC7 λE σ H ⟨ρ,M,D,re,hm,q,k⟩=>k.nx σ H ⟨ρ,M,re,hm,.refl H,q⟩
theorem aCb (h1:PDS X st t)(h2:kU X bV u):kU X (st::bV) (aEx t u) :=
 uT (wI h1 h2) λE σ H ⟨ρ,M,D,re,hm,q,k⟩=>⟨ρ,M,{ D with nx:=u D },re,hm,q,
  ⟨λσ' H' ⟨ρ',M',re',hm',ex,q'⟩=>⟨ρ',M',D,re',hm',q',k.at ex⟩,k.rt,k.bk,k.ct⟩⟩
theorem aDd (h1:PDS X st t):kU X [st] t:=aDt h1
def aBI (te:DE):DS:=λE ρ M=>te ρ M λ_ M1=>E.nx ρ M1
theorem aCX (he:PDE X e te)(hs:swapsWith e none pos.line X.env=pure false:=by rfl):PDS X (.Expr e pos) (aBI te) :=
 gG (aDA he hs) λE σ H ⟨ρ,M,D,re,hm,q,k⟩=>⟨ρ,M,_,re,hm,q,λv H1 ⟨d,M1,rd,hm1,ex,q1⟩=>k.nx σ H1 ⟨ρ,M1,re.ext ex,hm1,ex,q1⟩⟩
def aFn (te:DE):DS:=λE ρ M=>te ρ M E.rt
theorem aFH (he:PDE X e te):PDS X (.Return (some e) pos) (aFn te) :=
 gG (aGK he) λE σ H ⟨ρ,M,D,re,hm,q,k⟩=>⟨ρ,M,_,re,hm,q,k.rt⟩
def aEo (c:DT)(t u:DS):DS:=λE ρ M=>c ρ M λb M1=>if b=true then t E ρ M1 else u E ρ M1
theorem aG5 {c:Expr}{a b:List Stmt}{tc:DT}(hc:PDT X c tc)(ha:kU X a t)(hb:kU X b u):PDS X (.If c a b pos) (aEo tc t u) :=
 gG (aHL hc ha hb) λE σ H ⟨ρ,M,D,re,hm,q,k⟩=>⟨ρ,M,_,re,hm,q,λb H1 ⟨M1,hm1,ex,q1⟩=>by
  cases b with
  |true=>exact⟨ρ,M1,D,re.ext ex,hm1,q1,k.at ex⟩
  |false=>exact⟨ρ,M1,D,re.ext ex,hm1,q1,k.at ex⟩⟩
end
section
variable {X:Cx}{pos:Pos}{e tg:Expr}{es:List Expr}{te:DE}
def gN (i:Nat):DG:=λd ρ M Q=>Q (ρ.set i (some d)) M
theorem aDT {i:Nat}{x:Str}(hN:X.N.Nodup)(hi:X.N[i]?=some x:=by rfl)(hx:Loc X.env.scope x:=by first|exact Or.inl rfl|exact Or.inr rfl)(hf:X.fn x=true∨X.env.scope.names.lookup x=some .local:=by first|exact .inl rfl|exact .inr rfl|assumption):PDG X (.Name x pos) (gN i) :=
 uC (aCI (i:=i) hN hi hx hf) λv σ H Q ⟨d,ρ,M,Q',rd,re,hm,q,k⟩=>k _ H ⟨_,M,re.set rd i,hm,.refl H,q⟩
def gNl:DGs:=λds ρ M Q=>match ds with
 |[]=>Q ρ M
 |_=>False
def gCn (t:DG)(u:DGs):DGs:=λds ρ M Q=>match ds with
 |d::r=>t d ρ M λρ' M'=>u r ρ' M' Q
 |[]=>False
theorem aDp:wG X [] gNl:=yM aDu λv σ H Q ⟨ds,ρ,M,Q',rd,re,hm,q,k⟩=>by
 cases ds with
 |nil=>exact⟨bE rd,k σ H ⟨ρ,M,re,hm,.refl H,q⟩⟩
 |cons _ _=>exact q.elim
theorem aBp {t:DG}{u:DGs}(h1:PDG X e t)(h2:wG X es u)(hs:(assignEach (e::es) X.env).map (·.2)=assign e X.env::(assignEach es X.env).map (·.2):=by rfl):wG X (e::es) (gCn t u) :=
 yM (aBS h1 h2 hs) λv σ H Q ⟨ds,ρ,M,Q',rd,re,hm,q,k⟩=>by
  cases ds with
  |nil=>exact q.elim
  |cons d r =>
   obtain⟨x,xs,rfl,rx,rxs⟩:=aR rd;exact⟨x,xs,rfl,d,ρ,M,_,rx,re,hm,q,λσ' H' ⟨ρ',M',re',hm',ex,q'⟩=>⟨r,ρ',M',Q',rxs.ext ex,re',hm',q',λσ2 H2 z=>k σ2 H2 (z.back ex)⟩⟩
def gT (n:Nat)(t:DGs):DG:=λd ρ M Q=>match d with
 |.tup ds=>ds.length=n/\t ds ρ M Q
 |_=>False
theorem aFV {k:Nat}{t:DGs}{n:Nat}(hc:X.calm=true)(h:wG X es t)(hn:(assignEach es X.env).length=n:=by rfl)(hst:(assignEach es X.env).findIdx? (·.1)=none:=by rfl):PDG X (.Tuple es k pos) (gT n t) :=
 uC (aEf hc h hn hst) λv σ H Q ⟨d,ρ,M,Q',rd,re,hm,q,k⟩=>by
  cases d with
  |tup ds =>
   obtain⟨a,xs,rfl,sq,rs⟩:=bF rd;exact⟨a,xs,rfl,sq,by rw[<- rs.length];exact q.1,ds,ρ,M,Q',rs,re,hm,q.2,k⟩
  |_=>exact q.elim
def zQ (te:DE)(g:DG):DS:=λE ρ M=>te ρ M λx M1=>g x ρ M1 E.nx
theorem aDH {g:DG}{σ:L2.St}{H:Hp}{E:rO}(h:aBi X.K (zQ te g) E σ H):low X.K te σ H λx H1=>uG X.K g x σ H1 E.nx:=by obtain⟨ρ,M,D,re,hm,q,k⟩:=h;exact⟨ρ,M,_,re,hm,q,λv H1 ⟨d,M1,rd,hm1,ex,q1⟩=>⟨d,ρ,M1,_,rd,re.ext ex,hm1,q1,λσ' H' z=>k.nx σ' H' (z.back ex)⟩⟩
theorem aGH {g:DG}(he:PDE X e te)(hg:PDG X tg g)(hs:swapsWithSole [tg] e pos.line X.env=pure false:=by rfl)(hw:swappedStores [tg] e X.env=pure none:=by rfl)(h1:(assignEach [tg] X.env).map (·.2)=[assign tg X.env]:=by rfl):PDS X (.Assign [tg] e pos) (zQ te g) :=
 gG (aGM he hg hs hw h1) λE σ H h=>aDH h
theorem aGh {i:Nat}{x:Str}{pos':Pos}(hN:X.N.Nodup)(he:PDE X e te)(hi:X.N[i]?=some x:=by rfl)(hx:Loc X.env.scope x:=by first|exact Or.inl rfl|exact Or.inr rfl)(hs:swapsWith e (some (.Name x pos')) pos.line X.env=pure false:=by rfl)(hf:X.fn x=true∨X.env.scope.names.lookup x=some .local:=by first|exact .inl rfl|exact .inr rfl|assumption) :
  PDS X (.Assign [.Name x pos'] e pos) (zQ te (gN i)) :=
 gG (aGj (i:=i) hN hi hx he hs hf) λE σ H ⟨ρ,M,D,re,hm,q,k⟩=>⟨ρ,M,_,re,hm,q,λv H1 ⟨d,M1,rd,hm1,ex,q1⟩=>k.nx _ H1 ⟨_,M1,(re.ext ex).set rd i,hm1,ex,q1⟩⟩
def aFU (i j:Nat)(ta:DA):DS:=λE ρ M=>ta ρ M λds M1=>match ds with
 |[x,y]=>E.nx ((ρ.set i (some x)).set j (some y)) M1
 |_=>False
theorem aEZ {i j:Nat}{x y:Str}{a b:Expr}{ta:DA}{px py pt:Pos}{kt k2 pt2}(hc:X.calm=true)(hN:X.N.Nodup)(ha:PDA X [a,b] ta)(hi:X.N[i]?=some x:=by rfl)(hj:X.N[j]?=some y:=by rfl)(hij:i≠j:=by decide)(hx:X.env.scope.names.lookup x=some .local:=by rfl)(hy:X.env.scope.names.lookup y=some .local:=by rfl)(hw:swappedStores [.Tuple [.Name x px,.Name y py] kt pt] (.Tuple [a,b] k2 pt2) X.env=pure (some [x,y]):=by rfl)(hs:swapsWithSole [.Tuple [.Name x px,.Name y py] kt pt] (.Tuple [a,b] k2 pt2) pos.line X.env=pure false:=by rfl) :
  PDS X (.Assign [.Tuple [.Name x px,.Name y py] kt pt] (.Tuple [a,b] k2 pt2) pos) (aFU i j ta) :=
 gG (aGF (i:=i) (j:=j) hc hN hi hj hij hx hy ha hw hs) λE σ H ⟨ρ,M,D,re,hm,q,k⟩=>⟨ρ,M,_,re,hm,q,λvs H1 ⟨ds,M1,rs,hm1,ex,q1⟩=>by
  match ds,q1 with
  |[d1,d2],q1 =>
   obtain⟨v1,r1,rfl,rv1,rr1⟩:=aR rs;obtain⟨v2,r2,rfl,rv2,rr2⟩:=aR rr1;obtain rfl:=bE rr2;exact⟨v1,v2,rfl,k.nx _ H1 ⟨_,M1,((re.ext ex).set rv1 i).set rv2 j,hm1,ex,q1⟩⟩
  |[],q1=>exact q1.elim
  |[_],q1=>exact q1.elim
  |_::_::_::_,q1=>exact q1.elim⟩
def aBa (to ti:DE):DG:=λd ρ M Q=>to ρ M λo M1=>ti ρ M1 λi M2=>match o,i with
 |.ref p,.int k=>∃ds j,M2 p=some ds/\ixN ds.length k=some j/\Q ρ (bC M2 p (ds.set j d))
 |_,_=>False
theorem aFo {o i:Expr}{to ti:DE}(ho:PDE X o to)(hi:PDE X i ti)(ha:∀v,assign (.Subscript o i pos) X.env v=(do
   let ov <- holding [v] (eval o X.env)
   let iv <- holding [v,ov] (eval i X.env)
   standAt pos
   holding [v,ov,iv] (setItem ov iv v)
   release [v,ov,iv] []):=by intro _;rfl):PDG X (.Subscript o i pos) (aBa to ti) :=
 uC (aBN ho hi aAL ha) λv σ H Q ⟨d,ρ,M,Q',rd,re,hm,q,k⟩=>⟨ρ,M,_,re,hm,q,λov H1 ⟨dov,M1,rov,hm1,e1,q1⟩=>⟨ρ,M1,_,re.ext e1,hm1,q1,λiv H2 ⟨div,M2,riv,hm2,e2,q2⟩=>by
  cases dov with
  |ref p =>
   cases div with
   |int z =>
    obtain⟨ds,j,hp,hj,q2⟩:=q2;obtain rfl:=aO rov;obtain rfl:=aW riv;obtain⟨xs,hx,rs⟩:=hm2.l p ds hp;exact⟨p,xs,z,j,rfl,rfl,hx,by rw[<- rs.length];exact hj,k _ _ ⟨ρ,_,((re.ext e1).ext e2).ext (Ext.put hx _),hm2.put hx (rs.set ((rd.ext e1).ext e2) j),(e1.trans e2).trans (Ext.put hx _),q2⟩⟩
   |_=>exact q2.elim
  |_=>exact q2.elim⟩⟩
end
section
variable {X:Cx}{pos:Pos}
def xH (c:DT)(tb:DS):DS:=λE ρ M=>∃W:Nat->cC->DM->Prop,(∃m,W m ρ M)/\∀m ρ M,W m ρ M ->
 c ρ M λb M1=>if b=true then tb { E with nx:=λρ' M'=>∃m',m'<m/\W m' ρ' M',ct:=λρ' M'=>∃m',m'<m/\W m' ρ' M',bk:=E.nx } ρ M1 else E.nx ρ M1
theorem aBE {c:Expr}{body:List Stmt}{tc:DT}{tb:DS}(hp:PassesOwn (model X.prog X.w) X.A X.env X.xe)(hc:PDT X c tc)(hb:kU X body tb):PDS X (.While c body [] pos) (xH tc tb) :=
 gG (aBU hp hc hb) λE σ H ⟨ρ,M,D,re,hm,⟨W,⟨m0,w0⟩,turn⟩,k⟩=>by
  refine⟨λm σ' H'=>∃ρ' M',fA X.K H' ρ' σ'/\bI X.K M' H'/\Ext H H'/\W m ρ' M',⟨m0,ρ,M,re,hm,.refl H,w0⟩,?_⟩;rintro m σ1 H1 ⟨ρ1,M1,re1,hm1,e1,w1⟩;refine⟨ρ1,M1,_,re1,hm1,turn m ρ1 M1 w1,λb H2 ⟨M2,hm2,e2,q2⟩=>?_⟩;cases b with
  |false=>exact k.nx σ1 H2 ⟨ρ1,M2,re1.ext e2,hm2,e1.trans e2,q2⟩
  |true =>
   refine⟨λσ' H'=>∃m',m'<m/\∃ρ' M',fA X.K H' ρ' σ'/\bI X.K M' H'/\Ext H H'/\W m' ρ' M',λσ' H' z=>z,?_⟩;refine⟨ρ1,M2,_,re1.ext e2,hm2,q2,?_⟩;have ex:=e1.trans e2;exact⟨λσ' H' ⟨ρ',M',a,b,c,m',l,d⟩=>⟨m',l,ρ',M',a,b,ex.trans c,d⟩,λv H' z=>k.rt v H' (z.back ex),λσ' H' z=>k.nx σ' H' (z.back ex),λσ' H' ⟨ρ',M',a,b,c,m',l,d⟩=>⟨m',l,ρ',M',a,b,ex.trans c,d⟩⟩
theorem zV {c:DT}{tb:DS}{E:iD}{ρ:cC}{M:DM}(Pv:Nat->cC->DM->Prop)(m0:Nat)(h0:Pv m0 ρ M)(hs:∀m ρ M,Pv m ρ M->c ρ M λb M1=>if b=true then tb { E with nx:=λρ' M'=>∃m',m'<m/\Pv m' ρ' M',ct:=λρ' M'=>∃m',m'<m/\Pv m' ρ' M',bk:=E.nx } ρ M1 else E.nx ρ M1):xH c tb E ρ M:=⟨Pv,⟨m0,h0⟩,hs⟩
def dIt (at':Option Addr)(ds:List D)(g:DG)(tb:DS):DS:=λE ρ M=>∃Pv:Nat->cC->DM->Prop,Pv 0 ρ M /\
 (∀i ρ M,i<=ds.length->Pv i ρ M->∀a,at'=some a->M a=some ds) /\
 (∀i d ρ M,ds[i]?=some d->Pv i ρ M->g d ρ M λρ2 M2=>tb { E with nx:=Pv (i+1),ct:=Pv (i+1),bk:=E.nx } ρ2 M2)/\∀ρ M,Pv ds.length ρ M->E.nx ρ M
def aBw (tl:DE)(g:DG)(tb:DS):DS:=λE ρ M=>tl ρ M λd M1=>match d with
 |.fz ds=>dIt none ds g tb E ρ M1
 |.ref a=>∃ds,M1 a=some ds/\dIt (some a) ds g tb E ρ M1
 |_=>False
variable {iter tg:Expr}{body:List Stmt}{tl:DE}{g:DG}{tb:DS}
theorem aDX {K:Frag}{a':Option Addr}{ds:List D}{E:rO}{Dn:iD}{σ:L2.St}{ρ:cC}{M:DM}{H0 H:Hp}{J:It}(ex0:Ext H0 H)(re:fA K H ρ σ)(hm:bI K M H)(k:nQ K H0 Dn E)(h:dIt a' ds g tb Dn ρ M)(seq:∀H',Ext H H'->(∀M',bI K M' H'->(∀a,a'=some a->M' a=some ds)->∃xs,bG K H' ds xs/\(∀i,xs.length<=i->J.stop i H')/\(∀i,i<xs.length->J.go i H')/\∀i x H2,J.yld i H' x H2->H2=H'/\xs[i]?=some x)) :
  ∃W:Nat->Nat->L2.St->Hp->Prop,(∃m,W 0 m σ H)/\∀i m σ H,W i m σ H ->
   (J.stop i H/\E.nx σ H)∨(J.go i H/\∃N:L2.St->Hp->Prop,(∀σ' H',N σ' H'->∃m',m'<m/\W (i+1) m' σ' H')/\∀x H',J.yld i H x H'->uG K g x σ H' λσ2 H2=>aBi K tb { E with nx:=N,ct:=N,bk:=E.nx } σ2 H2):=by
 obtain⟨Pv,p0,hat,step,done⟩:=h;refine⟨λi m σ' H'=>∃ρ' M',fA K H' ρ' σ'/\bI K M' H'/\Ext H H'/\m=ds.length-i/\i<=ds.length/\Pv i ρ' M',⟨ds.length,ρ,M,re,hm,.refl H,rfl,Nat.zero_le _,p0⟩,?_⟩;rintro i m σ1 H1 ⟨ρ1,M1,re1,hm1,e1,rfl,hi,w1⟩;obtain⟨xs,rs,hst,hgo,hy⟩:=seq H1 e1 M1 hm1 (hat i ρ1 M1 hi w1);have hl:=rs.length;by_cases hlt:i<ds.length
 ·refine .inr ⟨hgo i (by omega),λσ' H'=>∃ρ' M',fA K H' ρ' σ'/\bI K M' H'/\Ext H H'/\Pv (i+1) ρ' M',λσ' H' ⟨ρ',M',a,b,c,d⟩=>⟨ds.length-(i+1),by omega,ρ',M',a,b,c,rfl,hlt,d⟩,λx H' y=>?_⟩;obtain⟨rfl,hx⟩:=hy i x H' y;obtain⟨d,hd,rd⟩:=rs.getV hx;refine⟨d,ρ1,M1,_,rd,re1,hm1,step i d ρ1 M1 hd w1,λσ2 H2 ⟨ρ2,M2,re2,hm2,e2,q2⟩=>⟨ρ2,M2,_,re2,hm2,q2,?_⟩⟩;have ex:=e1.trans e2;exact⟨λσ' H' ⟨ρ',M',a,b,c,d⟩=>⟨ρ',M',a,b,ex.trans c,d⟩,λv H' z=>k.rt v H' (z.back (ex0.trans ex)),λσ' H' z=>k.nx σ' H' (z.back (ex0.trans ex)),λσ' H' ⟨ρ',M',a,b,c,d⟩=>⟨ρ',M',a,b,ex.trans c,d⟩⟩
 ·have e:i=ds.length:=by omega
  subst e;exact .inl ⟨hst _ (by omega),k.nx σ1 H1 ⟨ρ1,M1,re1,hm1,ex0.trans e1,done ρ1 M1 w1⟩⟩
end
section
variable {X:Cx}{pos:Pos}{iter tg:Expr}{body:List Stmt}{tl:DE}{g:DG}{tb:DS}{ta:DA}
theorem aCG (hp:PassesOwn (model X.prog X.w) X.A X.env X.xe)(hc:X.calm=true)(hi:PDE X iter tl)(hg:PDG X tg g)(hb:kU X body tb)(hs:∀x,foldedSetIterable iter X.env x=pure x:=by intro _;rfl):PDS X (.For tg iter body [] pos) (aBw tl g tb) :=
 gG (aB7 hp hc (zO hi) hg hb hs) λE σ H ⟨ρ,M,Dn,re,hm,q,k⟩=>⟨ρ,M,_,re,hm,q,λv H1 ⟨d,M1,rd,hm1,ex,q1⟩=>by
  cases d with
  |fz ds =>
   obtain⟨a,xs,rfl,sq,rs⟩:=lZ rd;exact⟨a,rfl,⟨xs,sq.sq⟩,aDX ex (re.ext ex) hm1 k q1 λH' e' M' hm' _=>⟨xs,rs.ext e',λi hi=>⟨xs,(jF e' sq).sq,hi⟩,λi hi=>⟨xs,xs[i],(jF e' sq).sq,by simp[hi]⟩,λi x H2 y=>⟨y.1,y.2 xs (jF e' sq).sq⟩⟩⟩
  |ref a =>
   obtain⟨ds,ha,q1⟩:=q1;obtain rfl:=aO rd;obtain⟨xs,hx,rs⟩:=hm1.l a ds ha;refine⟨a,rfl,⟨xs,.of hx⟩,aDX ex (re.ext ex) hm1 k q1 λH' e' M' hm' hat=>?_⟩;obtain⟨ys,hy,rs'⟩:=hm'.l a ds (hat a rfl);exact⟨ys,rs',λi hi=>⟨ys,.of hy,hi⟩,λi hi=>⟨ys,ys[i],.of hy,by simp[hi]⟩,λi x H2 y=>⟨y.1,y.2 ys (.of hy)⟩⟩
  |_=>exact q1.elim⟩
end
mutual
noncomputable def eqD:D->D->Bool
 |.tup xs,.tup ys=>fY xs ys
 |.non,.non=>true
 |.bl a,.bl b=>a==b
 |.bl a,.int b=>(if a then 1 else 0)==b
 |.int a,.bl b=>a==(if b then 1 else 0)
 |.int a,.int b=>a==b
 |.str a,.str b=>a==b
 |_,_=>false
noncomputable def fY:List D->List D->Bool
 |[],[]=>true
 |x::xs,y::ys=>eqD x y&&fY xs ys
 |_,_=>false
end
noncomputable def bH:Nat->D->Bool
 |_,.ref _=>false
 |_,.fz _=>false
 |0,.tup _=>false
 |n+1,.tup ds=>ds.all (bH n)
 |_,_=>true
noncomputable def mG:List D->List D->Nat->Bool
 |x::_,y::_,0=>eqD x y
 |_::xs,_::ys,j+1=>mG xs ys j
 |_,_,_=>true
theorem rD (n:Nat)(e:Nat->Bool):(range (n+1)).all e=(e 0&&(range n).all λj=>e (j+1)):=by rw[List.range_succ_eq_map,all_cons,all_map];rfl
theorem fF:∀(xs ys:List D),fY xs ys=((range (min xs.length ys.length)).all (mG xs ys)&&xs.length==ys.length)
 |[],[]=>by simp[fY]
 |[],_::_=>by simp[fY]
 |_::_,[]=>by simp[fY]
 |x::xs,y::ys=>by
  have ih:=fF xs ys;have e1:min (x::xs).length (y::ys).length=min xs.length ys.length+1:=by simp only[length_cons];omega
  have e2:((x::xs).length==(y::ys).length)=(xs.length==ys.length):=by simp
  rw[e1,e2,rD];show(eqD x y&&fY xs ys)=((eqD x y&&(range (min xs.length ys.length)).all λj=>mG xs ys j)&&xs.length==ys.length);rw[ih,Bool.and_assoc]
section
variable {X:Cx}{pins:List (Addr×Obj)}{σ:L2.St}{H:Hp}{s:Shared}
theorem rZ {n:Nat}{d:D}(p:bH n d=true)(h:∀xs,d ≠ .tup xs):bH 0 d=true:=by
 cases d with
 |tup xs=>exact absurd rfl (h xs)
 |ref b=>cases n<;>exact absurd p Bool.false_ne_true
 |fz b=>cases n<;>exact absurd p Bool.false_ne_true
 |_=>rfl
theorem mP {d d':D}{v:V}(p:bH 0 d=true)(p':bH 0 d'=true)(r:Rep X.K H d v)(r':Rep X.K H d' v):eqD d d'=true:=by
 cases d<;>cases d'<;>first
  |(exact absurd p Bool.false_ne_true)
  |(exact absurd p' Bool.false_ne_true)
  |(unfold Rep at r r';subst r;cases r'<;>simp[eqD])
theorem qG {d:D}{a:Addr}(p:bH 0 d=true)(r:Rep X.K H d (.ref a)):False:=by
 cases d<;>first
  |(exact absurd p Bool.false_ne_true)
  |(unfold Rep at r;cases r)
theorem vG {n:Nat}(ih:∀{d d':D}{v:V},bH n d=true->bH n d'=true->Rep X.K H d v->Rep X.K H d' v->eqD d d'=true) :
  ∀{xs ys:List D}{us:List V},xs.all (bH n)=true->ys.all (bH n)=true->bG X.K H xs us->bG X.K H ys us->fY xs ys=true
 |[],[],_,_,_,_,_=>by simp[fY]
 |[],_::_,_,_,_,r,r'=>by rw[bE r] at r';obtain⟨_,_,z,_⟩:=aR r';cases z
 |_::_,[],_,_,_,r,r'=>by rw[bE r'] at r;obtain⟨_,_,z,_⟩:=aR r;cases z
 |x::xs,y::ys,_,p1,p2,r,r'=>by obtain⟨v0,r0,rfl,h1,h2⟩:=aR r;obtain⟨v0',r0',e0,h1',h2'⟩:=aR r';cases e0;rw[all_cons,Bool.and_eq_true] at p1 p2;show(eqD x y&&fY xs ys)=true;rw[ih p1.1 p2.1 h1 h1',vG ih p1.2 p2.2 h2 h2'];rfl
theorem aDh (I:Inv X pins σ H s):∀(n:Nat){d d':D} {v:V},bH n d=true->bH n d'=true->Rep X.K H d v->Rep X.K H d' v->eqD d d'=true:=by
 intro n
 induction n with
 |zero=>intro d d' v p p' r r';exact mP p p' r r'
 |succ n ih =>
  intro d d' v p p' r r';by_cases h1:∃xs,d=.tup xs
  ·obtain⟨xs,rfl⟩:=h1;obtain⟨a,us,rfl,sq,rs⟩:=bF r;by_cases h2:∃ys,d'=.tup ys
   ·obtain⟨ys,rfl⟩:=h2;obtain⟨a',us',e1',sq',rs'⟩:=bF r';cases e1';obtain rfl:=I.tuple_inj sq sq';exact vG ih p p' rs rs'
   ·exact(qG (rZ p' λxs e=>h2 ⟨xs,e⟩) r').elim
  ·have p0:=rZ p λxs e=>h1 ⟨xs,e⟩;by_cases h2:∃ys,d'=.tup ys
   ·obtain⟨ys,rfl⟩:=h2;obtain⟨a',us',rfl,sq',rs'⟩:=bF r';exact(qG p0 r).elim
   ·exact mP p0 (rZ p' λxs e=>h2 ⟨xs,e⟩) r r'
theorem gS (I:Inv X pins σ H s){a:Addr}{xs:List V}(sq:SqT X.K H a xs):∃its:List Value,bN xs its/\s.heap.IsTuple a its.toArray:=let ⟨its,r,p,_⟩:=I.tuple sq;⟨its,r,p⟩
theorem pX {d:D}{v:V}{n:Nat}(h:Rep X.K H d v)(p:bH 0 d=true):aB1 v=true:=by
 cases d with
 |non=>unfold Rep at h;subst h;rfl
 |bl b=>unfold Rep at h;subst h;rfl
 |int b=>unfold Rep at h;subst h;rfl
 |str b=>unfold Rep at h;subst h;rfl
 |tup b=>exact absurd p Bool.false_ne_true
 |ref b=>exact absurd p Bool.false_ne_true
 |fz b=>exact absurd p Bool.false_ne_true
theorem nE {A:Around}{n:Nat}(ih:∀{d d':D}{v v':V} {u u':Value},bH n d=true->bH n d'=true->Rep X.K H d v->Rep X.K H d' v'->bM v u->bM v' u'->SeqAt.EqAt A s u u' (eqD d d')) :
  ∀{xs ys:List D}{us us':List V} {its its':List Value},xs.all (bH n)=true->ys.all (bH n)=true->bG X.K H xs us->bG X.K H ys us'->bN us its->bN us' its'->∀j (h1:j<its.length) (h2:j<its'.length),SeqAt.EqAt A s its[j] its'[j] (mG xs ys j)
 |[],ys,us,us',its,its',_,_,r1,_,v1,_,j,h1,_=>by rw[bE r1] at v1;cases v1;exact absurd h1 (Nat.not_lt_zero _)
 |_::_,[],us,us',its,its',_,_,_,r2,_,v2,j,_,h2=>by rw[bE r2] at v2;cases v2;exact absurd h2 (Nat.not_lt_zero _)
 |x::xs,y::ys,us,us',its,its',p1,p2,r1,r2,v1,v2,j,h1,h2=>by
  obtain⟨a,ra,rfl,ha,hra⟩:=aR r1;obtain⟨b,rb,rfl,hb,hrb⟩:=aR r2;rw[all_cons,Bool.and_eq_true] at p1 p2;cases v1 with
  |cons q1 w1 =>
   cases v2 with
   |cons q2 w2 =>
    cases j with
    |zero=>exact ih p1.1 p2.1 ha hb q1 q2
    |succ j=>exact nE ih p1.2 p2.2 hra hrb w1 w2 j (Nat.lt_of_succ_lt_succ h1) (Nat.lt_of_succ_lt_succ h2)
theorem aAU {d d':D}{v v':V}(p:bH 0 d=true)(p':bH 0 d'=true)(r:Rep X.K H d v)(r':Rep X.K H d' v'):eqV v v'=eqD d d':=by
 cases d<;>cases d'<;>first
  |(exact absurd p Bool.false_ne_true)
  |(exact absurd p' Bool.false_ne_true)
  |(unfold Rep at r r';subst r;subst r';simp[eqD,eqV])
theorem wQ (I:Inv X pins σ H s):∀(n:Nat){A:Around} {d d':D} {v v':V} {u u':Value},A.units+n<cLine->bH n d=true->bH n d'=true->Rep X.K H d v->Rep X.K H d' v'->bM v u->bM v' u'->SeqAt.EqAt A s u u' (eqD d d'):=by
 intro n
 induction n with
 |zero =>
  intro A d d' v v' u u' hu p p' r r' q q';have:=aBH (A:=A) (s:=s) q q' (pX (n:=0) r p) (pX (n:=0) r' p');rw[aAU p p' r r'] at this;exact this
 |succ n ih =>
  intro A d d' v v' u u' hu p p' r r' q q';by_cases h1:∃xs,d=.tup xs
  ·obtain⟨xs,rfl⟩:=h1;obtain⟨a,us,rfl,sq,rs⟩:=bF r;obtain⟨its,rv,ht⟩:=gS I sq;cases q;by_cases h2:∃ys,d'=.tup ys
   ·obtain⟨ys,rfl⟩:=h2;obtain⟨a',us',rfl,sq',rs'⟩:=bF r';obtain⟨its',rv',ht'⟩:=gS I sq';cases q';by_cases hll:a=a'
    ·subst hll;rw[aDh I (n+1) p p' r r'];exact SeqAt.EqAt.same _
    ·have e1:=rs.length;have e2:=rv.length;have e3:=rs'.length;have e4:=rv'.length;show SeqAt.EqAt A s (.ref a) (.ref a') (fY xs ys);rw[fF,show xs.length=its.toArray.size by rw[size_toArray];omega,show ys.length=its'.toArray.size by rw[size_toArray];omega];refine SeqAt.EqAt.of_refs hll (SeqAt.RcAt.tuples ht ht' (by omega) λj j1 j2=>?_);have hu':A.in1.units+n<cLine:=by show A.units+1+n<cLine;omega
     have:=nE (A:=A.in1) (s:=s) (λ{d d' v v' u u'} p p' r r' q q'=>ih hu' p p' r r' q q') p p' rs rs' rv rv' j (by simpa using j1) (by simpa using j2);simpa using this
   ·have p0:=rZ p' (λxs e=>h2 ⟨xs,e⟩);cases d' with
    |non=>rw[cW r'] at q';cases q';exact SeqAt.EqAt.tuple_none ht (by omega)
    |bl b=>rw[bS r'] at q';cases q';exact SeqAt.EqAt.tuple_bool b ht (by omega)
    |int b=>rw[aW r'] at q';obtain⟨t,rfl⟩:=q';exact SeqAt.EqAt.tuple_int b t ht (by omega)
    |str b=>rw[cV r'] at q';obtain⟨t,rfl⟩:=q';exact SeqAt.EqAt.tuple_str b t ht (by omega)
    |tup b=>exact absurd p0 Bool.false_ne_true
    |ref b=>exact absurd p0 Bool.false_ne_true
    |fz b=>exact absurd p0 Bool.false_ne_true
  ·have p0:=rZ p (λxs e=>h1 ⟨xs,e⟩);by_cases h2:∃ys,d'=.tup ys
   ·obtain⟨ys,rfl⟩:=h2;obtain⟨a',us',rfl,sq',rs'⟩:=bF r';obtain⟨its',rv',ht'⟩:=gS I sq';cases q';cases d with
    |non=>rw[cW r] at q;cases q;exact SeqAt.EqAt.none_tuple ht' (by omega)
    |bl b=>rw[bS r] at q;cases q;exact SeqAt.EqAt.bool_tuple b ht' (by omega)
    |int b=>rw[aW r] at q;obtain⟨t,rfl⟩:=q;exact SeqAt.EqAt.int_tuple b t ht' (by omega)
    |str b=>rw[cV r] at q;obtain⟨t,rfl⟩:=q;exact SeqAt.EqAt.str_tuple b t ht' (by omega)
    |tup b=>exact absurd p0 Bool.false_ne_true
    |ref b=>exact absurd p0 Bool.false_ne_true
    |fz b=>exact absurd p0 Bool.false_ne_true
   ·have p0':=rZ p' (λxs e=>h2 ⟨xs,e⟩);have:=aBH (A:=A) (s:=s) q q' (pX (n:=0) r p0) (pX (n:=0) r' p0');rw[aAU p0 p0' r r'] at this;exact this
theorem aHX (I:Inv X pins σ H s){A:Around}(hu:A.units+60<cLine){d d':D}{v v':V}{u u':Value}(p:bH 60 d=true)(p':bH 60 d'=true)(r:Rep X.K H d v)(r':Rep X.K H d' v')(q:bM v u)(q':bM v' u') :
  SeqAt.RcAt A s u u' (eqD d d')/\SeqAt.RcNeAt A s u u' (!eqD d d'):=by
 have hu0:A.units<cLine:=by omega
 cases d with
 |ref b=>exact absurd p Bool.false_ne_true
 |fz b=>exact absurd p Bool.false_ne_true
 |tup xs =>
  obtain⟨a,us,rfl,sq,rs⟩:=bF r;obtain⟨its,rv,ht⟩:=gS I sq;cases q;cases d' with
  |ref b=>exact absurd p' Bool.false_ne_true
  |fz b=>exact absurd p' Bool.false_ne_true
  |non=>rw[cW r'] at q';cases q';exact⟨SeqAt.RcAt.tuple_none ht hu0,SeqAt.RcNeAt.tuple_none ht hu0⟩
  |bl b=>rw[bS r'] at q';cases q';exact⟨SeqAt.RcAt.tuple_bool b ht hu0,SeqAt.RcNeAt.tuple_bool b ht hu0⟩
  |int b=>rw[aW r'] at q';obtain⟨t,rfl⟩:=q';exact⟨SeqAt.RcAt.tuple_int b t ht hu0,SeqAt.RcNeAt.tuple_int b t ht hu0⟩
  |str b=>rw[cV r'] at q';obtain⟨t,rfl⟩:=q';exact⟨SeqAt.RcAt.tuple_str b t ht hu0,SeqAt.RcNeAt.tuple_str b t ht hu0⟩
  |tup ys =>
   obtain⟨a',us',rfl,sq',rs'⟩:=bF r';obtain⟨its',rv',ht'⟩:=gS I sq';cases q';have e1:=rs.length;have e2:=rv.length;have e3:=rs'.length;have e4:=rv'.length;have hit:∀j (h1:j<its.toArray.size) (h2:j<its'.toArray.size),SeqAt.EqAt A.in1 s its.toArray[j] its'.toArray[j] (mG xs ys j):=λj j1 j2=>by
    have hu':A.in1.units+59<cLine:=by show A.units+1+59<cLine;omega
    have:=nE (A:=A.in1) (s:=s) (λ{d d' v v' u u'} p p' r r' q q'=>wQ I 59 hu' p p' r r' q q') p p' rs rs' rv rv' j (by simpa using j1) (by simpa using j2);simpa using this
   have hz:eqD (.tup xs) (.tup ys)=((range (min its.toArray.size its'.toArray.size)).all (mG xs ys)&&its.toArray.size==its'.toArray.size):=by show fY xs ys=_;rw[fF,show xs.length=its.toArray.size by rw[size_toArray];omega,show ys.length=its'.toArray.size by rw[size_toArray];omega]
   rw[hz];exact⟨SeqAt.RcAt.tuples ht ht' hu0 hit,SeqAt.RcNeAt.tuples ht ht' hu0 hit⟩
 |non =>
  rw[cW r] at q;cases q;cases d' with
  |ref b=>exact absurd p' Bool.false_ne_true
  |fz b=>exact absurd p' Bool.false_ne_true
  |non=>rw[cW r'] at q';cases q';exact⟨SeqAt.RcAt.none_none,SeqAt.RcNeAt.none_none⟩
  |bl b=>rw[bS r'] at q';cases q';exact⟨SeqAt.RcAt.none_bool b,SeqAt.RcNeAt.none_bool b⟩
  |int b=>rw[aW r'] at q';obtain⟨t,rfl⟩:=q';exact⟨SeqAt.RcAt.none_int b t,SeqAt.RcNeAt.none_int b t⟩
  |str b=>rw[cV r'] at q';obtain⟨t,rfl⟩:=q';exact⟨SeqAt.RcAt.none_str b t,SeqAt.RcNeAt.none_str b t⟩
  |tup ys =>
   obtain⟨a',us',rfl,sq',rs'⟩:=bF r';obtain⟨its',rv',ht'⟩:=gS I sq';cases q';exact⟨SeqAt.RcAt.none_tuple ht' hu0,SeqAt.RcNeAt.none_tuple ht' hu0⟩
 |bl z =>
  rw[bS r] at q;cases q;cases d' with
  |ref b=>exact absurd p' Bool.false_ne_true
  |fz b=>exact absurd p' Bool.false_ne_true
  |non=>rw[cW r'] at q';cases q';exact⟨SeqAt.RcAt.bool_none z,SeqAt.RcNeAt.bool_none z⟩
  |bl b=>rw[bS r'] at q';cases q';exact⟨SeqAt.RcAt.bool_bool z b,SeqAt.RcNeAt.bool_bool z b⟩
  |int b=>rw[aW r'] at q';obtain⟨t,rfl⟩:=q';exact⟨SeqAt.RcAt.bool_int z b t,SeqAt.RcNeAt.bool_int z b t⟩
  |str b=>rw[cV r'] at q';obtain⟨t,rfl⟩:=q';exact⟨SeqAt.RcAt.bool_str z b t,SeqAt.RcNeAt.bool_str z b t⟩
  |tup ys =>
   obtain⟨a',us',rfl,sq',rs'⟩:=bF r';obtain⟨its',rv',ht'⟩:=gS I sq';cases q';exact⟨SeqAt.RcAt.bool_tuple z ht' hu0,SeqAt.RcNeAt.bool_tuple z ht' hu0⟩
 |int z =>
  rw[aW r] at q;obtain⟨tz,rfl⟩:=q;cases d' with
  |ref b=>exact absurd p' Bool.false_ne_true
  |fz b=>exact absurd p' Bool.false_ne_true
  |non=>rw[cW r'] at q';cases q';exact⟨SeqAt.RcAt.int_none z tz,SeqAt.RcNeAt.int_none z tz⟩
  |bl b=>rw[bS r'] at q';cases q';exact⟨SeqAt.RcAt.int_bool z tz b,SeqAt.RcNeAt.int_bool z tz b⟩
  |int b=>rw[aW r'] at q';obtain⟨t,rfl⟩:=q';exact⟨SeqAt.RcAt.int_int z tz b t,SeqAt.RcNeAt.int_int z tz b t⟩
  |str b=>rw[cV r'] at q';obtain⟨t,rfl⟩:=q';exact⟨SeqAt.RcAt.int_str z tz b t,SeqAt.RcNeAt.int_str z tz b t⟩
  |tup ys =>
   obtain⟨a',us',rfl,sq',rs'⟩:=bF r';obtain⟨its',rv',ht'⟩:=gS I sq';cases q';exact⟨SeqAt.RcAt.int_tuple z tz ht' hu0,SeqAt.RcNeAt.int_tuple z tz ht' hu0⟩
 |str z =>
  rw[cV r] at q;obtain⟨tz,rfl⟩:=q;cases d' with
  |ref b=>exact absurd p' Bool.false_ne_true
  |fz b=>exact absurd p' Bool.false_ne_true
  |non=>rw[cW r'] at q';cases q';exact⟨SeqAt.RcAt.str_none z tz,SeqAt.RcNeAt.str_none z tz⟩
  |bl b=>rw[bS r'] at q';cases q';exact⟨SeqAt.RcAt.str_bool z tz b,SeqAt.RcNeAt.str_bool z tz b⟩
  |int b=>rw[aW r'] at q';obtain⟨t,rfl⟩:=q';exact⟨SeqAt.RcAt.str_int z tz b t,SeqAt.RcNeAt.str_int z tz b t⟩
  |str b=>rw[cV r'] at q';obtain⟨t,rfl⟩:=q';exact⟨SeqAt.RcAt.str_str z tz b t,SeqAt.RcNeAt.str_str z tz b t⟩
  |tup ys =>
   obtain⟨a',us',rfl,sq',rs'⟩:=bF r';obtain⟨its',rv',ht'⟩:=gS I sq';cases q';exact⟨SeqAt.RcAt.str_tuple z tz ht' hu0,SeqAt.RcNeAt.str_tuple z tz ht' hu0⟩
end
section
variable {X:Cx}{a b e o:Expr}{es:List Expr}{ta tb te to:DE}{t:DA}{pos:Pos}
def d2I (C:Int->Int->Prop)(g:Int->Int->D):D2:=λx y M Q=>match x,y with
 |.int i,.int j=>C i j/\Q (g i j) M
 |_,_=>False
def d2J (g:Int->Int->D):D2:=λx y M Q=>match x,y with
 |.int i,.int j=>Q (g i j) M
 |_,_=>False
theorem aC9 {f:Value->Value->Sem Value}{C:Int->Int->Prop}{g:Int->Int->D}{g':Int->Int->V}(h:OpR X f (rI C g'))(hg:∀H i j,Rep X.K H (g i j) (g' i j)):OpD X f (d2I C g) :=
 OpD.of h λx y H M dx dy Q rx ry hm q=>by
  cases dx with
  |int i =>
   cases dy with
   |int j=>exact⟨i,j,aW rx,aW ry,q.1,_,M,hg H i j,hm,.refl H,q.2⟩
   |_=>exact q.elim
  |_=>exact q.elim
theorem aBr {f:Value->Value->Sem Value}{g:Int->Int->D}{g':Int->Int->V}(h:OpR X f (rI0 g'))(hg:∀H i j,Rep X.K H (g i j) (g' i j)):OpD X f (d2J g) :=
 OpD.of h λx y H M dx dy Q rx ry hm q=>by
  cases dx with
  |int i =>
   cases dy with
   |int j=>exact⟨i,j,aW rx,aW ry,_,M,hg H i j,hm,.refl H,q⟩
   |_=>exact q.elim
  |_=>exact q.elim
theorem gD:OpD X (binaryOp .Sub) (d2J λi j=>.int (i-j)):=aBr aGJ λ_ _ _=>cN
theorem aCw:OpR X (binaryOp .Mult) (rI IntMulOk λi j=>.int (i*j)):=opI λ_ _ _ _ _ _ _ hc q=>mul_int q hc
theorem bW:OpD X (binaryOp .Mult) (d2I IntMulOk λi j=>.int (i*j)):=aC9 aCw λ_ _ _=>cN
def CFd (i j:Int):Prop:=j≠0/\j.natAbs.log2<9000
theorem aGz:OpR X (binaryOp .FloorDiv) (rI CFd λi j=>.int (i.fdiv j)):=opI λ_ _ _ _ _ _ _ hc q=>floordiv_int hc.1 q (.inl (PyProof.noPylong_of_log2 hc.2))
theorem kP:OpD X (binaryOp .FloorDiv) (d2I CFd λi j=>.int (i.fdiv j)):=aC9 aGz λ_ _ _=>cN
theorem oB:OpD X (binaryOp .Mod) (d2I (λ_ j=>j≠0) λi j=>.int (i.fmod j)):=aC9 aC8 λ_ _ _=>cN
theorem aCm:OpD X (binaryOp .Pow) (d2I aGP λi j=>.int (i^j.toNat)):=aC9 aEW λ_ _ _=>cN
theorem vP:OpD X (compareOp .Lt) (d2J λi j=>.bl (decide (i<j))):=aBr aH0 λ_ _ _=>dH
theorem aH4:OpD X (compareOp .LtE) (d2J λi j=>.bl (decide (i<=j))):=aBr aG1 λ_ _ _=>dH
theorem aCi:OpD X (compareOp .Gt) (d2J λi j=>.bl (decide (j<i))):=aBr aHw λ_ _ _=>dH
theorem aD9:OpD X (compareOp .GtE) (d2J λi j=>.bl (decide (j<=i))):=aBr aHy λ_ _ _=>dH
def aG2:D2:=λx y M Q=>match x,y with
 |.int i,.int j=>Q (.int (i+j)) M
 |.ref a,.ref b=>∃xs ys,M a=some xs/\M b=some ys/\xs.length+ys.length<=1000/\∀p:Addr,M p=none->Q (.ref p) (bC M p (xs++ys))
 |.fz xs,.ref b=>∃ys,M b=some ys/\xs.length+ys.length<=1000/\∀p:Addr,M p=none->Q (.ref p) (bC M p (xs++ys))
 |.tup xs,.tup ys=>xs≠[]/\ys≠[]/\xs.length+ys.length<=1000/\Q (.tup (xs++ys)) M
 |_,_=>False
theorem aB8 {pins:List (Addr×Obj)}{σ:L2.St}{H:Hp}{s:Shared}(I:Inv X pins σ H s){a:Addr}{xs:List V}(h:SqX X.K H a xs):xs.length<=sizeLine/\∃(its:List Value)(n:Nat),bN xs its/\s.heap.get? a = some { cls:=.type "list",data:=.seq its.toArray n }:=by
 rcases h with⟨o,h⟩|⟨its,n,hk,hz,r⟩
 ·obtain⟨_,z,its,n,r,e⟩:=I.hok a _ h;exact⟨z,its,n,r,e⟩
 ·have e:=r.length;simp only[Array.length_toList] at e;exact⟨by omega,its.toList,n,r,by simpa using I.kIn a _ hk⟩
theorem eX:OpD X (binaryOp .Add) aG2:=by
 intro pins s σ H x y v u Q I rx ry ⟨dx,dy,M,Q',r1,r2,hm,q,k⟩;cases dx with
 |int i =>
  cases dy with
  |int j=>exact aEY pins s σ H x y v u Q I rx ry ⟨i,j,aW r1,aW r2,k _ H ⟨_,M,cN,hm,.refl H,q⟩⟩
  |_=>exact q.elim
 |ref a =>
  cases dy with
  |ref b =>
   obtain⟨xs,ys,ha,hb,hl,q⟩:=q;obtain⟨us,hu,ru⟩:=hm.l a xs ha;obtain⟨ws,hw,rw'⟩:=hm.l b ys hb;refine aE3 pins s σ H x y v u Q I rx ry ⟨a,b,us,ws,aO r1,aO r2,hu,hw,?_,λp hp=>k _ _ ⟨.ref p,_,eJ,hm.lnew hp (ru.append rw'),Ext.new hp _,q p (hm.fresh hp)⟩⟩;rw[<- ru.length,<- rw'.length];exact Nat.le_of_lt (dG hl)
  |_=>exact q.elim
 |fz xs =>
  cases dy with
  |ref b =>
   obtain⟨ys,hb,hl,q⟩:=q;obtain⟨a,us,rfl,sq,ru⟩:=lZ r1;obtain⟨ws,hw,rw'⟩:=hm.l b ys hb;obtain rfl:=aO r2;cases rx;cases ry;obtain⟨z,its,n,r,e⟩:=aB8 I sq;obtain⟨z2,its2,n2,r3,hl2,e2⟩:=I.lstM hw;have l1:=r.length;have l2:=r3.length;have l3:=ru.length;have l4:=rw'.length;have hz:=dG hl;refine PySem.P.add_list e e2 ?_ (by rw[size_toArray,size_toArray];omega);have ea:its.toArray++its2.toArray=(its++its2).toArray:=by simp
   rw[ea];refine⟨.ref _,_,I.lnew (t':=s.toks) (r.append r3) (by rw[length_append];omega),rfl,k _ _ ⟨.ref _,_,eJ,hm.lnew I.fresh (ru.append rw'),Ext.new I.fresh _,q _ (hm.fresh I.fresh)⟩⟩
  |_=>exact q.elim
 |tup xs =>
  cases dy with
  |tup ys =>
   obtain⟨h1,h2,hl,q⟩:=q;obtain⟨a,us,rfl,sq,ru⟩:=bF r1;obtain⟨b,ws,rfl,sq2,rw'⟩:=bF r2;have l3:=ru.length;have l4:=rw'.length;refine yT pins s σ H _ _ v u Q I rx ry ?_;have n1:us≠[]:=λz=>by rw[z] at l3;exact h1 (List.length_eq_zero_iff.mp l3)
   have n2:ws≠[]:=λz=>by rw[z] at l4;exact h2 (List.length_eq_zero_iff.mp l4)
   exact⟨a,b,us,ws,rfl,rfl,sq,sq2,n1,by rw[<- l3,<- l4];exact Nat.le_of_lt (dG hl),λz=>absurd z n2,λ_ p hp=>k _ _ ⟨.tup _,M,dF (.of cE) ((ru.append rw').ext (Ext.new hp _)),hm.new hp _,Ext.new hp _,q⟩⟩
  |_=>exact q.elim
 |_=>exact q.elim
def dEq (g:Bool->Bool):D2:=λx y M Q=>match x,y with
 |.ref a,.ref b=>∃xs ys,M a=some xs/\M b=some ys/\(a≠b)/\xs.all (bH 59)=true/\ys.all (bH 59)=true/\Q (.bl (g (fY xs ys))) M
 |x,y=>bH 60 x=true/\bH 60 y=true/\Q (.bl (g (eqD x y))) M
theorem aBF {pins:List (Addr×Obj)}{σ:L2.St}{H:Hp}{s:Shared}(I:Inv X pins σ H s){A:Around}(hu:A.units+60<cLine){a b:Addr}{us ws:List V}{xs ys:List D}(ha:H a=some (.lst us))(hb:H b=some (.lst ws))(ru:bG X.K H xs us)(rw':bG X.K H ys ws)(p:xs.all (bH 59)=true)(p':ys.all (bH 59)=true):SeqAt.RcAt A s (.ref a) (.ref b) (fY xs ys)/\SeqAt.RcNeAt A s (.ref a) (.ref b) (!fY xs ys):=by
 obtain⟨z,its,n,r,hl,e⟩:=I.lstM ha;obtain⟨z2,its2,n2,r3,hl2,e2⟩:=I.lstM hb;have i1:s.heap.IsList a its.toArray:=⟨_,e,rfl,_,rfl⟩;have i2:s.heap.IsList b its2.toArray:=⟨_,e2,rfl,_,rfl⟩;have l3:=ru.length;have l4:=rw'.length;have hu0:A.units<cLine:=by omega
 by_cases hz:its.toArray.size=its2.toArray.size
 ·have hz':=hz;rw[size_toArray,size_toArray] at hz';have hit:∀j (h1:j<its.toArray.size) (h2:j<its2.toArray.size),SeqAt.EqAt A.in1 s its.toArray[j] its2.toArray[j] (mG xs ys j):=λj j1 j2=>by
   have hu':A.in1.units+59<cLine:=by show A.units+1+59<cLine;omega
   have:=nE (A:=A.in1) (s:=s) (λ{d d' v v' u u'} p p' r r' q q'=>wQ I 59 hu' p p' r r' q q') p p' ru rw' r r3 j (by simpa using j1) (by simpa using j2);simpa using this
  have hz2:fY xs ys=(range its.toArray.size).all (mG xs ys):=by rw[fF,show min xs.length ys.length=its.toArray.size by rw[size_toArray];omega,show(xs.length==ys.length)=true by simp;omega,Bool.and_true]
  rw[hz2];exact⟨SeqAt.RcAt.lists i1 i2 hz hu0 hit,SeqAt.RcNeAt.lists i1 i2 hz hu0 hit⟩
 ·have hz':=hz;rw[size_toArray,size_toArray] at hz';have hz2:fY xs ys=false:=by rw[fF,show(xs.length==ys.length)=false by simp;omega,Bool.and_false]
  rw[hz2];exact⟨SeqAt.RcAt.lists_lengths i1 i2 (by simpa using hz) hu0,SeqAt.RcNeAt.lists_lengths i1 i2 (by simpa using hz) hu0⟩
theorem aCj (hu:X.A.units+60<cLine):OpD X (compareOp .Eq) (dEq id)/\OpD X (compareOp .NotEq) (dEq not):=by
 have key:∀{pins:List (Addr×Obj)}{s:Shared} {σ:L2.St} {H:Hp} {x y:V} {v u:Value} {dx dy:D} {M:DM} {Q':DQ} {g:Bool->Bool},Inv X pins σ H s->bM x v->bM y u->Rep X.K H dx x->Rep X.K H dy y->bI X.K M H->dEq g dx dy M Q' ->
   ∃b,SeqAt.RcAt X.A s v u b/\SeqAt.RcNeAt X.A s v u (!b)/\Q' (.bl (g b)) M:=by
  intro pins s σ H x y v u dx dy M Q' g I rx ry r1 r2 hm q;have gen:bH 60 dx=true->bH 60 dy=true->Q' (.bl (g (eqD dx dy))) M->∃b,SeqAt.RcAt X.A s v u b/\SeqAt.RcNeAt X.A s v u (!b)/\Q' (.bl (g b)) M:=λp p' q=>let ⟨h1,h2⟩:=aHX I hu p p' r1 r2 rx ry;⟨_,h1,h2,q⟩
  cases dx with
  |ref a =>
   cases dy with
   |ref b =>
    obtain⟨xs,ys,ha,hb,_,p,p',q⟩:=q;obtain⟨us,hu',ru⟩:=hm.l a xs ha;obtain⟨ws,hw,rw'⟩:=hm.l b ys hb;obtain rfl:=aO r1;obtain rfl:=aO r2;cases rx;cases ry;obtain⟨h1,h2⟩:=aBF I hu hu' hw ru rw' p p';exact⟨_,h1,h2,q⟩
   |_=>exact gen q.1 q.2.1 q.2.2
  |_=>exact gen q.1 q.2.1 q.2.2
 refine⟨λpins s σ H x y v u Q I rx ry ⟨dx,dy,M,Q',r1,r2,hm,q,k⟩=>?_,λpins s σ H x y v u Q I rx ry ⟨dx,dy,M,Q',r1,r2,hm,q,k⟩=>?_⟩
 ·obtain⟨b,h1,_,q⟩:=key I rx ry r1 r2 hm q;exact h1 X.prog X.w X.xe _ ⟨.bl b,H,I,rfl,k _ H ⟨.bl b,M,dH,hm,.refl H,q⟩⟩
 ·obtain⟨b,_,h2,q⟩:=key I rx ry r1 r2 hm q;exact h2 X.prog X.w X.xe _ ⟨.bl (!b),H,I,rfl,k _ H ⟨.bl (!b),M,dH,hm,.refl H,q⟩⟩
theorem bU {k:Nat}(hr:cM k X.A):OpD X (compareOp .Eq) (dEq id):=(aCj (by have:=hr.un;omega)).1
theorem lB {k:Nat}(hr:cM k X.A):OpD X (compareOp .NotEq) (dEq not):=(aCj (by have:=hr.un;omega)).2
def aFL (ta:DE):DE:=λρ M Q=>ta ρ M λx M1=>match x with
 |.int i=>Q (.int (-i)) M1
 |_=>False
theorem aGx (ha:PDE X a ta):PDE X (.UnaryOp .USub a pos) (aFL ta) :=
 cA (aIj aF8 ha) λσ H Q ⟨ρ,M,Q',re,hm,q,k⟩=>⟨ρ,M,_,re,hm,q,λx H1 ⟨d,M1,rd,hm1,ex,q1⟩=>by
  cases d with
  |int i=>exact⟨i,aW rd,k _ H1 ⟨_,M1,cN,hm1,ex,q1⟩⟩
  |_=>exact q1.elim⟩
def jK:D2:=λx y M Q=>match x,y with
 |.tup ds,.int i=>match atI ds i with
  |some d=>Q d M
  |none=>False
 |.fz ds,.int i=>match atI ds i with
  |some d=>Q d M
  |none=>False
 |.ref a,.int i=>∃ds d,M a=some ds/\atI ds i=some d/\Q d M
 |_,_=>False
theorem qE {K:Frag}{H:Hp}{ds:List D}{xs:List V}{i:Int}{d:D}(r:bG K H ds xs)(h:atI ds i=some d):∃v,atI xs i=some v/\Rep K H d v:=by
 unfold atI at h ⊢;rw[<- r.length];cases e:ixN ds.length i with
 |none=>rw[e] at h;cases h
 |some j =>
  rw[e] at h;exact r.get h
theorem ixd:IxR X λx y H Q=>∃dx dy M Q',Rep X.K H dx x/\Rep X.K H dy y/\bI X.K M H/\jK dx dy M Q'/\∀v H',LQ X.K H Q' v H'->Q v H':=by
 intro value slice pins s σ H x y v u Q I rx ry ⟨dx,dy,M,Q',r1,r2,hm,q,k⟩ hs;cases dx with
 |tup ds =>
  cases dy with
  |int i =>
   obtain⟨a,us,rfl,sq,ru⟩:=bF r1;obtain rfl:=aW r2;cases e:atI ds i with
   |none=>exact absurd q (by show ¬(match atI ds i with|some d=>Q' d M|none=>False);rw[e];exact id)
   |some d =>
    have q':Q' d M:=by have z:(match atI ds i with|some d=>Q' d M|none=>False):=q;rw[e] at z;exact z
    obtain⟨w,hw,rw'⟩:=qE ru e;exact aF2 value slice pins s σ H _ _ v u Q I rx ry ⟨a,us,i,w,rfl,rfl,sq,hw,k _ H ⟨d,M,rw',hm,.refl H,q'⟩⟩ hs
  |_=>exact q.elim
 |fz ds =>
  cases dy with
  |int i =>
   obtain⟨a,us,rfl,sq,ru⟩:=lZ r1;obtain rfl:=aW r2;cases e:atI ds i with
   |none=>exact absurd q (by show ¬(match atI ds i with|some d=>Q' d M|none=>False);rw[e];exact id)
   |some d =>
    have q':Q' d M:=by have z:(match atI ds i with|some d=>Q' d M|none=>False):=q;rw[e] at z;exact z
    obtain⟨w,hw,rw'⟩:=qE ru e;exact zA value slice pins s σ H _ _ v u Q I rx ry ⟨a,us,i,w,rfl,rfl,sq.sq,hw,k _ H ⟨d,M,rw',hm,.refl H,q'⟩⟩ hs
  |_=>exact q.elim
 |ref a =>
  cases dy with
  |int i =>
   obtain⟨ds,d,ha,e,q'⟩:=q;obtain rfl:=aO r1;obtain rfl:=aW r2;obtain⟨us,hu,ru⟩:=hm.l a ds ha;obtain⟨w,hw,rw'⟩:=qE ru e;exact zA value slice pins s σ H _ _ v u Q I rx ry ⟨a,us,i,w,rfl,rfl,.of hu,hw,k _ H ⟨d,M,rw',hm,.refl H,q'⟩⟩ hs
  |_=>exact q.elim
 |_=>exact q.elim
theorem aIg (ha:PDE X a ta)(hb:PDE X b tb)(hs:mS b:=by exact λ_ _=>rfl):PDE X (.Subscript a b pos) (dOp jK ta tb) :=
 cA (aHf ixd ha hb hs) λσ H Q h=>uY (λ_ _ _ _ z=>z) h
abbrev DO:=cC->DM->(Option Int->DM->Prop)->Prop
def tL (K:Frag)(t:DO):TO:=λσ H Q=>∃ρ M Q',fA K H ρ σ/\bI K M H/\t ρ M Q'/\∀i H',(∃M',bI K M' H'/\Ext H H'/\Q' i M')->Q i H'
noncomputable def aE6:DO:=λ_ M Q=>Q none M
noncomputable def dPt (t:DE):DO:=λρ M Q=>t ρ M λx M1=>match x with
 |.int i=>Q (some i) M1
 |_=>False
theorem aC1:PO X none (tL X.K aE6):=λpins s σ H Q I ⟨ρ,M,Q',re,hm,q,k⟩=>aCF pins s σ H Q I (k none H ⟨M,hm,.refl H,q⟩)
theorem aDQ (h:PDE X e te):PO X (some e) (tL X.K (dPt te)):=λpins s σ H Q I ⟨ρ,M,Q',re,hm,q,k⟩=>aCC h pins s σ H Q I ⟨ρ,M,_,re,hm,q,λv H1 ⟨d,M1,rd,hm1,ex,q1⟩=>by
 cases d with
 |int i=>exact⟨i,aW rd,k (some i) H1 ⟨M1,hm1,ex,q1⟩⟩
 |_=>exact q1.elim⟩
noncomputable def cutD (xs:List D)(lo hi:Option Int):List D:=(xs.drop (HT.sIx xs.length 0 lo)).take (HT.sIx xs.length xs.length hi-HT.sIx xs.length 0 lo)
theorem qY {K:Frag}{H:Hp}{ds:List D}{xs:List V}(r:bG K H ds xs)(lo hi:Option Int):bG K H (cutD ds lo hi) (vQ xs lo hi):=by unfold cutD vQ;rw[r.length];exact(r.drop _).take _
def aHN (x:D)(lo hi:Option Int)(M:DM)(Q:DQ):Prop:=match x with
 |.fz ds=>∀p:Addr,M p=none->Q (.ref p) (bC M p (cutD ds lo hi))
 |.ref a=>∃ds,M a=some ds/\∀p:Addr,M p=none->Q (.ref p) (bC M p (cutD ds lo hi))
 |_=>False
def dSl (te:DE)(tl th:DO):DE:=λρ M Q=>te ρ M λx M1=>tl ρ M1 λl M2=>th ρ M2 λh M3=>aHN x l h M3 Q
variable {lo hi:Option Expr}{tl th:DO}{p2:Pos}
theorem aAZ (he:PDE X e te)(hl:PO X lo (tL X.K tl))(hu:PO X hi (tL X.K th)):PDE X (.Subscript e (.Slice lo hi none p2) pos) (dSl te tl th) :=
 cA (wB aCM he hl hu) λσ H Q ⟨ρ,M,Q',re,hm,q,k⟩=>⟨ρ,M,_,re,hm,q,λv H1 ⟨d,M1,rd,hm1,e1,q1⟩=>⟨ρ,M1,_,re.ext e1,hm1,q1,λl H2 ⟨M2,hm2,e2,q2⟩=>⟨ρ,M2,_,(re.ext e1).ext e2,hm2,q2,λh H3 ⟨M3,hm3,e3,q3⟩=>by
  have rd3:=(rd.ext e2).ext e3;have ex:=(e1.trans e2).trans e3;cases d with
  |fz ds =>
   obtain⟨a,us,rfl,sq,ru⟩:=lZ rd3;exact⟨a,us,rfl,sq.sq,λp hp=>k _ _ ⟨.ref p,_,eJ,hm3.lnew hp (qY ru l h),ex.trans (Ext.new hp _),q3 p (hm3.fresh hp)⟩⟩
  |ref a =>
   obtain⟨ds,ha,q3⟩:=q3;obtain rfl:=aO rd;obtain⟨us,hu,ru⟩:=hm3.l a ds ha;exact⟨a,us,rfl,.of hu,λp hp=>k _ _ ⟨.ref p,_,eJ,hm3.lnew hp (qY ru l h),ex.trans (Ext.new hp _),q3 p (hm3.fresh hp)⟩⟩
  |_=>exact q3.elim⟩⟩⟩
abbrev DSp:=List D->DM->DQ->Prop
def mM (K:Frag)(sp:DSp):Sp:=λvs H Q _=>∃ds M Q',bG K H ds vs/\bI K M H/\sp ds M Q'/\∀v H',LQ K H Q' v H'->Q v H'
def mJ (sp:DSp)(t:DA):DE:=λρ M Q=>t ρ M λds M1=>sp ds M1 Q
variable {CX:CXT}{k:Nat}{f:Addr}{fd:FuncData}{ps:List Str}{sp:DSp}{E:XK}{x:Str}{p:Pos}
theorem aCA (F:iM X.prog X.w X.K X.mg X.base CX k f fd ps (mM X.K sp))(hr:cM k X.A)(hm:X.mg x=some (.ref f))(hk:keepIn X.K (.ref f)=true)(hb:hX X.K fd ps [])(hx:lR CX X E)(ha:PDA X (e::es) t)(hg:Gl X x:=by rfl)(hdb:(x==("__debug__":Str))=false:=by decide)(he:starEach (e::es) X.env=(false,eval e X.env)::starEach es X.env:=by rfl)(hpl:(backTo pos (starEach es X.env)).any (·.1)=false:=by rfl) :
  PDE X (.Call (.Name x p) (e::es) [] pos) (mJ sp t) :=
 cA (aCS F hr hg hm hk hb .nil hx ha hdb he hpl) λσ H Q ⟨ρ,M,Q',re,hm,q,k⟩=>⟨ρ,M,_,re,hm,q,λvs H1 ⟨ds,M1,rs,hm1,ex,q1⟩=>⟨ds,M1,Q',by rw[append_nil];exact rs,hm1,q1,λv H' z=>k v H' (z.back ex)⟩⟩
def gJ (X:Cx)(fv:Value)(r:DSp):Prop:=jQ X fv λvs H Q=>∃ds M Q',bG X.K H ds vs/\bI X.K M H/\r ds M Q'/\∀v H',LQ X.K H Q' v H'->Q v H'
theorem gJ.of {fv:Value}{r:List V->Hp->VK->Prop}{r':DSp}(h:jQ X fv r)(l:∀vs H M ds Q,bG X.K H ds vs->bI X.K M H->r' ds M Q->r vs H (LQ X.K H Q)):gJ X fv r':=λpins s σ H xs us Q I rs ⟨ds,M,Q',r1,hm,q,k⟩ =>
 thn (h pins s σ H xs us _ I rs (l xs H M ds Q' r1 hm q)) λv s h=>yL h k
theorem aAO {r:DSp}{σ:L2.St}{H:Hp}{Q:VK}(h:low X.K (mJ r t) σ H Q):aHT X.K t σ H λvs H1=>∃ds M Q',bG X.K H1 ds vs/\bI X.K M H1/\r ds M Q'/\∀v H',LQ X.K H1 Q' v H'->Q v H':=by obtain⟨ρ,M,Q',re,hm,q,k⟩:=h;exact⟨ρ,M,_,re,hm,q,λvs H1 ⟨ds,M1,rs,hm1,ex,q1⟩=>⟨ds,M1,Q',rs,hm1,q1,λv H' z=>k v H' (z.back ex)⟩⟩
theorem aCg {id:String}{r:DSp}(hc:gJ X (.builtin id) r)(hm:X.mg x = none)(ha:PDA X (e :: es) t)(hv:bootBuiltins x = some (.builtin id):=by rfl)(hg:Gl X x:=by rfl)(hn:x ≠ "__name__":=by decide)(hdb:(x==("__debug__":Str))=false:=by decide)(he:starEach (e::es) X.env=(false,eval e X.env)::starEach es X.env:=by rfl)(hpl:(backTo pos (starEach es X.env)).any (·.1)=false:=by rfl):PDE X (.Call (.Name x p) (e::es) [] pos) (mJ r t) :=
 cA (rF hc hg hm hv ha hn hdb he hpl) λσ H Q h=>aAO h
theorem aAb {T:String}{r:DSp}(hc:gJ X (.type T) r)(hm:X.mg x = none)(ha:PDA X (e :: es) t)(hv:bootBuiltins x = some (.type T):=by rfl)(hg:Gl X x:=by rfl)(hn:x ≠ "__name__":=by decide)(hdb:(x==("__debug__":Str))=false:=by decide)(he:starEach (e::es) X.env=(false,eval e X.env)::starEach es X.env:=by rfl)(hpl:(backTo pos (starEach es X.env)).any (·.1)=false:=by rfl):PDE X (.Call (.Name x p) (e::es) [] pos) (mJ r t) :=
 cA (sH hc hg hm hv ha hn hdb he hpl) λσ H Q h=>aAO h
end
section
variable {X:Cx}{a b e o:Expr}{es:List Expr}{ta tb te to:DE}{t:DA}{pos:Pos}
def aHo:DSp:=λds M Q=>match ds with
 |[.int i]=>Q (.int (if i<0 then -i else i)) M
 |_=>False
theorem gX {K:Frag}{H:Hp}{d:D}{vs:List V}(h:bG K H [d] vs):∃v,vs=[v]/\Rep K H d v:=by obtain⟨v,r,rfl,rv,rr⟩:=aR h;obtain rfl:=bE rr;exact⟨v,rfl,rv⟩
theorem aGu:gJ X (.builtin "abs") aHo:=gJ.of aBc λvs H M ds Q rs hm q=>by
 rcases ds with _|⟨d,_|⟨d2,r⟩⟩
 ·exact q.elim
 ·cases d with
  |int i =>
   obtain⟨v,rfl,rv⟩:=gX rs;obtain rfl:=aW rv;exact⟨i,rfl,_,M,cN,hm,.refl H,q⟩
  |_=>exact q.elim
 ·cases d<;>exact q.elim
def aIk:DSp:=λds M Q=>match ds with
 |[.int i]=>Q (.int i) M
 |[.bl k]=>Q (.int (if k then 1 else 0)) M
 |_=>False
theorem aGO:gJ X (.type "int") aIk:=gJ.of aAu λvs H M ds Q rs hm q=>by
 rcases ds with _|⟨d,_|⟨d2,r⟩⟩
 ·exact q.elim
 ·cases d with
  |int i =>
   obtain⟨v,rfl,rv⟩:=gX rs;obtain rfl:=aW rv;exact .inl ⟨i,rfl,_,M,cN,hm,.refl H,q⟩
  |bl i =>
   obtain⟨v,rfl,rv⟩:=gX rs;obtain rfl:=bS rv;exact .inr ⟨i,rfl,_,M,cN,hm,.refl H,q⟩
  |_=>exact q.elim
 ·cases d<;>exact q.elim
def qK:DSp:=λds M Q=>match ds with
 |[.tup xs]=>Q (.int xs.length) M
 |[.fz xs]=>Q (.int xs.length) M
 |[.ref a]=>∃xs,M a=some xs/\Q (.int xs.length) M
 |_=>False
theorem fH:gJ X (.builtin "len") qK:=gJ.of tN λvs H M ds Q rs hm q=>by
 rcases ds with _|⟨d,_|⟨d2,r⟩⟩
 ·exact q.elim
 ·cases d with
  |tup xs =>
   obtain⟨v,rfl,rv⟩:=gX rs;obtain⟨a,us,rfl,sq,ru⟩:=bF rv;exact⟨a,us,rfl,.inr sq,_,M,by rw[<- ru.length];exact cN,hm,.refl H,q⟩
  |fz xs =>
   obtain⟨v,rfl,rv⟩:=gX rs;obtain⟨a,us,rfl,sq,ru⟩:=lZ rv;exact⟨a,us,rfl,.inl sq.sq,_,M,by rw[<- ru.length];exact cN,hm,.refl H,q⟩
  |ref a =>
   obtain⟨v,rfl,rv⟩:=gX rs;obtain rfl:=aO rv;obtain⟨xs,ha,q⟩:=q;obtain⟨us,hu,ru⟩:=hm.l a xs ha;exact⟨a,us,rfl,.inl (.of hu),_,M,by rw[<- ru.length];exact cN,hm,.refl H,q⟩
  |_=>exact q.elim
 ·cases d<;>exact q.elim
def aGn:DSp:=λds M Q=>match ds with
 |[.tup xs]=>Q (.tup xs) M
 |[.ref a]=>∃xs,M a=some xs/\Q (.tup xs) M
 |_=>False
theorem aBu:gJ X (.type "tuple") aGn:=gJ.of rW λvs H M ds Q rs hm q=>by
 rcases ds with _|⟨d,_|⟨d2,r⟩⟩
 ·exact q.elim
 ·cases d with
  |tup xs =>
   obtain⟨v,rfl,rv⟩:=gX rs;obtain⟨a,us,rfl,sq,ru⟩:=bF rv;exact⟨a,us,rfl,.inr ⟨sq,_,M,dF sq ru,hm,.refl H,q⟩⟩
  |ref a =>
   obtain⟨v,rfl,rv⟩:=gX rs;obtain rfl:=aO rv;obtain⟨xs,ha,q⟩:=q;obtain⟨us,hu,ru⟩:=hm.l a xs ha;exact⟨a,us,rfl,.inl ⟨.of hu,λp hp=>⟨.tup xs,M,dF (.of cE) (ru.ext (Ext.new hp _)),hm.new hp _,Ext.new hp _,q⟩⟩⟩
  |_=>exact q.elim
 ·cases d<;>exact q.elim
def uZ (to te:DE):DE:=λρ M Q=>to ρ M λx M1=>match x with
 |.ref p=>(∃ds,M1 p=some ds)/\fT te lF ρ M1 λys M2=>∃ds y,ys=[y]/\M2 p=some ds/\ds.length<1000/\Q .non (bC M2 p (ds++[y]))
 |_=>False
theorem aAd {apos cpos:Pos}(ho:PDE X o to)(he:PDE X e te)(hse:starEach [e] X.env=(false,eval e X.env)::starEach [] X.env:=by rfl)(hbase:attributeBase o "append" X.env (eval o X.env)=eval o X.env:=by rfl)(hfew:((backTo cpos (starEach [e] X.env)).all (λx=>!x.1)&&(backToKw cpos (keywordEach [] X.env)).all (λx=>x.1.isSome)
  &&decide ([e].length+([]:List Keyword).length+(if ([]:List Keyword).isEmpty then 0 else 1)<30))=true:=by rfl)(hline:(apos.endLine==cpos.line)=true:=by rfl)(hplain:(backTo cpos (starEach [] X.env)).any (·.1)=false:=by rfl) :
  PDE X (.Call (.Attribute o "append" apos) [e] [] cpos) (uZ to te) :=
 cA (aHB PySem.F.plainAttrs_list PySem.F.slot_list_append PySem.F.type_list_append zY ho (zK he aBP hse) hbase hfew hline hse hplain) λσ H Q ⟨ρ,M,Q',re,hm,q,k⟩=>⟨ρ,M,_,re,hm,q,λv H1 ⟨d,M1,rd,hm1,e1,q1⟩=>by
  cases d with
  |ref p =>
   obtain rfl:=aO rd;obtain⟨⟨ds0,h0⟩,q1⟩:=q1;obtain⟨us0,hu0,_⟩:=hm1.l p ds0 h0;refine⟨.inl ⟨rfl,us0,.of hu0⟩,ρ,M1,_,re.ext e1,hm1,q1,λvs H2 ⟨dvs,M2,rs,hm2,e2,ds,y,ey,hp,hl,q2⟩=>?_⟩;subst ey;obtain⟨w,rfl,rw'⟩:=gX rs;obtain⟨us,hu,ru⟩:=hm2.l p ds hp;exact⟨p,us,w,rfl,rfl,hu,by rw[<- ru.length];exact dG (Nat.le_of_lt hl),k _ _ ⟨.non,_,zJ,hm2.put hu (ru.append (cF rw' cP)),(e1.trans e2).trans (Ext.put hu _),q2⟩⟩
  |_=>exact q1.elim⟩
noncomputable def tyD:D->Option String
 |.non=>some "NoneType"
 |.bl _=>some "bool"
 |.int _=>some "int"
 |.str _=>some "str"
 |.tup _=>some "tuple"
 |.fz _=>some "list"
 |.ref _=>none
theorem tyT {K:Frag}{H:Hp}{s:Shared}{pins:List (Addr×Obj)}{σ:L2.St}(I:Inv X pins σ H s){a:Addr}{xs:List V}(sq:SqT X.K H a xs):∃o,s.heap.get? a = some o/\o.cls = .type "tuple":=by obtain⟨its,_,⟨o,h1,h2,_⟩,_⟩:=I.tuple sq;exact⟨o,h1,h2⟩
theorem aGW {K:Frag}{H:Hp}{s:Shared}{pins:List (Addr×Obj)}{σ:L2.St}{A:Around}{E:Value->Shared->Prop}{Q:Value->Shared->Prop}{c:Value}{d:D}{v:V}{u:Value}{T:String}{k:Bool}(I:Inv X pins σ H s)(rd:Rep X.K H d v)(rv:bM v u)(ty:tyD d=some T)(e:kitOne X.K (.type T) c = some k)(h:∀tk,Q (.bool k) { s with toks:=tk }):wpAny (model X.prog X.w) A (call (.builtin "isinstance") [u,c]) Q E s:=by
 cases d with
 |non=>cases ty;rw[cW rd] at rv;exact jC I rv (.non) e h
 |bl b=>cases ty;rw[bS rd] at rv;exact jC I rv (.bl b) e h
 |int b=>cases ty;rw[aW rd] at rv;exact jC I rv (.int b) e h
 |str b=>cases ty;rw[cV rd] at rv;exact jC I rv (.str b) e h
 |ref b=>cases ty
 |tup b =>
  cases ty;obtain⟨a,us,rfl,sq,ru⟩:=bF rd;cases rv;obtain⟨o,h1,h2⟩:=tyT (K:=K) I sq;exact kia_one PySem.W.kitx_tuple I.kIn ⟨o,h1,h2⟩ e (λz=>nomatch z) h
 |fz b =>
  cases ty;obtain⟨a,us,rfl,sq,ru⟩:=lZ rd;cases rv;obtain⟨z,its,n,r,e1⟩:=aB8 I sq;exact kia_one kitx_list I.kIn ⟨_,e1,rfl⟩ e (λz=>nomatch z) h
def dIs (K:Frag)(c:Value)(te:DE):DE:=λρ M Q=>te ρ M λd M1=>(∃T k,tyD d = some T/\kitOne K (.type T) c = some k/\Q (.bl k) M1)∨(∃(p:Addr)(xs:List D) (k:Bool),d = .ref p/\M1 p = some xs/\kitOne K (.type "list") c=some k/\Q (.bl k) M1)
theorem yO {T:String}{x:Str}{p p2:Pos}(he:PDE X e te)(hm:X.mg "isinstance" = none)(hmx:X.mg x = none)(hv:bootBuiltins x = some (.type T):=by rfl)(hg:Gl X "isinstance":=by rfl)(hgx:Gl X x:=by rfl)(hn:x ≠ "__name__":=by decide)(hdb:(x==("__debug__":Str))=false:=by decide)(hse:starEach [e,.Name x p2] X.env=(false,eval e X.env)::starEach [.Name x p2] X.env:=by rfl)(hse2:starEach [.Name x p2] X.env=(false,eval (.Name x p2) X.env)::starEach [] X.env:=by rfl)(hpl:(backTo pos (starEach [.Name x p2] X.env)).any (·.1)=false:=by rfl) :
  PDE X (.Call (.Name "isinstance" p) [e,.Name x p2] [] pos) (dIs X.K (.type T) te):=by
 have hc:jQ X (.builtin "isinstance") λvs H Q=>∃d M Q' v,vs = [v,.ty T]/\Rep X.K H d v/\bI X.K M H/\((∃T' k,tyD d = some T'/\kitOne X.K (.type T') (.type T) = some k/\Q' (.bl k) M)∨(∃(p:Addr)(xs:List D) (k:Bool),d = .ref p/\M p = some xs/\kitOne X.K (.type "list") (.type T)=some k/\Q' (.bl k) M))/\∀v H',LQ X.K H Q' v H'->Q v H':=by
  intro pins s σ H xs us Q I rs ⟨d,M,Q',v,e1,rd,hm,q,k⟩;subst e1;obtain⟨u1,u2,rfl,rv,rt⟩:=rs.two;cases rt;rcases q with⟨T',b,ty,e2,q⟩|⟨p,ys,b,rfl,hp,e2,q⟩
  ·exact aGW (K:=X.K) I rd rv ty e2 λtk=>⟨.bl b,H,I.tok tk,rfl,k _ H ⟨_,M,dH,hm,.refl H,q⟩⟩
  ·obtain rfl:=aO rd;obtain⟨us,hu,ru⟩:=hm.l p ys hp;exact jC I rv (.lst hu) e2 λtk=>⟨.bl b,H,I.tok tk,rfl,k _ H ⟨_,M,dH,hm,.refl H,q⟩⟩
 refine cA (rF hc hg hm rfl (mT he (mT (aCz hgx hmx hv (v:=.ty T) rfl hn hdb) uS hse2) hse) (by decide) (by decide) hse hpl) λσ H Q ⟨ρ,M,Q',re,hm,q,k⟩=>?_;exact⟨ρ,M,_,re,hm,q,λv H1 ⟨d,M1,rd,hm1,ex,q1⟩=>⟨d,M1,Q',v,rfl,rd,hm1,q1,λv H' z=>k v H' (z.back ex)⟩⟩
end
noncomputable def iA (N:List Str)(ds:List D):cC:=ds.map some++replicate (N.length-ds.length) none
noncomputable def Dn (Q:DQ):DQ:=λd M=>∃M',aT M' M/\Q d M'
section
variable {P:Program}{w:World}{K:Frag}{mg:Str->Option Value}{base:Heap}
theorem wW {H:Hp}{ds:List D}{vs:List V}(r:bG K H ds vs)(N:List Str):fA K H (iA N ds) (L2.start N vs):=by
 have hl:=r.length;refine⟨by unfold iA L2.start;simp only[length_append,length_map,List.length_replicate,hl],λi d q=>?_⟩;unfold iA at q;unfold L2.start;by_cases hi:i<ds.length
 ·rw[getElem?_append_left (by simpa using hi),getElem?_map] at q;rw[getElem?_append_left (by simpa[<- hl] using hi),getElem?_map];cases e:ds[i]? with
  |none=>rw[e] at q;cases q
  |some d' =>
   rw[e] at q;cases q;obtain⟨v,e2,rv⟩:=r.get e;exact⟨v,by rw[e2];rfl,rv⟩
 ·rw[List.getElem?_append_right (by simpa using hi),List.getElem?_replicate] at q;split at q<;>cases q
theorem Fun.okD {x qual:Str}{st:Stmt}{f:Addr}{fd:FuncData}{N ps:List Str}{k:Nat}{sp:DSp}(F:L2.Fun K x qual st f fd)(S:aQ N ps (aI st))(len:∀ds M Q,sp ds M Q->ds.length=ps.length)(hbody:∀(cdv:Value)(A:Around) (outer:List Env) (s:Shared) (H:Hp) (ds:List D) (M:DM) (Q:DQ) (E:XK),cM k (A.deeper (envOfC qual (aI st) s.heap.objs.size f cdv))->sp ds M Q ->
   ∃t,kU (nZ CX0 P w K mg base N qual (aI st) f cdv A outer s H E).nox (dI st) t/\t { nx:=λ_ M'=>Dn Q .non M',rt:=Dn Q } (iA N ds) M):iM P w K mg base CX0 (k+1) f fd ps (mM K sp):=by
 refine F.ok S (λvs H Q E ⟨ds,M,Q',rs,hm,q,_⟩=>by rw[<- rs.length];exact len ds M Q' q) λcdv A outer s H vs Q E hr ⟨ds,M,Q',rs,hm,q,k'⟩=>?_;obtain⟨t,h1,h2⟩:=hbody cdv A outer s H ds M Q' E hr q;have fin:∀v H',LQ K H (Dn Q') v H'->Q v H':=λv H' ⟨d,M1,rd,hm1,ex,M2,sub,q2⟩=>k' v H' ⟨d,M2,rd,hm1.sub sub,ex,q2⟩;refine⟨_,h1,iA N ds,M,_,wW rs N,hm,h2,⟨λσ' H' ⟨ρ',M',_,hm',ex,q'⟩=>fin _ H' ⟨.non,M',zJ,hm',ex,q'⟩,fin,λσ' H' ⟨_,_,_,_,_,z⟩=>z.elim,λσ' H' ⟨_,_,_,_,_,z⟩=>z.elim⟩⟩
end
theorem aAv {P:Program}{w:World}{K:Frag}{mg mb:Str->Option Value}{CX:CXT}{k:Nat}{fa a:Addr}{fd:FuncData}{x:Str}{sp:Sp}{s₁:Shared}{vs:List Value}{ns:List Int}(KX:K.In s₁.heap)(hns:s₁.heap.Ns mainGlobals mg)(hb:s₁.heap.Ns builtinsNs mb)(hbb:∀x:Str,x ≠ "__name__"->mb x=bootBuiltins x)(hlim:s₁.heap.NoLimit)(hg:s₁.gens=#[])(ha:s₁.heap.get? a = some { cls:=.type "list",data:=.seq vs.toArray })(hi:IntsAre vs ns)(hl:ns.length<=sizeLine)(hr:cM k callerA)(F:∀base:Heap,K.In base->base.Ns mainGlobals mg->iM P w K mg base CX k fa fd [x] sp)(hbind:∀(s:Shared)(u:Value),BindsTo s fd ⟨[u],[]⟩ [(x,u)])(hsp:∀H:Hp,aFR H->SqX K H a (ns.map V.int)->sp [.ref a] H (λv _=>v=.bl true) λ_ _ _=>False)(hCX:∀H e s',CX [] H s₁ (λ_ _ _=>False) e s'->False) :
  codeAny (model P w) callerA (.call (.ref fa) ⟨[.ref a],[]⟩) (λr s'=>r=.ok (.ret (.bool true))/\OldK s₁.heap s'.heap/\s'.os=s₁.os/\AllBare s'.gens) s₁:=by
 have rv:=nK hi;have lenV:=hi.length;refine aB2 (ns:=ns) (sp:=λvs H Q E=>SqX K H a (ns.map V.int)/\sp vs H Q E) KX hns hb hbb hlim hg ha hi hl hr (λbase h1 h2=>(F base h1 h2).imp λ_ _ _ _ z=>z.2) hbind (λH hO hS=>?_) hCX;have sx:SqX K H a (ns.map V.int):=by
  rcases hS with(h|h)|⟨o,its,n,hk,hc,hd,hs,hz,r⟩
  ·rcases hO a with z|⟨o,xs,z⟩
   ·rw[h] at z;cases z
   ·rw[h] at z;cases z
  ·exact .inl h
  ·have e:=KX a o hk;rw[ha] at e;cases e;cases hs;exact .inr ⟨_,_,hk,hz,r⟩
 exact⟨sx,hsp H hO sx⟩
theorem walk_ofD {l:PySem.W.OpenLaw}{n k:Nat}{q:Program}{loose:List Str}{XP:(Str->Option Value)->Heap->Prop}{YP:World->Heap->Prop}{d:DefRec}{K:Params->Frag}{sp:DSp}{x:Str}(hn:l.most=some n)(hn2:n<=sizeLine)(hdf:d.params.defaults=[])(hr:cM k callerA)(hY:∀(w:World)(h:Heap),YP w h->(K w.params).In h)(F:∀(w:World)(mg:Str->Option Value) (fa:Addr) (h:Heap),(K w.params).In h->h.Ns mainGlobals mg->mg d.name=some (.ref fa) ->
   ∃fd:FuncData,(∀(s:Shared)(u:Value),BindsTo s fd ⟨[u],[]⟩ [(x,u)]) /\
    ∀base:Heap,(K w.params).In base->base.Ns mainGlobals mg->iM l.prog w (K w.params) mg base CX0 k fa fd [x] (mM (K w.params) sp))(hsp:∀(ns:List Int),ns.length<=n->∀M,sp [.fz (ns.map D.int)] M λd _=>d=.bl true) :
  PySem.W.WalkO q loose XP YP l.row.toRowW d [] (λf vs=>PySem.call f vs):=by
 refine Att.attach_call hn hdf λw s₀ s₁ mg mb fa o pm cd doc a vs ns G Y ho hd hcd hmg hobj hints hlen hg=>?_;have KX:=hY w _ Y;obtain⟨fd,hb,hF⟩:=F w mg fa _ KX G.T.g hmg;refine aAv KX G.T.g G.T.b G.T.builtins G.T.nolimit hg hobj hints (Nat.le_trans hlen hn2) hr hF hb (λH hO hS=>?_) λH e s' h=>h;refine⟨[.fz (ns.map D.int)],λ_=>none,_,cF (by unfold Rep;exact⟨a,_,rfl,hS,sT ns⟩) cP,⟨(λ_ _ z=>by cases z),(λ_ _ z=>by cases z),(λ_ _ z=>by cases z)⟩,hsp ns hlen _,λv H' z=>?_⟩;obtain⟨d,M',rd,_,_,e⟩:=z;have e':d=.bl true:=e;subst e';exact bS rd
def cX (K:Frag)(mg:Str->Option Value)(x:Str)(st:Stmt)(ps:List Str):Prop:=∃f fd,L2.Fun K x x st f fd/\mg x=some (.ref f)/\hX K fd ps []
def Has (P:Program)(w:World)(K:Frag)(mg:Str->Option Value)(base:Heap)(k:Nat)(x:Str)(ps:List Str)(sp:DSp):Prop :=
 ∃f fd,iM P w K mg base CX0 k f fd ps (mM K sp)/\mg x=some (.ref f)/\keepIn K (.ref f)=true/\hX K fd ps []
section
variable {P:Program}{w:World}{K:Frag}{mg:Str->Option Value}{base:Heap}
theorem Has.mk {x:Str}{st:Stmt}{N ps:List Str}{k:Nat}{sp:DSp}(h:cX K mg x st ps)(S:aQ N ps (aI st))(len:∀ds M Q,sp ds M Q->ds.length=ps.length)(hbody:∀(f:Addr)(cdv:Value) (A:Around) (outer:List Env) (s:Shared) (H:Hp) (ds:List D) (M:DM) (Q:DQ) (E:XK),cM k (A.deeper (envOfC x (aI st) s.heap.objs.size f cdv))->sp ds M Q ->
   ∃t,kU (nZ CX0 P w K mg base N x (aI st) f cdv A outer s H E).nox (dI st) t/\t { nx:=λ_ M'=>Dn Q .non M',rt:=Dn Q } (iA N ds) M):Has P w K mg base (k+1) x ps sp:=by
 obtain⟨f,fd,F,hm,hb⟩:=h;exact⟨f,fd,Fun.okD F S len λcdv A outer s H ds M Q E hr q=>hbody f cdv A outer s H ds M Q E hr q,hm,F.kp,hb⟩
end
section
variable {X:Cx}{a b c e:Expr}{es:List Expr}{ta tb te:DE}{t:DA}{pos p:Pos}{x:Str}{ps:List Str}{sp:DSp}{k j:Nat}
theorem aAS (h:Has X.prog X.w X.K X.mg X.base k x ps sp)(hr:cM j X.A)(hkj:k<=j)(ha:PDA X (e::es) t)(hg:Gl X x:=by rfl)(hdb:(x==("__debug__":Str))=false:=by decide)(he:starEach (e::es) X.env=(false,eval e X.env)::starEach es X.env:=by rfl)(hpl:(backTo pos (starEach es X.env)).any (·.1)=false:=by rfl) :
  PDE X (.Call (.Name x p) (e::es) [] pos) (mJ sp t):=by
 obtain⟨f,fd,F,hm,hk,hb⟩:=h;exact aCA F (hr.mono hkj) hm hk hb aCf ha hg hdb he hpl
def aC0 (i:Nat)(te:DE)(g:Int->Int->Int):DS:=λE ρ M=>match ρ[i]? with
 |some (some (.int z))=>te ρ M λy M1=>match y with
  |.int j=>E.nx (ρ.set i (some (.int (g z j)))) M1
  |_=>False
 |_=>False
theorem aCx {i:Nat}{op:Operator}{g:Int->Int->Int}{pos':Pos}(ho:PIp X op (ipI g))(hN:X.N.Nodup)(he:PDE X e te)(hi:X.N[i]?=some x:=by rfl)(hx:Loc X.env.scope x:=by first|exact Or.inl rfl|exact Or.inr rfl)(hf:X.fn x=true∨X.env.scope.names.lookup x=some .local:=by first|exact .inl rfl|exact .inr rfl|assumption) :
  PDS X (.AugAssign (.Name x pos') op e pos) (aC0 i te g) :=
 gG (aGb (i:=i) hN hi hx he ho hf) λE σ H ⟨ρ,M,Dn,re,hm,q,k⟩=>by
  unfold aC0 at q;split at q
  ·rename_i z e1;obtain⟨v,e2,rv⟩:=re.get i _ e1;obtain rfl:=aW rv;refine⟨_,e2,ρ,M,_,re,hm,q,λw H1 ⟨d,M1,rd,hm1,ex,q1⟩=>?_⟩;cases d with
   |int j=>exact⟨z,j,rfl,aW rd,k.nx _ H1 ⟨_,M1,(re.ext ex).set cN i,hm1,ex,q1⟩⟩
   |_=>exact q1.elim
  ·exact q.elim
end
theorem dif {c A B:Prop}[Decidable c](h1:c->A)(h2:¬c->B):if decide c=true then A else B:=by
 by_cases h:c
 ·rw[decide_eq_true h];exact h1 h
 ·rw[decide_eq_false h];exact h2 h
theorem lD {b:Bool}{A B:Prop}(h1:b=true->A)(h2:b=false->B):if b=true then A else B:=by
 cases b
 ·exact h2 rfl
 ·exact h1 rfl
section
variable {prog:Program}{w:World}{A:Around}{E:Value->Shared->Prop}{s:Shared}
theorem qJ {h h':Heap}{it t:Addr}{items:Array Value}(ht:h.IsList t items)(hs:Heap.SameBut it h h')(hne:t≠it):h'.IsList t items:=by obtain⟨o,e,r⟩:=ht;exact⟨o,(hs.2 t hne).trans e,r⟩
theorem oR {h:Heap}{t:Addr}{items:Array Value}(ht:h.IsList t items)(o:Obj):(h.push o).IsList t items:=by obtain⟨o',e,r⟩:=ht;exact⟨o',Heap.get?_push_of_some _ e,r⟩
theorem rX {it t:Addr}{items:Array Value}(hne:t≠it):∀(n i:Nat)(s:Shared) (Q:List Value->Shared->Prop),s.heap.IsListIter it t i->s.heap.IsList t items->i+n<=items.size ->
  (∀h',h'.IsListIter it t (i+n)->Heap.SameBut it s.heap h'->Q ((items.toList.drop i).take n) { s with heap:=h' })->wpAny (model prog w) A (draw (.ref it) n) Q E s
 |0,i,s,Q,hit,_,_,hQ=>by show wpAny _ _ (pure []) Q E s;exact wpAny_pure (by simpa using hQ s.heap hit (Heap.SameBut.refl ..))
 |n+1,i,s,Q,hit,ht,hle,hQ=>by
  have hlt:i<items.size:=by omega
  show wpAny _ _ (pyNext (.ref it) >>= _) Q E s;refine wpAny_bind (wpAny_pyNext_list_item hit ht (x:=items[i]) (by simp[hlt]) λh₁ hit₁ hs₁=>?_);refine wpAny_bind (wpAny_holding (rX hne n (i+1) _ _ hit₁ (qJ ht hs₁ hne) (by omega) λh₂ hit₂ hs₂=>wpAny_pure ?_));have hd:items.toList.drop i=items[i]::items.toList.drop (i+1):=by simp[List.drop_eq_getElem_cons,hlt]
  have:=hQ h₂ (by rw[show i+(n+1)=i+1+n by omega];exact hit₂) (hs₁.trans hs₂);rw[hd,List.take_succ_cons] at this;exact this
theorem oA {t:Addr}{items:Array Value}{Q:List Value->Shared->Prop}(hh:A.handled=none)(ht:s.heap.IsList t items)(hQ:∀h',Heap.ExtBut s.heap.objs.size s.heap h'->Q items.toList { s with heap:=h' }):wpAny (model prog w) A (unpackItems (.ref t) items.size none) Q E s:=by
 have hlt:t≠s.heap.objs.size:=by obtain⟨o,ho,_⟩:=ht;exact Nat.ne_of_lt (Heap.lt_size ho)
 unfold unpackItems;refine wpAny_bind ?_
 ·unfold notIterableAtAll;refine wpAny_bind (wpAny_specialOf ht.typeIs slot_list_iter.lookup ?_);refine wpAny_pure ?_;simp only[Bool.false_eq_true,if_false];refine wpAny_bind (wpAny_holding (wpAny_pyIter_list ht ?_));refine wpAny_bind (wpAny_holding (rX hlt items.size 0 _ _ ⟨_,Heap.get?_push_size _ rfl,rfl,rfl⟩ (oR ht _) (by omega) λh₁ hit₁ hs₁=>?_));have hall:List.take items.size (drop 0 items.toList)=items.toList:=by rw[List.drop_zero];exact List.take_of_length_le (by simp)
  rw[hall];rw[if_neg (by simp)];have ht₁:h₁.IsList t items:=qJ (oR ht _) hs₁ hlt;refine wpAny_bind (wpAny_holding (wpAny_pyNext_list_end hh hit₁ ht₁ (by simp) λh₂ he₂=>?_));simp only[Option.isSome_none,Bool.false_eq_true,if_false];refine wpAny_pure (hQ h₂ λb o hb e=>he₂ b o hb (hs₁.extBut b o hb (Heap.get?_push_of_some _ e)))
theorem mV {env:Env}{elts:List Expr}{x1}{pos:Pos}{t:Addr}{items:Array Value}{Q:Unit->Shared->Prop}(hh:A.handled=none)(ht:s.heap.IsList t items)(hn:(assignEach elts env).length=items.size)(hstar:(assignEach elts env).findIdx? (·.1)=none)(h:∀h',Heap.ExtBut s.heap.objs.size s.heap h'->wpAny (model prog w) A (assignInOrder ((assignEach elts env).map (·.2)) items.toList) Q E { s with heap:=h' }) :
  wpAny (model prog w) A (assign (.Tuple elts x1 pos) env (.ref t)) Q E s:=by
 rw[assign_Tuple];refine wpAny_bind (wpAny_standAt ?_);unfold unpack;rw[hn,hstar];exact wpAny_bind (wpAny_holding (oA hh ht h))
end
section
variable {X:Cx}{pos:Pos}{e a b:Expr}{es:List Expr}{te ta tb:DE}
def gU (n:Nat)(t:DGs):DG:=λd ρ M Q=>match d with
 |.tup ds=>ds.length=n/\t ds ρ M Q
 |.ref a=>∃ds,M a=some ds/\ds.length=n/\t ds ρ M Q
 |_=>False
theorem aEJ {k:Nat}{t:DGs}{n:Nat}(hc:X.calm=true)(h:wG X es t)(hn:(assignEach es X.env).length=n:=by rfl)(hst:(assignEach es X.env).findIdx? (·.1)=none:=by rfl):PDG X (.Tuple es k pos) (gU n t):=by
 intro pins s σ H v u Q I r ⟨d,ρ,M,Q',rd,re,hm,q,k'⟩;cases d with
 |tup ds=>exact aFV hc h hn hst pins s σ H v u Q I r ⟨.tup ds,ρ,M,Q',rd,re,hm,q,k'⟩
 |ref p =>
  obtain⟨ds,hp,hl,q⟩:=q;obtain rfl:=aO rd;cases r;obtain⟨us,hu,ru⟩:=hm.l p ds hp;obtain⟨z,its,nn,rv,hlen,e1⟩:=I.lstM hu;have l1:=ru.length;refine mV (I.ok.hd hc) ⟨_,e1,rfl,_,rfl⟩ (by rw[hn,size_toArray];omega) hst λh' hx=>?_;have I1:Inv X pins σ H { s with heap:=h' }:=I.kept (t':=s.toks) λb o e=>hx b o (Nat.ne_of_lt (Heap.lt_size e)) e;exact h pins _ σ H us _ Q I1 (by simpa using rv) ⟨ds,ρ,M,Q',ru,re,hm,q,k'⟩
 |_=>exact q.elim
end
section
variable {M:DM}{Q:DQ}{g:Bool->Bool}{ds:List D}{i:Int}{a:Addr}{α:Type}{x0 x1 x2 x3 x4 x5:α}{l:List α}
theorem ixT:jK (.tup ds) (.int i) M Q=(match atI ds i with|some d=>Q d M|none=>False):=rfl
theorem ixF:jK (.fz ds) (.int i) M Q=(match atI ds i with|some d=>Q d M|none=>False):=rfl
theorem aI0:jK (.ref a) (.int i) M Q=(∃ds d,M a=some ds/\atI ds i=some d/\Q d M):=rfl
theorem aET:atI [x0] 0=some x0:=rfl
theorem aFk:atI [x0] (-1)=some x0:=rfl
theorem aF5:atI [x0,x1] 0=some x0:=rfl
theorem aFW:atI [x0,x1] 1=some x1:=rfl
theorem aEm:atI [x0,x1] (-1)=some x1:=rfl
theorem aEV:atI [x0,x1,x2] 0=some x0:=rfl
theorem aGk:atI [x0,x1,x2] 1=some x1:=rfl
theorem aEF:atI [x0,x1,x2] 2=some x2:=rfl
theorem aEy:atI [x0,x1,x2] (-1)=some x2:=rfl
theorem aGN:atI [x0,x1,x2,x3] 0=some x0:=rfl
theorem aEP:atI [x0,x1,x2,x3] 1=some x1:=rfl
theorem aGE:atI [x0,x1,x2,x3] 2=some x2:=rfl
theorem aFz:atI [x0,x1,x2,x3] 3=some x3:=rfl
theorem aEX:atI [x0,x1,x2,x3] (-1)=some x3:=rfl
theorem aGf:atI [x0,x1,x2,x3,x4] 0=some x0:=rfl
theorem aE9:atI [x0,x1,x2,x3,x4] 1=some x1:=rfl
theorem aGy:atI [x0,x1,x2,x3,x4] 2=some x2:=rfl
theorem aEE:atI [x0,x1,x2,x3,x4] 3=some x3:=rfl
theorem aFp:atI [x0,x1,x2,x3,x4] 4=some x4:=rfl
theorem aEH:atI [x0,x1,x2,x3,x4] (-1)=some x4:=rfl
theorem aEl:atI [x0,x1,x2,x3,x4,x5] 0=some x0:=rfl
theorem aEQ:atI [x0,x1,x2,x3,x4,x5] 1=some x1:=rfl
theorem aFT:atI [x0,x1,x2,x3,x4,x5] 2=some x2:=rfl
theorem aEB:atI [x0,x1,x2,x3,x4,x5] 3=some x3:=rfl
theorem aFl:atI [x0,x1,x2,x3,x4,x5] 4=some x4:=rfl
theorem aEg:atI [x0,x1,x2,x3,x4,x5] 5=some x5:=rfl
theorem aGA:atI [x0,x1,x2,x3,x4,x5] (-1)=some x5:=rfl
theorem aFP {n:Nat}{t:DGs}{ρ:cC}{R:cC->DM->Prop}:gU n t (.tup ds) ρ M R=(ds.length=n/\t ds ρ M R):=rfl
theorem aGc {n:Nat}{t:DGs}{ρ:cC}{R:cC->DM->Prop}:gU n t (.ref a) ρ M R=(∃ds,M a=some ds/\ds.length=n/\t ds ρ M R):=rfl
theorem bT {i j:Int}:dEq g (.int i) (.int j) M Q=Q (.bl (g (decide (i=j)))) M:=by
 show(bH 60 (.int i)=true/\bH 60 (.int j)=true/\Q (.bl (g (eqD (.int i) (.int j)))) M)=_;have e:eqD (.int i) (.int j)=decide (i=j):=by show(i==j)=_;by_cases h:i=j<;>simp[h]
 rw[e];exact propext ⟨λh=>h.2.2,λh=>⟨rfl,rfl,h⟩⟩
theorem bA {x y:Str}:dEq g (.str x) (.str y) M Q=Q (.bl (g (decide (x=y)))) M:=by
 show(bH 60 (.str x)=true/\bH 60 (.str y)=true/\Q (.bl (g (eqD (.str x) (.str y)))) M)=_;have e:eqD (.str x) (.str y)=decide (x=y):=by show(x==y)=_;by_cases h:x=y<;>simp[h]
 rw[e];exact propext ⟨λh=>h.2.2,λh=>⟨rfl,rfl,h⟩⟩
def isK (K:Frag)(c:Value)(d:D)(M:DM)(Q:DQ):Prop:=(∃T k,tyD d = some T/\kitOne K (.type T) c = some k/\Q (.bl k) M)∨(∃(p:Addr)(xs:List D) (k:Bool),d = .ref p/\M p = some xs/\kitOne K (.type "list") c=some k/\Q (.bl k) M)
theorem aFa {K:Frag}{c:Value}{te:DE}{ρ:cC}:dIs K c te ρ M Q=te ρ M λd M1=>isK K c d M1 Q:=rfl
theorem tK {K:Frag}{c:Value}{p:Addr}{xs:List D}{k:Bool}(h:M p = some xs)(e:kitOne K (.type "list") c=some k)(q:Q (.bl k) M):isK K c (.ref p) M Q:=.inr ⟨p,xs,k,rfl,h,e,q⟩
end
end Dd
namespace L2
open PySem PySem.Spec PyProof.Rows
noncomputable def clo (cells:List (Str×Addr)):List (Str×NameKind)->List (Str×Addr)->List (Str×Addr)
 |[],cs=>cs
 |(n,k)::r,cs=>clo cells r (if k == .free then (n,(cells.lookup n).getD 0)::cs else cs)
noncomputable def vN (env:Env)(x:Str×NameKind)(r:List (Str×Addr)):Sem (ForInStep (List (Str×Addr))) :=
 if (x.2==NameKind.free)=true then do let a <- cellOf env x.1;pure (ForInStep.yield ((x.1,a)::r)) else pure (ForInStep.yield r)
theorem wE {env:Env}:∀(names:List (Str×NameKind)) (cs:List (Str×Addr)),(∀y∈names,y.2=.free->∃c,env.cells.lookup y.1=some c)->(forIn names cs (vN env):Sem (List (Str×Addr)))=pure (clo env.cells names cs)
 |[],cs,_=>rfl
 |(n,k)::r,cs,hh=>by
  rw[List.forIn_cons];have ih:=λcs=>wE (env:=env) r cs λz hz=>hh z (mem_cons_of_mem _ hz);cases hk:k==NameKind.free with
  |true =>
   have hf:k=.free:=by simpa using hk
   obtain⟨c,hc⟩:=hh (n,k) mem_cons_self hf;have hc:env.cells.lookup n=some c:=hc;have e:vN env (n,k) cs=pure (ForInStep.yield ((n,c)::cs)):=by unfold vN;rw[if_pos hk];show(cellOf env n >>= _)=_;unfold cellOf;rw[hc];rfl
   rw[e];refine Eq.trans (b:=(forIn r ((n,c)::cs) (vN env):Sem (List (Str×Addr)))) rfl ?_;rw[ih];show _=pure (clo env.cells r (if k == .free then (n,(env.cells.lookup n).getD 0)::cs else cs));rw[hk,if_pos rfl,hc];rfl
  |false =>
   have e:vN env (n,k) cs=pure (ForInStep.yield cs):=by unfold vN;rw[if_neg (by rw[hk];decide)]
   rw[e];refine Eq.trans (b:=(forIn r cs (vN env):Sem (List (Str×Addr)))) rfl ?_;rw[ih];show _=pure (clo env.cells r (if k == .free then (n,(env.cells.lookup n).getD 0)::cs else cs));rw[hk,if_neg (by decide)]
theorem vL {scope:Scope}{env:Env}(h:∀y∈scope.names,y.2=.free->∃c,env.cells.lookup y.1=some c):closureFor scope env=pure (clo env.cells scope.names []):=by have e:closureFor scope env=((forIn scope.names [] (vN env):Sem (List (Str×Addr))) >>= λcs=>pure cs):=rfl;rw[e,wE _ _ h];rfl
theorem zE {cells:List (Str×Addr)}{x:Str}{c:Addr}:∀{names:List (Str×NameKind)}{cs:List (Str×Addr)},(∀y∈names,y.2=.free->∃c,cells.lookup y.1=some c)->(cs.lookup x=some c->cells.lookup x=some c)->(clo cells names cs).lookup x=some c->cells.lookup x=some c
 |[],cs,_,h,e=>h e
 |(n,k)::r,cs,hh,h,e=>by
  unfold clo at e;refine zE (λy hy=>hh y (mem_cons_of_mem _ hy)) (λe2=>?_) e;cases hk:k==NameKind.free with
  |false=>rw[hk,if_neg (by decide)] at e2;exact h e2
  |true =>
   rw[hk,if_pos rfl] at e2;have hk':k=.free:=by simpa using hk
   obtain⟨c',hc'⟩:=hh (n,k) mem_cons_self hk';have hc':cells.lookup n=some c':=hc';rw[lookup_cons] at e2;cases hx:x==n with
   |true =>
    rw[hx] at e2;have:x=n:=by simpa using hx
    subst this;rw[hc'] at e2 ⊢;exact e2
   |false=>rw[hx] at e2;exact h e2
theorem uE {cells:List (Str×Addr)}{x:Str}:∀{names:List (Str×NameKind)}{cs:List (Str×Addr)},((x,NameKind.free)∈names ∨ ∃c,cs.lookup x=some c)->∃c,(clo cells names cs).lookup x=some c
 |[],cs,h=>by
  rcases h with h|h
  ·exact nomatch h
  ·exact h
 |(n,k)::r,cs,h=>by
  unfold clo;refine uE ?_;have ins:∀{v:Addr},(∃c,cs.lookup x=some c)->∃c,((n,v)::cs).lookup x=some c:=λ{v} ⟨c,e⟩=>by
   rw[lookup_cons];cases x==n with
   |true=>exact⟨_,rfl⟩
   |false=>exact⟨c,e⟩
  rcases h with h|h
  ·rcases List.mem_cons.mp h with e|e
   ·cases e;refine .inr ⟨_,by rw[if_pos (by rfl),lookup_cons,beq_self_eq_true]⟩
   ·exact .inl e
  ·cases hk:k==NameKind.free with
   |true=>rw[if_pos rfl];exact .inr (ins h)
   |false=>rw[if_neg (by decide)];exact .inr h
theorem oS {g:Str->NameKind->NameKind}{x:Str}:∀{names:List (Str×NameKind)},(names.map λp=>(p.1,g p.1 p.2)).lookup x=(names.lookup x).map (g x)
 |[]=>rfl
 |(n,k)::r=>by
  rw[map_cons,lookup_cons,lookup_cons];cases hx:x==n with
  |true =>
   have:x=n:=by simpa using hx
   subst this;rfl
  |false=>exact oS
theorem jW {scope:Scope}{env:Env}{x:Str}:(relabel scope env).names.lookup x=(scope.names.lookup x).map λk=>if (k==NameKind.free&&env.scope.kind == .function&&env.kindOf x==some .cell)=true then .cell else k:=by rw[<- oS (g:=λx k=>if (k==NameKind.free&&env.scope.kind == .function&&env.kindOf x==some .cell)=true then .cell else k)];unfold relabel;dsimp only;congr 1;refine List.map_congr_left λp _=>?_;obtain⟨n,k⟩:=p;dsimp only;split<;>rfl
noncomputable abbrev Cx.blk (X:Cx)(N':List Str)(scope:Scope)(C:Addr)(s:Shared)(H:Hp)(fp:List Addr)(pins:List (Addr×Obj)):Cx :=
 { X with N:=N',s₀:=s,H₀:=H,env:=compEnvC scope (clo X.env.cells scope.names []) C X.env,outer:=X.stack,ex:=fp,fn:=λ_=>false,pn:=X.pn++pins,xe:=λ_ _=>False }
structure dS (X:Cx)(N':List Str)(fr:List (Option Nat))(scope:Scope):Prop where
 kind:scope.kind=.function
 nocell:∀y∈scope.names,y.2 ≠ .cell
 names:∀y∈scope.names,y.2=.local->scope.names.lookup y.1=some .local
 free:∀y∈scope.names,y.2=.free->X.env.scope.names.lookup y.1=some .cell
 len:fr.length=N'.length
 at':∀(i j:Nat)(x:Str),N'[i]?=some x->fr[i]?=some (some j)->X.N[j]?=some x/\scope.names.lookup x=some .free
structure mN (oN:List Str)(osc:Scope)(N':List Str)(fr:List (Option Nat))(scope:Scope):Prop where
 kind:scope.kind=.function
 nocell:∀y∈scope.names,y.2 ≠ .cell
 names:∀y∈scope.names,y.2=.local->scope.names.lookup y.1=some .local
 free:∀y∈scope.names,y.2=.free->osc.names.lookup y.1=some .cell
 len:fr.length=N'.length
 at':∀p∈N'.zip fr,∀j∈p.2,oN[j]?=some p.1/\scope.names.lookup p.1=some .free
theorem mN.scope {X:Cx}{oN:List Str}{osc:Scope}{N':List Str}{fr:List (Option Nat)}{scope:Scope}(B:mN oN osc N' fr scope)(hN:X.N=oN)(ho:X.env.scope=osc):dS X N' fr scope:=by
 subst hN ho;refine⟨B.kind,B.nocell,B.names,B.free,B.len,λi j x h1 h2=>?_⟩;have:(x,some j)∈N'.zip fr:=by refine mem_of_getElem? (i:=i) ?_;rw[List.getElem?_zip_eq_some];exact⟨h1,h2⟩
 exact B.at' _ this j rfl
noncomputable def mI (fr:List (Option Nat))(σ:St):St:=fr.map λo=>match o with
 |some j=>(σ[j]?).join
 |none=>none
section
variable {X:Cx}{pins:List (Addr×Obj)}{σ:St}{H:Hp}{s:Shared}{N':List Str}{fr:List (Option Nat)}{scope:Scope}{C:Addr}{fp:List Addr}
theorem dS.hasC (S:dS X N' fr scope)(ok:X.Ok):∀y∈scope.names,y.2=.free->∃c,X.env.cells.lookup y.1=some c:=λy hy e=>ok.has y.1 (.inl (S.free y hy e))
theorem dS.sub (S:dS X N' fr scope)(ok:X.Ok){x:Str}{c:Addr}(h:(clo X.env.cells scope.names []).lookup x=some c):X.env.cells.lookup x=some c:=zE (S.hasC ok) (λz=>by cases z) h
theorem yU (S:dS X N' fr scope)(I:Inv X pins σ H s){h':Heap}{m:Str->Option Value}(k:∀x c v,(clo X.env.cells scope.names []).lookup x=some c->s.heap.IsCell c v->h'.IsCell c v) :
  ∀(i:Nat)(x:Str) (v:V),N'[i]?=some x->(mI fr σ)[i]?=some (some v)->∃u,bM v u/\aHI (compEnvC scope (clo X.env.cells scope.names []) C X.env) h' m x u:=by
 intro i x v hx hv;unfold mI at hv;rw[getElem?_map] at hv;cases hf:fr[i]? with
 |none=>rw[hf] at hv;cases hv
 |some o =>
  rw[hf] at hv;cases o with
  |none=>cases hv
  |some j =>
   have hv:(σ[j]?).join=some v:=Option.some.inj hv;obtain⟨hN,hfree⟩:=S.at' i j x hx hf;have hσ:σ[j]?=some (some v):=by
    cases e:σ[j]? with
    |none=>rw[e] at hv;cases hv
    |some o=>rw[e] at hv;rw[show o=some v from hv]
   have hmem:(x,NameKind.free)∈scope.names:=PySem.mem_of_lookup hfree;have hcell:=S.free _ hmem rfl;obtain⟨mm,_,hl⟩:=I.loc;obtain⟨u,r,l⟩:=hl j x v hN hσ (.inr (.inl hcell));refine⟨u,r,.inr ⟨.inl ?_,?_⟩⟩
   ·show(relabel scope X.env).names.lookup x=some .cell;rw[jW,hfree];have h1:X.env.scope.kind=.function:=I.ok.kind;have h2:X.env.kindOf x=some .cell:=hcell;rw[h1,h2];rfl
   ·rcases l with⟨k1,_⟩|⟨_,c,e,z⟩
    ·have:X.env.scope.names.lookup x=some .local:=k1;rw[hcell] at this;cases this
    ·obtain⟨c',e'⟩:=uE (cells:=X.env.cells) (x:=x) (names:=scope.names) (cs:=[]) (.inl hmem);have e2:=S.sub I.ok e';rw[e] at e2;cases e2;exact⟨c,e',k x c _ e' z⟩
theorem aCv (S:dS X N' fr scope)(I:Inv X pins σ H s)(hf:∀b∈fp,rQ X pins H b)(ho:∀b∈fp,∃o,s.heap.get? b=some o){s1:Shared}{m:Str->Option Value}(hos:s1.os=s.os)(hg:s1.gens=s.gens)(hC:s.heap.objs.size<=C)(k:∀b o,s.heap.get? b=some o->s1.heap.get? b=some o)(hn:s1.heap.Ns C m) :
  Inv (X.blk N' scope C s H fp pins) [] (mI fr σ) H s1:=by
 have lt:∀b o,s.heap.get? b=some o->b≠C:=λb o e=>Nat.ne_of_lt (Nat.lt_of_lt_of_le (Heap.lt_size e) hC);have stk:∀b,b≠X.env.locals->b∉X.fs->b∉frs X.stack:=λb h1 h2 hb=>(List.mem_cons.mp (I.stkSub b hb)).elim h1 h2;have cellK:∀x c v,(clo X.env.cells scope.names []).lookup x=some c->s.heap.IsCell c v->s1.heap.IsCell c v:=λx c v _ ⟨o,e,d⟩=>⟨o,k c o e,d⟩;refine⟨⟨I.ok.mod,S.kind,I.ok.glob,I.ok.blt,hC,λx y c h1 h2=>I.ok.inj x y c (S.sub I.ok h1) (S.sub I.ok h2),λx hx=>?_,(λx c z=>by cases z),I.ok.hd,I.ok.frames,.inl rfl,λb hb=>?_,I.bs,Nat.le_trans I.ok.bsz I.sz,λb o e hb=>?_,λb hb=>?_,I.stack,I.stkFree⟩,
  hos,by rw[hg];exact I.bare,Un.kept k,⟨m,hn,λi x v h1 h2 _=>yU S I cellK i x v h1 h2⟩,λx c e=>?_,I.hok.fresh hC,λx c e=>I.freeC x c (S.sub I.ok e),λp hp=>?_,I.hok.kept k,?_⟩
 ·have hx:(relabel scope X.env).names.lookup x=some .cell∨(relabel scope X.env).names.lookup x=some .free:=hx;rw[jW] at hx;have hfree:(x,NameKind.free)∈scope.names:=by
   cases e:scope.names.lookup x with
   |none=>rw[e] at hx;rcases hx with z|z<;>cases z
   |some kk =>
    rw[e] at hx;have hm:=PySem.mem_of_lookup e;cases kk with
    |free=>exact hm
    |cell=>exact absurd rfl (S.nocell _ hm)
    |_=>rcases hx with z|z<;>cases z
  exact uE (.inl hfree)
 ·obtain⟨o,e⟩:=ho b hb;obtain⟨_,_,_,_,f4,_⟩:=hf b hb;exact⟨lt b o e,λx c z=>f4 x c (S.sub I.ok z)⟩
 ·obtain⟨_,_,_,f3,_⟩:=hf b hb;rcases f3 with z|z
  ·exact I.ok.noex b o e z
  ·exact absurd (Nat.lt_of_lt_of_le (Heap.lt_size e) (Nat.le_trans I.ok.bsz z)) (Nat.lt_irrefl _)
 ·obtain⟨_,f1,f2,_⟩:=hf b hb;exact stk b f1 f2
 ·obtain⟨v,z⟩:=I.cell x c (S.sub I.ok e);exact⟨v,cellK x c v e z⟩
 ·rw[append_nil] at hp;obtain⟨e,n,ne,nf,d⟩:=I.pin p hp;exact⟨k p.1 p.2 e,n,lt p.1 p.2 e,stk p.1 ne nf,d⟩
 ·unfold mI;rw[length_map];exact S.len
theorem aAn (S:dS X N' fr scope){s1:Shared}{H1:Hp}{σ1:St}{pl:List (Addr×Obj)}(I:Inv X pins σ H s)(J:Inv (X.blk N' scope C s H fp pins) pl σ1 H1 s1):Inv (X.blk N' scope C s H fp pins) pl (mI fr σ) H1 s1:=by
 obtain⟨m,hn,_⟩:=id J.loc;refine⟨J.ok,J.os,J.bare,J.base,⟨m,hn,λi x v h1 h2 _=>yU S I (λx c v e z=>?_) i x v h1 h2⟩,J.cell,J.free,J.freeC,J.pin,J.hok,?_⟩
 ·obtain⟨o,eo,d⟩:=z;have e':=S.sub I.ok e;have hfree:=I.freeC x c e';have nex:c∉fp:=λhb=>(J.ok.exf c hb).2 x c e rfl;by_cases hfs:c∈frs X.stack
  ·obtain⟨sl,q⟩:=J.base.slot c o eo hfree hfs nex;exact⟨_,q,d⟩
  ·exact⟨o,J.base.keep c o eo hfree hfs nex,d⟩
 ·unfold mI;rw[length_map];exact S.len
end
section
variable {prog:Program}{w:World}{A:Around}{R:Result->Shared->Prop}{s:Shared}
theorem kD {elt target iter:Expr}{scope:Scope}{pos:Pos}{it acc:Value}{env:Env}(I:Nat->Shared->Prop)(turn:∀n s,I n s->wpAny (model prog w) A (pyNext it) (λr s₁=>match r with
   |none=>R (.ok .next) s₁
   |some v=>wpAny (model prog w) A (letOwnedTupleGo target it v) (λ_ s₁'=>wpAny (model prog w) A (assign target env v) (λ_ s₂=>wpAny (model prog w) A (eval elt env) (λx s₃ =>
     wpAny (model prog w) A (call (.builtin "list.append") [acc,x]) (λ_ s₄=>∃m,m<n/\I m s₄) (λ_ _=>False) s₃)
     (λ_ _=>False) s₂) (λ_ _=>False) s₁') (λ_ _=>False) s₁) (λ_ _=>False) s)(n:Nat)(h:I n s):codeAny (model prog w) A (.compLoop (.ListComp elt [⟨target,iter,[],0⟩] scope pos) 0 it acc env) R s:=by
 refine codeAny_loop rfl I (λn s hI=>?_) n h;show wpAny _ _ ((compTurn (.ListComp elt [⟨target,iter,[],0⟩] scope pos) 0 it acc env).onRaise (λx=>do noteFrame x env;theTreesLotGoes x)) _ _ s;refine wpAny_noted ?_;rw[compTurn_list1];refine wpAny_bind (wpAny_standAt (wpAny_bind (wpAny_mono (turn n s hI) (λr s₁ h₁=>?_) λ_ _ h'=>h'.elim)));cases r with
 |none=>exact wpAny_pure h₁
 |some v =>
  exact wpAny_bind (wpAny_mono h₁ (λ_ s₁' h₁'=>wpAny_bind (wpAny_mono h₁' (λ_ s₂ h₂=>wpAny_bind (wpAny_bind (wpAny_mono h₂ (λx s₃ h₃=>wpAny_bind (wpAny_mono h₃
   (λ_ s₄ h₄=>wpAny_pure (wpAny_pure ⟨rfl,h₄⟩)) λ_ _ h'=>h'.elim)) λ_ _ h'=>h'.elim))) λ_ _ h'=>h'.elim)) λ_ _ h'=>h'.elim)
end
theorem Inv.track {X:Cx}{pins:List (Addr×Obj)}{σ:St}{H:Hp}{s:Shared}{d:Addr}{ys:List V}(I:Inv X pins σ H s)(hn:H d=none)(hs:X.s₀.heap.objs.size<=d)(hL:d≠X.env.locals)(hc:∀x c,X.env.cells.lookup x=some c->c≠d)(hp:∀p∈X.pn++pins,p.1≠d)(new:eC X.prog X.w (upd H d (.lst ys)) s.heap d (.lst ys)):Inv X pins σ (upd H d (.lst ys)) s:=by
 have ne0:∀b o,X.s₀.heap.get? b=some o->b≠d:=λb o e=>Nat.ne_of_lt (Nat.lt_of_lt_of_le (Heap.lt_size e) hs);refine⟨I.ok,I.os,I.bare,⟨I.base.keep,I.base.slot,λb o e n hx=>?_,I.base.there,λb xs e=>?_,λb o u e=>?_,λb ps e=>?_⟩,I.loc,I.cell,?_,λx c e=>?_,λp hpp=>?_,λb u e=>?_,I.len⟩
 ·rw[aS (ne0 b o e)];exact I.base.free b o e n hx
 ·have:=I.base.tups b xs e;rw[aS (bB this hn)];exact this
 ·have:=I.base.frzs b o u e;rw[aS (bB this hn)];exact this
 ·obtain⟨more,q⟩:=I.base.tbls b ps e;exact⟨more,by rw[aS (bB q hn)];exact q⟩
 ·rw[aS (Ne.symm hL)];exact I.free
 ·rw[aS (hc x c e)];exact I.freeC x c e
 ·obtain⟨e,n,r⟩:=I.pin p hpp;exact⟨e,by rw[aS (hp p hpp)];exact n,r⟩
 ·by_cases hb:b=d
  ·subst hb;rw[cE] at e;cases e;exact new
  ·rw[aS hb] at e;exact(I.hok b u e).stay (λc v _ q=>q) (λc q=>by rw[aS (bB q hn)];exact q) λc xs q=>by rw[aS (bB q hn)];exact q
def tLc (wi:TI)(fr:List (Option Nat))(g:TG)(te:TE):TE:=λσ H Q=>wi σ H λJ H1=>∃W:Nat->Nat->List V->Hp->Prop,(∃m,W 0 m [] H1)/\∀i m ys H,W i m ys H ->
 (J.stop i H/\ys.length<=sizeLine/\∀p,H p=none->Q (.ref p) (upd H p (.lst ys))) ∨
 (J.go i H/\ys.length<=sizeLine/\∀x H',J.yld i H x H'->g x (mI fr σ) H' λσ2 H2=>te σ2 H2 λy H3=>∃m',m'<m/\W (i+1) m' (ys++[y]) H3)
structure CF (X:Cx)(pins:List (Addr×Obj))(H:Hp)(C:Addr):Prop where
 none:H C=none
 loc:C≠X.env.locals
 sz:X.s₀.heap.objs.size<=C
 cel:∀x c,X.env.cells.lookup x=some c->c≠C
 pin:∀p∈X.pn++pins,p.1≠C
theorem yW {X:Cx}{elt iter tg:Expr}{scope:Scope}{pos pos2:Pos}{N':List Str}{fr:List (Option Nat)}{wi:TI}{g:TG}{te:TE}(S:dS X N' fr scope)(hc:X.calm=true)(hi:PI X tg iter wi)(hg:∀C s H fp pins,PG (X.blk N' scope C s H fp pins) tg g)(he:∀C s H fp pins,PE (X.blk N' scope C s H fp pins) elt te)(hs:∀x,foldedSetIterable iter X.env x=pure x){pins:List (Addr×Obj)}{s:Shared}{σ:St}{H:Hp}{Q:VK}(I:Inv X pins σ H s)(h:tLc wi fr g te σ H Q)(use:Option (Value->Sem Unit))(Post:Value->Shared->Prop)(fin:∀D C H' s4 m,Inv X pins σ H' s4->s4.heap.Ns C m->CF X pins H' C->Q (.ref D) H'->compPost (model X.prog X.w) X.A X.xe use Post (.ref D) C (.ok .next) s4) :
  wpAny (model X.prog X.w) X.A (comprehension (.ListComp elt [⟨tg,iter,[],0⟩] scope pos) scope X.env pos2 (newList []) false (eval iter X.env) use) Post X.xe s:=by
 refine wpAny_comprehension_free (use:=use) rfl hs (vL (S.hasC I.ok)) S.kind S.names ?_;show wpAny _ _ (eval iter X.env) _ _ s;refine thn (hi pins s σ H _ I h) λv s1 h1=>thn h1 λitv s2 h2=>?_;obtain⟨it,fp,tn,J,H2,e,I2,T,st2,f2,W,⟨m0,w0⟩,turn⟩:=h2;subst e;refine wpAny_newObj_type (wpAny_newFunctionEnv S.nocell (by intro y hy;simp at hy) (λh₁ hns₁ hsb₁=>?_) S.kind);dsimp only at hns₁ hsb₁ ⊢;generalize hHp:s2.heap.push { cls:=.type "list",dict:=none,data:=.seq ([]:List Value).toArray }=HP at hns₁ hsb₁ ⊢;have hC:HP.objs.size=s2.heap.objs.size+1:=by rw[<- hHp,Heap.size_push]
 generalize hCe:HP.objs.size=C at hns₁ hsb₁ ⊢;generalize hDe:s2.heap.objs.size=D at hC ⊢;have hDC:D≠C:=by omega
 have hCle:s2.heap.objs.size<=C:=by omega
 have old:∀b o,s2.heap.get? b=some o->h₁.get? b=some o:=λb o e=>hsb₁.extBut b o (Nat.ne_of_lt (Nat.lt_of_lt_of_le (Heap.lt_size e) hCle)) (Heap.get?_push_of_some _ (hHp ▸ Heap.get?_push_of_some _ e));have hD1:h₁.PlainList D #[]:=⟨_,by refine hsb₁.extBut _ _ hDC (Heap.get?_push_of_some _ ?_);rw[<- hHp,<- hDe];exact Heap.get?_push_size _ rfl⟩
 have ltf:∀b∈fp,b<D:=λb hb=>by obtain⟨o,e,_⟩:=T.obj _ _ st2 b hb;exact Nat.lt_of_lt_of_eq (Heap.lt_size e) hDe
 have J0:=aCv (s1:={ s2 with heap:=h₁,toks:=s2.toks+([]:List (Str×Value)).length }) S I2 f2 (λb hb=>let ⟨o,e,_⟩:=T.obj _ _ st2 b hb;⟨o,e⟩) rfl rfl hCle old hns₁;have ltC:∀b,b<D->b≠C:=λb hb=>Nat.ne_of_lt (Nat.lt_of_lt_of_le hb (by rw[<- hDe];exact hCle));have old2:∀b o,s2.heap.get? b=some o->b<D:=λb o e=>Nat.lt_of_lt_of_eq (Heap.lt_size e) hDe;have neD:∀b o,s2.heap.get? b=some o->b≠D:=λb o e=>Nat.ne_of_lt (old2 b o e);have hDs:s2.heap.objs.size<=D:=Nat.le_of_eq hDe;have hDfs:D∉frs X.stack:=λhb=>by
  rcases List.mem_cons.mp (I2.stkSub D hb) with z|z
  ·have:=I2.lt;rw[<- z] at this;exact absurd (Nat.lt_of_lt_of_le this hDs) (Nat.lt_irrefl _)
  ·exact I2.nofs hDs z
 have cellD:∀x c,X.env.cells.lookup x=some c->c≠D/\c≠C:=λx c e=>by obtain⟨v,o,ho,_⟩:=I2.cell x c e;exact⟨neD c o ho,ltC c (old2 c o ho)⟩
 have pinD:∀p∈X.pn++pins,p.1≠D/\p.1≠C:=λp hp=>by have e:=(I2.pin p hp).1;exact⟨neD _ _ e,ltC _ (old2 _ _ e)⟩
 have fpok:∀(pl:List (Addr×Obj)) (H':Hp),(∀b∈fp,H' b=none)->(∀p∈pl,∀b∈fp,p.1≠b)->∀b∈fp,rQ (X.blk N' scope C s2 H2 fp pins) pl H' b:=λpl H' hn hpl b hb=>by
  refine⟨hn b hb,ltC b (ltf b hb),J0.ok.exfs b hb,.inl hb,(J0.ok.exf b hb).2,λp hp=>?_⟩;rcases List.mem_append.mp hp with z|z
  ·exact(f2 b hb).2.2.2.2.2 p z
  ·exact hpl p z b hb
 have loop:codeAny (model X.prog X.w) X.A (.compLoop (.ListComp elt [⟨tg,iter,[],0⟩] scope pos) 0 (.ref it) (.ref D) (compEnvC scope (clo X.env.cells scope.names []) C X.env))
   (compPost (model X.prog X.w) X.A X.xe use Post (.ref D) C) { s2 with heap:=h₁,toks:=s2.toks+([]:List (Str×Value)).length }:=by
  refine kD (λn s'=>∃i H' ys its,Inv (X.blk N' scope C s2 H2 fp pins) [] (mI fr σ) H' s'/\tn i s'.heap/\(∀b∈fp,H' b=none)/\s'.heap.PlainList D its/\H' D=none/\bN ys its.toList/\W i n ys H') ?_ m0
   ⟨0,H2,[],#[],J0,T.keep _ _ _ st2 λb hb o e=>old b o e,λb hb=>(f2 b hb).1,hD1,I2.hok.fresh hDs,.nil,w0⟩
  rintro n s3 ⟨i,H3,ys,its,I3,st3,fr3,⟨nn,pl3⟩,hD3,rv3,w3⟩;have I3p:Inv (X.blk N' scope C s2 H2 fp pins) [(D,{ cls:=.type "list",data:=.seq its nn })] (mI fr σ) H3 s3:=I3.pins_of λp hp=>by have e:=List.mem_singleton.mp hp;subst e;exact⟨pl3,hD3,hDC,hDfs,λv z=>by cases z⟩
  have pf:∀p∈[((D,{ cls:=.type "list",data:=.seq its nn }):Addr×Obj)],∀b∈fp,p.1≠b:=λp hp b hb=>by have e:=List.mem_singleton.mp hp;subst e;exact(Nat.ne_of_lt (ltf b hb)).symm
  rcases turn i n ys H3 w3 with⟨stop,hz,q⟩|⟨go,hz,step⟩
  ·refine thn (T.done (X.blk N' scope C s2 H2 fp pins) rfl rfl rfl hc i _ s3 _ H3 (λ_ _=>False) I3p (fpok _ H3 fr3 pf) st3 stop) λr s4 ⟨hr,I4⟩=>?_;subst hr;obtain⟨mm,hn4,_⟩:=id I4.loc;have pD:=(I4.pin _ (mem_append_right _ mem_cons_self)).1;have IX:Inv X pins σ H3 s4:=I2.call' I4.os I4.base I4.hok I4.bare λb hb=>⟨(f2 b hb).2.2.2.1,(f2 b hb).2.1,(f2 b hb).2.2.2.2.1,(f2 b hb).2.2.2.2.2⟩;have CL:C≠X.env.locals:=(Nat.ne_of_lt (Nat.lt_of_lt_of_le I2.lt hCle)).symm;have DL:D≠X.env.locals:=(Nat.ne_of_lt (Nat.lt_of_lt_of_le I2.lt hDs)).symm;refine fin D C (upd H3 D (.lst ys)) s4 mm (IX.track hD3 (Nat.le_trans I2.sz hDs) DL (λx c e=>(cellD x c e).1) (λp hp=>(pinD p hp).1) ⟨hz,its.toList,nn,rv3,pD⟩) hn4 ⟨by rw[aS (Ne.symm hDC)];exact I4.free,CL,Nat.le_trans I2.sz hCle,λx c e=>(cellD x c e).2,λp hp=>(pinD p hp).2⟩ (q D hD3)
  ·refine thn (T.item (X.blk N' scope C s2 H2 fp pins) rfl rfl rfl hc i _ s3 _ H3 (λ_ _=>False) I3p (fpok _ H3 fr3 pf) st3 go) λr s4 ⟨u,hr,h4⟩=>?_;subst hr;refine thn h4 λ_ s5 ⟨x,H5,I5,r5,y5,st5,fr5⟩=>?_;have I5':=I5.pinned (fpok _ H5 fr5 pf) (T.obj _ _ st5);refine thn (hg C s2 H2 fp pins _ s5 _ H5 x u _ I5' r5 (step x H5 y5)) λ_ s6 ⟨σ6,H6,I6,q6⟩=>?_;refine thn (he C s2 H2 fp pins _ s6 σ6 H6 _ I6 q6) λyv s7 ⟨y,H7,I7,ry,m',hm,w7⟩=>?_;obtain⟨pD,nD,_⟩:=I7.pin _ (mem_append_right _ (List.mem_append_left _ mem_cons_self));have lz:its.size<=sizeLine:=by
    have e:ys.length=its.size:=by rw[rv3.length];simp
    rw[<- e];exact hz
   refine wpAny_list_append_plain (hsz:=lz) ⟨nn,pD⟩ λh8 pl8 sb8=>?_;have I7a:Inv (X.blk N' scope C s2 H2 fp pins) [] σ6 H7 s7:=I7.pins_of λp hp=>nomatch hp;have I8:Inv (X.blk N' scope C s2 H2 fp pins) [] σ6 H7 { s7 with heap:=h8,toks:=s7.toks }:=I7a.turned (it:=D) (λb o hb e=>sb8.extBut b o hb e) nD hDC (.inr hDs) (λx c e=>(cellD x c (S.sub I2.ok e)).1) λp hp=>by rw[append_nil] at hp;exact(pinD p hp).1
   refine⟨m',hm,i+1,H7,ys++[y],its.push yv,aAn S I2 I8,?_,λb hb=>?_,pl8,nD,?_,w7⟩
   ·refine T.keep _ _ _ st5 λb hb o e=>sb8.extBut b o (Nat.ne_of_lt (ltf b hb)) (I7.pin (b,o) (mem_append_right _ (mem_append_right _ (jO hb e)))).1
   ·obtain⟨o,e,d⟩:=T.obj _ _ st5 b hb;exact(I7.pin (b,o) (mem_append_right _ (mem_append_right _ (jO hb e)))).2.1
   ·rw[Array.toList_push];exact rv3.append (.cons ry .nil)
 exact codeAny_compStart_list loop (T.self _ _ _ _ _ (T.keep _ _ _ st2 λb hb o e=>old b o e) loop)
theorem aD8 {X:Cx}{elt iter tg:Expr}{scope:Scope}{pos:Pos}{N':List Str}{fr:List (Option Nat)}{wi:TI}{g:TG}{te:TE}(S:dS X N' fr scope)(hc:X.calm=true)(hi:PI X tg iter wi)(hg:∀C s H fp pins,PG (X.blk N' scope C s H fp pins) tg g)(he:∀C s H fp pins,PE (X.blk N' scope C s H fp pins) elt te)(hs:∀x,foldedSetIterable iter X.env x=pure x:=by intro _;rfl) :
  PE X (.ListComp elt [⟨tg,iter,[],0⟩] scope pos) (tLc wi fr g te):=by
 intro pins s σ H Q I h;rw[eval_ListComp];refine yW S hc hi hg he hs I h none (EP X pins σ Q) λD C H' s4 m J hn F q=>⟨m,hn,λh' sb=>?_⟩;exact⟨.ref D,H',J.turned (t':=s4.toks) (it:=C) (λb o hb e=>sb.extBut b o hb e) F.none F.loc (.inr F.sz) F.cel F.pin,rfl,q⟩
theorem aBK {X:Cx}{elt iter tg:Expr}{scope:Scope}{pos spos py:Pos}{N':List Str}{fr:List (Option Nat)}{wi:TI}{g:TG}{te:TE}{i:Nat}{y:Str}(S:dS X N' fr scope)(hc:X.calm=true)(hN:X.N.Nodup)(hi:PI X tg iter wi)(hg:∀C s H fp pins,PG (X.blk N' scope C s H fp pins) tg g)(he:∀C s H fp pins,PE (X.blk N' scope C s H fp pins) elt te)(hy:X.N[i]?=some y)(hx:Loc X.env.scope y)(hsw:swapsWith (.ListComp elt [⟨tg,iter,[],0⟩] scope pos) (some (.Name y py)) spos.line X.env=pure true)(hf:X.fn y=true∨X.env.scope.names.lookup y=some .local)(hs:∀x,foldedSetIterable iter X.env x=pure x) :
  PS X (.Assign [.Name y py] (.ListComp elt [⟨tg,iter,[],0⟩] scope pos) spos) (λD σ H=>tLc wi fr g te σ H λv H'=>D.nx (σ.set i (some v)) H'):=by
 intro pins s σ H D I h;rw[exec_Assign_Name_used _ _ _ _ hsw];refine wpAny_bind (wpAny_standAt (wpAny_bind ?_));show wpAny _ X.A (do let _ <- comprehension (.ListComp elt [⟨tg,iter,[],0⟩] scope pos) scope X.env _ (newList []) false (eval iter X.env) (some (assign (.Name y py) X.env))) _ _ s;refine wpAny_bind (wpAny_mono (yW S hc hi hg he hs I h (some (assign (.Name y py) X.env)) (λ_ s'=>SP X pins D .next s') λD' C H' s4 m J hn F q=>?_) (λ_ s' hq=>wpAny_pure (wpAny_pure hq)) λ_ _ e=>e);show wpAny _ X.A (assign (.Name y py) X.env (.ref D')) _ _ s4;refine wpAny_assign_Name (sZ J hN hy hx (v:=.ref D') rfl (λs5 I5 ⟨a,sb,ha⟩=>?_) hf);have hCa:C≠a:=by
  rcases ha with rfl|ha
  ·exact F.loc
  ·exact(F.cel y a ha).symm
 refine⟨m,hn.sameBut sb hCa,λh' sb'=>?_⟩;exact⟨_,H',I5.turned (t':=s5.toks) (it:=C) (λb o hb e=>sb'.extBut b o hb e) F.none F.loc (.inr F.sz) F.cel F.pin,q⟩
end L2
namespace Dd
open PySem PySem.Spec PyProof.Rows L2
noncomputable def nU (fr:List (Option Nat))(ρ:cC):cC:=fr.map λo=>match o with
 |some j=>(ρ[j]?).join
 |none=>none
section
variable {K:Frag}{H:Hp}{ρ:cC}{σ:L2.St}
theorem vT (re:fA K H ρ σ)(fr:List (Option Nat)):fA K H (nU fr ρ) (mI fr σ):=by
 refine⟨by unfold nU mI;rw[length_map,length_map],λi d e=>?_⟩;unfold nU at e;unfold mI;rw[getElem?_map] at e ⊢;cases hf:fr[i]? with
 |none=>rw[hf] at e;cases e
 |some o =>
  rw[hf] at e;cases o with
  |none=>cases e
  |some j =>
   have e:(ρ[j]?).join=some d:=Option.some.inj e;have e2:ρ[j]?=some (some d):=by
    cases h:ρ[j]? with
    |none=>rw[h] at e;cases e
    |some o=>rw[h] at e;rw[show o=some d from e]
   obtain⟨v,hv,r⟩:=re.get j d e2;refine⟨v,?_,r⟩;show some (σ[j]?).join=some (some v);rw[hv];rfl
end
def rM (at':Option Addr)(ds:List D)(ρ0:cC)(g:DG)(te:DE)(M:DM)(Q:DQ):Prop:=ds.length<=1000/\∃Pv:Nat->List D->DM->Prop,Pv 0 [] M /\
 (∀i ys M,i<=ds.length->Pv i ys M->∀a,at'=some a->M a=some ds) /\
 (∀i d ys M,ds[i]?=some d->Pv i ys M->g d ρ0 M λρ2 M2=>te ρ2 M2 λy M3=>Pv (i+1) (ys++[y]) M3) /\
 ∀ys M,ys.length=ds.length->Pv ds.length ys M->∀p:Addr,M p=none->Q (.ref p) (bC M p ys)
def aD3 (lo:Int)(n:Nat)(ρ0:cC)(g:DG)(te:DE)(M:DM)(Q:DQ):Prop:=n<=1000/\∃Pv:Nat->List D->DM->Prop,Pv 0 [] M /\
 (∀(i:Nat) ys M,i<n->Pv i ys M->g (.int (lo+i)) ρ0 M λρ2 M2=>te ρ2 M2 λy M3=>Pv (i+1) (ys++[y]) M3) /\
 ∀ys M,ys.length=n->Pv n ys M->∀p:Addr,M p=none->Q (.ref p) (bC M p ys)
def aEI (tl:DE)(fr:List (Option Nat))(g:DG)(te:DE):DE:=λρ M Q=>tl ρ M λd M1=>match d with
 |.fz ds=>rM none ds (nU fr ρ) g te M1 Q
 |.ref a=>∃ds,M1 a=some ds/\rM (some a) ds (nU fr ρ) g te M1 Q
 |_=>False
def aGp (tl:DE)(fr:List (Option Nat))(g:DG)(te:DE):DE:=λρ M Q=>tl ρ M λd M1=>match d with
 |.tup ds=>rM none ds (nU fr ρ) g te M1 Q
 |_=>False
def aFO (ta:DA)(fr:List (Option Nat))(g:DG)(te:DE):DE:=λρ M Q=>ta ρ M λds M1=>match ds with
 |[.int j]=>(-(2^62)<=j/\j<2^62)/\aD3 0 j.toNat (nU fr ρ) g te M1 Q
 |_=>False
section
variable {X:Cx}{g:DG}{te:DE}
theorem xU {K:Frag}{a':Option Addr}{ds:List D}{fr:List (Option Nat)}{σ:L2.St}{ρ:cC}{M:DM}{H0 H:Hp}{J:It}{Q:VK}{Q':DQ}(ex0:Ext H0 H)(re:fA K H ρ σ)(hm:bI K M H)(h:rM a' ds (nU fr ρ) g te M Q')(kq:∀v H',LQ K H0 Q' v H'->Q v H')(seq:∀H',Ext H H'->(∀M',bI K M' H'->(∀a,a'=some a->M' a=some ds)->∃xs,bG K H' ds xs/\(∀i,xs.length<=i->J.stop i H')/\(∀i,i<xs.length->J.go i H')/\∀i x H2,J.yld i H' x H2->H2=H'/\xs[i]?=some x)) :
  ∃W:Nat->Nat->List V->Hp->Prop,(∃m,W 0 m [] H)/\∀i m ys H,W i m ys H ->
   (J.stop i H/\ys.length<=sizeLine/\∀p,H p=none->Q (.ref p) (upd H p (.lst ys))) ∨
   (J.go i H/\ys.length<=sizeLine/\∀x H',J.yld i H x H'->uG K g x (mI fr σ) H' λσ2 H2=>low K te σ2 H2 λy H3=>∃m',m'<m/\W (i+1) m' (ys++[y]) H3):=by
 obtain⟨hl,Pv,p0,hat,step,done⟩:=h;refine⟨λi m ysV H'=>∃ys M',bG K H' ys ysV/\bI K M' H'/\Ext H H'/\m=ds.length-i/\i<=ds.length/\ys.length=i/\Pv i ys M',⟨ds.length,[],M,cP,hm,.refl H,rfl,Nat.zero_le _,rfl,p0⟩,?_⟩;rintro i m ysV H1 ⟨ys,M1,ry,hm1,e1,rfl,hi,ly,w1⟩;obtain⟨xs,rs,hst,hgo,hy⟩:=seq H1 e1 M1 hm1 (hat i ys M1 hi w1);have hll:=rs.length;have lz:ysV.length<=sizeLine:=by rw[<- ry.length];exact Nat.le_of_lt (dG (by omega))
 by_cases hlt:i<ds.length
 ·refine .inr ⟨hgo i (by omega),lz,λx H' y=>?_⟩;obtain⟨rfl,hx⟩:=hy i x H' y;obtain⟨d,hd,rd⟩:=rs.getV hx;refine⟨d,nU fr ρ,M1,_,rd,vT (re.ext e1) fr,hm1,step i d ys M1 hd w1,λσ2 H2 ⟨ρ2,M2,re2,hm2,e2,q2⟩=>?_⟩;refine⟨ρ2,M2,_,re2,hm2,q2,λv H3 ⟨dy,M3,rdy,hm3,e3,q3⟩=>?_⟩;exact⟨ds.length-(i+1),by omega,ys++[dy],M3,(ry.ext (e2.trans e3)).append (cF rdy cP),hm3,(e1.trans e2).trans e3,rfl,hlt,by rw[length_append,ly];rfl,q3⟩
 ·have e:i=ds.length:=by omega
  subst e;exact .inl ⟨hst _ (by omega),lz,λp hp=>kq _ _ ⟨.ref p,_,eJ,hm1.lnew hp ry,(ex0.trans e1).trans (Ext.new hp _),done ys M1 ly w1 p (hm1.fresh hp)⟩⟩
theorem aCD {K:Frag}{lo:Int}{n:Nat}{fr:List (Option Nat)}{σ:L2.St}{ρ:cC}{M:DM}{H0 H:Hp}{Q:VK}{Q':DQ}(ex0:Ext H0 H)(re:fA K H ρ σ)(hm:bI K M H)(h:aD3 lo n (nU fr ρ) g te M Q')(kq:∀v H',LQ K H0 Q' v H'->Q v H') :
  ∃W:Nat->Nat->List V->Hp->Prop,(∃m,W 0 m [] H)/\∀i m ys H,W i m ys H ->
   ((Itr lo n).stop i H/\ys.length<=sizeLine/\∀p,H p=none->Q (.ref p) (upd H p (.lst ys))) ∨
   ((Itr lo n).go i H/\ys.length<=sizeLine/\∀x H',(Itr lo n).yld i H x H'->uG K g x (mI fr σ) H' λσ2 H2=>low K te σ2 H2 λy H3=>∃m',m'<m/\W (i+1) m' (ys++[y]) H3):=by
 obtain⟨hl,Pv,p0,step,done⟩:=h;refine⟨λi m ysV H'=>∃ys M',bG K H' ys ysV/\bI K M' H'/\Ext H H'/\m=n-i/\i<=n/\ys.length=i/\Pv i ys M',⟨n,[],M,cP,hm,.refl H,rfl,Nat.zero_le _,rfl,p0⟩,?_⟩;rintro i m ysV H1 ⟨ys,M1,ry,hm1,e1,rfl,hi,ly,w1⟩;have lz:ysV.length<=sizeLine:=by rw[<- ry.length];exact Nat.le_of_lt (dG (by omega))
 by_cases hlt:i<n
 ·refine .inr ⟨hlt,lz,λx H' y=>?_⟩;obtain⟨rfl,rfl⟩:=y;refine⟨_,nU fr ρ,M1,_,cN,vT (re.ext e1) fr,hm1,step i ys M1 hlt w1,λσ2 H2 ⟨ρ2,M2,re2,hm2,e2,q2⟩=>?_⟩;refine⟨ρ2,M2,_,re2,hm2,q2,λv H3 ⟨dy,M3,rdy,hm3,e3,q3⟩=>?_⟩;exact⟨n-(i+1),by omega,ys++[dy],M3,(ry.ext (e2.trans e3)).append (cF rdy cP),hm3,(e1.trans e2).trans e3,rfl,hlt,by rw[length_append,ly];rfl,q3⟩
 ·have e:i=n:=by omega
  subst e;exact .inl ⟨Nat.le_refl _,lz,λp hp=>kq _ _ ⟨.ref p,_,eJ,hm1.lnew hp ry,(ex0.trans e1).trans (Ext.new hp _),done ys M1 ly w1 p (hm1.fresh hp)⟩⟩
variable {elt iter tg:Expr}{scope:Scope}{pos:Pos}{N':List Str}{fr:List (Option Nat)}{tl:DE}{ta:DA}{oN:List Str}{osc:Scope}
theorem aED (B:mN oN osc N' fr scope)(hc:X.calm=true)(hi:PDE X iter tl)(hg:∀C s H fp pins,PG (X.blk N' scope C s H fp pins) tg (uG X.K g))(he:∀C s H fp pins,PE (X.blk N' scope C s H fp pins) elt (low X.K te))(hN:X.N=oN:=by rfl)(ho:X.env.scope=osc:=by rfl)(hs:∀x,foldedSetIterable iter X.env x=pure x:=by intro _;rfl) :
  PDE X (.ListComp elt [⟨tg,iter,[],0⟩] scope pos) (aEI tl fr g te) :=
 cA (aD8 (B.scope hN ho) hc (zO hi) hg he hs) λσ H Q ⟨ρ,M,Q',re,hm,q,k⟩=>⟨ρ,M,_,re,hm,q,λv H1 ⟨d,M1,rd,hm1,ex,q1⟩=>by
  cases d with
  |fz ds =>
   obtain⟨a,xs,rfl,sq,rs⟩:=lZ rd;exact⟨a,rfl,⟨xs,sq.sq⟩,xU ex (re.ext ex) hm1 q1 k λH' e' M' hm' _=>⟨xs,rs.ext e',λi hi=>⟨xs,(jF e' sq).sq,hi⟩,λi hi=>⟨xs,xs[i],(jF e' sq).sq,by simp[hi]⟩,λi x H2 y=>⟨y.1,y.2 xs (jF e' sq).sq⟩⟩⟩
  |ref a =>
   obtain⟨ds,ha,q1⟩:=q1;obtain rfl:=aO rd;obtain⟨xs,hx,rs⟩:=hm1.l a ds ha;refine⟨a,rfl,⟨xs,.of hx⟩,xU ex (re.ext ex) hm1 q1 k λH' e' M' hm' hat=>?_⟩;obtain⟨ys,hy,rs'⟩:=hm'.l a ds (hat a rfl);exact⟨ys,rs',λi hi=>⟨ys,.of hy,hi⟩,λi hi=>⟨ys,ys[i],.of hy,by simp[hi]⟩,λi x H2 y=>⟨y.1,y.2 ys (.of hy)⟩⟩
  |_=>exact q1.elim⟩
theorem aFc (B:mN oN osc N' fr scope)(hc:X.calm=true)(hi:PDE X iter tl)(hg:∀C s H fp pins,PG (X.blk N' scope C s H fp pins) tg (uG X.K g))(he:∀C s H fp pins,PE (X.blk N' scope C s H fp pins) elt (low X.K te))(hN:X.N=oN:=by rfl)(ho:X.env.scope=osc:=by rfl)(hs:∀x,foldedSetIterable iter X.env x=pure x:=by intro _;rfl) :
  PDE X (.ListComp elt [⟨tg,iter,[],0⟩] scope pos) (aGp tl fr g te) :=
 cA (aD8 (B.scope hN ho) hc (aGg hi) hg he hs) λσ H Q ⟨ρ,M,Q',re,hm,q,k⟩=>⟨ρ,M,_,re,hm,q,λv H1 ⟨d,M1,rd,hm1,ex,q1⟩=>by
  cases d with
  |tup ds =>
   obtain⟨a,xs,rfl,sq,rs⟩:=bF rd;exact⟨a,rfl,⟨xs,sq⟩,xU ex (re.ext ex) hm1 q1 k λH' e' M' hm' _=>⟨xs,rs.ext e',λi hi=>⟨xs,qA e' sq,hi⟩,λi hi=>⟨xs,xs[i],qA e' sq,by simp[hi]⟩,λi x H2 y=>⟨y.1,y.2 xs (qA e' sq)⟩⟩⟩
  |_=>exact q1.elim⟩
def xJ (i:Nat)(t:DE):DS:=λE ρ M=>t ρ M λx M1=>E.nx (ρ.set i (some x)) M1
theorem aAH {a:Expr}{p pos':Pos}{i:Nat}{y:Str}{spos py:Pos}(B:mN oN osc N' fr scope)(hc:X.calm = true)(hNd:X.N.Nodup)(hmg:X.mg "range"=none)(ha:PDA X [a] ta)(hg:∀C s H fp pins,PG (X.blk N' scope C s H fp pins) tg (uG X.K g))(he:∀C s H fp pins,PE (X.blk N' scope C s H fp pins) elt (low X.K te))(hy:X.N[i]?=some y:=by rfl)(hx:Loc X.env.scope y:=by first|exact Or.inl rfl|exact Or.inr rfl)(hsw:swapsWith (.ListComp elt [⟨tg,.Call (.Name "range" p) [a] [] pos',[],0⟩] scope pos) (some (.Name y py)) spos.line X.env = pure true:=by rfl)(hf:X.fn y = true∨X.env.scope.names.lookup y = some .local:=by first|exact .inl rfl|exact .inr rfl|assumption)(hN:X.N = oN:=by rfl)(ho:X.env.scope = osc:=by rfl)(hgl:Gl X "range":=by rfl)(hse:starEach [a] X.env=[(false,eval a X.env)]:=by rfl)(hs:∀x,foldedSetIterable (.Call (.Name "range" p) [a] [] pos') X.env x=pure x:=by intro _;rfl) :
  PDS X (.Assign [.Name y py] (.ListComp elt [⟨tg,.Call (.Name "range" p) [a] [] pos',[],0⟩] scope pos) spos) (xJ i (aFO ta fr g te)) :=
 gG (aBK (i:=i) (B.scope hN ho) hc hNd (aAg hgl hmg ha hse) hg he hy hx hsw hf hs) λE σ H ⟨ρ,M,D,re,hm,q,kk⟩=>⟨ρ,M,_,re,hm,q,λvs H1 ⟨ds,M1,rs,hm1,ex,q1⟩=>by
  have k:∀v H',LQ X.K H (λx M1=>D.nx (ρ.set i (some x)) M1) v H'->E.nx (σ.set i (some v)) H':=λv H' ⟨d,M',rd',hm',e',q'⟩=>kk.nx _ H' ⟨_,M',(re.ext e').set rd' i,hm',e',q'⟩;rcases ds with _|⟨d,_|⟨d2,r⟩⟩
  ·exact q1.elim
  ·cases d with
   |int j =>
    obtain⟨⟨j1,j2⟩,q1⟩:=q1;obtain⟨v1,r1,rfl,rv1,rr1⟩:=aR rs;obtain rfl:=bE rr1;obtain rfl:=aW rv1;exact⟨j,rfl,j1,j2,aCD ex (re.ext ex) hm1 q1 k⟩
   |_=>exact q1.elim
  ·cases d<;>exact q1.elim⟩
end
end Dd
namespace L2
open PySem PySem.Spec PyProof.Rows
variable {X:Cx}
theorem qP (hc:X.calm = true):jQ X (.builtin "all") (λxs H Q=>∃(p:Addr)(bs:List Bool),xs=[.ref p]/\SqL X.K H p (bs.map V.bl)/\Q (.bl (bs.all id)) H):=by
 intro pins s σ H xs us Q I r h;obtain⟨p,bs,rfl,hq,q⟩:=h;obtain⟨u,rfl,rx⟩:=sI r;cases rx;obtain⟨its,r',pl,hz⟩:=I.list hq;have hl:=pl.isList;have hlt:p<s.heap.objs.size:=by obtain⟨_,e,_⟩:=hl;exact Heap.lt_size e
 have hg:∀(i:Nat)(v:Value),its.toArray[i]?=some v->∃b,bs[i]?=some b/\v=Value.bool b:=λi v e=>by
  obtain⟨x,hx,rv⟩:∃x,(bs.map V.bl)[i]?=some x/\bM x v:=by
   have:=r'.length;have hi:i<its.length:=by have:=(Array.getElem?_eq_some_iff.mp e).1;simpa using this
   have hi':i<(bs.map V.bl).length:=by omega
   obtain⟨w,hw,rw'⟩:=r'.get (i:=i) (getElem?_eq_getElem hi');have:w=v:=by
    have e':its[i]?=some v:=by simpa using e
    rw[e'] at hw;exact(Option.some.inj hw).symm
   subst this;exact⟨_,getElem?_eq_getElem hi',rw'⟩
  rw[getElem?_map] at hx;cases hb:bs[i]? with
  |none=>rw[hb] at hx;cases hx
  |some b=>rw[hb] at hx;cases hx;cases rv;exact⟨b,rfl,rfl⟩
 refine call_all_walk (wpAny_pyIter_list hl ?_);refine⟨s.heap.objs.size,[s.heap.objs.size,p],[s.heap.objs.size],its.toArray.size,_,_,λi=>(bs[i]?).getD true,rfl,Walks.list (A:=X.A.in1) (I.ok.hd hc) _ p (Nat.ne_of_lt hlt) its.toArray,
  ⟨⟨_,Heap.get?_push_size _ rfl,rfl,rfl⟩,hl.push _⟩,λi v s' Q' E' hP hQ=>?_,λh' tk hk=>?_⟩
 ·obtain⟨b,e,rfl⟩:=hg i v hP;simp only[e,Option.getD_some] at hQ;exact wpAny_truthy_bool hQ
 ·have e:((range its.toArray.size).all λi=>(bs[i]?).getD true)=bs.all id:=by have l1:=r'.length;rw[length_map] at l1;rw[size_toArray,<- l1];exact LSm.range_all bs
  rw[e];exact⟨.bl (bs.all id),H,I.kept (t':=tk) (LSm.kept_iter hk),rfl,q⟩
end L2
namespace Dd
open PySem PySem.Spec PyProof.Rows L2
variable {X:Cx}
def aHG:DSp:=λds M Q=>match ds with
 |[.ref a]=>∃bs:List Bool,M a=some (bs.map D.bl)/\Q (.bl (bs.all id)) M
 |_=>False
theorem wH {K:Frag}{H:Hp}:∀{bs:List Bool}{vs:List V},bG K H (bs.map D.bl) vs->vs=bs.map V.bl
 |[],_,h=>bE h
 |b::bs,_,h=>by obtain⟨v,r,rfl,hv,hr⟩:=aR h;rw[bS hv,wH hr];rfl
theorem aBk (hc:X.calm = true):gJ X (.builtin "all") aHG:=gJ.of (qP hc) λvs H M ds Q rs hm q=>by
 rcases ds with _|⟨d,_|⟨d2,r⟩⟩
 ·exact q.elim
 ·cases d with
  |ref a =>
   obtain⟨v,rfl,rv⟩:=gX rs;obtain rfl:=aO rv;obtain⟨bs,ha,q⟩:=q;obtain⟨us,hu,ru⟩:=hm.l a _ ha;obtain rfl:=wH ru;exact⟨a,bs,rfl,.of hu,_,M,dH,hm,.refl H,q⟩
  |_=>exact q.elim
 ·cases d<;>exact q.elim
section
variable {g:DG}{te:DE}{tb:DS}{Q:DQ}{ρ0:cC}
def itT (d:D)(ρ0:cC)(g:DG)(te:DE)(M:DM)(Q:DQ):Prop:=match d with
 |.tup ds=>rM none ds ρ0 g te M Q
 |_=>False
theorem aDF {tl:DE}{fr:List (Option Nat)}{ρ:cC}{M:DM}:aGp tl fr g te ρ M Q=tl ρ M λd M1=>itT d (nU fr ρ) g te M1 Q:=rfl
theorem mR {ds:List D}{M:DM}:itT (.tup ds) ρ0 g te M Q=rM none ds ρ0 g te M Q:=rfl
def goC (g:DG)(te:DE)(ρ0:cC)(Q:DQ):List D->List D->DM->Prop
 |[],ys,M=>∀p:Addr,M p=none->Q (.ref p) (bC M p ys)
 |d::r,ys,M=>g d ρ0 M λρ2 M2=>te ρ2 M2 λy M3=>goC g te ρ0 Q r (ys++[y]) M3
theorem tM {ds:List D}{M:DM}(hl:ds.length<=1000)(h:goC g te ρ0 Q ds [] M):rM none ds ρ0 g te M Q:=by
 refine⟨hl,λi ys M=>goC g te ρ0 Q (ds.drop i) ys M,h,λ_ _ _ _ _ a e=>(by cases e),λi d ys M hd hp=>?_,λys M _ hp p hn=>?_⟩
 ·obtain⟨hi,e⟩:=List.getElem?_eq_some_iff.mp hd;have hp:goC g te ρ0 Q (ds.drop i) ys M:=hp;rw[List.drop_eq_getElem_cons hi,e] at hp;exact hp
 ·have hp:goC g te ρ0 Q (ds.drop ds.length) ys M:=hp;rw[List.drop_length] at hp;exact hp p hn
def goR (lo:Int)(g:DG)(tb:DS)(E:iD):Nat->Nat->cC->DM->Prop
 |0,_,ρ,M=>E.nx ρ M
 |n+1,i,ρ,M=>g (.int (lo+i)) ρ M λρ2 M2=>tb { E with nx:=goR lo g tb E n (i+1),ct:=goR lo g tb E n (i+1),bk:=E.nx } ρ2 M2
end
section
variable {e:Expr}{te:DE}{pos:Pos}
theorem aBz {K':Frag}(hK:X.K = K'){T:String}{x:Str}{p p2:Pos}(he:PDE X e te)(hm:X.mg "isinstance" = none)(hmx:X.mg x = none)(hv:bootBuiltins x = some (.type T):=by rfl)(hg:Gl X "isinstance":=by rfl)(hgx:Gl X x:=by rfl)(hn:x ≠ "__name__":=by decide)(hdb:(x==("__debug__":Str))=false:=by decide)(hse:starEach [e,.Name x p2] X.env=(false,eval e X.env)::starEach [.Name x p2] X.env:=by rfl)(hse2:starEach [.Name x p2] X.env=(false,eval (.Name x p2) X.env)::starEach [] X.env:=by rfl)(hpl:(backTo pos (starEach [.Name x p2] X.env)).any (·.1)=false:=by rfl) :
  PDE X (.Call (.Name "isinstance" p) [e,.Name x p2] [] pos) (dIs K' (.type T) te):=by
 subst hK;exact yO he hm hmx hv hg hgx hn hdb hse hse2 hpl
end
section
variable {X:Cx}{e:Expr}{te:DE}{pos p2:Pos}{lo hi:Option Expr}{tl th:DO}
def aHU (x:D)(lo hi:Option Int)(M:DM)(Q:DQ):Prop:=match x with
 |.tup ds=>¬(HT.sIx ds.length 0 lo=0/\HT.sIx ds.length ds.length hi=ds.length)/\Q (.tup (cutD ds lo hi)) M
 |_=>False
def aE5 (te:DE)(tl th:DO):DE:=λρ M Q=>te ρ M λx M1=>tl ρ M1 λl M2=>th ρ M2 λh M3=>aHU x l h M3 Q
theorem aAI (he:PDE X e te)(hl:PO X lo (tL X.K tl))(hu:PO X hi (tL X.K th)):PDE X (.Subscript e (.Slice lo hi none p2) pos) (aE5 te tl th) :=
 cA (wB aGv he hl hu) λσ H Q ⟨ρ,M,Q',re,hm,q,k⟩=>⟨ρ,M,_,re,hm,q,λv H1 ⟨d,M1,rd,hm1,e1,q1⟩=>⟨ρ,M1,_,re.ext e1,hm1,q1,λl H2 ⟨M2,hm2,e2,q2⟩=>⟨ρ,M2,_,(re.ext e1).ext e2,hm2,q2,λh H3 ⟨M3,hm3,e3,q3⟩=>by
  have rd3:=(rd.ext e2).ext e3;have ex:=(e1.trans e2).trans e3;cases d with
  |tup ds =>
   obtain⟨a,us,rfl,sq,ru⟩:=bF rd3;have l1:=ru.length;refine⟨a,us,rfl,sq,by rw[<- l1];exact q3.1,λp hp=>k _ _ ⟨.tup _,M3,dF (.of cE) ((qY ru l h).ext (Ext.new hp _)),hm3.new hp _,ex.trans (Ext.new hp _),q3.2⟩⟩
  |_=>exact q3.elim⟩⟩⟩
end
end Dd
namespace L2
open PySem PySem.Spec PyProof.Rows
open PySem.AutoSeq1 (wpAny_loadPart')
section
variable {X:Cx}{a n:Expr}{ta:TE}{tn:TA}{pos:Pos}
end
end L2
namespace Dd
open PySem PySem.Spec PyProof.Rows L2
section
variable {X:Cx}{a n:Expr}{ta:DE}{tn:DA}{pos p pos':Pos}
end
section
variable {X:Cx}{a b c e o:Expr}{es:List Expr}{ta tb tc te to:DE}{pos:Pos}
def tF (r r':D2)(ta tb tc:DE):DE:=λρ M Q=>ta ρ M λx M1=>tb ρ M1 λy M2=>r x y M2 λz M3=>match z with
 |.bl k=>if k=true then tc ρ M3 λw M4=>r' y w M4 Q else Q (.bl false) M3
 |_=>False
theorem aAe {r r':D2}{σ:L2.St}{H:Hp}{Q:VK}(h:low X.K (tF r r' ta tb tc) σ H Q) :
  aA6 (λx y H Q=>∃dx dy M Q',Rep X.K H dx x/\Rep X.K H dy y/\bI X.K M H/\r dx dy M Q'/\∀v H',LQ X.K H Q' v H'->Q v H') (λx y H Q=>∃dx dy M Q',Rep X.K H dx x/\Rep X.K H dy y/\bI X.K M H/\r' dx dy M Q'/\∀v H',LQ X.K H Q' v H'->Q v H') (low X.K ta) (low X.K tb) (low X.K tc) σ H Q:=by
 obtain⟨ρ,M,Q',re,hm,q,k⟩:=h;refine⟨ρ,M,_,re,hm,q,λx H1 ⟨dx,M1,rx,hm1,e1,q1⟩=>⟨ρ,M1,_,re.ext e1,hm1,q1,λy H2 ⟨dy,M2,ry,hm2,e2,q2⟩=>⟨dx,dy,M2,_,rx.ext e2,ry,hm2,q2,λz H3 ⟨dz,M3,rz,hm3,e3,q3⟩=>?_⟩⟩⟩;cases dz with
 |bl k' =>
  refine⟨k',bS rz,?_⟩;cases k' with
  |false=>exact k _ H3 ⟨.bl false,M3,dH,hm3,(e1.trans e2).trans e3,q3⟩
  |true=>exact⟨ρ,M3,_,((re.ext e1).ext e2).ext e3,hm3,q3,λw H4 ⟨dw,M4,rw',hm4,e4,q4⟩=>⟨dy,dw,M4,Q',(ry.ext e3).ext e4,rw',hm4,q4,λv H' zz=>k v H' (zz.back (((e1.trans e2).trans e3).trans e4))⟩⟩
 |_=>exact q3.elim
theorem aAR {op op':CmpOp}{r r':D2}(ho:OpD X (compareOp op) r)(ho':OpD X (compareOp op') r')(ha:PDE X a ta)(hb:PDE X b tb)(hc:PDE X c tc)(hm:lastMarks [op,op'] [b,c]=false:=by with_unfolding_all rfl):PDE X (.Compare a [op,op'] [b,c] pos) (tF r r' ta tb tc) :=
 cA (aAY ho ho' ha hb hc hm) λσ H Q h=>aAe h
end
theorem ifF {b:Bool}{A B:Prop}(h:b=false)(q:B):if b=true then A else B:=by subst h;exact q
theorem ifT {b:Bool}{A B:Prop}(h:b=true)(q:A):if b=true then A else B:=by subst h;exact q
end Dd
set_option maxHeartbeats 400000
namespace L2
open PySem PySem.Spec PyProof.Rows
theorem aBs {xs:List V}{its:List Value}(h:bN xs its):bN xs.reverse its.reverse:=by
 induction h with
 |nil=>exact .nil
 |cons a b ih=>rw[reverse_cons,reverse_cons];exact ih.append (.cons a .nil)
theorem aEw {X:Cx}{e k:Expr}{te tk:TE}{pos p2:Pos}(he:PE X e te)(hk:PE X k tk):PE X (.Subscript e (.Slice none none (some k) p2) pos) (λσ H Q=>te σ H λx H1=>tk σ H1 λy H2=>∃a xs,x=.ref a/\y=.int (-1)/\SqL X.K H2 a xs/\∀p,H2 p=none->Q (.ref p) (upd H2 p (.lst xs.reverse))):=by intro pins s σ H Q I h;refine Subscript_ (thn (he pins s σ H _ I h) λv s1 ⟨x,H1,I1,r1,q1⟩=>?_);refine wpAny_Slice ?_;rw[evalPart_none];refine wpAny_pure (wpAny_pure ?_);rw[evalPart_some];refine thn (hk pins s1 σ H1 _ I1 q1) λvk s4 ⟨y,H4,I4,r4,q4⟩=>?_;obtain⟨a,xs,rfl,rfl,sq,q⟩:=q4;cases r1;obtain⟨t,rfl⟩:=r4;have I5:Inv X pins σ H4 { s4 with heap:=s4.heap.push { cls:=.type "slice",data:=.fields #[.none,.none,.int (-1) t] } }:=I4.kept (t':=s4.toks) λb ob q=>Heap.get?_push_of_some _ q;obtain⟨its,r,ht,hz⟩:=I5.list sq;have hlen:=r.length;show wpAny (model X.prog X.w) X.A (subscriptTail e (.Slice none none (some k) p2) (.ref a) (.ref s4.heap.objs.size)) (EP X pins σ Q) X.xe { s4 with heap:=s4.heap.push { cls:=.type "slice",data:=.fields #[.none,.none,.int (-1) t] } };refine tail_any (T:="list") (ops:=[.ref a,.ref s4.heap.objs.size]) ht.isList.typeIs slot_list_getitem.lookup ?_ (by with_unfolding_all rfl);refine wpAny_getItem_list_slice (st:=some (-1)) ht.isList (Heap.IsSliceOf.new ..) .none .none (by constructor) (by decide) ?_ (by rw[size_toArray]<;>omega);rw[PySem.W.krv_pick];refine⟨.ref _,_,I5.laid (t':=s4.toks) (o:=.lst xs.reverse) (λb ob q=>Heap.get?_push_of_some _ q) (Nat.le_refl _) ?_,rfl,q _ (I5.hok.fresh (Nat.le_refl _))⟩;exact⟨by rw[List.length_reverse];exact hz,_,0,by simpa using aBs r,Heap.get?_push_size _ rfl⟩
end L2
namespace Dd
open PySem PySem.Spec PyProof.Rows L2
theorem bG.rev {K:Frag}{H:Hp}:∀{ds:List D}{vs:List V},bG K H ds vs->bG K H ds.reverse vs.reverse
 |[],_,h=>by rw[bE h];exact cP
 |d::ds,_,h=>by obtain⟨v,r,rfl,hv,hr⟩:=aR h;rw[reverse_cons,reverse_cons];exact(bG.rev hr).append (cF hv cP)
section
variable {X:Cx}{e k:Expr}{te tk:DE}{pos p2:Pos}
def aEs (te tk:DE):DE:=λρ M Q=>te ρ M λx M1=>tk ρ M1 λy M2=>match x,y with
 |.ref a,.int i=>i = -1/\∃ds,M2 a=some ds/\∀p:Addr,M2 p=none->Q (.ref p) (bC M2 p ds.reverse)
 |_,_=>False
theorem aFC (he:PDE X e te)(hk:PDE X k tk):PDE X (.Subscript e (.Slice none none (some k) p2) pos) (aEs te tk) :=
 cA (aEw he hk) λσ H Q ⟨ρ,M,Q',re,hm,q,kk⟩=>⟨ρ,M,_,re,hm,q,λv H1 ⟨d,M1,rd,hm1,e1,q1⟩=>⟨ρ,M1,_,re.ext e1,hm1,q1,λy H2 ⟨dy,M2,ry,hm2,e2,q2⟩=>by
  cases d with
  |ref a =>
   cases dy with
   |int i =>
    obtain⟨rfl,ds,ha,q2⟩:=q2;obtain rfl:=aO rd;obtain⟨us,hu,ru⟩:=hm2.l a ds ha;exact⟨a,us,rfl,aW ry,.of hu,λp hp=>kk _ _ ⟨.ref p,_,eJ,hm2.lnew hp ru.rev,(e1.trans e2).trans (Ext.new hp _),q2 p (hm2.fresh hp)⟩⟩
   |_=>exact q2.elim
  |_=>exact q2.elim⟩⟩
end
end Dd
namespace Zp
open PySem PySem.Spec PyProof.Rows
section
variable {prog:Program}{w:World}{A:Around}{E:Value->Shared->Prop}{s:Shared}
end
end Zp
namespace L2
open PySem PySem.Spec PyProof.Rows
theorem Inv.turnedT {X:Cx}{pins:List (Addr×Obj)}{σ:St}{H:Hp}{s:Shared}{h':Heap}{fp:List Addr}{p:Addr}{xs:List V}{its:List Value}(I:Inv X pins σ H s)(k:∀b o,b∉fp->s.heap.get? b=some o->h'.get? b=some o)(hf:∀b∈fp,rQ X pins H b)(hp:s.heap.objs.size<=p)(hz:xs.length<=sizeLine)(hv:bN xs its)(ht:IsTup h' p its.toArray)(th:∀b∈fp,∃o,h'.get? b=some o) :
  Inv X pins σ (upd H p (.tup xs)) { s with heap:=h' }:=by
 have hn:H p=none:=I.hok.fresh hp;have nf:∀b u,H b=some u->b∉fp:=λb u e hb=>by rw[(hf b hb).1] at e;cases e
 have np:∀b o,s.heap.get? b=some o->b≠p:=λb o e=>Nat.ne_of_lt (Nat.lt_of_lt_of_le (Heap.lt_size e) hp);refine I.step (g':=s.gens) (d':=s.drawn) (t':=s.toks) (ch:=fp) (λb hb=>⟨(hf b hb).2.2.2.1,(hf b hb).2.1,(hf b hb).2.2.2.2.1,(hf b hb).2.2.2.2.2⟩) (λb o _ _ hc e _=>k b o hc e) (λb o _ _ hc e _=>⟨o.slots,k b o hc e⟩) (λb o _ e n=>by rw[aS (np b o e)];exact n)
  (λb o hc e=>⟨o,k b o hc e⟩) (λb ys e=>by rw[aS (bB e hn)];exact e) (λb o u e=>by rw[aS (bB e hn)];exact e) (λb ps e=>⟨#[],by rw[aS (bB e hn),e];simp⟩) (λm hm=>?_) (λb u e=>?_) I.bare
 ·obtain⟨o,es,ep,ho,r⟩:=hm;exact⟨o,es,ep,k _ o (λhb=>(hf _ hb).2.1 rfl) ho,r⟩
 ·by_cases hb:b=p
  ·subst hb;rw[cE] at e;cases e;exact⟨hz,its,hv,ht⟩
  ·rw[aS hb] at e;refine(I.hok b u e).stay (λc v hc q=>k c v ?_ q) (λc q=>by rw[aS (bB q hn)];exact q) λc xs q=>by rw[aS (bB q hn)];exact q
   rcases hc with z|z
   ·rw[z];exact nf b u e
   ·exact nf c _ z
theorem Inv.turnedL {X:Cx}{pins:List (Addr×Obj)}{σ:St}{H:Hp}{s:Shared}{h':Heap}{fp:List Addr}(I:Inv X pins σ H s)(k:∀b o,b∉fp->s.heap.get? b=some o->h'.get? b=some o)(hf:∀b∈fp,rQ X pins H b) :
  Inv X pins σ H { s with heap:=h' }:=by
 have nf:∀b u,H b=some u->b∉fp:=λb u e hb=>by rw[(hf b hb).1] at e;cases e
 refine I.step (g':=s.gens) (d':=s.drawn) (t':=s.toks) (ch:=fp) (λb hb=>⟨(hf b hb).2.2.2.1,(hf b hb).2.1,(hf b hb).2.2.2.2.1,(hf b hb).2.2.2.2.2⟩) (λb o _ _ hc e _=>k b o hc e) (λb o _ _ hc e _=>⟨o.slots,k b o hc e⟩) (λb o _ e n=>n)
  (λb o hc e=>⟨o,k b o hc e⟩) (λb ys e=>e) (λb o u e=>e) (λb ps e=>⟨#[],by rw[e];simp⟩) (λm hm=>?_) (λb u e=>?_) I.bare
 ·obtain⟨o,es,ep,ho,r⟩:=hm;exact⟨o,es,ep,k _ o (λhb=>(hf _ hb).2.1 rfl) ho,r⟩
 ·refine(I.hok b u e).stay (λc v hc q=>k c v ?_ q) (λc q=>q) λc xs q=>q;rcases hc with z|z
  ·rw[z];exact nf b u e
  ·exact nf c _ z
end L2
namespace Dd
open PySem PySem.Spec PyProof.Rows L2
section
variable {X:Cx}{pos:Pos}{iter tg:Expr}{body:List Stmt}{tl:DE}{g:DG}{tb:DS}{ta:DA}
end
end Dd
set_option maxHeartbeats 1000000
namespace Dd
open PySem PySem.Spec PyProof.Rows L2
section
variable {X:Cx}{pins:List (Addr×Obj)}{σ:L2.St}{H H':Hp}{s:Shared}{h':Heap}
end
def Tr (h:Heap)(e:Addr)(cls:Value)(T:Addr)(fl:Value):Prop :=
 ∃oe vs oT ts,h.get? e=some oe/\(oe.cls=cls/\oe.dict=none)/\oe.data=.fields vs/\vs[1]?=some (.ref T)/\T≠e/\h.get? T=some oT/\oT.data=.fields ts/\ts[3]?=some fl
section
variable {X:Cx}{pins:List (Addr×Obj)}{σ:L2.St}{H:Hp}{s:Shared}{M:Model}{A:Around}{E:Value->Shared->Prop}{e T:Addr}{cls:Value}
end
noncomputable def CXr (P:Program)(w:World):CXT:=λouter H s E e s'=>∃(a:Addr)(cls:Value) (T:Addr) (H':Hp),e=Value.ref a/\s'.os=s.os/\AllBare s'.gens/\Un (frs outer) [] H H' s.heap s'.heap/\HOk P w H' s'.heap /\
 Tr s'.heap a cls T .none/\s.heap.get? a=none/\s.heap.get? T=none/\H' a=none/\H' T=none/\E cls none H'
section
variable {X:Cx}{x:Str}{V:DM->Prop}{e:Expr}{es:List Expr}{t:DA}{np cpos pos:Pos}
end
section
variable {P:Program}{w:World}{K:Frag}{mg:Str->Option Value}{base:Heap}
end
section
variable {X:Cx}{pins:List (Addr×Obj)}{σ:L2.St}{H:Hp}{s:Shared}{a:Addr}{o:Obj}
end
noncomputable def iD.un (D:iD)(j:Nat):iD:={ nx:=λρ M=>D.nx (ρ.set j none) M,rt:=D.rt,bk:=λρ M=>D.bk (ρ.set j none) M,ct:=λρ M=>D.ct (ρ.set j none) M }
section
variable {X:Cx}{a:Expr}{e:Expr}{es:List Expr}{t:DA}{x f n cm:Str}{ps:List Str}{sp:DSp}{cond:List D->DM->Prop}{C Cm:Addr}{k1 k2 k i j:Nat}{ts:Addr->DS}{b0:Stmt}{suite:List Stmt}{px pf pc pa pcm ph pos:Pos}
end
section
open PySem.W PySem.Calls
end
section
variable {X:Cx}{n c:Str}{C Cc a:Addr}{o:Obj}{p p1 p2 pos:Pos}{j:Nat}
end
section
open PySem.W PySem.Calls
variable {prog:Program}{w:World}{A:Around}{E:Value->Shared->Prop}{s:Shared}{K:Frag}{x C D:Addr}{ox:Obj}
end
section
variable {X:Cx}{a C:Addr}{o:Obj}
end
section
open PySem.SeqAt
open PySem.AutoSeq1 (wpAny_loadPart')
open PySem.MeetsSeq PySem.MeetsSeq2 PySem.MeetsSeq3
end
section
variable {X:Cx}{j:Nat}
end
def aGo (t u:DS):DS:=λD ρ M=>∃R:cC->DM->Prop,t { D with nx:=R } ρ M/\∀ρ' M',R ρ' M'->u D ρ' M'
section
variable {X:Cx}{st:Stmt}{bV:List Stmt}{t u:DS}
theorem aDi (h1:PDS X st t)(h2:kU X bV u):kU X (st::bV) (aGo t u) :=
 uT (wI h1 h2) λE σ H ⟨ρ,M,D,re,hm,⟨R,q,k2⟩,k⟩ =>
  ⟨ρ,M,{ D with nx:=R },re,hm,q,⟨λσ' H' ⟨ρ',M',re',hm',ex,r⟩=>⟨ρ',M',D,re',hm',k2 ρ' M' r,k.at ex⟩,k.rt,k.bk,k.ct⟩⟩
end
section
variable {X:Cx}{e:Expr}{es:List Expr}{t:DA}{x f cm:Str}{ps:List Str}{sp:DSp}{cond:List D->DM->Prop}{C Cm:Addr}{k1 k2 k i:Nat}{ts:DS}{b0:Stmt}{suite:List Stmt}{px pf pc pa pcm ph pos:Pos}
end
@[irreducible] def ZE (X:Cx)(e:Expr)(t:DE):Prop:=PDE X e t
theorem ZE.o {X:Cx}{e:Expr}{t:DE}(h:ZE X e t):PDE X e t:=by unfold ZE at h;exact h
theorem ZE.i {X:Cx}{e:Expr}{t:DE}(h:PDE X e t):ZE X e t:=by unfold ZE;exact h
@[irreducible] def ZT (X:Cx)(e:Expr)(t:DT):Prop:=PDT X e t
theorem ZT.o {X:Cx}{e:Expr}{t:DT}(h:ZT X e t):PDT X e t:=by unfold ZT at h;exact h
theorem ZT.i {X:Cx}{e:Expr}{t:DT}(h:PDT X e t):ZT X e t:=by unfold ZT;exact h
@[irreducible] def ZW (X:Cx)(e:Expr)(t:DT):Prop:=PDW X e t
theorem ZW.o {X:Cx}{e:Expr}{t:DT}(h:ZW X e t):PDW X e t:=by unfold ZW at h;exact h
theorem ZW.i {X:Cx}{e:Expr}{t:DT}(h:PDW X e t):ZW X e t:=by unfold ZW;exact h
@[irreducible] def ZA (X:Cx)(e:List Expr)(t:DA):Prop:=PDA X e t
theorem ZA.o {X:Cx}{e:List Expr}{t:DA}(h:ZA X e t):PDA X e t:=by unfold ZA at h;exact h
theorem ZA.i {X:Cx}{e:List Expr}{t:DA}(h:PDA X e t):ZA X e t:=by unfold ZA;exact h
@[irreducible] def ZS (X:Cx)(e:Stmt)(t:DS):Prop:=PDS X e t
theorem ZS.o {X:Cx}{e:Stmt}{t:DS}(h:ZS X e t):PDS X e t:=by unfold ZS at h;exact h
theorem ZS.i {X:Cx}{e:Stmt}{t:DS}(h:PDS X e t):ZS X e t:=by unfold ZS;exact h
@[irreducible] def ZSs (X:Cx)(e:List Stmt)(t:DS):Prop:=kU X e t
theorem ZSs.o {X:Cx}{e:List Stmt}{t:DS}(h:ZSs X e t):kU X e t:=by unfold ZSs at h;exact h
theorem ZSs.i {X:Cx}{e:List Stmt}{t:DS}(h:kU X e t):ZSs X e t:=by unfold ZSs;exact h
@[irreducible] def ZG (X:Cx)(e:Expr)(t:DG):Prop:=PDG X e t
theorem ZG.o {X:Cx}{e:Expr}{t:DG}(h:ZG X e t):PDG X e t:=by unfold ZG at h;exact h
theorem ZG.i {X:Cx}{e:Expr}{t:DG}(h:PDG X e t):ZG X e t:=by unfold ZG;exact h
@[irreducible] def ZGs (X:Cx)(e:List Expr)(t:DGs):Prop:=wG X e t
theorem ZGs.o {X:Cx}{e:List Expr}{t:DGs}(h:ZGs X e t):wG X e t:=by unfold ZGs at h;exact h
theorem ZGs.i {X:Cx}{e:List Expr}{t:DGs}(h:wG X e t):ZGs X e t:=by unfold ZGs;exact h
@[irreducible] def ZO (X:Cx)(e:Option Expr)(t:DO):Prop:=PO X e (tL X.K t)
theorem ZO.o {X:Cx}{e:Option Expr}{t:DO}(h:ZO X e t):PO X e (tL X.K t):=by unfold ZO at h;exact h
theorem ZO.i {X:Cx}{e:Option Expr}{t:DO}(h:PO X e (tL X.K t)):ZO X e t:=by unfold ZO;exact h
section
variable {K:Frag}{H H':Hp}
end
section
variable {K:Frag}{H H':Hp}{M M':DM}
end
section
variable {K:Frag}{H H':Hp}{ρ:cC}{σ:L2.St}
end
section
variable {K:Frag}{H H1:Hp}
end
section
variable {X:Cx}{e:Expr}{st:Stmt}{sts:List Stmt}
end
section
variable {X:Cx}{a b c e:Expr}{es:List Expr}{ta tb tc te:DE}{tA tB:DT}{t:DA}{pos:Pos}
theorem aB (i:Nat){x:Str}{pos:Pos}(hN:X.N[i]?=some x:=by rfl)(hv:Vis X.env.scope x:=by first|exact Or.inl rfl|exact Or.inr (Or.inl rfl)|exact Or.inr (Or.inr rfl))(hd:(x==("__debug__":Str))=false:=by decide)(hcd:(x==("__classdict__":Str))=false:=by decide):ZE X (.Name x pos) (xZ i):=.i (aEj i hN hv hd hcd)
theorem aC {i j pos}:ZE X (.Constant (.int i) j pos) (dC (.int i)):=.i (aFB (i:=i) (j:=j) (pos:=pos))
theorem cU {i j pos}:ZE X (.Constant (.bool i) j pos) (dC (.bl i)):=.i (aHD (i:=i) (j:=j) (pos:=pos))
theorem bY {x j pos}:ZE X (.Constant (.str x) j pos) (dC (.str x)):=.i (aGr)
theorem aM {op:Operator}{r:D2}(ho:OpD X (binaryOp op) r)(ha:ZE X a ta)(hb:ZE X b tb):ZE X (.BinOp a op b pos) (dOp r ta tb):=.i (aHQ (op:=op) ho ha.o hb.o)
theorem bZ {op:CmpOp}{r:D2}(ho:OpD X (compareOp op) r)(ha:ZE X a ta)(hb:ZE X b tb)(hm:behindInMarks op b=false:=by exact uU _):ZE X (.Compare a [op] [b] pos) (dOp r ta tb):=.i (aEO (op:=op) ho ha.o hb.o hm)
theorem aX {op:CmpOp}{r:D2}(ho:OpD X (compareOp op) r)(ha:ZE X a ta)(hb:ZE X b tb)(hm:behindInMarks op b=false:=by exact uU _):ZT X (.Compare a [op] [b] pos) (sL (dOp r ta tb)):=.i (aE0 (op:=op) ho ha.o hb.o hm)
theorem dN (h:ZE X e te)(he:∀whole,isTrue e X.env whole=(do let v <- whole;standAt e.pos;holding [v] (truthy v)):=by intro _;rfl):ZT X e (sL te):=.i (aFg h.o he)
variable {bV:List Expr}
theorem kA (ha:ZT X a tA):ZW X (.BoolOp .And [a] pos) tA:=.i (aCY ha.o)
theorem fO (ha:ZT X a tA):ZW X (.BoolOp .Or [a] pos) tA:=.i (aFG ha.o)
theorem mF (ha:ZT X a tA)(hb:ZW X (.BoolOp .And (b::bV) pos) tB):ZW X (.BoolOp .And (a::b::bV) pos) (aEK tA tB):=.i (aE8 ha.o hb.o)
theorem gI (ha:ZT X a tA)(hb:ZW X (.BoolOp .Or (b::bV) pos) tB):ZW X (.BoolOp .Or (a::b::bV) pos) (dOr tA tB):=.i (aHm ha.o hb.o)
theorem iE (h:ZW X e tA):ZT X e tA:=.i (aI5 h.o)
theorem eK (ha:ZT X a tA):ZT X (.UnaryOp .Not a pos) (aGI tA):=.i (aFM ha.o)
theorem dU {op}(h:ZE X a ta):ZE X (.BoolOp op [a] pos) ta:=.i (aEd (op:=op) h.o)
theorem dE (ha:ZE X a ta)(hb:ZE X (.BoolOp .And (b::bV) pos) tb):ZE X (.BoolOp .And (a::b::bV) pos) (aCo ta tb):=.i (aGs ha.o hb.o)
theorem aE4 (ha:ZE X a ta)(hb:ZE X (.BoolOp .Or (b::bV) pos) tb):ZE X (.BoolOp .Or (a::b::bV) pos) (aF0 ta tb):=.i (aHF ha.o hb.o)
theorem kR (ha:ZE X a ta):ZE X (.UnaryOp .Not a pos) (aBn ta):=.i (aEG ha.o)
theorem sN (hc:ZT X c tA)(ha:ZE X a ta)(hb:ZE X b tb):ZE X (.IfExp c a b pos) (aF1 tA ta tb):=.i (aA5 hc.o ha.o hb.o)
theorem aD :ZA X [] lF:=.i (aBP)
theorem aA (ha:ZE X e te)(hr:ZA X es t)(hs:starEach (e::es) X.env=(false,eval e X.env)::starEach es X.env:=by rfl):ZA X (e::es) (fT te t):=.i (zK ha.o hr.o hs)
theorem aL {x1}(h:ZA X es t):ZE X (.Tuple es x1 pos) (aFI t):=.i (aEk h.o)
theorem bO (h:ZA X es t):ZE X (.List es pos) (aEq t):=.i (aFe h.o)
end
section
variable {X:Cx}{st:Stmt}{bV:List Stmt}{t u:DS}{e:Expr}{te:DE}{pos:Pos}
theorem aV :ZSs X [] aBW:=.i (aDC)
theorem aE (h1:ZS X st t)(h2:ZSs X bV u):ZSs X (st::bV) (aEx t u):=.i (aCb h1.o h2.o)
theorem aG (h1:ZS X st t):ZSs X [st] t:=.i (aDd h1.o)
theorem aA2 (he:ZE X e te)(hs:swapsWith e none pos.line X.env=pure false:=by rfl):ZS X (.Expr e pos) (aBI te):=.i (aCX he.o hs)
theorem aK (he:ZE X e te):ZS X (.Return (some e) pos) (aFn te):=.i (aFH he.o)
theorem bL {c:Expr}{a b:List Stmt}{tc:DT}(hc:ZT X c tc)(ha:ZSs X a t)(hb:ZSs X b u):ZS X (.If c a b pos) (aEo tc t u):=.i (aG5 hc.o ha.o hb.o)
end
section
variable {X:Cx}{pos:Pos}{e tg:Expr}{es:List Expr}{te:DE}
theorem aN {i:Nat}{x:Str}(hN:X.N.Nodup)(hi:X.N[i]?=some x:=by rfl)(hx:Loc X.env.scope x:=by first|exact Or.inl rfl|exact Or.inr rfl)(hf:X.fn x=true∨X.env.scope.names.lookup x=some .local:=by first|exact .inl rfl|exact .inr rfl|assumption):ZG X (.Name x pos) (gN i):=.i (aDT (i:=i) hN hi hx hf)
theorem cS :ZGs X [] gNl:=.i (aDp)
theorem aP {t:DG}{u:DGs}(h1:ZG X e t)(h2:ZGs X es u)(hs:(assignEach (e::es) X.env).map (·.2)=assign e X.env::(assignEach es X.env).map (·.2):=by rfl):ZGs X (e::es) (gCn t u):=.i (aBp h1.o h2.o hs)
theorem dD {g:DG}(he:ZE X e te)(hg:ZG X tg g)(hs:swapsWithSole [tg] e pos.line X.env=pure false:=by rfl)(hw:swappedStores [tg] e X.env=pure none:=by rfl)(h1:(assignEach [tg] X.env).map (·.2)=[assign tg X.env]:=by rfl):ZS X (.Assign [tg] e pos) (zQ te g):=.i (aGH he.o hg.o hs hw h1)
theorem aY {i:Nat}{x:Str}{pos':Pos}(hN:X.N.Nodup)(he:ZE X e te)(hi:X.N[i]?=some x:=by rfl)(hx:Loc X.env.scope x:=by first|exact Or.inl rfl|exact Or.inr rfl)(hs:swapsWith e (some (.Name x pos')) pos.line X.env=pure false:=by rfl)(hf:X.fn x=true∨X.env.scope.names.lookup x=some .local:=by first|exact .inl rfl|exact .inr rfl|assumption):ZS X (.Assign [.Name x pos'] e pos) (zQ te (gN i)):=.i (aGh (i:=i) hN he.o hi hx hs hf)
theorem yN {i j:Nat}{x y:Str}{a b:Expr}{ta:DA}{px py pt:Pos}{kt k2 pt2}(hc:X.calm=true)(hN:X.N.Nodup)(ha:ZA X [a,b] ta)(hi:X.N[i]?=some x:=by rfl)(hj:X.N[j]?=some y:=by rfl)(hij:i≠j:=by decide)(hx:X.env.scope.names.lookup x=some .local:=by rfl)(hy:X.env.scope.names.lookup y=some .local:=by rfl)(hw:swappedStores [.Tuple [.Name x px,.Name y py] kt pt] (.Tuple [a,b] k2 pt2) X.env=pure (some [x,y]):=by rfl)(hs:swapsWithSole [.Tuple [.Name x px,.Name y py] kt pt] (.Tuple [a,b] k2 pt2) pos.line X.env=pure false:=by rfl):ZS X (.Assign [.Tuple [.Name x px,.Name y py] kt pt] (.Tuple [a,b] k2 pt2) pos) (aFU i j ta):=.i (aEZ (i:=i) (j:=j) hc hN ha.o hi hj hij hx hy hw hs)
theorem yQ {o i:Expr}{to ti:DE}(ho:ZE X o to)(hi:ZE X i ti)(ha:∀v,assign (.Subscript o i pos) X.env v=(do
   let ov <- holding [v] (eval o X.env)
   let iv <- holding [v,ov] (eval i X.env)
   standAt pos
   holding [v,ov,iv] (setItem ov iv v)
   release [v,ov,iv] []):=by intro _;rfl):ZG X (.Subscript o i pos) (aBa to ti):=.i (aFo ho.o hi.o ha)
end
section
variable {X:Cx}{pos:Pos}
theorem aAc {c:Expr}{body:List Stmt}{tc:DT}{tb:DS}(hp:PassesOwn (model X.prog X.w) X.A X.env X.xe)(hc:ZT X c tc)(hb:ZSs X body tb):ZS X (.While c body [] pos) (xH tc tb):=.i (aBE hp hc.o hb.o)
variable {iter tg:Expr}{body:List Stmt}{tl:DE}{g:DG}{tb:DS}
end
section
variable {X:Cx}{pos:Pos}{iter tg:Expr}{body:List Stmt}{tl:DE}{g:DG}{tb:DS}{ta:DA}
theorem qI (hp:PassesOwn (model X.prog X.w) X.A X.env X.xe)(hc:X.calm=true)(hi:ZE X iter tl)(hg:ZG X tg g)(hb:ZSs X body tb)(hs:∀x,foldedSetIterable iter X.env x=pure x:=by intro _;rfl):ZS X (.For tg iter body [] pos) (aBw tl g tb):=.i (aCG hp hc hi.o hg.o hb.o hs)
end
section
variable {X:Cx}{pins:List (Addr×Obj)}{σ:L2.St}{H:Hp}{s:Shared}
end
section
variable {X:Cx}{a b e o:Expr}{es:List Expr}{ta tb te to:DE}{t:DA}{pos:Pos}
theorem iG (ha:ZE X a ta):ZE X (.UnaryOp .USub a pos) (aFL ta):=.i (aGx ha.o)
theorem aH (ha:ZE X a ta)(hb:ZE X b tb)(hs:mS b:=by exact λ_ _=>rfl):ZE X (.Subscript a b pos) (dOp jK ta tb):=.i (aIg ha.o hb.o hs)
theorem vY :ZO X none aE6:=.i (aC1)
theorem mZ (h:ZE X e te):ZO X (some e) (dPt te):=.i (aDQ h.o)
variable {lo hi:Option Expr}{tl th:DO}{p2:Pos}
theorem sQ (he:ZE X e te)(hl:ZO X lo tl)(hu:ZO X hi th):ZE X (.Subscript e (.Slice lo hi none p2) pos) (dSl te tl th):=.i (aAZ he.o hl.o hu.o)
variable {CX:CXT}{k:Nat}{f:Addr}{fd:FuncData}{ps:List Str}{sp:DSp}{E:XK}{x:Str}{p:Pos}
theorem cB {id:String}{r:DSp}(hc:gJ X (.builtin id) r)(hm:X.mg x = none)(ha:ZA X (e :: es) t)(hv:bootBuiltins x = some (.builtin id):=by rfl)(hg:Gl X x:=by rfl)(hn:x ≠ "__name__":=by decide)(hdb:(x==("__debug__":Str))=false:=by decide)(he:starEach (e::es) X.env=(false,eval e X.env)::starEach es X.env:=by rfl)(hpl:(backTo pos (starEach es X.env)).any (·.1)=false:=by rfl):ZE X (.Call (.Name x p) (e::es) [] pos) (mJ r t):=.i (aCg (id:=id) hc hm ha.o hv hg hn hdb he hpl)
theorem qB {T:String}{r:DSp}(hc:gJ X (.type T) r)(hm:X.mg x = none)(ha:ZA X (e :: es) t)(hv:bootBuiltins x = some (.type T):=by rfl)(hg:Gl X x:=by rfl)(hn:x ≠ "__name__":=by decide)(hdb:(x==("__debug__":Str))=false:=by decide)(he:starEach (e::es) X.env=(false,eval e X.env)::starEach es X.env:=by rfl)(hpl:(backTo pos (starEach es X.env)).any (·.1)=false:=by rfl):ZE X (.Call (.Name x p) (e::es) [] pos) (mJ r t):=.i (aAb (T:=T) hc hm ha.o hv hg hn hdb he hpl)
end
section
variable {X:Cx}{a b e o:Expr}{es:List Expr}{ta tb te to:DE}{t:DA}{pos:Pos}
theorem yF {apos cpos:Pos}(ho:ZE X o to)(he:ZE X e te)(hse:starEach [e] X.env = (false,eval e X.env) :: starEach [] X.env:=by rfl)(hbase:attributeBase o "append" X.env (eval o X.env)=eval o X.env:=by rfl)(hfew:((backTo cpos (starEach [e] X.env)).all (λx=>!x.1)&&(backToKw cpos (keywordEach [] X.env)).all (λx=>x.1.isSome)
  &&decide ([e].length+([]:List Keyword).length+(if ([]:List Keyword).isEmpty then 0 else 1)<30)) = true:=by rfl)(hline:(apos.endLine==cpos.line) = true:=by rfl)(hplain:(backTo cpos (starEach [] X.env)).any (·.1) = false:=by rfl):ZE X (.Call (.Attribute o "append" apos) [e] [] cpos) (uZ to te):=.i (aAd ho.o he.o hse hbase hfew hline hplain)
theorem hE {T:String}{x:Str}{p p2:Pos}(he:ZE X e te)(hm:X.mg "isinstance" = none)(hmx:X.mg x = none)(hv:bootBuiltins x = some (.type T):=by rfl)(hg:Gl X "isinstance":=by rfl)(hgx:Gl X x:=by rfl)(hn:x ≠ "__name__":=by decide)(hdb:(x==("__debug__":Str)) = false:=by decide)(hse:starEach [e,.Name x p2] X.env = (false,eval e X.env) :: starEach [.Name x p2] X.env:=by rfl)(hse2:starEach [.Name x p2] X.env = (false,eval (.Name x p2) X.env) :: starEach [] X.env:=by rfl)(hpl:(backTo pos (starEach [.Name x p2] X.env)).any (·.1) = false:=by rfl):ZE X (.Call (.Name "isinstance" p) [e,.Name x p2] [] pos) (dIs X.K (.type T) te):=.i (yO (T:=T) he.o hm hmx hv hg hgx hn hdb hse hse2 hpl)
end
section
variable {P:Program}{w:World}{K:Frag}{mg:Str->Option Value}{base:Heap}
end
section
variable {P:Program}{w:World}{K:Frag}{mg:Str->Option Value}{base:Heap}
end
section
variable {X:Cx}{a b c e:Expr}{es:List Expr}{ta tb te:DE}{t:DA}{pos p:Pos}{x:Str}{ps:List Str}{sp:DSp}{k j:Nat}
theorem aF (h:Has X.prog X.w X.K X.mg X.base k x ps sp)(hr:cM j X.A)(hkj:k<=j)(ha:ZA X (e::es) t)(hg:Gl X x:=by rfl)(hdb:(x==("__debug__":Str))=false:=by decide)(he:starEach (e::es) X.env=(false,eval e X.env)::starEach es X.env:=by rfl)(hpl:(backTo pos (starEach es X.env)).any (·.1)=false:=by rfl):ZE X (.Call (.Name x p) (e::es) [] pos) (mJ sp t):=.i (aAS h hr hkj ha.o hg hdb he hpl)
theorem aCc {i:Nat}{op:Operator}{g:Int->Int->Int}{pos':Pos}(ho:PIp X op (ipI g))(hN:X.N.Nodup)(he:ZE X e te)(hi:X.N[i]?=some x:=by rfl)(hx:Loc X.env.scope x:=by first|exact Or.inl rfl|exact Or.inr rfl)(hf:X.fn x=true∨X.env.scope.names.lookup x=some .local:=by first|exact .inl rfl|exact .inr rfl|assumption):ZS X (.AugAssign (.Name x pos') op e pos) (aC0 i te g):=.i (aCx (i:=i) (op:=op) ho hN he.o hi hx hf)
end
section
variable {prog:Program}{w:World}{A:Around}{E:Value->Shared->Prop}{s:Shared}
end
section
variable {X:Cx}{pos:Pos}{e a b:Expr}{es:List Expr}{te ta tb:DE}
theorem dM {k:Nat}{t:DGs}{n:Nat}(hc:X.calm=true)(h:ZGs X es t)(hn:(assignEach es X.env).length=n:=by rfl)(hst:(assignEach es X.env).findIdx? (·.1)=none:=by rfl):ZG X (.Tuple es k pos) (gU n t):=.i (aEJ (n:=n) hc h.o hn hst)
end
section
variable {M:DM}{Q:DQ}{g:Bool->Bool}{ds:List D}{i:Int}{a:Addr}{α:Type}{x0 x1 x2 x3 x4 x5:α}{l:List α}
end
section
variable {K:Frag}{H:Hp}{ρ:cC}{σ:L2.St}
end
section
variable {X:Cx}{g:DG}{te:DE}
variable {elt iter tg:Expr}{scope:Scope}{pos:Pos}{N':List Str}{fr:List (Option Nat)}{tl:DE}{ta:DA}{oN:List Str}{osc:Scope}
theorem pW (B:mN oN osc N' fr scope)(hc:X.calm=true)(hi:ZE X iter tl)(hg:∀C s H fp pins,ZG (X.blk N' scope C s H fp pins) tg g)(he:∀C s H fp pins,ZE (X.blk N' scope C s H fp pins) elt te)(hN:X.N=oN:=by rfl)(ho:X.env.scope=osc:=by rfl)(hs:∀x,foldedSetIterable iter X.env x=pure x:=by intro _;rfl):ZE X (.ListComp elt [⟨tg,iter,[],0⟩] scope pos) (aEI tl fr g te):=.i (aED B hc hi.o (λC s H fp pins=>(hg C s H fp pins).o) (λC s H fp pins=>(he C s H fp pins).o) hN ho hs)
theorem aDG (B:mN oN osc N' fr scope)(hc:X.calm=true)(hi:ZE X iter tl)(hg:∀C s H fp pins,ZG (X.blk N' scope C s H fp pins) tg g)(he:∀C s H fp pins,ZE (X.blk N' scope C s H fp pins) elt te)(hN:X.N=oN:=by rfl)(ho:X.env.scope=osc:=by rfl)(hs:∀x,foldedSetIterable iter X.env x=pure x:=by intro _;rfl):ZE X (.ListComp elt [⟨tg,iter,[],0⟩] scope pos) (aGp tl fr g te):=.i (aFc B hc hi.o (λC s H fp pins=>(hg C s H fp pins).o) (λC s H fp pins=>(he C s H fp pins).o) hN ho hs)
theorem xD {a:Expr}{p pos':Pos}{i:Nat}{y:Str}{spos py:Pos}(B:mN oN osc N' fr scope)(hc:X.calm = true)(hNd:X.N.Nodup)(hmg:X.mg "range" = none)(ha:ZA X [a] ta)(hg:∀C s H fp pins,ZG (X.blk N' scope C s H fp pins) tg g)(he:∀C s H fp pins,ZE (X.blk N' scope C s H fp pins) elt te)(hy:X.N[i]? = some y:=by rfl)(hx:Loc X.env.scope y:=by first|exact Or.inl rfl|exact Or.inr rfl)(hsw:swapsWith (.ListComp elt [⟨tg,.Call (.Name "range" p) [a] [] pos',[],0⟩] scope pos) (some (.Name y py)) spos.line X.env = pure true:=by rfl)(hf:X.fn y = true∨X.env.scope.names.lookup y = some .local:=by first|exact .inl rfl|exact .inr rfl|assumption)(hN:X.N = oN:=by rfl)(ho:X.env.scope = osc:=by rfl)(hgl:Gl X "range":=by rfl)(hse:starEach [a] X.env = [(false,eval a X.env)]:=by rfl)(hs:∀x,foldedSetIterable (.Call (.Name "range" p) [a] [] pos') X.env x = pure x:=by intro _;rfl):ZS X (.Assign [.Name y py] (.ListComp elt [⟨tg,.Call (.Name "range" p) [a] [] pos',[],0⟩] scope pos) spos) (xJ i (aFO ta fr g te)):=.i (aAH (i:=i) B hc hNd hmg ha.o (λC s H fp pins=>(hg C s H fp pins).o) (λC s H fp pins=>(he C s H fp pins).o) hy hx hsw hf hN ho hgl hse hs)
end
variable {X:Cx}
section
variable {g:DG}{te:DE}{tb:DS}{Q:DQ}{ρ0:cC}
end
section
variable {e:Expr}{te:DE}{pos:Pos}
theorem zZ {K':Frag}(hK:X.K = K'){T:String}{x:Str}{p p2:Pos}(he:ZE X e te)(hm:X.mg "isinstance" = none)(hmx:X.mg x = none)(hv:bootBuiltins x = some (.type T):=by rfl)(hg:Gl X "isinstance":=by rfl)(hgx:Gl X x:=by rfl)(hn:x ≠ "__name__":=by decide)(hdb:(x==("__debug__":Str)) = false:=by decide)(hse:starEach [e,.Name x p2] X.env = (false,eval e X.env) :: starEach [.Name x p2] X.env:=by rfl)(hse2:starEach [.Name x p2] X.env = (false,eval (.Name x p2) X.env) :: starEach [] X.env:=by rfl)(hpl:(backTo pos (starEach [.Name x p2] X.env)).any (·.1) = false:=by rfl):ZE X (.Call (.Name "isinstance" p) [e,.Name x p2] [] pos) (dIs K' (.type T) te):=.i (aBz (T:=T) hK he.o hm hmx hv hg hgx hn hdb hse hse2 hpl)
end
section
variable {X:Cx}{e:Expr}{te:DE}{pos p2:Pos}{lo hi:Option Expr}{tl th:DO}
theorem xS (he:ZE X e te)(hl:ZO X lo tl)(hu:ZO X hi th):ZE X (.Subscript e (.Slice lo hi none p2) pos) (aE5 te tl th):=.i (aAI he.o hl.o hu.o)
end
section
variable {X:Cx}{a n:Expr}{ta:DE}{tn:DA}{pos p pos':Pos}
end
section
variable {X:Cx}{a b c e o:Expr}{es:List Expr}{ta tb tc te to:DE}{pos:Pos}
theorem aAl {op op':CmpOp}{r r':D2}(ho:OpD X (compareOp op) r)(ho':OpD X (compareOp op') r')(ha:ZE X a ta)(hb:ZE X b tb)(hc:ZE X c tc)(hm:lastMarks [op,op'] [b,c]=false:=by with_unfolding_all rfl):ZE X (.Compare a [op,op'] [b,c] pos) (tF r r' ta tb tc):=.i (aAR (op:=op) (op':=op') ho ho' ha.o hb.o hc.o hm)
end
section
variable {X:Cx}{e k:Expr}{te tk:DE}{pos p2:Pos}
theorem yZ (he:ZE X e te)(hk:ZE X k tk):ZE X (.Subscript e (.Slice none none (some k) p2) pos) (aEs te tk):=.i (aFC he.o hk.o)
end
section
variable {X:Cx}{pos:Pos}{iter tg:Expr}{body:List Stmt}{tl:DE}{g:DG}{tb:DS}{ta:DA}
end
section
variable {X:Cx}{x:Str}{V:DM->Prop}{e:Expr}{es:List Expr}{t:DA}{np cpos pos:Pos}
end
section
variable {P:Program}{w:World}{K:Frag}{mg:Str->Option Value}{base:Heap}
end
section
variable {X:Cx}{pins:List (Addr×Obj)}{σ:L2.St}{H:Hp}{s:Shared}{a:Addr}{o:Obj}
end
section
variable {X:Cx}{a:Expr}{e:Expr}{es:List Expr}{t:DA}{x f n cm:Str}{ps:List Str}{sp:DSp}{cond:List D->DM->Prop}{C Cm:Addr}{k1 k2 k i j:Nat}{ts:Addr->DS}{b0:Stmt}{suite:List Stmt}{px pf pc pa pcm ph pos:Pos}
end
section
end
section
variable {X:Cx}{n c:Str}{C Cc a:Addr}{o:Obj}{p p1 p2 pos:Pos}{j:Nat}
end
section
variable {prog:Program}{w:World}{A:Around}{E:Value->Shared->Prop}{s:Shared}{K:Frag}{x C D:Addr}{ox:Obj}
end
section
variable {X:Cx}{a C:Addr}{o:Obj}
end
section
end
section
variable {X:Cx}{j:Nat}
end
section
variable {X:Cx}{st:Stmt}{bV:List Stmt}{t u:DS}
theorem iB (h1:ZS X st t)(h2:ZSs X bV u):ZSs X (st::bV) (aGo t u):=.i (aDi h1.o h2.o)
end
section
variable {X:Cx}{e:Expr}{es:List Expr}{t:DA}{x f cm:Str}{ps:List Str}{sp:DSp}{cond:List D->DM->Prop}{C Cm:Addr}{k1 k2 k i:Nat}{ts:DS}{b0:Stmt}{suite:List Stmt}{px pf pc pa pcm ph pos:Pos}
end
section
variable {P:Program}{w:World}{K:Frag}{mg:Str->Option Value}{base:Heap}
theorem Fun.okZ {x qual:Str}{st:Stmt}{f:Addr}{fd:FuncData}{N ps:List Str}{k:Nat}{sp:DSp}(F:L2.Fun K x qual st f fd)(S:aQ N ps (aI st))(len:∀ds M Q,sp ds M Q->ds.length=ps.length)(hbody:∀(cdv:Value)(A:Around) (outer:List Env) (s:Shared) (H:Hp) (ds:List D) (M:DM) (Q:DQ) (E:XK),cM k (A.deeper (envOfC qual (aI st) s.heap.objs.size f cdv))->sp ds M Q ->
   ∃t,ZSs (nZ CX0 P w K mg base N qual (aI st) f cdv A outer s H E).nox (dI st) t/\t { nx:=λ_ M'=>Dn Q .non M',rt:=Dn Q } (iA N ds) M):iM P w K mg base CX0 (k+1) f fd ps (mM K sp) :=
 Fun.okD F S len λcdv A outer s H ds M Q E hr h=>let ⟨t,h1,h2⟩:=hbody cdv A outer s H ds M Q E hr h;⟨t,h1.o,h2⟩
theorem Has.mkZ {x:Str}{st:Stmt}{N ps:List Str}{k:Nat}{sp:DSp}(h:cX K mg x st ps)(S:aQ N ps (aI st))(len:∀ds M Q,sp ds M Q->ds.length=ps.length)(hbody:∀(f:Addr)(cdv:Value) (A:Around) (outer:List Env) (s:Shared) (H:Hp) (ds:List D) (M:DM) (Q:DQ) (E:XK),cM k (A.deeper (envOfC x (aI st) s.heap.objs.size f cdv))->sp ds M Q ->
   ∃t,ZSs (nZ CX0 P w K mg base N x (aI st) f cdv A outer s H E).nox (dI st) t/\t { nx:=λ_ M'=>Dn Q .non M',rt:=Dn Q } (iA N ds) M):Has P w K mg base (k+1) x ps sp :=
 Has.mk h S len λf cdv A outer s H ds M Q E hr h=>let ⟨t,h1,h2⟩:=hbody f cdv A outer s H ds M Q E hr h;⟨t,h1.o,h2⟩
end
section
variable {P:Program}{w:World}{K:Frag}{mg:Str->Option Value}{base:Heap}
end
end Dd
namespace Mz
open PySem
def Bd (n:Nat)(x:Int):Prop:=x.natAbs<2^n
theorem Bd.mono {m n:Nat}{x:Int}(h:Bd m x)(l:m<=n):Bd n x:=Nat.lt_of_lt_of_le h (Nat.pow_le_pow_right (by decide) l)
theorem Bd.neg {n:Nat}{x:Int}(h:Bd n x):Bd n (-x):=by unfold Bd at *;rw[Int.natAbs_neg];exact h
theorem Bd.add {m:Nat}{x y:Int}(h:Bd m x)(h2:Bd m y):Bd (m+1) (x+y):=by unfold Bd at *;have:=Int.natAbs_add_le x y;rw[Nat.pow_succ];omega
theorem Bd.sub {m:Nat}{x y:Int}(h:Bd m x)(h2:Bd m y):Bd (m+1) (x-y):=by rw[Int.sub_eq_add_neg];exact h.add h2.neg
theorem Bd.mul {m n:Nat}{x y:Int}(h:Bd m x)(h2:Bd n y):Bd (m+n) (x*y):=by unfold Bd at *;rw[Int.natAbs_mul,Nat.pow_add];exact Nat.mul_lt_mul'' h h2
theorem Bd.of {n:Nat}{x:Int}(h1:-(2^n:Nat)<x)(h2:x<(2^n:Nat)):Bd n x:=by unfold Bd;omega
theorem Bd.log {n:Nat}{x:Int}(h:Bd n x)(h0:0<n):x.natAbs.log2<n:=by
 rcases Nat.eq_zero_or_pos x.natAbs with e|e
 ·rw[e];simpa using h0
 ·exact(Nat.log2_lt (Nat.ne_of_gt e)).mpr h
theorem Bd.bits {n:Nat}{x:Int}(h:Bd n x):Builtin.Int.intBits x<=n+1:=by
 unfold Builtin.Int.intBits;split
 ·exact Nat.zero_le _
 ·rcases Nat.eq_zero_or_pos n with e|e
  ·subst e;have:x.natAbs<1:=h;have:x.natAbs=0:=by omega
   rw[this];decide
  ·have:=h.log e;omega
theorem cY {m n:Nat}{x y:Int}(h:Bd m x)(h2:Bd n y)(l:m+n<=100000000:=by decide):IntMulOk x y:=IntMulOk.of_le h.bits h2.bits (by omega)
theorem xF {x y:Int}(h:Bd 63 x):IntMulOk x y:=IntMulOk.of_left (by have:=h.bits;omega)
theorem nV {x y:Int}(h:Bd 63 y):IntMulOk x y:=IntMulOk.of_right (by have:=h.bits;omega)
theorem aCV {a b:Int}(h:b≠0):(a.fmod b).natAbs<b.natAbs:=by
 rcases Int.lt_or_lt_of_ne h with hb|hb
 ·have e:=Int.fmod_eq_emod (a:=a) (b:=b);have h1:=Int.emod_nonneg a h;have h2:=Int.emod_lt_of_neg a hb;by_cases hd:b∣a
  ·rw[if_pos (.inr hd)] at e;have:=Int.emod_eq_zero_of_dvd hd;omega
  ·rw[if_neg (by omega)] at e;have h3:a % b≠0:=λz=>hd (Int.dvd_of_emod_eq_zero z);omega
 ·have h1:=Int.fmod_nonneg_of_pos a hb;have h2:=Int.fmod_lt_of_pos a hb;omega
theorem aCn (a b:Int):Int.gcd b (a.fmod b)=Int.gcd a b:=by rw[Int.fmod_def,Int.mul_comm b,Int.gcd_sub_mul_right_right,Int.gcd_comm]
theorem tG {t b:Int}(h:b≠0):0<Int.gcd t b:=Nat.pos_of_ne_zero λz=>h (Int.gcd_eq_zero_iff.mp z).2
theorem qQ {a b c:Int}(h:b∣a*c)(g:Int.gcd b a=1):b∣c:=by
 have h':b.natAbs∣a.natAbs*c.natAbs:=by rw[<- Int.natAbs_mul];exact Int.natAbs_dvd_natAbs.mpr h
 exact Int.natAbs_dvd_natAbs.mp (Nat.Coprime.dvd_of_dvd_mul_left g h')
theorem rS {t b t' b':Int}(h:0<b)(h':0<b')(g:Int.gcd t b=1)(g':Int.gcd t' b'=1)(e:t*b'=t'*b):t=t'/\b=b':=by
 have d1:b∣b':=by have:b∣t*b':=⟨t',by rw[e];exact Int.mul_comm _ _⟩;exact qQ this (by rw[Int.gcd_comm];exact g)
 have d2:b'∣b:=by have:b'∣t'*b:=⟨t,by rw[<- e];exact Int.mul_comm _ _⟩;exact qQ this (by rw[Int.gcd_comm];exact g')
 have e1:b=b':=Int.le_antisymm (Int.le_of_dvd h' d1) (Int.le_of_dvd h d2);subst e1;exact⟨Int.eq_of_mul_eq_mul_right (by omega) e,rfl⟩
theorem den_pos (q:Rat):(0:Int)<(q.den:Int):=by have:=q.den_pos;omega
theorem nX (q:Rat):(q.den:Int)≠0:=by have:=q.den_pos;omega
theorem aF6 (q:Rat):((q.den:Int):Rat)≠0:=by
 intro h;have:(q.den:Int)=0:=by exact_mod_cast h
 exact nX q this
theorem aDl (q:Rat):(q.num:Rat)/((q.den:Int):Rat)=q:=by have h:=Rat.num_divInt_den q;rw[Rat.divInt_eq_div] at h;exact h
theorem qF (q:Rat):(q.num:Rat)=q*((q.den:Int):Rat):=by have h:=aDl q;have h2:=aF6 q;grind
def BQ (n:Nat)(q:Rat):Prop:=Bd n q.num/\Bd n (q.den:Int)
theorem BQ.mono {m n:Nat}{q:Rat}(h:BQ m q)(l:m<=n):BQ n q:=⟨h.1.mono l,h.2.mono l⟩
theorem BQ.neg {m:Nat}{p:Rat}(h:BQ m p):BQ m (-p):=⟨by rw[Rat.neg_num];exact h.1.neg,by rw[Rat.neg_den];exact h.2⟩
theorem BQ.int {m:Nat}{z:Int}(h:Bd m z)(h0:0<m):BQ m (z:Rat):=⟨by rw[Rat.num_intCast];exact h,by rw[Rat.den_intCast];unfold Bd;exact Nat.one_lt_two_pow (by omega)⟩
theorem ltQ (p q:Rat):(p.num*q.den<q.num*p.den)↔p<q:=(Rat.lt_iff p q).symm
theorem aG7 {t b:Int}{q:Rat}(hb:0<b)(hg:Int.gcd t b=1)(e:(t:Rat)=q*(b:Rat)):t=q.num/\b=(q.den:Int):=by
 refine rS hb (den_pos q) hg ?_ ?_
 ·have:=q.reduced;unfold Nat.Coprime at this;rw[<- this];rfl
 ·have e2:=qF q;have:((t*(q.den:Int):Int):Rat)=((q.num*b:Int):Rat):=by rw[Rat.intCast_mul,Rat.intCast_mul,e,e2];grind
  exact Rat.intCast_inj.mp this
theorem pZ {a b c:Int}(h:Int.gcd a b=1)(h2:Int.gcd a c=1):Int.gcd a (b*c)=1:=by unfold Int.gcd at *;rw[Int.natAbs_mul];exact Nat.Coprime.mul_right h h2
theorem gW {a b:Int}(h:Int.gcd a b=1):Int.gcd b a=1:=by rw[Int.gcd_comm];exact h
theorem pP {a a' b:Int}(h:a∣a')(h2:Int.gcd a' b=1):Int.gcd a b=1:=by unfold Int.gcd at *;exact Nat.Coprime.coprime_dvd_left (Int.natAbs_dvd_natAbs.mpr h) h2
theorem red (q:Rat):Int.gcd q.num (q.den:Int)=1:=by have:=q.reduced;unfold Nat.Coprime at this;rw[<- this];rfl
theorem sO {x y:Int}(h:y≠0):∃a b:Int,x=(Int.gcd x y:Int)*a/\y=(Int.gcd x y:Int)*b/\Int.gcd a b=1/\x.fdiv (Int.gcd x y:Int)=a/\y.fdiv (Int.gcd x y:Int)=b:=by
 have hp:0<Int.gcd x y:=tG h;obtain⟨a,ha⟩:=Int.gcd_dvd_left x y;obtain⟨b,hb⟩:=Int.gcd_dvd_right x y;have e1:x.fdiv (Int.gcd x y:Int)=a:=by rw[Int.fdiv_eq_ediv_of_dvd (Int.gcd_dvd_left x y)];exact Int.ediv_eq_of_eq_mul_right (by omega) ha
 have e2:y.fdiv (Int.gcd x y:Int)=b:=by rw[Int.fdiv_eq_ediv_of_dvd (Int.gcd_dvd_right x y)];exact Int.ediv_eq_of_eq_mul_right (by omega) hb
 refine⟨a,b,ha,hb,?_,e1,e2⟩;rw[<- e1,<- e2,Int.fdiv_eq_ediv_of_dvd (Int.gcd_dvd_left x y),Int.fdiv_eq_ediv_of_dvd (Int.gcd_dvd_right x y),Int.gcd_ediv (Int.gcd_dvd_left x y) (Int.gcd_dvd_right x y)];simp;exact Nat.div_self hp
theorem aIX (p q:Rat):∀g a t l:Int,g=(Int.gcd p.den q.den:Int)->a=(p.den:Int).fdiv g->t=p.num*(q.den:Int).fdiv g+q.num*a->l=(Int.gcd t g:Int) ->
  g≠0/\l≠0/\g∣(p.den:Int)/\l∣g/\t.fdiv l=(p+q).num/\a*(q.den:Int).fdiv l=((p+q).den:Int):=by
 intro g a t l hg ha ht hl;have d1:=den_pos p;have d2:=den_pos q;obtain⟨a',b,e1,e2,cab,f1,f2⟩:=sO (x:=p.den) (y:=q.den) (nX q);rw[<- hg] at e1 e2 f1 f2;rw[f1] at ha;subst ha;rw[f2] at ht;have g0:0<g:=by have:=tG (t:=(p.den:Int)) (nX q);omega
 have a0:0<a:=by
  rcases Int.lt_trichotomy a 0 with z|z|z
  ·have:=Int.mul_neg_of_pos_of_neg g0 z;omega
  ·subst z;omega
  ·exact z
 have b0:0<b:=by
  rcases Int.lt_trichotomy b 0 with z|z|z
  ·have:=Int.mul_neg_of_pos_of_neg g0 z;omega
  ·subst z;omega
  ·exact z
 obtain⟨t',g',e3,e4,ctg,f3,f4⟩:=sO (x:=t) (y:=g) (by omega);rw[<- hl] at e3 e4 f3 f4;have l0:0<l:=by have:=tG (t:=t) (b:=g) (by omega);omega
 have g'0:0<g':=by
  rcases Int.lt_trichotomy g' 0 with z|z|z
  ·have:=Int.mul_neg_of_pos_of_neg l0 z;omega
  ·subst z;omega
  ·exact z
 have f5:(q.den:Int).fdiv l=g'*b:=by
  have e:(q.den:Int)=l*(g'*b):=by rw[e2,e4];grind
  rw[Int.fdiv_eq_ediv_of_dvd ⟨_,e⟩];exact Int.ediv_eq_of_eq_mul_right (by omega) e
 refine⟨by omega,by omega,⟨a,e1⟩,⟨g',e4⟩,?_⟩;rw[f3,f5];have ca:Int.gcd t a=1:=by have c1:Int.gcd p.num a=1:=gW (pP ⟨g,by rw[e1];grind⟩ (gW (red p)));have:Int.gcd a (p.num*b)=1:=pZ (gW c1) cab;rw[ht,Int.gcd_comm,Int.gcd_add_mul_right_right];exact this
 have cb:Int.gcd t b=1:=by have c1:Int.gcd q.num b=1:=gW (pP ⟨g,by rw[e2];grind⟩ (gW (red q)));have:Int.gcd b (q.num*a)=1:=pZ (gW c1) (gW cab);rw[ht,Int.gcd_comm,Int.add_comm,Int.gcd_add_mul_right_right];exact this
 have hd:t'∣t:=⟨l,by rw[e3];grind⟩;refine aG7 (q:=p+q) (Int.mul_pos a0 (Int.mul_pos g'0 b0)) (pZ (pP hd ca) (pZ ctg (pP hd cb))) ?_;have n1:=qF p;have n2:=qF q;have r1:=aF6 p;have r2:=aF6 q;have k1:((p.den:Int):Rat)=(l:Rat)*g'*a:=by rw[e1,e4,Rat.intCast_mul,Rat.intCast_mul]
 have k2:((q.den:Int):Rat)=(l:Rat)*g'*b:=by rw[e2,e4,Rat.intCast_mul,Rat.intCast_mul]
 have k3:(l:Rat)*t'=(p.num:Rat)*b+(q.num:Rat)*a:=by rw[<- Rat.intCast_mul,<- e3,ht,Rat.intCast_add,Rat.intCast_mul,Rat.intCast_mul]
 have k4:(l:Rat)≠0:=λz=>by
                     have:l=0:=by exact_mod_cast z
                     omega
 rw[n1,n2,k1,k2] at k3;rw[Rat.intCast_mul,Rat.intCast_mul];have:(l:Rat)*(t':Rat)=l*((p+q)*((a:Rat)*(g'*b))):=by rw[k3];grind
 grind
theorem Bd.dvd {n:Nat}{x y:Int}(h:Bd n y)(d:x∣y)(h0:y≠0):Bd n x:=by unfold Bd at *;have:=Nat.le_of_dvd (by omega) (Int.natAbs_dvd_natAbs.mpr d);omega
theorem Bd.fdiv {n:Nat}{x y:Int}(h:Bd n x)(d:y∣x):Bd n (x.fdiv y):=by unfold Bd at *;rw[Int.fdiv_eq_ediv_of_dvd d];exact Nat.lt_of_le_of_lt (Int.natAbs_ediv_le_natAbs _ _) h
noncomputable def sgn (q:Rat):Int:=if 0<q then 1 else if q<0 then -1 else 0
noncomputable def eQ (ax ay bx by' px py:Rat):Rat:=(bx-ax)*(py-ay)-(by'-ay)*(px-ax)
theorem aDM {z F:Rat}(hF:0<F):sgn (z*F)=sgn z:=by
 unfold sgn;rcases (show z<0∨z=0∨0<z by grind) with c|c|c
 ·have:=Rat.mul_pos (show 0 < -z by grind) hF;rw[if_neg (by grind),if_pos (by grind),if_neg (by grind),if_pos c]
 ·subst c;rw[if_neg (by grind),if_neg (by grind),if_neg (by grind),if_neg (by grind)]
 ·have:=Rat.mul_pos c hF;rw[if_pos this,if_pos c]
noncomputable def vv (t:Rat):Rat:=(t+t)/(1+t*t)
noncomputable def jZ (x y p q u v:Rat):Bool:=if p=x/\q=y then !decide (u=x/\v=y) else decide (sgn (eQ x y p q u v)=1)
noncomputable def tb (t h u:Int):Int:=(t+h*u).fmod 4
theorem hh1 {h:Int}(hh:h=1∨h = -1):h*h=1:=by rcases hh with rfl|rfl<;>rfl
end Mz
namespace Dd
open PySem PySem.Spec PyProof.Rows L2 Mz
noncomputable def FQ (q:Rat):D:=.tup [.int q.num,.int (q.den:Int)]
def gL:DSp:=λds M Q=>∃a b,ds=[.int a,.int b]/\Q (.int (Int.gcd a b:Int)) M
def tD (g:Rat->Rat->D)(C:Rat->Prop:=λ_=>True):DSp:=λds M Q=>∃p q m n,ds=[FQ p,FQ q]/\C q/\BQ m p/\BQ n q/\m+n<=8998/\Q (g p q) M
def tU:DSp:=tD λp q=>FQ (p+q)
def vH:DSp:=tD λp q=>FQ (p-q)
def vF:DSp:=tD λp q=>.bl (decide (p<q))
theorem uJ {g:Rat->Rat->D}{C:Rat->Prop}(ds:List D)(M:DM)(Q:DQ)(h:tD g C ds M Q):ds.length=2:=by obtain⟨a,b,m,n,rfl,_⟩:=h;rfl
theorem aDc {n:Nat}{x y z:Int}(h:Bd n y)(l:n<=9000)(d:z∣y)(h0:y≠0)(hz:z≠0):CFd x z:=⟨hz,by
 rcases Nat.eq_zero_or_pos n with e|e
 ·subst e;have:y.natAbs<1:=h;omega
 ·exact Nat.lt_of_lt_of_le ((h.dvd d h0).log e) l⟩
theorem aDK (q:Rat):(D.tup [.int (-q.num),.int (q.den:Int)])=FQ (-q):=by unfold FQ;rw[Rat.neg_num,Rat.neg_den]
noncomputable def PQ (x y:Rat):D:=.tup [FQ x,FQ y]
def wZ:DSp:=λds M Q=>∃x y u v,ds=[PQ x y,PQ u v]/\BQ 4400 x/\BQ 4400 y/\BQ 4400 u/\BQ 4400 v/\Q (PQ (x-u) (y-v)) M
def fZ:DSp:=λds M Q=>∃x y u v,ds=[PQ x y,PQ u v]/\BQ 4400 x/\BQ 4400 y/\BQ 4400 u/\BQ 4400 v/\Q (PQ (x+u) (y+v)) M
theorem qS (p q:Rat):eqD (FQ p) (FQ q)=decide (p=q):=by
 show(p.num==q.num&&((p.den:Int)==(q.den:Int)&&true))=decide (p=q);by_cases h:p=q
 ·subst h;simp
 ·rw[decide_eq_false h];by_cases h1:p.num=q.num
  ·have h2:¬((p.den:Int)=(q.den:Int)):=λz=>h (Rat.ext h1 (by exact_mod_cast z));simp[h1,h2]
  ·simp[h1]
theorem aA4 (x y u v:Rat):eqD (PQ x y) (PQ u v)=(decide (x=u)&&decide (y=v)):=by show(eqD (FQ x) (FQ u)&&(eqD (FQ y) (FQ v)&&true))=_;rw[qS,qS,Bool.and_true]
def dW:DSp:=λds M Q=>∃x y,ds=[PQ x y]/\BQ 900 x/\BQ 900 y/\∀X Y d:Int,0<d->(X:Rat)=x*(d:Rat)->(Y:Rat)=y*(d:Rat)->Bd 1800 X->Bd 1800 Y->Bd 1800 d->Q (.tup [.int X,.int Y,.int d]) M
def pV:DSp:=λds M Q=>∃z:Int,ds=[.int z]/\Q (.int (sgn (z:Rat))) M
theorem aE2 {d:Int}(h:0<d):(0:Rat)<(d:Rat):=by exact_mod_cast h
def pY:DSp:=λds M Q=>∃ax ay bx by' px py,ds=[PQ ax ay,PQ bx by',PQ px py]/\BQ 900 ax/\BQ 900 ay/\BQ 900 bx/\BQ 900 by'/\BQ 900 px/\BQ 900 py/\Q (.int (sgn (eQ ax ay bx by' px py))) M
noncomputable def bef (x y u v:Rat):Bool:=if x=u then decide (y<v) else decide (x<u)
def oE:DSp:=λds M Q=>∃x y u v,ds=[PQ x y,PQ u v]/\BQ 4400 x/\BQ 4400 y/\BQ 4400 u/\BQ 4400 v/\Q (.bl (bef x y u v)) M
def FdN (M:DM)(a:Addr)(n:Nat):Prop:=∃(c k f:Int),M a=some [.int c,.int k,.int f]/\0<=k/\k<=n
structure Adv (M M':DM)(a:Addr):Prop where
 l:∀b:Addr,b≠a->M' (.l b)=M (.l b)
 d:∀b:Addr,M' (.d b)=M (.d b)
 o:∀b:Addr,M' (.o b)=M (.o b)
instance {M M':DM}{a:Addr}:CoeFun (Adv M M' a) (λ_=>∀b:Addr,b≠a->M' (.l b)=M (.l b)):=⟨Adv.l⟩
theorem Adv.trans {M M1 M2:DM}{a:Addr}(h:Adv M M1 a)(h2:Adv M1 M2 a):Adv M M2 a:=⟨λb n=>(h2.l b n).trans (h.l b n),λb=>(h2.d b).trans (h.d b),λb=>(h2.o b).trans (h.o b)⟩
theorem Adv.ak {M M':DM}{a:Addr}(h:Adv M M' a){b:AK}(n:b≠AK.l a):M' b=M b:=by
 cases b with
 |l b=>exact h.l b λe=>n (congrArg AK.l e)
 |d b=>exact h.d b
 |o b=>exact h.o b
theorem Adv.put {M:DM}{a:Addr}{ds:List D}:Adv M (bC M a ds) a:=⟨λ_ n=>cD n,λ_=>tP,λ_=>uA⟩
theorem FdN.mono {M:DM}{a:Addr}{m n:Nat}(h:FdN M a m)(l:m<=n):FdN M a n:=by obtain⟨c,k,f,e,h0,h1⟩:=h;exact⟨c,k,f,e,h0,by omega⟩
def oH:DSp:=λds M Q=>∃c,ds=[.int c]/\∀(p:Addr) M',M p=none->FdN M' p 0->Adv M M' p->Q (.ref p) M'
def eT:DSp:=λds M Q=>∃a many n,ds=[.ref a,.int many]/\FdN M a n/\n<=100000/\0<many/\Bd 8999 many/\∀r M',0<=r->r<many->FdN M' a (n+1)->Adv M M' a->Q (.int r) M'
theorem aBD (z:Int):FQ (z:Rat)=.tup [.int z,.int 1]:=by unfold FQ;rw[Rat.num_intCast,Rat.den_intCast];rfl
theorem aHv {x:Int}(h1:-(10^62)<=x)(h2:x<=10^62):Bd 210 x:=by
 unfold Bd;have:(2:Nat)^210=1645504557321206042154969182557350504982735865633579863348609024:=by decide
 omega
theorem aDy {xs:List D}{lo hi:Option Int}{d:D}(h:d∈cutD xs lo hi):d∈xs:=List.mem_of_mem_drop (List.mem_of_mem_take h)
theorem aEM {x y:Rat}{g:DG}{te:DE}{Q:DQ}{ρ0:cC}{M:DM}:itT (PQ x y) ρ0 g te M Q=rM none [FQ x,FQ y] ρ0 g te M Q:=rfl
theorem aF7 {q:Rat}{g:DG}{te:DE}{Q:DQ}{ρ0:cC}{M:DM}:itT (FQ q) ρ0 g te M Q=rM none [.int q.num,.int (q.den:Int)] ρ0 g te M Q:=rfl
theorem aG3 {q:Rat}{M:DM}{Q:DQ}:jK (FQ q) (.int 0) M Q=Q (.int q.num) M:=rfl
theorem aIe {q:Rat}{M:DM}{Q:DQ}:jK (FQ q) (.int 1) M Q=Q (.int (q.den:Int)) M:=rfl
theorem aHW {x y:Rat}{M:DM}{Q:DQ}:jK (PQ x y) (.int 0) M Q=Q (FQ x) M:=rfl
theorem aHz {x y:Rat}{M:DM}{Q:DQ}:jK (PQ x y) (.int 1) M Q=Q (FQ y) M:=rfl
theorem aGU {x y:Rat}{n:Nat}{t:DGs}{ρ:cC}{M:DM}{R:cC->DM->Prop}:gU n t (PQ x y) ρ M R=(([FQ x,FQ y]:List D).length=n/\t [FQ x,FQ y] ρ M R):=rfl
theorem aGZ {q:Rat}{n:Nat}{t:DGs}{ρ:cC}{M:DM}{R:cC->DM->Prop}:gU n t (FQ q) ρ M R=(([.int q.num,.int (q.den:Int)]:List D).length=n/\t [.int q.num,.int (q.den:Int)] ρ M R):=rfl
theorem aGd {g:Bool->Bool}{p q:Rat}{M:DM}{Q:DQ}:dEq g (FQ p) (FQ q) M Q=Q (.bl (g (decide (p=q)))) M:=by show(bH 60 (FQ p)=true/\bH 60 (FQ q)=true/\Q (.bl (g (eqD (FQ p) (FQ q)))) M)=_;rw[qS];exact propext ⟨λh=>h.2.2,λh=>⟨rfl,rfl,h⟩⟩
theorem jJ {g:Bool->Bool}{x y u v:Rat}{M:DM}{Q:DQ}:dEq g (PQ x y) (PQ u v) M Q=Q (.bl (g (decide (x=u/\y=v)))) M:=by
 show(bH 60 (PQ x y)=true/\bH 60 (PQ u v)=true/\Q (.bl (g (eqD (PQ x y) (PQ u v)))) M)=_;have e:(decide (x=u)&&decide (y=v))=decide (x=u/\y=v):=by by_cases h1:x=u<;>by_cases h2:y=v<;>simp[h1,h2]
 rw[aA4,e];exact propext ⟨λh=>h.2.2,λh=>⟨rfl,rfl,h⟩⟩
noncomputable def FR (px py:Rat)(t h:Int)(s:Rat):D:=.tup [PQ px py,.int t,.int h,FQ s]
theorem aFX (px py s px' py' s':Rat)(t h t' h':Int):eqD (FR px py t h s) (FR px' py' t' h' s')=decide (px=px'/\py=py'/\t=t'/\h=h'/\s=s'):=by show(eqD (PQ px py) (PQ px' py')&&(t==t'&&(h==h'&&(eqD (FQ s) (FQ s')&&true))))=_;rw[aA4,qS];by_cases h1:px=px'<;>by_cases h2:py=py'<;>by_cases h3:t=t'<;>by_cases h4:h=h'<;>by_cases h5:s=s'<;>simp[h1,h2,h3,h4,h5]
theorem aEN {g:Bool->Bool}{px py s px' py' s':Rat}{t h t' h':Int}{M:DM}{Q:DQ}:dEq g (FR px py t h s) (FR px' py' t' h' s') M Q=Q (.bl (g (decide (px=px'/\py=py'/\t=t'/\h=h'/\s=s')))) M:=by show(bH 60 (FR px py t h s)=true/\bH 60 (FR px' py' t' h' s')=true/\Q (.bl (g (eqD (FR px py t h s) (FR px' py' t' h' s')))) M)=_;rw[aFX];exact propext ⟨λz=>z.2.2,λz=>⟨rfl,rfl,z⟩⟩
def aEa (n:Nat)(L:List D):Prop:=L.length=n/\∀d∈L,∃z:Int,d=.int z/\0<=z/\z<1000000
theorem aEa.at {n:Nat}{L:List D}(h:aEa n L){i:Nat}(hi:i<n):∃z:Int,atI L (i:Int)=some (.int z)/\0<=z/\z<1000000:=by
 have hl:i<L.length:=by rw[h.1];exact hi
 obtain⟨z,e,z0,z1⟩:=h.2 L[i] (List.getElem_mem hl);exact⟨z,mX (by rw[getElem?_eq_getElem hl,e]),z0,z1⟩
theorem aDD {x y:Rat}{M:DM}{Q:DQ}:qK [PQ x y] M Q=Q (.int 2) M:=rfl
theorem aDN {q:Rat}{M:DM}{Q:DQ}:qK [FQ q] M Q=Q (.int 2) M:=rfl
theorem aBY {a:Addr}{M:DM}{Q:DQ}:qK [.ref a] M Q=∃xs,M a=some xs/\Q (.int (xs.length:Int)) M:=rfl
section
variable {M:DM}{Q:DQ}{a b c d e f:D}
theorem aGL {i:Int}:aHo [.int i] M Q=Q (.int (if i<0 then -i else i)) M:=rfl
theorem aDJ {xs:List D}:qK [.fz xs] M Q=Q (.int xs.length) M:=rfl
theorem aC4:qK [.tup []] M Q=Q (.int 0) M:=rfl
theorem aCt:qK [.tup [a]] M Q=Q (.int 1) M:=rfl
theorem aDw:qK [.tup [a,b]] M Q=Q (.int 2) M:=rfl
theorem aCW:qK [.tup [a,b,c]] M Q=Q (.int 3) M:=rfl
theorem aDI:qK [.tup [a,b,c,d]] M Q=Q (.int 4) M:=rfl
theorem aDv:qK [.tup [a,b,c,d,e]] M Q=Q (.int 5) M:=rfl
end
structure Fm where
 (px py:Rat) (t h:Int) (s:Rat)
noncomputable def Fm.one:Fm:=⟨0,0,0,1,1⟩
section
variable {X:Cx}{pins:List (Addr×Obj)}{σ:L2.St}{H:Hp}{s:Shared}{M:DM}
end
section
variable {X:Cx}
end
end Dd
namespace L2
open PySem PySem.Spec PyProof.Rows
section
variable {prog:Program}{w:World}{A:Around}{R:Result->Shared->Prop}{s:Shared}
end
end L2
namespace Dd
open PySem PySem.Spec PyProof.Rows L2
section
variable {X:Cx}{g:DG}{tc:DT}{te:DE}
variable {elt iter tg cnd:Expr}{scope:Scope}{pos:Pos}{N':List Str}{fr:List (Option Nat)}{tl:DE}{ta:DA}{oN:List Str}{osc:Scope}
end
open Mz
section
variable {X:Cx}{o e f:Expr}{to te tf:DE}
end
section
variable {X:Cx}{pins:List (Addr×Obj)}{σ:L2.St}{H:Hp}{s:Shared}
end
section
variable {X:Cx}{o:Expr}{to:DE}
end
section
variable {X:Cx}{g:DG}{tc:DT}{te:DE}
variable {elt iter tg cnd:Expr}{scope:Scope}{pos:Pos}{N':List Str}{fr:List (Option Nat)}{tl:DE}{ta:DA}{oN:List Str}{osc:Scope}
end
section
variable {X:Cx}{o e f:Expr}{to te tf:DE}
end
section
variable {X:Cx}{pins:List (Addr×Obj)}{σ:L2.St}{H:Hp}{s:Shared}
end
section
variable {X:Cx}{o:Expr}{to:DE}
end
section
variable {P:Program}{w:World}{K:Frag}{mg:Str->Option Value}{base:Heap}
end
section
variable {X:Cx}{n x:Str}{C a:Addr}{o:Obj}{p p1 pos:Pos}{j k k':Nat}{sp:Addr->DM->DQ->Prop}
end
section
open PySem.SeqAt
open PySem.AutoSeq1 (wpAny_loadPart')
open PySem.MeetsSeq PySem.MeetsSeq2 PySem.MeetsSeq3
end
section
variable {prog:Program}{w:World}{A:Around}{E:Value->Shared->Prop}{s:Shared}
end
section
variable {X:Cx}{j:Nat}
end
theorem us0 {us:List Value}(h:us.length=0):us=[]:=List.length_eq_zero_iff.mp h
theorem us1 {us:List Value}(h:us.length=1):∃a,us=[a]:=List.length_eq_one_iff.mp h
theorem us2 {us:List Value}(h:us.length=2):∃a b,us=[a,b]:=by
 cases us with
 |nil=>cases h
 |cons a r=>obtain⟨b,rfl⟩:=us1 (us:=r) (Nat.succ.inj h);exact⟨a,b,rfl⟩
theorem us3 {us:List Value}(h:us.length=3):∃a b c,us=[a,b,c]:=by
 cases us with
 |nil=>cases h
 |cons a r=>obtain⟨b,c,rfl⟩:=us2 (us:=r) (Nat.succ.inj h);exact⟨a,b,c,rfl⟩
theorem us4 {us:List Value}(h:us.length=4):∃a b c d,us=[a,b,c,d]:=by
 cases us with
 |nil=>cases h
 |cons a r=>obtain⟨b,c,d,rfl⟩:=us3 (us:=r) (Nat.succ.inj h);exact⟨a,b,c,d,rfl⟩
noncomputable instance aJd:DecidableEq D:=λa b=>Classical.propDecidable (a=b)
noncomputable def fW:Nat->D->Bool
 |_,.int _=>true
 |_,.str _=>true
 |n+1,.tup ds=>ds.all (fW n)
 |_,_=>false
mutual
noncomputable def eB (w:World):D->Int
 |.int i=>aEi w (.inl i)
 |.str x=>aEi w (.inr x)
 |.tup ds=>reduceHash (Builtin.Tuple.tupleHashOf (gY w ds))
 |_=>0
noncomputable def gY (w:World):List D->List Int
 |[]=>[]
 |d::ds=>eB w d::gY w ds
end
mutual
noncomputable def nI:D->Nat
 |.tup ds=>eH ds+1
 |_=>1
noncomputable def eH:List D->Nat
 |[]=>0
 |d::ds=>nI d+eH ds
end
mutual
def IsK (h:Heap):D->Value->Prop
 |.int i,v=>∃t,v=.int i t
 |.str x,v=>∃t,v=.str x t
 |.tup ds,v=>∃a its,v=.ref a/\IsTup h a its/\eM h ds its.toList
 |_,_=>False
def eM (h:Heap):List D->List Value->Prop
 |[],vs=>vs=[]
 |d::ds,vs=>∃v r,vs=v::r/\IsK h d v/\eM h ds r
end
theorem fR {h:Heap}{vs:List Value}(x:eM h [] vs):vs=[]:=by unfold eM at x;exact x
theorem cK {h:Heap}{d:D}{ds:List D}{vs:List Value}(x:eM h (d::ds) vs):∃v r,vs=v::r/\IsK h d v/\eM h ds r:=by unfold eM at x;exact x
theorem dZ {h:Heap}{ds:List D}{v:Value}(x:IsK h (.tup ds) v):∃a its,v=.ref a/\IsTup h a its/\eM h ds its.toList:=by unfold IsK at x;exact x
theorem cR {h:Heap}{i:Int}{v:Value}(x:IsK h (.int i) v):∃t,v=.int i t:=by unfold IsK at x;exact x
theorem dB {h:Heap}{i:Str}{v:Value}(x:IsK h (.str i) v):∃t,v=.str i t:=by unfold IsK at x;exact x
theorem nC {n:Nat}{ds:List D}(h:fW n (.tup ds)=true):∃m,n=m+1/\ds.all (fW m)=true:=by
 cases n with
 |zero=>exact absurd h Bool.false_ne_true
 |succ m=>exact⟨m,rfl,h⟩
theorem lM (w:World):∀ds:List D,gY w ds=ds.map (eB w)
 |[]=>by unfold gY;rfl
 |d::ds=>by unfold gY;rw[lM w ds];rfl
theorem kB (d:D):∀ds:List D,eH (ds++[d])=eH ds+nI d
 |[]=>by show eH [d]=_;unfold eH;unfold eH;omega
 |e::ds=>by show eH (e::(ds++[d]))=_;unfold eH;rw[kB d ds];omega
section
variable {prog:Program}{w:World}
theorem zM:∀(n:Nat){A:Around} {E:Value->Shared->Prop} {s:Shared} {d:D} {v:Value} {Q:Int->Shared->Prop},fW n d=true->A.units+n<cLine->IsK s.heap d v ->
  Q (eB w d) { s with toks:=s.toks+nI d }->wpAny (model prog w) A (pyHash v) Q E s:=by
 intro n
 induction n with
 |zero =>
  intro A E s d v Q hk hu hi q;cases d with
  |int i=>obtain⟨t,rfl⟩:=cR hi;exact wpAny_pyHash_int q
  |str i=>obtain⟨t,rfl⟩:=dB hi;exact wpAny_pyHash_str q
  |_=>exact absurd hk Bool.false_ne_true
 |succ n ih =>
  intro A E s d v Q hk hu hi q;cases d with
  |int i=>obtain⟨t,rfl⟩:=cR hi;exact wpAny_pyHash_int q
  |str i=>obtain⟨t,rfl⟩:=dB hi;exact wpAny_pyHash_str q
  |tup ds =>
   obtain⟨a,its,rfl,ht,hs⟩:=dZ hi;obtain⟨o,ho,hc,m,hd⟩:=ht;have hT:s.TypeIs (.ref a) "tuple":=⟨o,ho,hc⟩;unfold pyHash pyHashByItsType;refine wpAny_bind (wpAny_cRoomFor_or (.inr (by omega)) ?_);refine wpAny_bind (wpAny_specialOf hT F.slot_tuple_hash.lookup ?_);show wpAny _ _ (if (some (Value.builtin "tuple.__hash__")==some Value.none)=true then _ else _) Q E s;rw[if_neg (by rw[beq_builtin_none];exact Bool.false_ne_true)];refine wpAny_bind (wpAny_specialOf hT F.slot_tuple_hash.lookup ?_);show wpAny _ _ (callSpecialIfBoundUnlessNone? (.ref a) "__hash__" _ >>= _) Q E s;refine wpAny_bind (wpAny_callSpecialIfBoundUnlessNone?_slot hT F.slot_tuple_hash (wpAny_call_entry F.slot_tuple_hash hT F.entry_tuple_hash ?_ (F.args_tuple_hash_1 _)));obtain⟨n',en,hk⟩:=nC hk;cases en;show wpAny _ _ (Builtin.Tuple.tupleItemsOf (.ref a) >>= _) _ _ s;refine wpAny_bind (wpAny_tupleItemsOf ho hd ?_);refine wpAny_bind ?_;rw[<- Array.forIn_toList];refine wpAny_forIn_list _ (λbV (b:Array Int) s'=>∃done left,ds=done++left/\eM s.heap left bV/\b.toList=gY w done/\s' = { s with toks:=s.toks+eH done }) _ ?_ ?_ _ _ ⟨[],ds,rfl,hs,by unfold gY;rfl,by unfold eH;rfl⟩
   ·rintro x bV b s' ⟨done,left,e1,hl,hb,rfl⟩;cases left with
    |nil=>exact nomatch fR hl
    |cons d1 left =>
     obtain⟨x',r',e2,h1,hl⟩:=cK hl;cases e2;have hk1:fW n d1=true:=List.all_eq_true.mp hk d1 (by rw[e1];exact mem_append_right _ mem_cons_self);refine wpAny_bind (ih (s:={ s with toks:=s.toks+eH done }) hk1 (by show A.units+1+n<cLine;omega) h1 ?_);refine wpAny_pure ⟨done++[d1],left,by rw[e1,List.append_assoc];rfl,hl,?_,?_⟩
     ·rw[lM,map_append,<- lM,<- hb];simp
     ·rw[kB,Nat.add_assoc]
   ·rintro b s' ⟨done,left,e1,hl,hb,rfl⟩;have:left=[]:=by
     cases left with
     |nil=>rfl
     |cons d1 left=>obtain⟨_,_,z,_⟩:=cK hl;exact nomatch z
    subst this;rw[append_nil] at e1;subst e1;show wpAny _ _ (retInt (Builtin.Tuple.tupleHashOf b.toList)) _ _ _;rw[hb];refine wpAny_ret_mkInt ?_;unfold eB nI at q;generalize Builtin.Tuple.tupleHashOf (gY w ds)=z at q ⊢;show wpAny _ _ (if (decide (-(2:Int)^63<=z)&&decide (z<2^63))=true then _ else _) Q E _;unfold reduceHash at q;by_cases hr:(decide (-(2:Int)^63<=z)&&decide (z<2^63))=true
    ·rw[if_pos hr] at q ⊢;exact wpAny_pure (by simpa[Nat.add_assoc] using q)
    ·rw[if_neg hr] at q ⊢;exact wpAny_bind (wpAny_rule (wpAny_pure (by simpa[Nat.add_assoc] using q)))
  |_=>exact absurd hk Bool.false_ne_true
theorem aBT:∀(n m:Nat){A:Around} {E:Value->Shared->Prop} {s:Shared} {d:D} {v:Value} {Q:Bool->Shared->Prop},n<=m->fW n d=true->IsK s.heap d v->Q true s->wpAny (model prog w) A (eqIsQuiet m v) Q E s:=by
 intro n
 induction n with
 |zero =>
  intro m A E s d v Q hm hk hi q;cases d with
  |int i=>obtain⟨t,rfl⟩:=cR hi;rw[eqIsQuiet_byValue m rfl];exact wpAny_pure q
  |str i=>obtain⟨t,rfl⟩:=dB hi;rw[eqIsQuiet_byValue m rfl];exact wpAny_pure q
  |_=>exact absurd hk Bool.false_ne_true
 |succ n ih =>
  intro m A E s d v Q hm hk hi q;cases d with
  |int i=>obtain⟨t,rfl⟩:=cR hi;rw[eqIsQuiet_byValue m rfl];exact wpAny_pure q
  |str i=>obtain⟨t,rfl⟩:=dB hi;rw[eqIsQuiet_byValue m rfl];exact wpAny_pure q
  |tup ds =>
   obtain⟨a,its,rfl,ht,hs⟩:=dZ hi;obtain⟨o,ho,hc,k,hd⟩:=ht;have hT:s.TypeIs (.ref a) "tuple":=⟨o,ho,hc⟩;obtain⟨n',en,hk⟩:=nC hk;cases en;cases m with
   |zero=>omega
   |succ m =>
    unfold eqIsQuiet;refine wpAny_bind (wpAny_specialOf hT F.slot_tuple_eq.lookup ?_);show wpAny _ _ (isInstance (.ref a) (.type "tuple") >>= _) _ _ s;refine wpAny_bind (wpAny_isInstance hT isSubtype_tuple_tuple ?_);simp only[Bool.not_true,Bool.false_eq_true,if_false];refine wpAny_bind (wpAny_seqItems ho hd ?_);refine wpAny_bind ?_;show wpAny _ _ (forIn its _ _) _ _ s;rw[<- Array.forIn_toList];refine wpAny_forIn_list _ (λbV r s'=>r.1=none/\s'=s/\∃left,left.all (fW n)=true/\eM s.heap left bV) _ ?_ ?_ _ _ ⟨rfl,rfl,ds,hk,hs⟩
    ·rintro x bV r s' ⟨hr,rfl,left,hl,hx⟩;cases left with
     |nil=>exact nomatch fR hx
     |cons d1 left =>
      obtain⟨x',r',e2,h1,hx⟩:=cK hx;cases e2;rw[all_cons,Bool.and_eq_true] at hl;refine wpAny_bind (ih m (by omega) hl.1 h1 ?_);simp only[Bool.not_true,Bool.false_eq_true,if_false];exact wpAny_pure ⟨rfl,rfl,left,hl.2,hx⟩
    ·rintro⟨r1,r2⟩ s' ⟨hr,rfl,_⟩;simp only at hr;subst hr;exact wpAny_pure q
  |_=>exact absurd hk Bool.false_ne_true
end
mutual
theorem vC:∀{n:Nat}{x y:D},fW n x=true->fW n y=true->eqD x y=decide (x=y)
 |n,.int i,y,h,h'=>by
  cases y with
  |int j=>simp[eqD];exact Bool.eq_iff_iff.mpr (by rw[beq_iff_eq,decide_eq_true_eq])
  |str j=>simp[eqD]
  |tup j=>simp[eqD]
  |_=>cases n<;>exact absurd h' Bool.false_ne_true
 |n,.str i,y,h,h'=>by
  cases y with
  |int j=>simp[eqD]
  |str j=>simp[eqD];exact Bool.eq_iff_iff.mpr (by rw[beq_iff_eq,decide_eq_true_eq])
  |tup j=>simp[eqD]
  |_=>cases n<;>exact absurd h' Bool.false_ne_true
 |n,.tup ds,y,h,h'=>by
  obtain⟨m,rfl,h⟩:=nC h;cases y with
  |int j=>simp[eqD]
  |str j=>simp[eqD]
  |tup es =>
   have:=vM h h';show fY ds es=_;rw[this];simp
  |_=>exact absurd h' Bool.false_ne_true
 |n,.non,y,h,h'=>by cases n<;>exact absurd h Bool.false_ne_true
 |n,.bl _,y,h,h'=>by cases n<;>exact absurd h Bool.false_ne_true
 |n,.fz _,y,h,h'=>by cases n<;>exact absurd h Bool.false_ne_true
 |n,.ref _,y,h,h'=>by cases n<;>exact absurd h Bool.false_ne_true
theorem vM:∀{n:Nat}{xs ys:List D},xs.all (fW n)=true->ys.all (fW n)=true->fY xs ys=decide (xs=ys)
 |n,[],ys,h,h'=>by cases ys<;>simp[fY]
 |n,x::xs,ys,h,h'=>by
  cases ys with
  |nil=>simp[fY]
  |cons y ys =>
   rw[all_cons,Bool.and_eq_true] at h h';show(eqD x y&&fY xs ys)=_;rw[vC h.1 h'.1,vM h.2 h'.2];by_cases e1:x=y<;>by_cases e2:xs=ys<;>simp[e1,e2]
end
mutual
theorem IsK.inj {h:Heap}:∀{x y:D}{v:Value},IsK h x v->IsK h y v->x=y
 |.int i,y,v,a,b=>by
  obtain⟨t,rfl⟩:=cR a;cases y with
  |int j=>obtain⟨t,e⟩:=cR b;cases e;rfl
  |str j=>obtain⟨t,e⟩:=dB b;exact nomatch e
  |tup j=>obtain⟨_,_,e,_⟩:=dZ b;exact nomatch e
  |_=>unfold IsK at b;exact b.elim
 |.str i,y,v,a,b=>by
  obtain⟨t,rfl⟩:=dB a;cases y with
  |int j=>obtain⟨t,e⟩:=cR b;exact nomatch e
  |str j=>obtain⟨t,e⟩:=dB b;cases e;rfl
  |tup j=>obtain⟨_,_,e,_⟩:=dZ b;exact nomatch e
  |_=>unfold IsK at b;exact b.elim
 |.tup ds,y,v,a,b=>by
  obtain⟨p,its,rfl,ht,hs⟩:=dZ a;cases y with
  |int j=>obtain⟨t,e⟩:=cR b;exact nomatch e
  |str j=>obtain⟨t,e⟩:=dB b;exact nomatch e
  |tup es =>
   obtain⟨q,its',e,ht',hs'⟩:=dZ b;cases e;obtain⟨o,ho,_,_,hd⟩:=ht;obtain⟨o',ho',_,_,hd'⟩:=ht';rw[ho] at ho';cases ho';rw[hd] at hd';cases hd';rw[eM.inj hs hs']
  |_=>unfold IsK at b;exact b.elim
 |.non,y,v,a,b=>by unfold IsK at a;exact a.elim
 |.bl _,y,v,a,b=>by unfold IsK at a;exact a.elim
 |.fz _,y,v,a,b=>by unfold IsK at a;exact a.elim
 |.ref _,y,v,a,b=>by unfold IsK at a;exact a.elim
theorem eM.inj {h:Heap}:∀{xs ys:List D}{vs:List Value},eM h xs vs->eM h ys vs->xs=ys
 |[],ys,vs,a,b=>by
  cases ys with
  |nil=>rfl
  |cons y ys=>obtain⟨_,_,e,_⟩:=cK b;rw[fR a] at e;exact nomatch e
 |x::xs,ys,vs,a,b=>by
  obtain⟨v,r,rfl,a1,a2⟩:=cK a;cases ys with
  |nil=>exact nomatch fR b
  |cons y ys =>
   obtain⟨v',r',e,b1,b2⟩:=cK b;cases e;rw[IsK.inj a1 b1,eM.inj a2 b2]
end
mutual
theorem IsK.keep {h h':Heap}(k:∀a its,IsTup h a its->IsTup h' a its):∀{x:D}{v:Value},IsK h x v->IsK h' x v
 |.int _,_,a=>by unfold IsK at a ⊢;exact a
 |.str _,_,a=>by unfold IsK at a ⊢;exact a
 |.tup ds,_,a=>by obtain⟨p,its,rfl,ht,hs⟩:=dZ a;unfold IsK;exact⟨p,its,rfl,k p its ht,eM.keep k hs⟩
 |.non,_,a=>by unfold IsK at a;exact a.elim
 |.bl _,_,a=>by unfold IsK at a;exact a.elim
 |.fz _,_,a=>by unfold IsK at a;exact a.elim
 |.ref _,_,a=>by unfold IsK at a;exact a.elim
theorem eM.keep {h h':Heap}(k:∀a its,IsTup h a its->IsTup h' a its):∀{xs:List D}{vs:List Value},eM h xs vs->eM h' xs vs
 |[],_,a=>by unfold eM at a ⊢;exact a
 |x::xs,_,a=>by obtain⟨v,r,rfl,a1,a2⟩:=cK a;unfold eM;exact⟨v,r,rfl,a1.keep k,eM.keep k a2⟩
end
theorem sG {A:Around}{s:Shared}{n:Nat}(ih:∀{d d':D}{u u':Value},fW n d=true->fW n d'=true->IsK s.heap d u->IsK s.heap d' u'->SeqAt.EqAt A s u u' (eqD d d')) :
  ∀{xs ys:List D}{its its':List Value},xs.all (fW n)=true->ys.all (fW n)=true->eM s.heap xs its->eM s.heap ys its'->∀j (h1:j<its.length) (h2:j<its'.length),SeqAt.EqAt A s its[j] its'[j] (mG xs ys j)
 |[],ys,its,its',_,_,r1,_,j,h1,_=>by rw[fR r1] at h1;exact absurd h1 (Nat.not_lt_zero _)
 |_::_,[],its,its',_,_,_,r2,j,_,h2=>by rw[fR r2] at h2;exact absurd h2 (Nat.not_lt_zero _)
 |x::xs,y::ys,its,its',p1,p2,r1,r2,j,h1,h2=>by
  obtain⟨a,ra,rfl,ha,hra⟩:=cK r1;obtain⟨b,rb,rfl,hb,hrb⟩:=cK r2;rw[all_cons,Bool.and_eq_true] at p1 p2;cases j with
  |zero=>exact ih p1.1 p2.1 ha hb
  |succ j=>exact sG ih p1.2 p2.2 hra hrb j (Nat.lt_of_succ_lt_succ h1) (Nat.lt_of_succ_lt_succ h2)
theorem eM.length {h:Heap}:∀{xs:List D}{vs:List Value},eM h xs vs->xs.length=vs.length
 |[],_,a=>by rw[fR a];rfl
 |x::xs,_,a=>by obtain⟨v,r,rfl,_,a2⟩:=cK a;rw[length_cons,length_cons,eM.length a2]
theorem aGq:∀(n:Nat){A:Around} {s:Shared} {d d':D} {u u':Value},A.units+n<cLine->fW n d=true->fW n d'=true->IsK s.heap d u->IsK s.heap d' u'->SeqAt.EqAt A s u u' (eqD d d'):=by
 intro n
 induction n with
 |zero =>
  intro A s d d' u u' hu p p' r r';cases d with
  |int i =>
   obtain⟨t,rfl⟩:=cR r;cases d' with
   |int j=>obtain⟨t',rfl⟩:=cR r';exact SeqAt.EqAt.int_int i t j t'
   |str j=>obtain⟨t',rfl⟩:=dB r';exact SeqAt.EqAt.int_str i t j t'
   |_=>exact absurd p' Bool.false_ne_true
  |str i =>
   obtain⟨t,rfl⟩:=dB r;cases d' with
   |int j=>obtain⟨t',rfl⟩:=cR r';exact SeqAt.EqAt.str_int i t j t'
   |str j=>obtain⟨t',rfl⟩:=dB r';exact SeqAt.EqAt.str_str i t j t'
   |_=>exact absurd p' Bool.false_ne_true
  |_=>exact absurd p Bool.false_ne_true
 |succ n ih =>
  intro A s d d' u u' hu p p' r r';cases d with
  |int i =>
   obtain⟨t,rfl⟩:=cR r;cases d' with
   |int j=>obtain⟨t',rfl⟩:=cR r';exact SeqAt.EqAt.int_int i t j t'
   |str j=>obtain⟨t',rfl⟩:=dB r';exact SeqAt.EqAt.int_str i t j t'
   |tup j=>obtain⟨b,its,rfl,ht,_⟩:=dZ r';exact SeqAt.EqAt.int_tuple i t ht (by omega)
   |_=>exact absurd p' Bool.false_ne_true
  |str i =>
   obtain⟨t,rfl⟩:=dB r;cases d' with
   |int j=>obtain⟨t',rfl⟩:=cR r';exact SeqAt.EqAt.str_int i t j t'
   |str j=>obtain⟨t',rfl⟩:=dB r';exact SeqAt.EqAt.str_str i t j t'
   |tup j=>obtain⟨b,its,rfl,ht,_⟩:=dZ r';exact SeqAt.EqAt.str_tuple i t ht (by omega)
   |_=>exact absurd p' Bool.false_ne_true
  |tup xs =>
   have r0:=r;obtain⟨a,its,rfl,ht,hs⟩:=dZ r;cases d' with
   |int j=>obtain⟨t',rfl⟩:=cR r';exact SeqAt.EqAt.tuple_int j t' ht (by omega)
   |str j=>obtain⟨t',rfl⟩:=dB r';exact SeqAt.EqAt.tuple_str j t' ht (by omega)
   |tup ys =>
    have r0':=r';obtain⟨a',its',rfl,ht',hs'⟩:=dZ r';by_cases hll:a=a'
    ·subst hll;rw[vC p p',decide_eq_true (r0.inj r0')];exact SeqAt.EqAt.same _
    ·have e1:=hs.length;have e2:=hs'.length;show SeqAt.EqAt A s (.ref a) (.ref a') (fY xs ys);rw[fF,show xs.length=its.size by simpa using e1,show ys.length=its'.size by simpa using e2];refine SeqAt.EqAt.of_refs hll (SeqAt.RcAt.tuples ht ht' (by omega) λj j1 j2=>?_);have hu':A.in1.units+n<cLine:=by show A.units+1+n<cLine;omega
     have:=sG (A:=A.in1) (s:=s) (λ{d d' u u'} p p' r r'=>ih hu' p p' r r') p p' hs hs' j (by simpa using j1) (by simpa using j2);simpa using this
   |_=>exact absurd p' Bool.false_ne_true
  |_=>exact absurd p Bool.false_ne_true
noncomputable def nJ (prog:Program)(w:World):HeapKind prog w D where
 is:=λh k a=>fW 6 k=true/\IsK h k (.ref a)
 hash:=eB w
 draws:=nI
 room:=λA=>A.units+6<cLine
 inj:=λx y=>x.2.inj y.2
 keeps:=λx ho hd hs=>⟨x.1,x.2.keep λa its ⟨o,h1,h2,n,h3⟩=>⟨o,(hs.2 a (λe=>by subst e;rw[h1] at ho;cases ho;rw[h3] at hd;exact nomatch hd)).trans h1,h2,n,h3⟩⟩
 pyHash:=λhu hk h=>zM 6 hk.1 hu hk.2 h
 eqBool:=λhu hx hy h=>aGq 6 hu hx.1 hy.1 hx.2 hy.2 _ _ _ _ (by rw[vC hx.1 hy.1];exact h)
 quiet:=λhk h=>aBT 6 8 (by decide) hk.1 hk.2 h
section
variable {prog:Program}{w:World}{A:Around}{E:Value->Shared->Prop}{s:Shared}{it d:Addr}{i ep:Nat}{es:Array DictEntry}
end
noncomputable def nT (w:World)(kvs:List (D×D)):List D:=kvs.map λp=>.tup [.int (eB w p.1),p.1,p.2]
structure TK (kvs:List (D×D)):Prop where
 key:∀p∈kvs,(∃ds,p.1=.tup ds)/\fW 6 p.1=true
 nd:(kvs.map (·.1)).Nodup
noncomputable def lJ (kvs:List (D×D))(k v:D):List (D×D):=if k∈kvs.map (·.1) then kvs.map (λp=>if p.1=k then (p.1,v) else p) else kvs++[(k,v)]
noncomputable def oI (kvs:List (D×D))(k:D):Option D:=(kvs.find? λp=>decide (p.1=k)).map (·.2)
theorem TK.nil:TK []:=⟨(λ_ h=>(nomatch h)),List.nodup_nil⟩
theorem sD {kvs:List (D×D)}{k v:D}:(lJ kvs k v).map (·.1)=if k∈kvs.map (·.1) then kvs.map (·.1) else kvs.map (·.1)++[k]:=by
 unfold lJ;split
 ·rw[List.map_map];exact List.map_congr_left λp _=>by show(if p.1=k then (p.1,v) else p).1=p.1;split<;>rfl
 ·rw[map_append];rfl
theorem TK.put {kvs:List (D×D)}(h:TK kvs){k v:D}(hk:(∃ds,k=.tup ds)/\fW 6 k=true):TK (lJ kvs k v):=by
 refine⟨λp hp=>?_,?_⟩
 ·have:p.1∈(lJ kvs k v).map (·.1):=List.mem_map.mpr ⟨p,hp,rfl⟩;rw[sD] at this;have g:p.1∈kvs.map (·.1)∨p.1=k:=by
   split at this
   ·exact .inl this
   ·rcases List.mem_append.mp this with z|z
    ·exact .inl z
    ·exact .inr (by simpa using z)
  rcases g with g|g
  ·obtain⟨q,hq,e⟩:=List.mem_map.mp g;rw[<- e];exact h.key q hq
  ·rw[g];exact hk
 ·rw[sD];split
  ·exact h.nd
  ·rename_i n;rw[List.nodup_append];refine⟨h.nd,by simp,λx hx y hy=>?_⟩;rw[List.mem_singleton] at hy;subst hy;exact λe=>n (e ▸ hx)
theorem aBL {kvs:List (D×D)}{k v:D}:(lJ kvs k v).length<=kvs.length+1:=by
 unfold lJ;split
 ·rw[length_map];omega
 ·rw[length_append];exact Nat.le_refl _
def KX (K:Frag)(H:Hp)(p:D×D)(x:D×Addr×Value):Prop:=p.1=x.1/\Rep K H p.1 (.ref x.2.1)/\∃vv,bM vv x.2.2/\Rep K H p.2 vv
section
variable {X:Cx}{pins:List (Addr×Obj)}{σ:L2.St}{H:Hp}{s:Shared}
mutual
theorem qV (I:Inv X pins σ H s):∀{n:Nat}{d:D} {v:V} {u:Value},fW n d=true->Rep X.K H d v->bM v u->IsK s.heap d u
 |n,.int i,v,u,hk,r,q=>by rw[aW r] at q;unfold IsK;exact q
 |n,.str i,v,u,hk,r,q=>by rw[cV r] at q;unfold IsK;exact q
 |n,.tup ds,v,u,hk,r,q=>by obtain⟨m,rfl,hk⟩:=nC hk;obtain⟨a,us,rfl,sq,rs⟩:=bF r;obtain⟨its,rv,ht,_⟩:=I.tuple sq;cases q;unfold IsK;exact⟨a,its.toArray,rfl,ht,by rw[List.toList_toArray];exact tE I hk rs rv⟩
 |n,.non,v,u,hk,r,q=>by cases n<;>exact absurd hk Bool.false_ne_true
 |n,.bl _,v,u,hk,r,q=>by cases n<;>exact absurd hk Bool.false_ne_true
 |n,.fz _,v,u,hk,r,q=>by cases n<;>exact absurd hk Bool.false_ne_true
 |n,.ref _,v,u,hk,r,q=>by cases n<;>exact absurd hk Bool.false_ne_true
theorem tE (I:Inv X pins σ H s):∀{n:Nat}{ds:List D} {vs:List V} {us:List Value},ds.all (fW n)=true->bG X.K H ds vs->bN vs us->eM s.heap ds us
 |n,[],vs,us,hk,r,q=>by rw[bE r] at q;cases q;unfold eM;rfl
 |n,d::ds,vs,us,hk,r,q=>by
  obtain⟨v,rr,rfl,rv,rs⟩:=aR r;rw[all_cons,Bool.and_eq_true] at hk;cases q with
  |cons q1 q2 =>
   unfold eM;exact⟨_,_,rfl,qV I hk.1 rv q1,tE I hk.2 rs q2⟩
end
theorem aA9 (I:Inv X pins σ H s):∀{kvs:List (D×D)}{es:List DictEntry},(∀p∈kvs,(∃ds,p.1=.tup ds)/\fW 6 p.1=true)->oJ X.K H (nT X.w kvs) es ->
  ∃xs:List (D×Addr×Value),Paired (KX X.K H) kvs xs/\es=xs.map (entryOfKey (nJ X.prog X.w))/\∀x∈xs,(nJ X.prog X.w).is s.heap x.1 x.2.1
 |[],es,hk,r=>by cases r;exact⟨[],.nil,rfl,(λ_ h=>(nomatch h))⟩
 |p::kvs,es,hk,r=>by
  cases r with
  |@cons _ e _ es' re rr =>
   obtain⟨xs,h1,h2,h3⟩:=aA9 I (λq hq=>hk q (mem_cons_of_mem _ hq)) rr;obtain⟨k,v,kv,vv,e1,q1,r1,q2,r2⟩:=re;obtain⟨⟨ds,ek⟩,hn⟩:=hk p mem_cons_self;have e0:D.tup [.int (eB X.w p.1),p.1,p.2]=.tup [.int e.hash,k,v]:=e1;clear e1;injection e0 with e0
   injection e0 with e1 e2
   injection e2 with e2 e3
   injection e3 with e3 _
   injection e1 with e1
   subst e2;subst e3;have r1':=r1;rw[ek] at r1';obtain⟨a,us,rfl,_,_⟩:=bF r1';have qk:e.key=.ref a:=q1;obtain⟨eh,ekey,ev⟩:=e;cases qk;have e1:eB X.w p.1=eh:=e1;subst e1;refine⟨(p.1,a,ev)::xs,.cons ⟨rfl,r1,vv,q2,r2⟩ h1,?_,?_⟩
   ·rw[map_cons,<- h2];rfl
   ·intro x hx;rcases List.mem_cons.mp hx with z|z
    ·subst z;exact⟨hn,qV I hn r1 rfl⟩
    ·exact h3 x z
theorem sY {K:Frag}{H:Hp}(prog:Program)(w:World):∀{kvs:List (D×D)}{xs:List (D×Addr×Value)},Paired (KX K H) kvs xs->oJ K H (nT w kvs) (xs.map (entryOfKey (nJ prog w)))
 |[],_,.nil=>.nil
 |p::kvs,x::xs,.cons r rr=>by obtain⟨e,r1,vv,q,r2⟩:=r;exact .cons ⟨p.1,p.2,.ref x.2.1,vv,by show D.tup [.int (eB w p.1),p.1,p.2]=.tup [.int (eB w x.1),p.1,p.2];rw[e],rfl,r1,q,r2⟩ (sY prog w rr)
theorem yV {K:Frag}{H:Hp}:∀{kvs:List (D×D)}{xs:List (D×Addr×Value)},Paired (KX K H) kvs xs->kvs.map (·.1)=xs.map (·.1)
 |[],_,.nil=>rfl
 |p::kvs,x::xs,.cons r rr=>by rw[map_cons,map_cons,r.1,yV rr]
theorem aA3 {K:Frag}{H:Hp}{k:D}:∀{kvs:List (D×D)}{xs:List (D×Addr×Value)},Paired (KX K H) kvs xs->(atKey xs k).isSome=decide (k∈kvs.map (·.1))
 |[],_,.nil=>by simp[atKey]
 |p::kvs,x::xs,.cons r rr=>by
  have ih:=aA3 (k:=k) rr;unfold atKey at ih ⊢;rw[find?_cons];by_cases h:x.1=k
  ·have:decide (x.1=k)=true:=decide_eq_true h;rw[this];simp[r.1,h]
  ·have:decide (x.1=k)=false:=decide_eq_false h;rw[this,ih];simp only[map_cons,mem_cons,r.1];by_cases h2:k∈kvs.map (·.1)
   ·simp[h2]
   ·simp[h2,Ne.symm h]
theorem aGl {K:Frag}{H:Hp}{k v:D}{a:Addr}{u:Value}{vv:V}(rk:Rep K H k (.ref a))(q:bM vv u)(rv:Rep K H v vv){kvs:List (D×D)}{xs:List (D×Addr×Value)}(r:Paired (KX K H) kvs xs) :
  Paired (KX K H) (lJ kvs k v) (storedH xs k a u):=by
 have e:=aA3 (k:=k) r;unfold lJ storedH;by_cases h:k∈kvs.map (·.1)
 ·rw[decide_eq_true h] at e;rw[if_pos h,if_pos e];clear e h
  induction r with
  |nil=>exact .nil
  |@cons p x ps xs r1 rr ih =>
   refine .cons ?_ ih;unfold putAt;obtain⟨e1,r2,r3⟩:=r1;show KX K H (if p.1=k then (p.1,v) else p) (if x.1=k then (x.1,x.2.1,u) else x);by_cases z:p.1=k
   ·rw[if_pos z,if_pos (by rw[<- e1];exact z)];exact⟨e1,r2,vv,q,rv⟩
   ·rw[if_neg z,if_neg (by rw[<- e1];exact z)];exact⟨e1,r2,r3⟩
 ·rw[decide_eq_false h] at e;rw[if_neg h,if_neg (by rw[e];exact Bool.false_ne_true)];clear e h
  induction r with
  |nil=>exact .cons ⟨rfl,rk,vv,q,rv⟩ .nil
  |cons r1 rr ih=>exact .cons r1 ih
theorem Paired.len {α β:Type}{F:α->β->Prop}:∀{l:List α}{l':List β},Paired F l l'->l.length=l'.length
 |_,_,.nil=>rfl
 |_,_,.cons _ t=>by rw[length_cons,length_cons,Paired.len t]
theorem aB4 {o:Obj}{es:Array DictEntry}{ep:Nat}(h:o.ExactDict)(d:o.data = .dict es ep):o = { cls:=.type "dict",data:=.dict es ep }:=by obtain⟨c,di,dt,sl⟩:=o;obtain⟨h1,h2,h3⟩:=h;cases h1;cases h2;cases h3;cases d;rfl
theorem wK {P:Program}{w:World}{H:Hp}{h:Heap}{a:Addr}{es:List DictEntry}(x:mY a es h):eC P w H h a (.ext (mY a es)) :=
 ⟨x,let ⟨_,_,_,e⟩:=x;⟨_,e⟩,λh1 h2 ⟨y1,y2,ep,e⟩ k=>⟨y1,y2,ep,k _ e⟩⟩
theorem tQ (I:Inv X pins σ H s){a:Addr}{M:DM}{kvs:List (D×D)}(hm:bI X.K M H)(ha:M (.d a)=some (nT X.w kvs))(tk:TK kvs) :
  ∃xs,H a=some (.ext (mY a (xs.map (entryOfKey (nJ X.prog X.w)))))/\Paired (KX X.K H) kvs xs/\s.heap.DictOfH (nJ X.prog X.w) a xs/\(a==sysModules)=false/\xs.length<=sizeLine:=by
 obtain⟨es,hH,hr⟩:=hm.d a _ ha;obtain⟨xs,h1,rfl,h3⟩:=aA9 I tk.key hr;obtain⟨⟨hs,hz,ep,e⟩,_⟩:=I.hok a _ hH;refine⟨xs,hH,h1,⟨_,_,ep,e,⟨rfl,rfl,rfl⟩,rfl,by rw[List.toList_toArray],h3,?_⟩,hs,by simpa using hz⟩;rw[<- yV h1];exact tk.nd
theorem aAt (I:Inv X pins σ H s){a b:Addr}{kvs:List (D×D)}{k v:D}{u:Value}{vv:V}{xs:List (D×Addr×Value)}{h':Heap}{tk:Nat}(hH:H a=some (.ext (mY a (xs.map (entryOfKey (nJ X.prog X.w))))))(hp:Paired (KX X.K H) kvs xs)(hs:(a==sysModules)=false)(hz:xs.length<sizeLine)(rk:Rep X.K H k (.ref b))(q:bM vv u)(rv:Rep X.K H v vv)(hd':h'.DictOfH (nJ X.prog X.w) a (storedH xs k b u))(hsb:Heap.SameBut a s.heap h') :
  Inv X pins σ (upd H a (.ext (mY a ((storedH xs k b u).map (entryOfKey (nJ X.prog X.w)))))) { s with heap:=h',toks:=tk }/\oJ X.K H (nT X.w (lJ kvs k v)) ((storedH xs k b u).map (entryOfKey (nJ X.prog X.w))):=by
 obtain⟨o,es,ep,ho,hx,hda,he,_,_⟩:=hd';have eo:=aB4 hx hda;subst eo;have hp':=aGl rk q rv hp;have lz:(storedH xs k b u).length<=sizeLine:=by have e1:=Paired.len hp';have e2:=Paired.len hp;have e3:=aBL (kvs:=kvs) (k:=k) (v:=v);omega
 refine⟨I.write (e:=a) (by rw[hH];exact True.intro) (.inl rfl) (λc o hc e=>hsb.extBut c o hc e) ⟨_,ho⟩ (wK ⟨hs,by rw[length_map];exact lz,ep,?_⟩),sY X.prog X.w hp'⟩;rw[ho,<- he]
def aAB (k:D):Prop:=(∃ds,k=.tup ds)/\fW 6 k=true
theorem uV {K:Frag}{H:Hp}{k:D}{v:V}(h:aAB k)(r:Rep K H k v):∃b,v=.ref b:=by obtain⟨⟨ds,e⟩,_⟩:=h;rw[e] at r;obtain⟨a,_,e,_⟩:=bF r;exact⟨a,e⟩
theorem aAs (hu:X.A.units+7<cLine):aFi X λo i v H Q=>∃p k d M kvs,o=.ref p/\Rep X.K H k i/\Rep X.K H d v/\bI X.K M H/\M (.d p)=some (nT X.w kvs)/\TK kvs/\kvs.length<1000/\aAB k /\
  ∀H',bI X.K (pG M p (nT X.w (lJ kvs k d))) H'->Ext H H'->Q H':=by
 intro pins s σ H o i v ov iv u Q I ro ri rv ⟨p,k,d,M,kvs,eo,rk,rd,hm,hp,tk,hl,hk,q⟩;subst eo;cases ro;obtain⟨b,rfl⟩:=uV hk rk;cases ri;obtain⟨xs,hH,hx,hd,hs,hz⟩:=tQ I hm hp tk;have lx:=Paired.len hx;have hz':xs.length<sizeLine:=by rw[<- lx];exact dG (Nat.le_of_lt hl)
 refine wpAny_setItem_heap (hsz:=Nat.le_of_lt hz') (knd:=nJ X.prog X.w) (by show X.A.units+1+6<cLine;omega) ⟨hk.2,qV I hk.2 rk rfl⟩ hd λh' hd' hsb=>?_;obtain⟨I',en⟩:=aAt (tk:=s.toks+(nJ X.prog X.w).draws k) I hH hx hs hz' rk rv rd hd' hsb;exact⟨_,I',q _ (hm.kput hH en) (Ext.putX hH _)⟩
end
section
variable {X:Cx}{pos:Pos}
def yX (w:World)(to ti:DE):DG:=λd ρ M Q=>to ρ M λo M1=>ti ρ M1 λi M2=>match o with
 |.ref p=>∃kvs,M2 (.d p)=some (nT w kvs)/\TK kvs/\kvs.length<1000/\aAB i/\Q ρ (pG M2 p (nT w (lJ kvs i d)))
 |_=>False
theorem aC6 {o i:Expr}{to ti:DE}(hu:X.A.units+7<cLine)(ho:PDE X o to)(hi:PDE X i ti)(ha:∀v,assign (.Subscript o i pos) X.env v=(do
   let ov <- holding [v] (eval o X.env)
   let iv <- holding [v,ov] (eval i X.env)
   standAt pos
   holding [v,ov,iv] (setItem ov iv v)
   release [v,ov,iv] []):=by intro _;rfl):PDG X (.Subscript o i pos) (yX X.w to ti) :=
 uC (aBN ho hi (aAs hu) ha) λv σ H Q ⟨d,ρ,M,Q',rd,re,hm,q,k⟩=>⟨ρ,M,_,re,hm,q,λov H1 ⟨dov,M1,rov,hm1,e1,q1⟩=>⟨ρ,M1,_,re.ext e1,hm1,q1,λiv H2 ⟨div,M2,riv,hm2,e2,q2⟩=>by
  cases dov with
  |ref p =>
   obtain⟨kvs,hp,tk,hl,hk,q2⟩:=q2;exact⟨p,div,d,M2,kvs,aO rov,riv,(rd.ext e1).ext e2,hm2,hp,tk,hl,hk,λH3 hm3 e3=>k _ _ ⟨ρ,_,((re.ext e1).ext e2).ext e3,hm3,(e1.trans e2).trans e3,q2⟩⟩
  |_=>exact q2.elim⟩⟩
def xT:DE:=λ_ M Q=>∀p:Addr,M (.d p)=none->Q (.ref p) (pG M p [])
theorem aCe:PDE X (.Dict [] [] pos) xT:=by
 intro pins s σ H Q I ⟨ρ,M,Q',re,hm,q,k⟩;have hn:=I.hok.fresh (Nat.le_refl s.heap.objs.size);have big:sysModules<s.heap.objs.size:=Nat.lt_trans (by decide) (I.mod.glob.keeps I.bk).lt;have I1:=I.laid (a:=s.heap.objs.size) (o:=.ext (mY s.heap.objs.size [])) (h':=s.heap.push { cls:=.type "dict",data:=.dict #[] }) (t':=s.toks) (λ_ _ q=>Heap.get?_push_of_some _ q) (Nat.le_refl _)
  (wK ⟨beq_eq_false_iff_ne.mpr (Ne.symm (Nat.ne_of_lt big)),Nat.zero_le _,0,Heap.get?_push_size _ rfl⟩)
 exact wpAny_Dict_empty ⟨.ref s.heap.objs.size,_,I1,rfl,k _ _ ⟨.ref _,_,eJ,hm.knew hn .nil,Ext.new hn _,q _ (hm.freshD hn)⟩⟩
theorem aBV {o i:Expr}{to ti:DE}{kr:Nat}(hr:cM kr X.A)(ho:PDE X o to)(hi:PDE X i ti)(ha:∀v,assign (.Subscript o i pos) X.env v=(do
   let ov <- holding [v] (eval o X.env)
   let iv <- holding [v,ov] (eval i X.env)
   standAt pos
   holding [v,ov,iv] (setItem ov iv v)
   release [v,ov,iv] []):=by intro _;rfl):PDG X (.Subscript o i pos) (yX X.w to ti):=aC6 (by have:=hr.un;omega) ho hi ha
end
open PySem.W
section
variable {n:Nat}{lt:Nat->Nat->Bool}{p:Array Nat}
end
section
variable {n:Nat}{p:Array Nat}
end
section
variable {prog:Program}{w:World}{A:Around}{E:Value->Shared->Prop}{s:Shared}
end
section
variable {X:Cx}{pins:List (Addr×Obj)}{σ:L2.St}{H:Hp}{s:Shared}
end
end Dd
namespace L2
open PySem PySem.Spec PyProof.Rows
end L2
namespace Dd
open PySem PySem.Spec PyProof.Rows L2
section
variable {X:Cx}{pos:Pos}{iter tg:Expr}{body:List Stmt}{tl:DE}{g:DG}{tb:DS}{ta:DA}
theorem aIZ {CX:CXT}{P:Program}{w:World}{K:Frag}{mg:Str->Option Value}{base:Heap}{N:List Str}{qual:Str}{scope:Scope}{f:Addr}{cd:Value}{A:Around}{outer:List Env}{s:Shared}{H:Hp}{E:XK}:(nZ CX P w K mg base N qual scope f cd A outer s H E).w=w:=rfl
end
end Dd
namespace L2
open PySem PySem.Spec PyProof.Rows
section
variable {prog:Program}{w:World}{A:Around}{E:Value->Shared->Prop}{s:Shared}
end
end L2
namespace Dd
open PySem PySem.Spec PyProof.Rows L2
section
variable {X:Cx}{pos:Pos}{iter tg:Expr}{body:List Stmt}{tl:DE}{g:DG}{tb:DS}{ta:DA}
end
end Dd
namespace L2
open PySem PySem.Spec PyProof.Rows
noncomputable def ItE (K:Frag)(l:Addr):It :=
 ⟨
  λi H=>∃xs x,SqL K H l xs/\xs[i]?=some x,
  λi H v H'=>∃p x,v=.ref p/\H p=none/\H'=upd H p (.tup [.int i,x])/\∀xs,SqL K H l xs->xs[i]?=some x,
  λi H=>∃xs,SqL K H l xs/\xs.length<=i⟩
theorem aAA {P:Program}{w:World}{K:Frag}{elts:List Expr}{kk:Nat}{tpos:Pos}{e it l:Addr}(ne:e≠it) :
  aCp P w K (.Tuple elts kk tpos) (ItE K l) [e,it] e (λi h=>(∃old,IsEnum h e it i old)/\h.IsListIter it l i) where
 mem:=by simp
 obj:=λi h st b hb=>by
  obtain⟨⟨old,he⟩,⟨o1,e1,c1,d1⟩⟩:=st;simp only[mem_cons,not_mem_nil,or_false] at hb;rcases hb with rfl|rfl
  ·exact⟨_,he,λv z=>by cases z⟩
  ·exact⟨o1,e1,λv z=>by rw[d1] at z;cases z⟩
 keep:=λi h h' st k=>by obtain⟨⟨old,he⟩,t1⟩:=st;exact⟨⟨old,k e (by simp) _ he⟩,t1.at λo x=>k it (by simp) o x⟩
 item:=by
  intro X hP hw hK hc i pins s σ H E I hf st hg;subst hP hw hK;obtain⟨xs,x,hq,hx⟩:=hg;obtain⟨⟨old,he⟩,t1⟩:=st;obtain⟨its,rv,p,hz⟩:=I.list hq;obtain⟨u,hu,ru⟩:=rv.get hx;refine wpAny_pyNext_enum_item he t1 p.isList (x:=u) (by simpa using hu) ne λh' a1 a2 a3 a4 a5=>?_;refine⟨_,rfl,wpAny_letOwnedTupleGo_enum (s:={ s with heap:=h',toks:=s.toks+1 }) a1 λh2 b1 b2=>?_⟩;have lte:=Heap.lt_size he;have nz:s.heap.objs.size≠e:=Nat.ne_of_gt lte;have k2:∀b o,b∉[e,it]->s.heap.get? b=some o->h2.get? b=some o:=λb o hb z=>b2.extBut _ _ (λq=>hb (by simp[q])) (a5 b o (λq=>hb (by simp[q])) (λq=>hb (by simp[q])) z);have e1:h2.IsListIter it l (i+1):=a2.extBut b2.extBut (Ne.symm ne);have I2:Inv X pins σ (upd H s.heap.objs.size (.tup [.int i,x])) { s with heap:=h2 }:=I.turnedT (its:=[.int i s.toks,u]) k2 hf (Nat.le_refl _) (by show 2<=sizeLine;decide) (.cons ⟨_,rfl⟩ (.cons ru .nil)) ⟨_,b2.extBut _ _ nz a3,rfl,_,rfl⟩ λb hb=>by
   simp only[mem_cons,not_mem_nil,or_false] at hb;rcases hb with rfl|rfl
   ·exact⟨_,b1⟩
   ·obtain⟨o,e,_⟩:=e1;exact⟨o,e⟩
  have I3:=I2.kept (t':=s.toks+1) (h':=h2) λb u z=>z;refine⟨.ref s.heap.objs.size,_,I3,rfl,⟨_,x,rfl,I.hok.fresh (Nat.le_refl _),rfl,λxs' q1=>by rw[I.list_inj q1 hq];exact hx⟩,⟨⟨_,b1⟩,e1⟩,λb hb=>?_⟩;rw[aS]
  ·exact(hf b hb).1
  ·intro q;subst q;simp only[mem_cons,not_mem_nil,or_false] at hb;obtain⟨o1,g1,_⟩:=t1;rcases hb with q|q
   ·exact nz q
   ·exact absurd (Heap.lt_size g1) (by rw[<- q];exact Nat.lt_irrefl _)
 done:=by intro X hP hw hK hc i pins s σ H E I hf st hg;subst hP hw hK;obtain⟨xs,hq,hend⟩:=hg;obtain⟨⟨old,he⟩,t1⟩:=st;obtain⟨its,rv,p,hz⟩:=I.list hq;have w1:=rv.length;exact wpAny_pyNext_enum_end (I.ok.hd hc) he t1 p.isList (by simp;omega) λh' k=>⟨rfl,I.turnedL (λb o hb z=>k b o (λq=>hb (by simp[q])) z) hf⟩
 self:=λ_ _ _ _ _ st h=>by obtain⟨⟨old,he⟩,_⟩:=st;exact wpAny_pyIter_enum he h
noncomputable def aIp (K:Frag)(ta:TA):TI:=λσ H R=>ta σ H λvs H1=>∃a xs,vs=[.ref a]/\SqL K H1 a xs/\R (ItE K a) H1
theorem aCP {X:Cx}{elts:List Expr}{kk:Nat}{tpos:Pos}{a:Expr}{ta:TA}{p pos:Pos}(hg:Gl X "enumerate")(hm:X.mg "enumerate"=none)(ha:PA X [a] ta)(hs:starEach [a] X.env=[(false,eval a X.env)]:=by rfl) :
  PI X (.Tuple elts kk tpos) (.Call (.Name "enumerate" p) [a] [] pos) (aIp X.K ta):=by
 intro pins s σ H R I h;refine Call_ (rE I hg hm (show bootBuiltins "enumerate" = some (.type "enumerate") from rfl) (PyProof.Rows.callWith_type1 (thn (ha pos pins s σ H _ I h) λus s1 ⟨vs,H1,I1,r1,q1⟩=>?_) (by rw[hs];rfl) (by rfl)));obtain⟨l,xs,rfl,hq,q⟩:=q1;obtain⟨u1,rfl,e1⟩:=r1.one;cases e1;obtain⟨its,rv,p,hz⟩:=I1.list hq;refine call_enumerate_list p.isList λh' b1 b2 b3 b4=>?_;refine wpAny_pyIter_enum (s:={ s1 with heap:=h' }) b1 ?_;refine⟨s1.heap.objs.size+1,[s1.heap.objs.size+1,s1.heap.objs.size],_,_,H1,rfl,I1.kept (t':=s1.toks) b4,aAA (l:=l) (Nat.succ_ne_self _),⟨⟨_,b1⟩,b2⟩,λb hb=>?_,q⟩;have hb':s1.heap.objs.size<=b:=by simp only[mem_cons,not_mem_nil,or_false] at hb;rcases hb with rfl|rfl<;>omega
 exact I1.fpOk hb' (I1.hok.fresh hb')
end L2
namespace Dd
open PySem PySem.Spec PyProof.Rows L2
section
variable {X:Cx}{pos:Pos}{iter tg elt:Expr}{body:List Stmt}{tl te:DE}{g:DG}{tb:DS}{ta:DA}
def aIc (a:Addr)(ds:List D)(g:DG)(tb:DS):DS:=λE ρ M=>∃Pv:Nat->cC->DM->Prop,Pv 0 ρ M /\
 (∀i ρ M,i<=ds.length->Pv i ρ M->M a=some ds) /\
 (∀i d ρ M,ds[i]?=some d->Pv i ρ M->g (.tup [.int i,d]) ρ M λρ2 M2=>tb { E with nx:=Pv (i+1),ct:=Pv (i+1),bk:=E.nx } ρ2 M2)/\∀ρ M,Pv ds.length ρ M->E.nx ρ M
def aHs (K:Frag)(a:Addr)(ds:List D)(J:It)(H:Hp):Prop:=∀H' M',Ext H H'->bI K M' H'->M' a=some ds->(∀i,ds.length<=i->J.stop i H')/\(∀i,i<ds.length->J.go i H')/\∀i x H2,J.yld i H' x H2->Ext H' H2/\(∀M',bI K M' H'->bI K M' H2)/\(i<ds.length->∃d,ds[i]?=some d/\Rep K H2 (.tup [.int i,d]) x)
theorem aIx {K:Frag}{l:Addr}{ds:List D}{H:Hp}:aHs K l ds (ItE K l) H:=λH' M' e' hm' b1=>by obtain⟨us,hu,r1⟩:=hm'.l l ds b1;have n1:=r1.length;refine⟨λi hi=>⟨us,.of hu,by omega⟩,λi hi=>⟨us,us[i]'(by omega),.of hu,by simp⟩,λi x H2 ⟨pp,vx,e1,hn,e2,all⟩=>?_⟩;subst e1 e2;refine⟨Ext.new hn _,λM' h=>h.new hn _,λhi=>?_⟩;obtain⟨dx,hdx,rdx⟩:=r1.getV (all us (.of hu));exact⟨dx,hdx,dF (.of cE) (cF cN (cF (rdx.ext (Ext.new hn _)) cP))⟩
theorem aEL {K:Frag}{a:Addr}{ds:List D}{E:rO}{Dn:iD}{σ:L2.St}{ρ:cC}{M:DM}{H0 H:Hp}{J:It}(ex0:Ext H0 H)(re:fA K H ρ σ)(hm:bI K M H)(k:nQ K H0 Dn E)(h:aIc a ds g tb Dn ρ M)(seq:aHs K a ds J H) :
  ∃W:Nat->Nat->L2.St->Hp->Prop,(∃m,W 0 m σ H)/\∀i m σ H,W i m σ H ->
   (J.stop i H/\E.nx σ H)∨(J.go i H/\∃N:L2.St->Hp->Prop,(∀σ' H',N σ' H'->∃m',m'<m/\W (i+1) m' σ' H')/\∀x H',J.yld i H x H'->uG K g x σ H' λσ2 H2=>aBi K tb { E with nx:=N,ct:=N,bk:=E.nx } σ2 H2):=by
 obtain⟨Pv,p0,hat,step,done⟩:=h;refine⟨λi m σ' H'=>∃ρ' M',fA K H' ρ' σ'/\bI K M' H'/\Ext H H'/\m=ds.length-i/\i<=ds.length/\Pv i ρ' M',⟨ds.length,ρ,M,re,hm,.refl H,rfl,Nat.zero_le _,p0⟩,?_⟩;rintro i m σ1 H1 ⟨ρ1,M1,re1,hm1,e1,rfl,hi,w1⟩;obtain⟨hst,hgo,hy⟩:=seq H1 M1 e1 hm1 (hat i ρ1 M1 hi w1);by_cases hlt:i<ds.length
 ·refine .inr ⟨hgo i hlt,λσ' H'=>∃ρ' M',fA K H' ρ' σ'/\bI K M' H'/\Ext H H'/\Pv (i+1) ρ' M',λσ' H' ⟨ρ',M',a,b,c,d⟩=>⟨ds.length-(i+1),by omega,ρ',M',a,b,c,rfl,hlt,d⟩,λx H' y=>?_⟩;obtain⟨ey,hmy,hd⟩:=hy i x H' y;obtain⟨d,hd,rd⟩:=hd hlt;refine⟨_,ρ1,M1,_,rd,re1.ext ey,hmy _ hm1,step i d ρ1 M1 hd w1,λσ2 H2 ⟨ρ2,M2,re2,hm2,e2,q2⟩=>⟨ρ2,M2,_,re2,hm2,q2,?_⟩⟩;have ex:=(e1.trans ey).trans e2;exact⟨λσ' H' ⟨ρ',M',a,b,c,d⟩=>⟨ρ',M',a,b,ex.trans c,d⟩,λv H' z=>k.rt v H' (z.back (ex0.trans ex)),λσ' H' z=>k.nx σ' H' (z.back (ex0.trans ex)),λσ' H' ⟨ρ',M',a,b,c,d⟩=>⟨ρ',M',a,b,ex.trans c,d⟩⟩
 ·have e:i=ds.length:=by omega
  subst e;exact .inl ⟨hst _ (Nat.le_refl _),k.nx σ1 H1 ⟨ρ1,M1,re1,hm1,ex0.trans e1,done ρ1 M1 w1⟩⟩
def aCh (ta:DA)(g:DG)(tb:DS):DS:=λE ρ M=>ta ρ M λds M1=>match ds with
 |[.ref a]=>∃xs,M1 a=some xs/\aIc a xs g tb E ρ M1
 |_=>False
theorem aCE {elts:List Expr}{kk:Nat}{tpos:Pos}{a:Expr}{p pos':Pos}(hp:PassesOwn (model X.prog X.w) X.A X.env X.xe)(hc:X.calm = true)(hmg:X.mg "enumerate" = none)(ha:PDA X [a] ta)(hg:PDG X (.Tuple elts kk tpos) g)(hb:kU X body tb)(hgl:Gl X "enumerate":=by rfl)(hse:starEach [a] X.env=[(false,eval a X.env)]:=by rfl)(hs:∀x,foldedSetIterable (.Call (.Name "enumerate" p) [a] [] pos') X.env x = pure x:=by intro _;rfl):PDS X (.For (.Tuple elts kk tpos) (.Call (.Name "enumerate" p) [a] [] pos') body [] pos) (aCh ta g tb) :=
 gG (aB7 hp hc (aCP hgl hmg ha hse) hg hb hs) λE σ H ⟨ρ,M,Dn,re,hm,q,k⟩=>⟨ρ,M,_,re,hm,q,λvs H1 ⟨ds,M1,rs,hm1,ex,q1⟩=>by
  match ds,q1 with
  |[.ref l],q1 =>
   obtain⟨xs,a1,q1⟩:=q1;obtain⟨v1,rfl,rv1⟩:=gX rs;obtain rfl:=aO rv1;obtain⟨us,hu,r1⟩:=hm1.l l xs a1;exact⟨l,us,rfl,.of hu,aEL ex (re.ext ex) hm1 k q1 aIx⟩⟩
variable {scope:Scope}{N':List Str}{fr:List (Option Nat)}{oN:List Str}{osc:Scope}
end
section
variable {prog:Program}{w:World}{A:Around}{E:Value->Shared->Prop}{s:Shared}
end
section
variable {X:Cx}{pos:Pos}
end
section
variable {P:Program}{w:World}{K:Frag}{mg:Str->Option Value}{base:Heap}
end
end Dd
namespace HT
open PySem PyProof.Rows
section
variable {prog:Program}{w:World}{A:Around}{E:Value->Shared->Prop}{s:Shared}
end
end HT
namespace L2
open PySem PySem.Spec PyProof.Rows
variable {X:Cx}
end L2
namespace Dd
open PySem PySem.Spec PyProof.Rows L2
section
variable {X:Cx}{e:Expr}{te:DE}{pos p2:Pos}{lo hi:Option Expr}{tl th:DO}
end
section
variable {X:Cx}{pins:List (Addr×Obj)}{σ:L2.St}{H:Hp}{s:Shared}{M:Model}{A:Around}{E:Value->Shared->Prop}{e T:Addr}{cls:Value}
end
section
variable {X:Cx}{e:Expr}{es:List Expr}{t:DA}{f:Str}{ps:List Str}{cond:List D->DM->Prop}{C:Addr}{k1 k:Nat}{V:DM->Prop}{pf pc:Pos}
end
section
variable {P:Program}{w:World}{K:Frag}{mg:Str->Option Value}{base:Heap}
theorem Has.never {x:Str}{st:Stmt}{N ps:List Str}(h:cX K mg x st ps)(S:aQ N ps (aI st))(k:Nat):Has P w K mg base (k+1) x ps (λ_ _ _=>False) :=
 Has.mk h S (λ_ _ _ z=>z.elim) λ_ _ _ _ _ _ _ _ _ _ _ z=>z.elim
end
section
variable {X:Cx}{a:Expr}{e tg:Expr}{es:List Expr}{t:DA}{g:DG}{f n cm:Str}{ps:List Str}{sp:DSp}{cond:List D->DM->Prop}{C Cm:Addr}{k1 k2 k j:Nat}{ts:Addr->DS}{b0:Stmt}{suite:List Stmt}{pf pc pa pcm ph pos:Pos}
end
open PySem.AutoSeq1 (wpAny_loadPart')
theorem wC (l b:Addr)(items items2:Array Value)(n n2:Nat)(dd dd2:Option Addr)(sl sl2:Array (Option Value))(hc0:items.isEmpty=true) :
  Meets (Builtin.«tuple.__add__» ⟨[.ref l,.ref b],[]⟩) (λ_ R s=>s.heap.get? l = some { cls:=.type "tuple",dict:=dd,data:=.seq items n,slots:=sl }/\s.heap.get? b = some { cls:=.type "tuple",dict:=dd2,data:=.seq items2 n2,slots:=sl2 }/\R (.ok (.ret (Value.ref b))) { s with heap:=s.heap,toks:=s.toks }) :=
 .of_wp λprog w A R s h=>by obtain⟨hp,g,d,tk,os⟩:=s;obtain⟨hl,hb,h⟩:=h;have f1:=AutoSeq1.idx_int;have f2:=AutoSeq1.sub_tuple_tuple;have f3:=AutoSeq1.sub_list_list;have f4:=AutoSeq1.sub_tuple_list;have f5:=AutoSeq1.sub_list_tuple;wp_walk using wpAny_loadPart' hl,wpAny_loadPart' hb;exact⟨_,rfl,h⟩
section
variable {X:Cx}
def aBg:D2:=λx y M Q=>match x,y with
 |.tup xs,.tup ys=>xs.length+ys.length<=1000/\Q (.tup (xs++ys)) M
 |_,_=>False
theorem aC5:OpD X (binaryOp .Add) aBg:=by
 intro pins s σ H x y v u Q I rx ry ⟨dx,dy,M,Q',r1,r2,hm,q,k⟩
 match dx,dy,q with
 |.tup xs,.tup ys,q =>
  obtain⟨hl,q⟩:=q;obtain⟨a,us,rfl,sq,ru⟩:=bF r1;obtain⟨b,ws,rfl,sq2,rw'⟩:=bF r2;have l3:=ru.length;have l4:=rw'.length;by_cases n1:us=[]
  ·have nx:xs=[]:=List.length_eq_zero_iff.mp (by rw[l3,n1];rfl);rw[nx] at q;cases rx;cases ry;obtain⟨its,r5,p1,_⟩:=I.tuple sq;obtain⟨its2,r6,p2,_⟩:=I.tuple sq2;obtain⟨⟨cls,dd,data,sl⟩,ho,hc,n,hd⟩:=id p1;obtain⟨⟨cls2,dd2,data2,sl2⟩,ho2,hc2,n2,hd2⟩:=id p2;simp only at hc hd hc2 hd2;subst hc hd hc2 hd2;have e0:its=[]:=List.length_eq_zero_iff.mp (by rw[<- r5.length,n1];rfl);exact concat_meets ⟨_,ho,rfl⟩ ⟨_,ho2,rfl⟩ noFill_tuple_add seq_tuple_add PySem.F.slot_tuple_add PySem.F.entry_tuple_add (PySem.F.args_tuple_add_2 _ _)
    (wC a b its.toArray its2.toArray n n2 dd dd2 sl sl2 (by rw[e0];rfl)) ⟨ho,ho2,.ref b,H,I,rfl,k _ H ⟨.tup ys,M,dF sq2 rw',hm,.refl H,q⟩⟩
  ·refine yT pins s σ H _ _ v u Q I rx ry ?_;refine⟨a,b,us,ws,rfl,rfl,sq,sq2,n1,by rw[<- l3,<- l4];exact Nat.le_of_lt (dG hl),λz=>?_,λ_ p hp=>k _ _ ⟨.tup _,M,dF (.of cE) ((ru.append rw').ext (Ext.new hp _)),hm.new hp _,Ext.new hp _,q⟩⟩;have ny:ys=[]:=List.length_eq_zero_iff.mp (by rw[l4,z];rfl);rw[ny,append_nil] at q;exact k _ H ⟨.tup xs,M,dF sq ru,hm,.refl H,q⟩
end
section
variable {X:Cx}{pins:List (Addr×Obj)}{σ:L2.St}{H:Hp}{s:Shared}
end
section
variable {X:Cx}{pos:Pos}
theorem aAG :ZE X (.Dict [] [] pos) xT:=.i (aCe)
theorem zS {o i:Expr}{to ti:DE}{kr:Nat}(hr:cM kr X.A)(ho:ZE X o to)(hi:ZE X i ti)(ha:∀v,assign (.Subscript o i pos) X.env v=(do
   let ov <- holding [v] (eval o X.env)
   let iv <- holding [v,ov] (eval i X.env)
   standAt pos
   holding [v,ov,iv] (setItem ov iv v)
   release [v,ov,iv] []):=by intro _;rfl):ZG X (.Subscript o i pos) (yX X.w to ti):=.i (aBV hr ho.o hi.o ha)
end
section
variable {X:Cx}{pos:Pos}{iter tg:Expr}{body:List Stmt}{tl:DE}{g:DG}{tb:DS}{ta:DA}
end
section
variable {X:Cx}{pos:Pos}{iter tg:Expr}{body:List Stmt}{tl:DE}{g:DG}{tb:DS}{ta:DA}
end
section
variable {X:Cx}{pos:Pos}{iter tg elt:Expr}{body:List Stmt}{tl te:DE}{g:DG}{tb:DS}{ta:DA}
theorem vU {elts:List Expr}{kk:Nat}{tpos:Pos}{a:Expr}{p pos':Pos}(hp:PassesOwn (model X.prog X.w) X.A X.env X.xe)(hc:X.calm = true)(hmg:X.mg "enumerate" = none)(ha:ZA X [a] ta)(hg:ZG X (.Tuple elts kk tpos) g)(hb:ZSs X body tb)(hgl:Gl X "enumerate":=by rfl)(hse:starEach [a] X.env = [(false,eval a X.env)]:=by rfl)(hs:∀x,foldedSetIterable (.Call (.Name "enumerate" p) [a] [] pos') X.env x = pure x:=by intro _;rfl):ZS X (.For (.Tuple elts kk tpos) (.Call (.Name "enumerate" p) [a] [] pos') body [] pos) (aCh ta g tb):=.i (aCE hp hc hmg ha.o hg.o hb.o hgl hse hs)
variable {scope:Scope}{N':List Str}{fr:List (Option Nat)}{oN:List Str}{osc:Scope}
end
section
variable {prog:Program}{w:World}{A:Around}{E:Value->Shared->Prop}{s:Shared}
end
section
variable {X:Cx}{pos:Pos}
end
section
variable {P:Program}{w:World}{K:Frag}{mg:Str->Option Value}{base:Heap}
end
section
variable {X:Cx}{e:Expr}{te:DE}{pos p2:Pos}{lo hi:Option Expr}{tl th:DO}
end
section
variable {X:Cx}{pins:List (Addr×Obj)}{σ:L2.St}{H:Hp}{s:Shared}{M:Model}{A:Around}{E:Value->Shared->Prop}{e T:Addr}{cls:Value}
end
section
variable {X:Cx}{e:Expr}{es:List Expr}{t:DA}{f:Str}{ps:List Str}{cond:List D->DM->Prop}{C:Addr}{k1 k:Nat}{V:DM->Prop}{pf pc:Pos}
end
section
variable {P:Program}{w:World}{K:Frag}{mg:Str->Option Value}{base:Heap}
end
section
variable {X:Cx}{a:Expr}{e tg:Expr}{es:List Expr}{t:DA}{g:DG}{f n cm:Str}{ps:List Str}{sp:DSp}{cond:List D->DM->Prop}{C Cm:Addr}{k1 k2 k j:Nat}{ts:Addr->DS}{b0:Stmt}{suite:List Stmt}{pf pc pa pcm ph pos:Pos}
end
section
variable {X:Cx}
end
section
variable {X:Cx}{pins:List (Addr×Obj)}{σ:L2.St}{H:Hp}{s:Shared}
noncomputable def blE (k:Bool):Value->Bool
 |.bool b=>b==k
 |_=>false
theorem aH3 {K:Frag}{k:Bool}:∀{bs:List Bool}{us:List V} {its:List Value},bG K H (bs.map D.bl) us->bN us its->its.any (blE k)=bs.any λb=>b==k
 |[],us,its,r,rv=>by rw[bE r] at rv;cases rv;rfl
 |b::bs,us,its,r,rv=>by
  obtain⟨w,rr,rfl,hw,hr⟩:=aR r;rw[bS hw] at rv;cases rv with
  |cons q ws =>
   cases q;rw[List.any_cons,List.any_cons,aH3 hr ws];rfl
theorem aG6 (I:Inv X pins σ H s){A:Around}(hu:A.units+60<cLine){k:Bool}{wx:V}{x:Value}(rx:bM wx x)(hx:Rep X.K H (.bl k) wx):∀{bs:List Bool}{us:List V} {its:List Value},bG X.K H (bs.map D.bl) us->bN us its->∀y∈its,SeqAt.EqAt A s y x (blE k y)
 |[],us,its,r,rv,y,hy=>by rw[bE r] at rv;cases rv;exact nomatch hy
 |b::bs,us,its,r,rv,y,hy=>by
  obtain⟨w,rr,rfl,hw,hr⟩:=aR r;cases rv with
  |cons q ws =>
   rcases List.mem_cons.mp hy with rfl|hy
   ·have:=wQ I 60 hu (d:=.bl b) (d':=.bl k) rfl rfl hw hx q rx;rw[bS hw] at q;cases q;exact this
   ·exact aG6 I hu rx hx hr ws y hy
def aHJ (g:Bool->Bool):D2:=λx y M Q=>match x,y with
 |.bl k,.ref a=>∃bs:List Bool,M a=some (bs.map D.bl)/\Q (.bl (g (bs.any λb=>b==k))) M
 |_,_=>False
theorem aES {k:Nat}(hr:cM k X.A):OpD X (compareOp .In) (aHJ id):=λpins s σ H x y v u Q I rx ry ⟨dx,dy,M,Q',r1,r2,hm,q,k⟩=>by
 match dx,dy,q with
 |.bl b,.ref a,q =>
  obtain⟨bs,ha,q⟩:=q;obtain rfl:=aO r2;cases ry;obtain⟨us,hu,ru⟩:=hm.l a _ ha;obtain⟨zz,its,nn,rv,hlen,e1⟩:=I.lstM hu;have un:=hr.un;refine SeqAt.in_listAt (blE b) ⟨_,e1,rfl,_,rfl⟩ (λy hy=>aG6 I (by show X.A.units+1+60<cLine;omega) rx r1 ru rv y (by simpa using hy)) ?_;rw[<- Array.any_toList,aH3 ru rv];exact⟨.bl _,H,I,rfl,k _ H ⟨_,M,dH,hm,.refl H,q⟩⟩
end
def Cm (M:DM):Nat->D->D->Bool->Prop
 |0,d,d',b=>bH 0 d=true/\bH 0 d'=true/\b=eqD d d'
 |n+1,d,d',b=>match d,d' with
  |.tup xs,.tup ys=>∃e:Nat->Bool,(∀j x y,xs[j]?=some x->ys[j]?=some y->Cm M n x y (e j))/\b=((range (min xs.length ys.length)).all e&&xs.length==ys.length)
  |.ref a,.ref a'=>∃xs ys,M a=some xs/\M a'=some ys/\a≠a'/\(xs.length=ys.length->∃e:Nat->Bool,(∀j x y,xs[j]?=some x->ys[j]?=some y->Cm M n x y (e j))/\b=(range xs.length).all e)/\(xs.length≠ys.length->b=false)
  |d,d'=>bH 0 d=true/\bH 0 d'=true/\b=eqD d d'
section
variable {X:Cx}{pins:List (Addr×Obj)}{σ:L2.St}{H:Hp}{s:Shared}{M:DM}
theorem aIi {n:Nat}{d d':D}{b:Bool}(h:Cm M n d d' b)(h1:∀xs,d ≠ .tup xs)(h2:∀a,d ≠ .ref a):bH 0 d=true/\bH 0 d'=true/\b=eqD d d':=by
 cases n with
 |zero=>exact h
 |succ n =>
  cases d with
  |tup xs=>exact absurd rfl (h1 xs)
  |ref a=>exact absurd rfl (h2 a)
  |_=>exact h
theorem aCT:∀(n:Nat){d d':D} {b:Bool} {v:V},Inv X pins σ H s->Cm M n d d' b->Rep X.K H d v->Rep X.K H d' v->b=true:=by
 intro n
 induction n with
 |zero =>
  intro d d' b v I h r r';rw[h.2.2];exact mP h.1 h.2.1 r r'
 |succ n ih =>
  intro d d' b v I h r r';cases d with
  |tup xs =>
   cases d' with
   |tup ys =>
    obtain⟨e,he,rfl⟩:=h;obtain⟨a,us,rfl,sq,rs⟩:=bF r;obtain⟨a',us',z,sq',rs'⟩:=bF r';cases z;obtain rfl:=I.tuple_inj sq sq';have l1:=rs.length;have l2:=rs'.length;rw[show(xs.length==ys.length)=true by simp;omega,Bool.and_true,List.all_eq_true];intro j hj;rw[List.mem_range] at hj;have j1:j<xs.length:=by omega
    have j2:j<ys.length:=by omega
    have e1:xs[j]?=some xs[j]:=getElem?_eq_getElem j1;have e2:ys[j]?=some ys[j]:=getElem?_eq_getElem j2;obtain⟨v1,w1,r1⟩:=rs.get e1;obtain⟨v2,w2,r2⟩:=rs'.get e2;rw[w1] at w2;cases w2;exact ih I (he j _ _ e1 e2) r1 r2
   |_=>exact absurd h.1 Bool.false_ne_true
  |ref a =>
   cases d' with
   |ref a' =>
    obtain⟨xs,ys,_,_,ne,_⟩:=h;rw[aO r] at r';have:=aO r';cases this;exact absurd rfl ne
   |_=>exact absurd h.1 Bool.false_ne_true
  |_=>rw[h.2.2];exact mP h.1 h.2.1 r r'
theorem wT {A:Around}{n:Nat}{e:Nat->Bool}(hm:bI X.K M H)(I:Inv X pins σ H s)(ih:∀{d d':D}{b:Bool} {v v':V} {u u':Value},Cm M n d d' b->Rep X.K H d v->Rep X.K H d' v'->bM v u->bM v' u'->SeqAt.EqAt A s u u' b){xs ys:List D}{us us':List V}{its its':List Value}(he:∀j x y,xs[j]?=some x->ys[j]?=some y->Cm M n x y (e j))(r1:bG X.K H xs us)(r2:bG X.K H ys us')(v1:bN us its)(v2:bN us' its')(j:Nat)(h1:j<its.length)(h2:j<its'.length):SeqAt.EqAt A s its[j] its'[j] (e j):=by
 have l1:=r1.length;have l2:=r2.length;have l3:=v1.length;have l4:=v2.length;have e1:xs[j]?=some (xs[j]'(by omega)):=getElem?_eq_getElem (by omega);have e2:ys[j]?=some (ys[j]'(by omega)):=getElem?_eq_getElem (by omega);obtain⟨w1,q1,p1⟩:=r1.get e1;obtain⟨w2,q2,p2⟩:=r2.get e2;obtain⟨z1,y1,k1⟩:=v1.get q1;obtain⟨z2,y2,k2⟩:=v2.get q2;have f1:its[j]=z1:=by rw[getElem?_eq_getElem h1] at y1;exact Option.some.inj y1
 have f2:its'[j]=z2:=by rw[getElem?_eq_getElem h2] at y2;exact Option.some.inj y2
 rw[f1,f2];exact ih (he j _ _ e1 e2) p1 p2 k1 k2
theorem aBm {A:Around}{n:Nat}{d d':D}{b:Bool}{a a':Addr}(hm:bI X.K M H)(I:Inv X pins σ H s)(hu:A.units+n<cLine)(ih:∀{d d':D}{b:Bool} {v v':V} {u u':Value},Cm M n d d' b->Rep X.K H d v->Rep X.K H d' v'->bM v u->bM v' u'->SeqAt.EqAt A.in1 s u u' b)(h:Cm M (n+1) d d' b)(r:Rep X.K H d (.ref a))(r':Rep X.K H d' (.ref a')):SeqAt.RcAt A s (.ref a) (.ref a') b/\SeqAt.RcNeAt A s (.ref a) (.ref a') (!b):=by
 cases d with
 |tup xs =>
  cases d' with
  |tup ys =>
   obtain⟨e,he,rfl⟩:=h;obtain⟨_,us,z,sq,rs⟩:=bF r;cases z;obtain⟨_,us',z,sq',rs'⟩:=bF r';cases z;obtain⟨its,rv,ht⟩:=gS I sq;obtain⟨its',rv',ht'⟩:=gS I sq';have e1:=rs.length;have e2:=rv.length;have e3:=rs'.length;have e4:=rv'.length;rw[show xs.length=its.toArray.size by rw[size_toArray];omega,show ys.length=its'.toArray.size by rw[size_toArray];omega];have hit:∀j (h1:j<its.toArray.size) (h2:j<its'.toArray.size),SeqAt.EqAt A.in1 s its.toArray[j] its'.toArray[j] (e j):=λj j1 j2=>by have:=wT hm I ih he rs rs' rv rv' j (by simpa using j1) (by simpa using j2);simpa using this
   exact⟨SeqAt.RcAt.tuples ht ht' (by omega) hit,SeqAt.RcNeAt.tuples ht ht' (by omega) hit⟩
  |_=>exact absurd h.1 Bool.false_ne_true
 |ref c =>
  cases d' with
  |ref c' =>
   obtain⟨xs,ys,hx,hy,ne,c1,c2⟩:=h;have:=aO r;cases this;have:=aO r';cases this;obtain⟨us,hus,ru⟩:=hm.l a xs hx;obtain⟨ws,hws,rw'⟩:=hm.l a' ys hy;obtain⟨z,its,n1,r1,hl,e⟩:=I.lstM hus;obtain⟨z2,its2,n2,r3,hl2,e2⟩:=I.lstM hws;have i1:s.heap.IsList a its.toArray:=⟨_,e,rfl,_,rfl⟩;have i2:s.heap.IsList a' its2.toArray:=⟨_,e2,rfl,_,rfl⟩;have l3:=ru.length;have l4:=rw'.length;have l5:=r1.length;have l6:=r3.length;by_cases hz:xs.length=ys.length
   ·obtain⟨e',he,rfl⟩:=c1 hz;have hsz:its.toArray.size=its2.toArray.size:=by rw[size_toArray,size_toArray];omega
    have hit:∀j (h1:j<its.toArray.size) (h2:j<its2.toArray.size),SeqAt.EqAt A.in1 s its.toArray[j] its2.toArray[j] (e' j):=λj j1 j2=>by have:=wT hm I ih he ru rw' r1 r3 j (by simpa using j1) (by simpa using j2);simpa using this
    rw[show xs.length=its.toArray.size by rw[size_toArray];omega];exact⟨SeqAt.RcAt.lists i1 i2 hsz (by omega) hit,SeqAt.RcNeAt.lists i1 i2 hsz (by omega) hit⟩
   ·have hsz:(its.toArray.size != its2.toArray.size)=true:=by rw[size_toArray,size_toArray];simp;omega
    rw[c2 hz];exact⟨SeqAt.RcAt.lists_lengths i1 i2 hsz (by omega),SeqAt.RcNeAt.lists_lengths i1 i2 hsz (by omega)⟩
  |_=>exact absurd h.1 Bool.false_ne_true
 |_=>exact(qG h.1 r).elim
theorem aH5 (hm:bI X.K M H)(I:Inv X pins σ H s):∀(n:Nat){A:Around} {d d':D} {b:Bool} {v v':V} {u u':Value},A.units+n<cLine->Cm M n d d' b->Rep X.K H d v->Rep X.K H d' v'->bM v u->bM v' u'->SeqAt.EqAt A s u u' b:=by
 intro n
 induction n with
 |zero =>
  intro A d d' b v v' u u' hu h r r' q q';rw[h.2.2];exact wQ I 0 hu h.1 h.2.1 r r' q q'
 |succ n ih =>
  intro A d d' b v v' u u' hu h r r' q q';have hu':A.in1.units+n<cLine:=by show A.units+1+n<cLine;omega
  have sc:(∀xs,d ≠ .tup xs)->(∀a,d ≠ .ref a)->SeqAt.EqAt A s u u' b:=λh1 h2=>by obtain⟨p,p',e⟩:=aIi h h1 h2;rw[e];exact wQ I 0 (by omega) p p' r r' q q'
  have sq:∀{a a':Addr},v=.ref a->v'=.ref a'->SeqAt.EqAt A s u u' b:=λ{a a'} e1 e2=>by
   subst e1 e2;cases q;cases q';by_cases c:a=a'
   ·subst c;rw[aCT (n+1) I h r r'];exact SeqAt.EqAt.same _
   ·exact SeqAt.EqAt.of_refs c (aBm hm I (by omega) (λ{d d' b v v' u u'} h r r' q q'=>ih hu' h r r' q q') h r r').1
  cases d with
  |tup xs =>
   cases d' with
   |tup ys =>
    obtain⟨a,us,e1,_⟩:=bF r;obtain⟨a',us',e2,_⟩:=bF r';exact sq e1 e2
   |_=>exact absurd h.1 Bool.false_ne_true
  |ref c =>
   cases d' with
   |ref c'=>exact sq (aO r) (aO r')
   |_=>exact absurd h.1 Bool.false_ne_true
  |_=>exact sc (λxs z=>nomatch z) λa z=>nomatch z
end
def aBG (g:Bool->Bool):D2:=λx y M Q=>(((∃xs,x=.tup xs)/\∃ys,y=.tup ys)∨((∃a,x=.ref a)/\∃b,y=.ref b))/\∃b,Cm M 20 x y b/\Q (.bl (g b)) M
section
variable {X:Cx}
theorem zG (hu:X.A.units+60<cLine):OpD X (compareOp .Eq) (aBG id)/\OpD X (compareOp .NotEq) (aBG not):=by
 have key:∀{pins:List (Addr×Obj)}{s:Shared} {σ:L2.St} {H:Hp} {x y:V} {v u:Value} {dx dy:D} {M:DM} {Q':DQ} {g:Bool->Bool},Inv X pins σ H s->bM x v->bM y u->Rep X.K H dx x->Rep X.K H dy y->bI X.K M H->aBG g dx dy M Q' ->
   ∃b,SeqAt.RcAt X.A s v u b/\SeqAt.RcNeAt X.A s v u (!b)/\Q' (.bl (g b)) M:=by
  intro pins s σ H x y v u dx dy M Q' g I rx ry r1 r2 hm ⟨sh,b,h,q⟩;have go:∀{a a':Addr},x=.ref a->y=.ref a'->∃b,SeqAt.RcAt X.A s v u b/\SeqAt.RcNeAt X.A s v u (!b)/\Q' (.bl (g b)) M:=λ{a a'} e1 e2=>by
   subst e1 e2;cases rx;cases ry;have hu':X.A.in1.units+19<cLine:=by show X.A.units+1+19<cLine;omega
   obtain⟨h1,h2⟩:=aBm hm I (n:=19) (by omega) (λ{d d' b v v' u u'} h r r' q q'=>aH5 hm I 19 hu' h r r' q q') h r1 r2;exact⟨b,h1,h2,q⟩
  rcases sh with⟨⟨xs,rfl⟩,ys,rfl⟩|⟨⟨a,rfl⟩,a',rfl⟩
  ·obtain⟨a,us,e1,_⟩:=bF r1;obtain⟨a',us',e2,_⟩:=bF r2;exact go e1 e2
  ·exact go (aO r1) (aO r2)
 refine⟨λpins s σ H x y v u Q I rx ry ⟨dx,dy,M,Q',r1,r2,hm,q,k⟩=>?_,λpins s σ H x y v u Q I rx ry ⟨dx,dy,M,Q',r1,r2,hm,q,k⟩=>?_⟩
 ·obtain⟨b,h1,_,q⟩:=key I rx ry r1 r2 hm q;exact h1 X.prog X.w X.xe _ ⟨.bl b,H,I,rfl,k _ H ⟨.bl b,M,dH,hm,.refl H,q⟩⟩
 ·obtain⟨b,_,h2,q⟩:=key I rx ry r1 r2 hm q;exact h2 X.prog X.w X.xe _ ⟨.bl (!b),H,I,rfl,k _ H ⟨.bl (!b),M,dH,hm,.refl H,q⟩⟩
theorem aCd {k:Nat}(hr:cM k X.A):OpD X (compareOp .Eq) (aBG id):=(zG (by have:=hr.un;omega)).1
theorem aA8 {k:Nat}(hr:cM k X.A):OpD X (compareOp .NotEq) (aBG not):=(zG (by have:=hr.un;omega)).2
end
mutual
theorem vK:∀{n:Nat}{d:D},bH n d=true->eqD d d=true
 |_,.non,_=>rfl
 |_,.bl b,_=>by simp[eqD]
 |_,.int b,_=>by simp[eqD]
 |_,.str b,_=>by simp[eqD]
 |n+1,.tup xs,h=>by rw[eqD];exact sU (n:=n) h
 |0,.tup xs,h=>absurd h Bool.false_ne_true
 |n,.ref a,h=>by cases n<;>exact absurd h Bool.false_ne_true
 |n,.fz a,h=>by cases n<;>exact absurd h Bool.false_ne_true
theorem sU:∀{n:Nat}{xs:List D},xs.all (bH n)=true->fY xs xs=true
 |_,[],_=>by simp[fY]
 |n,x::xs,h=>by rw[all_cons,Bool.and_eq_true] at h;show(eqD x x&&fY xs xs)=true;rw[vK h.1,sU h.2];rfl
end
theorem yP {M:DM}:∀{n:Nat}{d:D},bH n d=true->Cm M n d d true
 |0,d,h=>⟨h,h,(vK h).symm⟩
 |n+1,.tup xs,h=>⟨λ_=>true,λj x y e1 e2=>by rw[e1] at e2;cases e2;have hx:bH n x=true:=(List.all_eq_true.mp h) x (mem_of_getElem? e1);exact yP hx,by simp⟩
 |n+1,.non,h=>⟨rfl,rfl,rfl⟩
 |n+1,.bl b,h=>⟨rfl,rfl,by simp[eqD]⟩
 |n+1,.int b,h=>⟨rfl,rfl,by simp[eqD]⟩
 |n+1,.str b,h=>⟨rfl,rfl,by simp[eqD]⟩
 |n+1,.ref a,h=>absurd h Bool.false_ne_true
 |n+1,.fz a,h=>absurd h Bool.false_ne_true
theorem aAP {M:DM}{n:Nat}{a b:Addr}{xs:List D}(ha:M a=some xs)(hb:M b=some xs)(ne:a≠b)(h:∀x∈xs,bH n x=true):Cm M (n+1) (.ref a) (.ref b) true :=
 ⟨xs,xs,ha,hb,ne,λ_=>⟨λ_=>true,λj x y e1 e2=>by rw[e1] at e2;cases e2;exact yP (h x (mem_of_getElem? e1)),by simp⟩,λz=>absurd rfl z⟩
noncomputable def aGR (w:World)(kvs:List (Str×D)):List D:=kvs.map λp=>.tup [.int (hashStr w p.1),.str p.1,p.2]
section
variable {X:Cx}{pins:List (Addr×Obj)}{σ:L2.St}{H:Hp}{s:Shared}
end
section
variable {X:Cx}{pos:Pos}
end
section
variable {X:Cx}{pins:List (Addr×Obj)}{σ:L2.St}{H:Hp}{s:Shared}
end
section
variable {X:Cx}{pos:Pos}
end
def FK (K:Frag)(x:Str)(f:Addr)(st:Stmt):Prop:=nsIn K mainGlobals x=some (some (.ref f))/\∃fd,L2.Fun K x x st f fd
theorem FK.has {K:Frag}{mg:Str->Option Value}{h:Heap}{x:Str}{f:Addr}{st:Stmt}{ps:List Str}(b:FK K x f st)(X:K.In h)(G:h.Ns mainGlobals mg)(r:∀(kV doc pm:Value)(an:Option Addr) (cdv ct:Value) (us:List Value),us.length=ps.length->bindArgs (fnOf x x (jE st) (dI st) (aI st) .none kV doc pm an cdv ct) ⟨us,[]⟩=pure (ps.zip us)):cX K mg x st ps :=
 let ⟨a,_,F⟩:=b;⟨_,_,F,mg_of X G a,F.binds r⟩
section
variable {X:Cx}{pos:Pos}{st:Stmt}{t1 t2:DS}{iter tg:Expr}{body:List Stmt}{tl:DE}{g:DG}{tb:DS}
end
section
variable {X:Cx}{pos:Pos}{st:Stmt}{t1 t2:DS}{iter tg:Expr}{body:List Stmt}{tl:DE}{g:DG}{tb:DS}
end
open Mz
section
variable {prog:Program}{w:World}{A:Around}{I S:Addr}{fp wr:List Addr}{n:Nat}{P:Nat->Value->Prop}{St:Nat->Heap->Prop}{R:Result->Shared->Prop}{dv:Value}
end
section
variable {prog:Program}{w:World}{A:Around}{E:Value->Shared->Prop}{s:Shared}{l:Addr}{xs:Array (Int×Tok)}{dv:Value}
end
section
variable {X:Cx}{pos p kp:Pos}{e d:Expr}{te td:DE}
end
section
variable {X:Cx}{pos:Pos}{iter tg:Expr}{body:List Stmt}{te:DE}
end
section
variable {prog:Program}{w:World}{A:Around}{I S:Addr}{fp wr:List Addr}{n:Nat}{P:Nat->Value->Prop}{St:Nat->Heap->Prop}{R:Result->Shared->Prop}{dv:Value}
end
section
variable {prog:Program}{w:World}{A:Around}{E:Value->Shared->Prop}{s:Shared}{l:Addr}{xs:Array (Int×Tok)}{dv:Value}
end
section
variable {X:Cx}{pos p kp:Pos}{e d:Expr}{te td:DE}
end
section
variable {X:Cx}{pos:Pos}{iter tg:Expr}{body:List Stmt}{te:DE}
end
section
variable {X:Cx}{pos:Pos}{elt iter tg cnd:Expr}{scope:Scope}{N':List Str}{fr:List (Option Nat)}{tl:DE}{oN:List Str}{osc:Scope}{g:DG}{tc:DT}{te:DE}{e:Expr}{t1 t2:DE}
end
section
variable {X:Cx}{pos:Pos}{elt iter tg cnd:Expr}{scope:Scope}{N':List Str}{fr:List (Option Nat)}{tl:DE}{oN:List Str}{osc:Scope}{g:DG}{tc:DT}{te:DE}{e:Expr}{t1 t2:DE}
end
section
variable {X:Cx}{a:Expr}{e:Expr}{es:List Expr}{t:DA}{f n cm:Str}{ps:List Str}{sp:DSp}{cond:List D->DM->Prop}{C Cm:Addr}{k1 k2 k j:Nat}{ts:Addr->DS}{b0:Stmt}{suite:List Stmt}{pf pc pa pcm ph pos:Pos}
end
def aHZ (b:Bool)(j:Nat)(a:Addr):DE:=λρ M Q=>ρ[j]?=some (some (.ref a))/\Q (.bl b) M
section
variable {X:Cx}{n c:Str}{C Cc a:Addr}{o:Obj}{p p1 p2 pos:Pos}{j:Nat}
end
def aIF (t1 t2:DS):DS:=λE ρ M=>t1 E ρ M∨t2 E ρ M
section
variable {X:Cx}{st:Stmt}{t1 t2:DS}
end
section
variable {prog:Program}{w:World}{A:Around}{E:Value->Shared->Prop}{s:Shared}
end
section
variable {X:Cx}
end
def aHh (i:Nat)(te:DE):DS:=λE ρ M=>match ρ[i]? with
 |some (some d)=>te ρ M λy M1=>aBg d y M1 λr M2=>E.nx (ρ.set i (some r)) M2
 |_=>False
section
variable {X:Cx}{e:Expr}{te:DE}{x:Str}{pos:Pos}
end
section
variable {X:Cx}{a:Expr}{e:Expr}{es:List Expr}{t:DA}{f n cm:Str}{ps:List Str}{sp:DSp}{cond:List D->DM->Prop}{C Cm:Addr}{k1 k2 k j:Nat}{ts:Addr->DS}{b0:Stmt}{suite:List Stmt}{pf pc pa pcm ph pos:Pos}
end
section
variable {X:Cx}{n c:Str}{C Cc a:Addr}{o:Obj}{p p1 p2 pos:Pos}{j:Nat}
end
section
variable {X:Cx}{st:Stmt}{t1 t2:DS}
end
section
variable {prog:Program}{w:World}{A:Around}{E:Value->Shared->Prop}{s:Shared}
end
section
variable {X:Cx}
end
section
variable {X:Cx}{e:Expr}{te:DE}{x:Str}{pos:Pos}
end
section
variable {prog:Program}{w:World}{A:Around}{E:Value->Shared->Prop}{s:Shared}
end
def aHe:DSp:=λds M Q=>match ds with
 |[.tup [.int a,.int b]]=>Q (.int (if b > a then b else a)) M
 |_=>False
section
variable {X:Cx}
end
section
variable {X:Cx}{o e:Expr}{to te:DE}{pos:Pos}
def aB5 (to te:DE):DE:=λρ M Q=>to ρ M λx M1=>match x with
 |.ref p=>(∃ds,M1 p=some ds)/\fT te lF ρ M1 λys M2=>∃ds y,ys=[y]/\M2 p=some ds/\ds.length<10000000/\Q .non (bC M2 p (ds++[y]))
 |_=>False
def aAM (to te:DE):DE:=λρ M Q=>to ρ M λx M1=>match x with
 |.ref p=>(∃ds,M1 p=some ds)/\fT te lF ρ M1 λys M2=>∃ds q es,ys=[.ref q]/\M2 p=some ds/\M2 q=some es/\ds.length+es.length<=10000000/\Q .non (bC M2 p (ds++es))
 |_=>False
end
section
variable {X:Cx}{pos:Pos}
def aFd:D2:=λx y M Q=>match x,y with
 |.tup ds,.int k=>-(2^62)<=k/\k<2^62/\ds.length*k.toNat<=10000000/\Q (.tup (replicate k.toNat ds).flatten) M
 |_,_=>False
def aBZ:D2:=λx y M Q=>match x,y with
 |.tup xs,.tup ys=>xs.length+ys.length<=10000000/\Q (.tup (xs++ys)) M
 |_,_=>False
end
section
variable {X:Cx}
end
def aGm (i:Nat)(te:DE):DS:=λE ρ M=>match ρ[i]? with
 |some (some d)=>te ρ M λy M1=>aBZ d y M1 λr M2=>E.nx (ρ.set i (some r)) M2
 |_=>False
section
variable {X:Cx}{e:Expr}{te:DE}{x:Str}{pos:Pos}
end
section
variable {X:Cx}{o e:Expr}{to te:DE}{pos:Pos}
end
section
variable {X:Cx}{pos:Pos}
end
section
variable {X:Cx}
end
section
variable {X:Cx}{e:Expr}{te:DE}{x:Str}{pos:Pos}
end
open PySem.W (InstAt findIn clsIn takerIn mroIn looks_findIn looks_clsIn looks_mroIn)
open PySem.Builtin PySem.Builtin.ObjectAttr
section
variable {K:Frag}{prog:Program}{w:World}{A:Around}{E:Value->Shared->Prop}{s:Shared}{x C:Addr}{ox:Obj}{name:Str}{v:Value}
end
section
variable {X:Cx}{pins:List (Addr×Obj)}{σ:L2.St}{H:Hp}{s:Shared}{e C:Addr}{f:Str}{y:V}{u:Value}
end
open PySem.W (InstAt findIn clsIn takerIn mroIn looks_findIn looks_clsIn looks_mroIn)
section
variable {X:Cx}{o value:Expr}{f:Str}{pos pos':Pos}{ta tv:TE}
end
section
variable {P:Program}{w:World}{K:Frag}{mg:Str->Option Value}{base:Heap}
end
section
variable {prog:Program}{w:World}{A:Around}{E:Value->Shared->Prop}{s:Shared}{K:Frag}
variable {nm qn:Str}{C N fI:Addr}{bs bm:List Value}{hdct:Bool}{sn:List Str}{sub:List Value}{ab:Bool}{col:Option Bool}{dd:Option Addr}{k0 k1 k2 k3 k5:Option Value}
end
open PySem.W (InstAt findIn clsIn takerIn mroIn looks_findIn looks_clsIn looks_mroIn)
def TrY (od:Option Addr)(h:Heap)(e:Addr)(cls:Value)(T:Addr)(fl:Value):Prop :=
 ∃oe vs oT ts,h.get? e=some oe/\(oe.cls=cls/\oe.dict=od)/\oe.data=.fields vs/\vs[1]?=some (.ref T)/\T≠e/\h.get? T=some oT/\oT.data=.fields ts/\ts[3]?=some fl
section
variable {X:Cx}{pins:List (Addr×Obj)}{σ:L2.St}{H:Hp}{s:Shared}{M:Model}{A:Around}{E:Value->Shared->Prop}{e T:Addr}{cls:Value}{od:Option Addr}
end
noncomputable def CXy (P:Program)(w:World):CXT:=λouter H s E e s'=>∃(a:Addr)(cls:Value) (T:Addr) (H':Hp) (od:Option Addr),e=Value.ref a/\s'.os=s.os/\AllBare s'.gens/\Un (frs outer) [] H H' s.heap s'.heap/\HOk P w H' s'.heap /\
 TrY od s'.heap a cls T .none/\s.heap.get? a=none/\s.heap.get? T=none/\H' a=none/\H' T=none/\E cls od H'
def aHC (V:Int->DM->Prop)(ds:List D)(M:DM):Prop:=match ds with
 |[.int i]=>V i M
 |_=>False
def aCU (V:Int->DM->Prop)(te:DE):DS:=λ_ ρ M=>fT te lF ρ M (aHC V)
section
variable {X:Cx}{pins:List (Addr×Obj)}{σ:L2.St}{H:Hp}{s:Shared}{x f:Str}{C:Addr}{k:Nat}{i:Int}
end
section
variable {X:Cx}{x:Str}{V:Int->DM->Prop}{e:Expr}{te:DE}{np cpos pos:Pos}{k:Nat}
end
open PySem.W (InstAt findIn clsIn takerIn mroIn looks_findIn looks_clsIn looks_mroIn)
def aEp (V:Int->DM->Prop)(cond:List D->DM->Int->Prop)(t:DA):DE:=λρ M _=>t ρ M λds M1=>∃i,cond ds M1 i/\∀M',aT M1 M'->V i M'
noncomputable def XW (K:Frag)(C:Addr)(f:Str)(M1:DM)(i:Int):XK:=λc od H'=>c=.ref C/\∃dx M',od=some dx/\bI K M' H'/\aT M1 M'/\H' dx=some (.xd [(f,.int i)])
section
variable {X:Cx}{e:Expr}{es:List Expr}{t:DA}{fn f:Str}{ps:List Str}{cond:List D->DM->Int->Prop}{C:Addr}{k1 k:Nat}{V:Int->DM->Prop}{pf pc:Pos}
end
section
variable {P:Program}{w:World}{K:Frag}{mg:Str->Option Value}{base:Heap}
end
section
variable {X:Cx}{pins:List (Addr×Obj)}{σ:L2.St}{H:Hp}{s:Shared}{a e:Addr}{o:Obj}{fs:List (Str×V)}
end
def aHS (sp:DSp)(cond:List D->DM->Int->Prop)(j:Nat)(t:DA)(nx:iD->D->cC->DM->Prop)(ts:Addr->Int->DS):DS:=λD ρ M=>t ρ M λds M1 =>
 (∃i,cond ds M1 i/\∀a,ts a i (D.un j) (ρ.set j (some (.ref a))) M1)∨sp ds M1 λd M2=>nx D d ρ M2
section
variable {X:Cx}{a:Expr}{e:Expr}{es:List Expr}{t:DA}{x f n cm fl:Str}{ps:List Str}{sp:DSp}{cond:List D->DM->Int->Prop}{C Cm:Addr}{k1 k2 k i j:Nat}{ts:Addr->Int->DS}{b0:Stmt}{suite:List Stmt}{px pf pc pa pcm ph pos:Pos}
end
def aIL (j:Nat)(a:Addr)(i:Int):DE:=λρ M Q=>ρ[j]?=some (some (.ref a))/\Q (.int i) M
section
variable {X:Cx}{n f:Str}{C a dx:Addr}{o oD:Obj}{p pos:Pos}{j:Nat}{i:Int}{tk:Tok}
end
def aIl (tab:List (Str×Int))(non:List Str)(Q:DQ)(ds:List D)(M1:DM):Prop:=match ds with
 |[.str k]=>(∃n,tab.lookup k=some n/\Q (.int n) M1)∨(k∈non/\Q .non M1)
 |_=>False
def aGY (tab:List (Str×Int))(non:List Str)(te:DE):DE:=λρ M Q=>fT te lF ρ M (aIl tab non Q)
section
variable {X:Cx}{x:Str}{tab:List (Str×Int)}{non:List Str}{p apos cpos:Pos}{e:Expr}{te:DE}
end
section
variable {X:Cx}{pins:List (Addr×Obj)}{σ:L2.St}{H:Hp}{s:Shared}{M:Model}{A:Around}{E:Value->Shared->Prop}{e T:Addr}{cls:Value}{od:Option Addr}
end
section
variable {X:Cx}{pins:List (Addr×Obj)}{σ:L2.St}{H:Hp}{s:Shared}{x f:Str}{C:Addr}{k:Nat}{i:Int}
end
section
variable {X:Cx}{x:Str}{V:Int->DM->Prop}{e:Expr}{te:DE}{np cpos pos:Pos}{k:Nat}
end
section
variable {X:Cx}{e:Expr}{es:List Expr}{t:DA}{fn f:Str}{ps:List Str}{cond:List D->DM->Int->Prop}{C:Addr}{k1 k:Nat}{V:Int->DM->Prop}{pf pc:Pos}
end
section
variable {P:Program}{w:World}{K:Frag}{mg:Str->Option Value}{base:Heap}
end
section
variable {X:Cx}{pins:List (Addr×Obj)}{σ:L2.St}{H:Hp}{s:Shared}{a e:Addr}{o:Obj}{fs:List (Str×V)}
end
section
variable {X:Cx}{a:Expr}{e:Expr}{es:List Expr}{t:DA}{x f n cm fl:Str}{ps:List Str}{sp:DSp}{cond:List D->DM->Int->Prop}{C Cm:Addr}{k1 k2 k i j:Nat}{ts:Addr->Int->DS}{b0:Stmt}{suite:List Stmt}{px pf pc pa pcm ph pos:Pos}
end
section
variable {X:Cx}{n f:Str}{C a dx:Addr}{o oD:Obj}{p pos:Pos}{j:Nat}{i:Int}{tk:Tok}
end
section
variable {X:Cx}{x:Str}{tab:List (Str×Int)}{non:List Str}{p apos cpos:Pos}{e:Expr}{te:DE}
end
def aHP (w:World)(a:Addr)(Q:DQ)(ds:List D)(M2:DM):Prop:=match ds with
 |[.str k,dv]=>∃kvs,M2 (.d a)=some (aGR w kvs)/\(kvs.map (·.1)).Nodup/\Q (((kvs.find? λp=>decide (p.1=k)).map (·.2)).getD dv) M2
 |_=>False
def aHx (w:World)(to te ti:DE):DE:=λρ M Q=>to ρ M λx M1=>match x with
 |.ref a=>(∃kvs,M1 (.d a)=some (aGR w kvs)/\(kvs.map (·.1)).Nodup)/\fT te (fT ti lF) ρ M1 (aHP w a Q)
 |_=>False
section
variable {X:Cx}{o e e2:Expr}{to te ti:DE}{apos cpos pos:Pos}
end
section
open PySem.W PySem.Calls
variable {prog:Program}{w:World}{A:Around}{E:Value->Shared->Prop}{s:Shared}{K:Frag}{x C D:Addr}{ox:Obj}{od:Option Obj}
end
section
variable {X:Cx}{n c:Str}{C Cc a dx:Addr}{o oD:Obj}{p p1 p2 pos:Pos}{j:Nat}
end
def aCq (g:Bool->Bool)(ta:DE)(tn:DA):DE:=λρ M Q=>ta ρ M λx M1=>tn ρ M1 λds M2=>match x,ds with
 |.int k,[.int i,.int j]=>Q (.bl (g (decide (i<=k/\k<j)))) M2
 |_,_=>False
section
variable {X:Cx}{a n m:Expr}{ta:DE}{tn:DA}{pos p pos':Pos}
end
section
variable {X:Cx}{o e e2:Expr}{to te ti:DE}{apos cpos pos:Pos}
end
section
variable {prog:Program}{w:World}{A:Around}{E:Value->Shared->Prop}{s:Shared}{K:Frag}{x C D:Addr}{ox:Obj}{od:Option Obj}
end
section
variable {X:Cx}{n c:Str}{C Cc a dx:Addr}{o oD:Obj}{p p1 p2 pos:Pos}{j:Nat}
end
section
variable {X:Cx}{a n m:Expr}{ta:DE}{tn:DA}{pos p pos':Pos}
end
end Dd
namespace Ty
open PySem PySem.Builtin PySem.Builtin.Str PySem.StrLaws
noncomputable abbrev cl (x:Str):List Nat:=x.cps.toList
noncomputable abbrev one (c:Nat):Str:=⟨#[c]⟩
theorem ext {x y:Str}(h:cl x=cl y):x=y:=Str.ext' (Array.toList_inj.mp h)
end Ty
namespace Dd
open PySem PySem.Spec PyProof.Rows L2 Mz
open PySem.Builtin.Str (glued occurrences partsBetween strSub subAt)
def aH9:D2:=λx y M Q=>match x,y with
 |.str i,.str j=>i.length+j.length<=1000000/\Q (.str (i++j)) M
 |_,_=>False
def aIq:D2:=λx y M Q=>match x,y with
 |.str i,.int n=>(n=0∨n=1)/\Q (.str (if n=1 then i else Str.empty)) M
 |_,_=>False
def aIy:DSp:=λds M Q=>match ds with
 |[.int i]=>i.natAbs.log2<1920/\Q (.str (toString i)) M
 |_=>False
def aGT:DSp:=λds M Q=>match ds with
 |[.str x]=>∃n,PySem.intText? x=some n/\x.length<=640/\Q (.int n) M
 |_=>False
section
variable {X:Cx}
noncomputable def aFD (x y:Str):Bool:=decide (0+y.length<=x.length)&&subAt x y 0
noncomputable def aIu (x:Str):Bool:=x.cps.all (·<128)
noncomputable def aI2 (x:Str):Bool:=x.length > 0&&x.cps.all Unicode.isDigit
end
open PySem.Builtin.Str (glued)
section
variable {prog:Program}{w:World}{A:Around}{E:Value->Shared->Prop}{s:Shared}
end
section
variable {X:Cx}{pos:Pos}{e a b o e1 e2 e3:Expr}{es:List Expr}{te ta tb to t1 t2 t3:DE}{apos cpos:Pos}
def aHl (t:DGs):DG:=λd ρ M Q=>match d with
 |.ref a=>∃d0 ds,M a=some (d0::ds)/\∀p:Addr,M p=none->t [d0,.ref p] ρ (bC M p ds) Q
 |_=>False
def aD6 (sep:Str)(Q:DQ)(ds:List D)(M2:DM):Prop:=match ds with
 |[.ref a]=>∃ss:List Str,M2 a=some (ss.map D.str)/\(ss.map (·.length)).sum+ss.length*sep.length<=1000000/\Q (.str (glued sep ss)) M2
 |_=>False
def aHb (to te:DE):DE:=λρ M Q=>to ρ M λx M1=>match x with
 |.str sep=>fT te lF ρ M1 (aD6 sep Q)
 |_=>False
def aBM (y:Str)(Q:DQ)(ds:List D)(M2:DM):Prop:=match ds with
 |[.str z]=>∃c ss,z=Ty.one c/\y=glued (Ty.one c) ss/\ss≠[]/\(∀s∈ss,c∉Ty.cl s)/\c<256/\y.length<=900000/\∀p:Addr,M2 p=none->Q (.ref p) (bC M2 p (ss.map D.str))
 |_=>False
def aEn (to te:DE):DE:=λρ M Q=>to ρ M λx M1=>match x with
 |.str y=>fT te lF ρ M1 (aBM y Q)
 |_=>False
def aD4 (y:Str)(Q:DQ)(ds:List D)(M2:DM):Prop:=match ds with
 |[.str z]=>∃c,z=Ty.one c/\y.length<=900000/\((c∉Ty.cl y/\Q (.tup [.str y,.str Str.empty,.str Str.empty]) M2)∨(∃a b:Str,Ty.cl y=Ty.cl a++c::Ty.cl b/\c∉Ty.cl a/\Q (.tup [.str a,.str (Ty.one c),.str b]) M2))
 |_=>False
def aG0 (to te:DE):DE:=λρ M Q=>to ρ M λx M1=>match x with
 |.str y=>fT te lF ρ M1 (aD4 y Q)
 |_=>False
def aBj (y:Str)(Q:DQ)(ds:List D)(M2:DM):Prop:=match ds with
 |[.str z]=>Q (.bl (aFD y z)) M2
 |_=>False
def aE1 (to te:DE):DE:=λρ M Q=>to ρ M λx M1=>match x with
 |.str y=>fT te lF ρ M1 (aBj y Q)
 |_=>False
def aIT (to:DE):DE:=λρ M Q=>to ρ M λx M1=>match x with
 |.str y=>Q (.bl (aIu y)) M1
 |_=>False
def aI1 (to:DE):DE:=λρ M Q=>to ρ M λx M1=>match x with
 |.str y=>Q (.bl (aI2 y)) M1
 |_=>False
end
section
variable {X:Cx}{pos p0 p1 p2 p3 p4:Pos}{e e1 e2:Expr}{te t1 t2:DE}{lo hi:Option Expr}{tl th:DO}{c:Str}
def aDU (x:D)(lo hi:Option Int)(M:DM)(Q:DQ):Prop:=match x,lo,hi with
 |.str y,some i,none=>y.length<=1000000/\Q (.str (Txt.slice y (some i) none)) M
 |_,_,_=>False
def aIr (te:DE)(tl th:DO):DE:=λρ M Q=>te ρ M λx M1=>tl ρ M1 λl M2=>th ρ M2 λh M3=>aDU x l h M3 Q
def aIV (te:DE):DE:=λρ M Q=>te ρ M λx M1=>match x with
 |.int i=>i.natAbs.log2<1920/\Q (.str (toString i)) M1
 |_=>False
def aIG (c:Str)(te:DE):DE:=λρ M Q=>te ρ M λx M1=>match x with
 |.int i=>i.natAbs.log2<1920/\(c++Str.ofString (toString i)).length<=1000000/\Q (.str (c++Str.ofString (toString i))) M1
 |_=>False
def aIQ (c:Str)(t1 t2:DE):DE:=λρ M Q=>t1 ρ M λx M1=>match x with
 |.int i=>i.natAbs.log2<1920/\(Str.ofString (toString i)++c).length<=1000000/\t2 ρ M1 λy M2=>match y with
  |.int n=>n.natAbs.log2<1920/\(Str.ofString (toString i)++c++Str.ofString (toString n)).length<=1000000/\Q (.str (Str.ofString (toString i)++c++Str.ofString (toString n))) M2
  |_=>False
 |_=>False
noncomputable def aF4:D->Bool
 |.non=>true
 |_=>false
def aID (g:Bool->Bool):D2:=λx y M Q=>match x,y with
 |.non,.ref a=>∃ds,M a=some ds/\ds.all (bH 60)=true/\Q (.bl (g (ds.any aF4))) M
 |_,_=>False
def aIW (K:Frag)(T1 T2:String)(te:DE):DE:=λρ M Q=>te ρ M λd M1=>∃T k,tyD d=some T/\PySem.W.kitAny K (.type T) [.type T1,.type T2]=some k/\Q (.bl k) M1
end
section
variable {prog:Program}{w:World}{A:Around}{E:Value->Shared->Prop}{s:Shared}
end
section
variable {X:Cx}{pos:Pos}{e a b o e1 e2 e3:Expr}{es:List Expr}{te ta tb to t1 t2 t3:DE}{apos cpos:Pos}
end
section
variable {X:Cx}{pos p0 p1 p2 p3 p4:Pos}{e e1 e2:Expr}{te t1 t2:DE}{lo hi:Option Expr}{tl th:DO}{c:Str}
end
end Dd
namespace Ty
open PySem PySem.Builtin.Str PySem.NumText PyProof.Rows
end Ty
namespace Dd
open PySem PySem.Spec PyProof.Rows L2 Mz
section
variable {prog:Program}{w:World}{A:Around}{E:Value->Shared->Prop}{s:Shared}
end
section
variable {X:Cx}{x:Str}{e:Expr}{te:DE}{pos:Pos}
def aAQ:D2:=λx y M Q=>match x,y with
 |.ref l,.ref b=>∃xs zs,M l=some xs/\M b=some zs/\xs.length+zs.length<=1000/\Q (.ref l) (bC M l (xs++zs))
 |_,_=>False
def aIa (i:Nat)(te:DE):DS:=λE ρ M=>match ρ[i]? with
 |some (some z)=>te ρ M λd M1=>aAQ z d M1 λr M2=>E.nx (ρ.set i (some r)) M2
 |_=>False
end
section
variable {prog:Program}{w:World}{A:Around}{E:Value->Shared->Prop}{s:Shared}
end
section
variable {X:Cx}{x:Str}{e:Expr}{te:DE}{pos:Pos}
end
inductive XC where
 |x (C:Addr)
 |y (C:Addr) (f:Str) (i:Int)
abbrev XV:=XC->cC->DM->Prop
def aI9 (X:Cx)(H1:Hp)(s1:Shared)(M1:DM)(ev:Value)(s':Shared):XC->Prop
 |.x C=>CXr X.prog X.w X.stack H1 s1 (λc _ H'=>c=.ref C/\∃M',bI X.K M' H'/\aT M1 M') ev s'
 |.y C f i=>CXy X.prog X.w X.stack H1 s1 (XW X.K C f M1 i) ev s'
def XOk (X:Cx)(pins:List (Addr×Obj))(H:Hp)(V:XV)(E':Value->Shared->Prop):Prop :=
 ∀xc σ H1 s1 M1 ρ ev s',Inv X pins σ H1 s1->fA X.K H1 ρ σ->Ext H H1->V xc ρ M1->aI9 X H1 s1 M1 ev s' xc->E' ev s'
theorem XOk.at {X:Cx}{pins:List (Addr×Obj)}{H H':Hp}{V:XV}{E':Value->Shared->Prop}(h:XOk X pins H V E')(e:Ext H H'):XOk X pins H' V E' :=
 λxc σ H1 s1 M1 ρ ev s' I re ex v y=>h xc σ H1 s1 M1 ρ ev s' I re (e.trans ex) v y
def aIO (t:DS):XV->DS:=λ_=>t
def aHg (t u:XV->DS):XV->DS:=λV E ρ M=>t V { E with nx:=u V E } ρ M
def aIU (tc:DT)(t u:XV->DS):XV->DS:=λV E ρ M=>tc ρ M λc M1=>if c=true then t V E ρ M1 else u V E ρ M1
def aFy (R:List D->DM->XC->Prop)(sp:DSp)(t:DA)(nx:iD->D->cC->DM->Prop):XV->DS:=λV D ρ M=>t ρ M λds M1=>(∃xc,R ds M1 xc/\V xc ρ M1)∨sp ds M1 λd M2=>nx D d ρ M2
def aG9 (i:Nat):iD->D->cC->DM->Prop:=λD d ρ M=>D.nx (ρ.set i (some d)) M
def aG4:iD->D->cC->DM->Prop:=λD d _ M=>D.rt d M
section
variable {X:Cx}{st:Stmt}{bV a b:List Stmt}{t:DS}{tb ub:XV->DS}{c:Expr}{tc:DT}{pos:Pos}
end
section
variable {X:Cx}{e:Expr}{es:List Expr}{t:DA}{x f:Str}{ps:List Str}{sp:DSp}{R:List D->DM->XC->Prop}{k2 k i:Nat}{px pf pc pa:Pos}
end
def aHn (tb:XV->DS)(v:iD->XV):DS:=λDe ρ M=>tb (v De) De ρ M
section
variable {X:Cx}{n cm f1 f2:Str}{CX C1 C2 Cm:Addr}{j:Nat}{tX:Addr->DS}{t1 t2:Addr->Int->DS}{body suite:List Stmt}{b0:Stmt}{tb:XV->DS}{pcm ph pos:Pos}
end
section
variable {X:Cx}{o e:Expr}{to te:DE}
def aBB (p:Addr)(Q:DQ)(ys:List D)(M2:DM):Prop:=match ys with
 |[.bl k]=>∃bs:List Bool,M2 p=some (bs.map D.bl)/\Q (.int ((bs.countP (·==k):Nat):Int)) M2
 |_=>False
def aFj (to te:DE):DE:=λρ M Q=>to ρ M λx M1=>match x with
 |.ref p=>(∃ds,M1 p=some ds)/\fT te lF ρ M1 (aBB p Q)
 |_=>False
end
section
variable {X:Cx}{n cm f1:Str}{CX C1 Cm:Addr}{j:Nat}{tX:Addr->DS}{t1:Addr->Int->DS}{body suite:List Stmt}{b0:Stmt}{tb:XV->DS}{pcm ph pos:Pos}
end
section
variable {X:Cx}{f fl:Str}{ps:List Str}{C:Addr}{k k1:Nat}{R1 R2:List D->DM->XC->Prop}
end
section
variable {X:Cx}{n c:Str}{C Cc a:Addr}{o:Obj}{p p1 p2 pos:Pos}{j:Nat}
end
section
variable {X:Cx}{st:Stmt}{bV a b:List Stmt}{t:DS}{tb ub:XV->DS}{c:Expr}{tc:DT}{pos:Pos}
end
section
variable {X:Cx}{e:Expr}{es:List Expr}{t:DA}{x f:Str}{ps:List Str}{sp:DSp}{R:List D->DM->XC->Prop}{k2 k i:Nat}{px pf pc pa:Pos}
end
section
variable {X:Cx}{n cm f1 f2:Str}{CX C1 C2 Cm:Addr}{j:Nat}{tX:Addr->DS}{t1 t2:Addr->Int->DS}{body suite:List Stmt}{b0:Stmt}{tb:XV->DS}{pcm ph pos:Pos}
end
section
variable {X:Cx}{o e:Expr}{to te:DE}
end
section
variable {X:Cx}{n cm f1:Str}{CX C1 Cm:Addr}{j:Nat}{tX:Addr->DS}{t1:Addr->Int->DS}{body suite:List Stmt}{b0:Stmt}{tb:XV->DS}{pcm ph pos:Pos}
end
section
variable {X:Cx}{f fl:Str}{ps:List Str}{C:Addr}{k k1:Nat}{R1 R2:List D->DM->XC->Prop}
end
section
variable {X:Cx}{n c:Str}{C Cc a:Addr}{o:Obj}{p p1 p2 pos:Pos}{j:Nat}
end
section
variable {prog:Program}{w:World}{A:Around}{I S:Addr}{fp wr:List Addr}{n:Nat}{P:Nat->Value->Prop}{St:Nat->Heap->Prop}{R:Result->Shared->Prop}{dv:Value}
end
section
variable {prog:Program}{w:World}{A:Around}{E:Value->Shared->Prop}{s:Shared}{l:Addr}{xs:Array (Int×Tok)}{dv:Value}
end
section
variable {X:Cx}{pos p kp:Pos}{e d:Expr}{te td:DE}
def aHd (te td:DE):DE:=λρ M Q=>te ρ M λx M1=>td ρ M1 λy M2=>match x,y with
 |.ref a,.int k=>∃ns:List Int,M2 a=some (ns.map D.int)/\∀m:Int,(ns=[]->m=k)->(∀n∈ns,n<=m)->Q (.int m) M2
 |_,_=>False
end
section
variable {prog:Program}{w:World}{A:Around}{I S:Addr}{fp wr:List Addr}{n:Nat}{P:Nat->Value->Prop}{St:Nat->Heap->Prop}{R:Result->Shared->Prop}{dv:Value}
end
section
variable {prog:Program}{w:World}{A:Around}{E:Value->Shared->Prop}{s:Shared}{l:Addr}{xs:Array (Int×Tok)}{dv:Value}
end
section
variable {X:Cx}{pos p kp:Pos}{e d:Expr}{te td:DE}
end
def aHH:DSp:=λds M Q=>match ds with
 |[.int i]=>i.natAbs.log2<1920/\Q (.str (toString i)) M
 |[.str x]=>Q (.str x) M
 |_=>False
section
variable {X:Cx}
end
section
variable {X:Cx}{n cm fl:Str}{C Cm:Addr}{j:Nat}{ts:Addr->Int->DS}{b0:Stmt}{suite:List Stmt}{pcm ph pos:Pos}
end
section
variable {X:Cx}{n c1 c2 f1 f2:Str}{C1 C2 D1 D2:Addr}{j:Nat}{t1 t2:Addr->Int->DS}{body s1 s2:List Stmt}{b1 b2:Stmt}{h3:ExceptHandler}{tb:XV->DS}{p1 p2 ph1 ph2 pos:Pos}
end
section
variable {X:Cx}{n cm fl:Str}{C Cm:Addr}{j:Nat}{ts:Addr->Int->DS}{b0:Stmt}{suite:List Stmt}{pcm ph pos:Pos}
end
section
variable {X:Cx}{n c1 c2 f1 f2:Str}{C1 C2 D1 D2:Addr}{j:Nat}{t1 t2:Addr->Int->DS}{body s1 s2:List Stmt}{b1 b2:Stmt}{h3:ExceptHandler}{tb:XV->DS}{p1 p2 ph1 ph2 pos:Pos}
end
end Dd
namespace L2
open PySem PySem.Spec PyProof.Rows
section
variable {prog:Program}{w:World}{A:Around}{E:Value->Shared->Prop}{s:Shared}
end
end L2
namespace Dd
open PySem PySem.Spec PyProof.Rows L2
section
variable {X:Cx}{pos:Pos}{body:List Stmt}{g:DG}{tb:DS}{ta:DA}
def aHp (ds:List D)(g:DG)(tb:DS):DS:=λE ρ M=>∃Pv:Nat->cC->DM->Prop,Pv 0 ρ M /\
 (∀i d ρ M,ds[i]?=some d->Pv i ρ M->g (.tup [.int i,d]) ρ M λρ2 M2=>tb { E with nx:=Pv (i+1),ct:=Pv (i+1),bk:=E.nx } ρ2 M2)/\∀ρ M,Pv ds.length ρ M->E.nx ρ M
def aFf (ta:DA)(g:DG)(tb:DS):DS:=λE ρ M=>ta ρ M λds M1=>match ds with
 |[.tup xs]=>aHp xs g tb E ρ M1
 |_=>False
end
section
variable {X:Cx}{pos:Pos}{body:List Stmt}{g:DG}{tb:DS}{ta:DA}
end
def qL (K:Frag)(C:Addr)(m qual:Str)(st:Stmt)(ps:List Str):Prop:=∃f fd,xI K C m f/\L2.Fun K m qual st f fd/\hX K fd ps []
def nA (P:Program)(w:World)(K:Frag)(mg:Str->Option Value)(base:Heap)(k:Nat)(C:Addr)(m:Str)(ps:List Str)(sp:DSp):Prop :=
 ∃f fd,Cls K C/\xI K C m f/\iM P w K mg base CX0 k f fd ps (mM K sp)/\hX K fd ps []
def aCa (K:Frag)(mg:Str->Option Value)(x:Str)(C:Addr)(qual:Str)(st:Stmt)(ps:List Str):Prop:=∃f fd,Mk K C f/\mg x = some (.ref C)/\L2.Fun K "__init__" qual st f fd/\hX K fd ps []
def xY (P:Program)(w:World)(K:Frag)(mg:Str->Option Value)(base:Heap)(k:Nat)(x:Str)(C:Addr)(ps:List Str)(sp:DSp):Prop :=
 ∃f fd,Mk K C f/\mg x=some (.ref C)/\iM P w K mg base CX0 k f fd ps (mM K sp)/\hX K fd ps []
structure rK (K:Frag)(C:Addr)(fs:List Str):Prop where
 cls:Cls K C
 no:∀f∈fs,mC K C f
section
variable {P:Program}{w:World}{K:Frag}{mg:Str->Option Value}{base:Heap}
theorem nA.mkZ {C:Addr}{m qual:Str}{st:Stmt}{N ps:List Str}{k:Nat}{sp:DSp}(h:qL K C m qual st ps)(c:Cls K C)(S:aQ N ps (aI st))(len:∀ds M Q,sp ds M Q->ds.length=ps.length)(hbody:∀(f:Addr)(cdv:Value) (A:Around) (outer:List Env) (s:Shared) (H:Hp) (ds:List D) (M:DM) (Q:DQ) (E:XK),cM k (A.deeper (envOfC qual (aI st) s.heap.objs.size f cdv))->sp ds M Q ->
   ∃t,ZSs (nZ CX0 P w K mg base N qual (aI st) f cdv A outer s H E).nox (dI st) t/\t { nx:=λ_ M'=>Dn Q .non M',rt:=Dn Q } (iA N ds) M):nA P w K mg base (k+1) C m ps sp:=by
 obtain⟨f,fd,hm,F,hb⟩:=h;exact⟨f,fd,c,hm,Fun.okZ F S len λcdv A outer s H ds M Q E hr q=>hbody f cdv A outer s H ds M Q E hr q,hb⟩
theorem xY.mkZ {x:Str}{C:Addr}{qual:Str}{st:Stmt}{N ps:List Str}{k:Nat}{sp:DSp}(h:aCa K mg x C qual st ps)(S:aQ N ps (aI st))(len:∀ds M Q,sp ds M Q->ds.length=ps.length)(hbody:∀(f:Addr)(cdv:Value) (A:Around) (outer:List Env) (s:Shared) (H:Hp) (ds:List D) (M:DM) (Q:DQ) (E:XK),cM k (A.deeper (envOfC qual (aI st) s.heap.objs.size f cdv))->sp ds M Q ->
   ∃t,ZSs (nZ CX0 P w K mg base N qual (aI st) f cdv A outer s H E).nox (dI st) t/\t { nx:=λ_ M'=>Dn Q .non M',rt:=Dn Q } (iA N ds) M):xY P w K mg base (k+1) x C ps sp:=by
 obtain⟨f,fd,hm,hx,F,hb⟩:=h;exact⟨f,fd,hm,hx,Fun.okZ F S len λcdv A outer s H ds M Q E hr q=>hbody f cdv A outer s H ds M Q E hr q,hb⟩
end
noncomputable def aDP (f:Str)(v:D):List (Str×D)->List (Str×D)
 |[]=>[(f,v)]
 |(g,x)::r=>if g=f then (g,v)::r else (g,x)::aDP f v r
theorem wM {K:Frag}{H:Hp}{f:Str}{d:D}{v:V}(rd:Rep K H d v):∀{gs:List (Str×D)}{fs:List (Str×V)},kZ K H gs fs->kZ K H (aDP f d gs) (jM f v fs)
 |[],_,.nil=>.cons ⟨rfl,rd⟩ .nil
 |(g,x)::gs,(h,y)::fs,.cons r rr=>by
  obtain⟨e,r2⟩:=r;obtain rfl:g=h:=e;show kZ K H (if g=f then (g,d)::gs else (g,x)::aDP f d gs) (if g=f then (g,v)::fs else (g,y)::jM f v fs);by_cases z:g=f
  ·rw[if_pos z,if_pos z];exact .cons ⟨rfl,rd⟩ rr
  ·rw[if_neg z,if_neg z];exact .cons ⟨rfl,r2⟩ (wM rd rr)
theorem vO {K:Frag}{H:Hp}{f:Str}{d:D}:∀{gs:List (Str×D)}{fs:List (Str×V)},kZ K H gs fs->gs.lookup f=some d->∃v,fs.lookup f=some v/\Rep K H d v
 |[],_,.nil,h=>by cases h
 |(g,x)::gs,(h,y)::fs,.cons r rr,e=>by
  obtain⟨e0,r2⟩:=r;obtain rfl:g=h:=e0;rw[lookup_cons] at e ⊢;by_cases z:(f==g)=true
  ·rw[z] at e ⊢;cases e;exact⟨y,rfl,r2⟩
  ·rw[Bool.eq_false_iff.mpr z] at e ⊢;exact vO rr e
theorem sW {K:Frag}{H:Hp}{f:Str}:∀{gs:List (Str×D)}{fs:List (Str×V)},kZ K H gs fs->gs.lookup f=none->fs.lookup f=none
 |[],_,.nil,h=>rfl
 |(g,x)::gs,(h,y)::fs,.cons r rr,e=>by
  obtain⟨e0,r2⟩:=r;obtain rfl:g=h:=e0;rw[lookup_cons] at e ⊢;by_cases z:(f==g)=true
  ·rw[z] at e;cases e
  ·rw[Bool.eq_false_iff.mpr z] at e ⊢;exact sW rr e
theorem vJ {K:Frag}{H:Hp}:∀{gs:List (Str×D)}{fs:List (Str×V)},kZ K H gs fs->gs.length=fs.length
 |_,_,.nil=>rfl
 |_::_,_::_,.cons r rr=>by rw[length_cons,length_cons,vJ rr]
def aEt (C:Addr)(f:Str)(te:DE):DE:=λρ M Q=>te ρ M λx M1=>∃a gs d,x=.ref a/\M1 (.o a)=some (pF C gs)/\gs.lookup f=some d/\Q d M1
def aB6 (C:Addr)(f:Str)(te tv:DE):DS:=λE ρ M=>tv ρ M λy M1=>te ρ M1 λx M2=>∃a gs,x=.ref a/\M2 (.o a)=some (pF C gs)/\gs.length<1000/\E.nx ρ (uH M2 a (pF C (aDP f y gs)))
def yS (C:Addr)(m:Str)(sp:DSp)(te:DE)(t:DA):DE:=λρ M Q=>te ρ M λx M1=>∃a gs,x=.ref a/\M1 (.o a)=some (pF C gs)/\gs.lookup m=none/\t ρ M1 λds M2=>sp (x::ds) M2 Q
def aBo (C:Addr)(sp:DSp)(t:DA):DE:=λρ M Q=>t ρ M λds M1=>∀x:Addr,M1 (.l x)=none->M1 (.d x)=none->M1 (.o x)=none->sp (.ref x::ds) (uH M1 x (pF C [])) λv M2=>v=.non/\Q (.ref x) M2
section
variable {X:Cx}{o e value:Expr}{es:List Expr}{f m x:Str}{pos pos' apos p:Pos}{te tv:DE}{t:DA}{C:Addr}{fs ps:List Str}{sp:DSp}{k j:Nat}
theorem aF3 (hO:rK X.K C fs)(hf:f∈fs)(he:PDE X e te)(hb:attributeBase e f X.env (eval e X.env)=eval e X.env:=by rfl):PDE X (.Attribute e f pos) (aEt C f te) :=
 cA (aEc he hb) λσ H Q ⟨ρ,M,Q',re,hm,q,kq⟩=>⟨ρ,M,_,re,hm,q,λv H1 ⟨d,M1,rd,hm1,ex,a,gs,d',e1,ha,l,q1⟩=>by subst e1;obtain⟨C',dx,gs',fs',w,hH,fr⟩:=hm1.o a _ ha;obtain⟨rfl,rfl⟩:=qR w;obtain⟨v',l',r'⟩:=vO fr l;exact⟨a,C,dx,fs',v',aO rd,hH,hO.cls,hO.no f hf,l',kq _ _ ⟨d',M1,r',hm1,ex,q1⟩⟩⟩
theorem aFQ (hO:rK X.K C fs)(hf:f∈fs)(he:PDE X e te)(hv:PDE X value tv)(hs:swapsWith value (some (.Attribute e f pos')) pos.line X.env=pure false:=by rfl):PDS X (.Assign [.Attribute e f pos'] value pos) (aB6 C f te tv) :=
 gG (aFv he hv hs) λE σ H ⟨ρ,M,Dn,re,hm,q,kq⟩=>⟨ρ,M,_,re,hm,q,λy H1 ⟨dy,M1,ry,hm1,ex1,q1⟩=>⟨ρ,M1,_,re.ext ex1,hm1,q1,λv H2 ⟨d,M2,rd,hm2,ex2,a,gs,e1,ha,hl,q2⟩=>by subst e1;obtain⟨C',dx,gs',fs',w,hH,fr⟩:=hm2.o a _ ha;obtain⟨rfl,rfl⟩:=qR w;have hx:=Ext.putI (H:=H2) hH (.ins C dx (jM f y fs'));exact⟨a,C,dx,fs',aO rd,hH,hO.cls,hO.no f hf,by rw[<- vJ fr];exact hl,kq.nx _ _ ⟨ρ,_,((re.ext ex1).ext ex2).ext hx,hm2.oput hH (wM (ry.ext ex2) fr),(ex1.trans ex2).trans hx,q2⟩⟩⟩⟩
theorem aDq {pl:Sem Bool}(h:nA X.prog X.w X.K X.mg X.base k C m ps sp)(hr:cM j X.A)(hkj:k<=j)(ho:PDE X o te)(ha:PDA X (e::es) t)(hst:starEach (e::es) X.env=(false,eval e X.env)::starEach es X.env:=by rfl)(hpl:(backTo pos (starEach es X.env)).any (·.1)=false:=by rfl)(ht:eval (.Call (.Attribute o m apos) (e::es) [] pos) X.env=(do
   let ov <- eval o X.env
   standAt apos.atName
   let (f,first) <- holding [ov] (getMethod ov m pl)
   callWith pos f first (backTo pos (starEach (e::es) X.env)) (backToKw pos (keywordEach [] X.env))):=by rfl) :
  PDE X (.Call (.Attribute o m apos) (e::es) [] pos) (yS C m sp te t):=by
 obtain⟨f,fd,c,hm,F,hb⟩:=h;refine cA (aDf (pl:=pl) ho c hm F (hr.mono hkj) hb .nil aCf ha hst hpl ht) λσ H Q ⟨ρ,M,Q',re,hm,q,kq⟩=>⟨ρ,M,_,re,hm,q,λv H1 ⟨d,M1,rd,hm1,ex,a,gs,e1,ha,l,q1⟩=>?_⟩;subst e1;obtain⟨C',dx,gs',fs',w,hH,fr⟩:=hm1.o a _ ha;obtain⟨rfl,rfl⟩:=qR w;refine⟨a,dx,fs',aO rd,hH,sW fr l,ρ,M1,_,re.ext ex,hm1,q1,λvs H2 ⟨ds,M2,rs,hm2,ex2,q2⟩=>⟨.ref a::ds,M2,Q',?_,hm2,q2,λv H' z=>kq v H' (z.back (ex.trans ex2))⟩⟩;rw[append_nil,aO rd];exact cF eJ rs
theorem aCs (h:xY X.prog X.w X.K X.mg X.base k x C ps sp)(hr:cM j X.A)(hkj:k+1<=j)(ha:PDA X (e::es) t)(hg:Gl X x:=by rfl)(hdb:(x==("__debug__":Str))=false:=by decide)(he:starEach (e::es) X.env=(false,eval e X.env)::starEach es X.env:=by rfl)(hpl:(backTo pos (starEach es X.env)).any (·.1)=false:=by rfl) :
  PDE X (.Call (.Name x p) (e::es) [] pos) (aBo C sp t):=by
 obtain⟨f,fd,M0,hm0,F,hb⟩:=h;refine cA (aCQ M0 F (hr.mono hkj) hg hm0 hb .nil aCf ha hdb he hpl) λσ H Q ⟨ρ,M,Q',re,hm,q,kq⟩=>⟨ρ,M,_,re,hm,q,λvs H1 ⟨ds,M1,rs,hm1,ex,q1⟩ x dx hx hdx ne=>?_⟩;have e1:Ext H1 (upd (upd H1 dx (.own x)) x (.ins C dx [])):=(Ext.new hdx _).trans (Ext.new (by rw[aS (Ne.symm ne)];exact hx) _);refine⟨.ref x::ds,_,_,?_,hm1.onew hx hdx ne,q1 x (hm1.fresh hx) (hm1.freshD hx) (hm1.freshO hx),λv H2 ⟨d,M2,rd,hm2,ex2,ev,q2⟩=>?_⟩
 ·rw[append_nil];exact cF eJ (rs.ext e1)
 ·subst ev;exact⟨cW rd,kq _ _ ⟨.ref x,M2,eJ,hm2,(ex.trans e1).trans ex2,q2⟩⟩
end
section
variable {X:Cx}{pins:List (Addr×Obj)}{σ:L2.St}{H:Hp}{s:Shared}{pos:Pos}{kr:Nat}
def aH2 (w:World)(g:Bool->Bool):D2:=λx y M Q=>match y with
 |.ref a=>∃kvs,M (.d a)=some (nT w kvs)/\TK kvs/\aAB x/\Q (.bl (g (decide (x∈kvs.map (·.1))))) M
 |_=>False
theorem aDW (hr:cM kr X.A):X.A.units+7<cLine:=Nat.lt_of_le_of_lt (Nat.add_le_add_left (by decide:7<=64) _) hr.units
theorem aAF (hr:cM kr X.A):OpD X (compareOp .NotIn) (aH2 X.w not):=λpins s σ H x y v u Q I rx ry ⟨dx,dy,M,Q',r1,r2,hm,q,k⟩=>by
 match dy,q with
 |.ref a,q =>
  obtain⟨kvs,ha,tk,hk,q⟩:=q;obtain⟨b,rfl⟩:=uV hk r1;obtain rfl:=aO r2;cases rx;cases ry;obtain⟨xs,hH,hx,hd,hs,hz⟩:=tQ I hm ha tk;refine wpAny_notIn_heap (knd:=nJ X.prog X.w) (by have:=aDW hr;show X.A.units+1+6<cLine;omega) ⟨hk.2,qV I hk.2 r1 rfl⟩ hs hd ?_;rw[aA3 hx];exact⟨.bl _,H,I.tok _,rfl,k _ H ⟨_,M,dH,hm,.refl H,q⟩⟩
theorem aBb {K:Frag}{H:Hp}{k d:D}:∀{kvs:List (D×D)}{xs:List (D×Addr×Value)},Paired (KX K H) kvs xs->oI kvs k=some d->∃p vv,atKey xs k=some p/\bM vv p.2/\Rep K H d vv
 |[],_,.nil,h=>by cases h
 |p::kvs,x::xs,.cons r rr,h=>by
  unfold oI at h;unfold atKey;rw[find?_cons] at h ⊢;obtain⟨e1,r2,vv,q1,q2⟩:=r;by_cases z:p.1=k
  ·rw[decide_eq_true z] at h;rw[decide_eq_true (show x.1=k by rw[<- e1];exact z)];cases h;exact⟨_,vv,rfl,q1,q2⟩
  ·rw[decide_eq_false z] at h;rw[decide_eq_false (show ¬x.1=k by rw[<- e1];exact z)];exact aBb rr h
def aGC (w:World)(te ti:DE):DE:=λρ M Q=>te ρ M λx M1=>ti ρ M1 λi M2=>match x with
 |.ref a=>∃kvs d,M2 (.d a)=some (nT w kvs)/\TK kvs/\aAB i/\oI kvs i=some d/\Q d M2
 |_=>False
theorem aER {e i:Expr}{te ti:DE}(hr:cM kr X.A)(he:PDE X e te)(hi:PDE X i ti)(hs:mS i:=by intro _ _;rfl):PDE X (.Subscript e i pos) (aGC X.w te ti):=by
 intro pins s σ H Q I ⟨ρ,M,Q',re,hm',q,kq⟩;refine Subscript_ (thn (he pins s σ H (LQ X.K H _) I ⟨ρ,M,_,re,hm',q,λ_ _ z=>z⟩) λu0 s0 ⟨y0,H0,I0,ry0,d0,M0,r0,hm0,e0,q0⟩=>?_);refine thn (hi pins s0 σ H0 (LQ X.K H0 _) I0 ⟨ρ,M0,_,re.ext e0,hm0,q0,λ_ _ z=>z⟩) λu s1 ⟨y,H1,I1,ry,d1,M1,r1,hm1,e1,q1⟩=>?_
 match d0,q1 with
 |.ref a,q1 =>
  obtain⟨kvs,d,ha,tk,hk,hf,q1⟩:=q1;rw[aO r0] at ry0;cases ry0;obtain⟨b,rfl⟩:=uV hk r1;cases ry;obtain⟨xs,hH,hx,hd,hsy,lx⟩:=tQ I1 hm1 ha tk;obtain⟨v,vv,hv,qv,rv⟩:=aBb hx hf;refine subscriptTail_builtinR (x:=v.2) (T:="dict") hd.typeIs PySem.F.slot_dict_getitem.lookup (wpAny_getItem_heap (knd:=nJ X.prog X.w) (by have:=aDW hr;show X.A.units+1+6<cLine;omega) ⟨hk.2,qV I1 hk.2 r1 rfl⟩ hd hv ⟨rfl,?_⟩) (hs _ _);exact⟨vv,H1,I1.tok _,qv,kq _ _ ⟨d,M1,rv,hm1,e0.trans e1,q1⟩⟩
end
section
variable {prog:Program}{w:World}
noncomputable def prN (i j:Nat):D:=.tup [.int i,.int j]
theorem aCu (i j:Nat):fW 1 (prN i j)=true:=rfl
theorem aAo {A:Around}{E:Value->Shared->Prop}{s:Shared}{i j:Nat}{v:Value}{Q:Bool->Shared->Prop}(hi:IsK s.heap (prN i j) v)(q:Q true s):wpAny (model prog w) A (hashByValue 8 v) Q E s:=by
 obtain⟨a,its,rfl,ht,hs⟩:=dZ hi;obtain⟨o,ho,hc,k,hd⟩:=ht;have hT:s.TypeIs (.ref a) "tuple":=⟨o,ho,hc⟩;unfold hashByValue;refine wpAny_bind (wpAny_specialOf hT F.slot_tuple_hash.lookup ?_);dsimp only;refine wpAny_bind (wpAny_seqItems ho hd ?_);refine wpAny_bind ?_;show wpAny _ _ (forIn its _ _) _ _ s;rw[<- Array.forIn_toList];refine wpAny_forIn_list _ (λbV r s'=>r.1=none/\s'=s/\∀x∈bV,∃(z:Int)(t:Tok),x=.int z t) _ ?_ ?_ _ _ ⟨rfl,rfl,?_⟩
 ·rintro x bV r s' ⟨hr,rfl,hx⟩;obtain⟨z,t,rfl⟩:=hx x mem_cons_self;refine wpAny_bind ?_;unfold hashByValue;refine wpAny_pure ?_;simp only[Bool.not_true,Bool.false_eq_true,if_false];exact wpAny_pure ⟨rfl,rfl,λy hy=>hx y (mem_cons_of_mem _ hy)⟩
 ·rintro⟨r1,r2⟩ s' ⟨hr,rfl,_⟩;simp only at hr;subst hr;exact wpAny_pure q
 ·obtain⟨v1,r1,e1,h1,hs⟩:=cK hs;obtain⟨v2,r2,e2,h2,hs⟩:=cK hs;have e3:=fR hs;subst e3 e2;rw[e1];obtain⟨t1,rfl⟩:=cR h1;obtain⟨t2,rfl⟩:=cR h2;intro x hx;simp only[mem_cons,not_mem_nil,or_false] at hx;rcases hx with rfl|rfl
  ·exact⟨_,_,rfl⟩
  ·exact⟨_,_,rfl⟩
noncomputable def lY (es:Array (Int×Value))(ep:Nat)(t:SetTable):Obj:={ cls:=.type "set",dict:=none,data:=.set es ep t }
theorem aEb {A:Around}{E:Value->Shared->Prop}{s:Shared}{S:Addr}{es:Array (Int×Value)}{ep:Nat}{t:SetTable}{i j m:Nat}{x:Value}{Q:Bool->Shared->Prop}(hu:A.units+1<cLine)(hi:IsK s.heap (prN i j) x)(hS:s.heap.get? S=some (lY es ep t))(hf:t.fits es.size=true)(hg:t.gaveWay=false)(hz:es.size<=8)(hp:t.probe (λn=>(es[n]?.map (·.1)).getD 0) (eB w (prN i j)) (t.probeStart (eB w (prN i j)))=some (.empty m none))(htf:(t.put m).1.tooFull=false)(h:∀h' tk,Heap.SameBut S s.heap h'->h'.get? S=some (lY (SetTable.insertAt es (t.put m).2 (eB w (prN i j),x)) (ep+1) (t.put m).1)->s.toks<=tk->Q true { s with heap:=h',toks:=tk }) :
  wpAny (model prog w) A (setAdd S x) Q E s:=by
 obtain⟨a,its,rfl,ht,hs⟩:=dZ hi;unfold setAdd;refine wpAny_holding (wpAny_bind (zM 1 (aCu i j) hu hi ?_));unfold setAddHashed;refine wpAny_holding ?_;show wpAny _ _ (setAddHashedIn S (.ref a) (eB w (prN i j)) (99999+1)) _ _ _;unfold setAddHashedIn;refine wpAny_bind (wpAny_setState_of hS rfl hf ?_);dsimp only;rw[if_neg (show ¬(byScan (.ref a) es=true) by unfold byScan;exact Bool.false_ne_true)];refine wpAny_bind ?_;unfold setSearch;show wpAny _ _ (setSearchFrom S (.ref a) (eB w (prN i j)) true (99999+1) none) _ _ _;unfold setSearchFrom;refine wpAny_bind (wpAny_setState_of hS rfl hf ?_);dsimp only;rw[hg,if_neg Bool.false_ne_true];generalize hM:t.probe _ (eB w (prN i j)) (Option.getD none (t.probeStart (eB w (prN i j))))=met;obtain rfl:met=some (.empty m none):=hM.symm.trans hp;dsimp only;refine wpAny_pure ?_;dsimp only;refine wpAny_bind (wpAny_setState_of hS rfl hf ?_);dsimp only;have fin:wpAny (model prog w) A (do
   storeSet S (SetTable.insertAt es (t.put m).2 (eB w (prN i j),.ref a)) (t.put m).1
   if (!false&&(t.put m).1.tooFull)=true then do
    setRelay S (SetTable.grown (es.size+1))
    pure true
   else pure true) Q E { s with toks:=s.toks+nI (prN i j) }:=by
  refine wpAny_bind (wpAny_storeSet_of hS rfl ?_ ?_)
  ·rw[htf,if_neg (by decide)];refine wpAny_pure (h _ _ (Heap.SameBut.update ..) ?_ (Nat.le_add_right ..));rw[Heap.get?_update_self _ hS (by rw[putSet_of _ _ rfl];rfl),putSet_of _ _ rfl];rfl
  ·unfold SetTable.insertAt;rw[Array.size_append,Array.size_push,Array.size_extract,Array.size_extract,sizeLine_eq];omega
 by_cases hpl:(t.put m).1.plain=true
 ·rw[if_pos hpl];refine wpAny_bind (aAo hi ?_);exact fin
 ·rw[if_neg hpl];exact wpAny_bind (wpAny_pure fin)
noncomputable def kW (h:Int)(led:Bool):SetTable:=((SetTable.fresh 0 0 led).put (SetTable.bits h % 8)).1
noncomputable def hp2 (i j:Nat):Int:=reduceHash (Builtin.Tuple.tupleHashOf [hashInt i,hashInt j])
theorem zD (i j:Nat):eB w (prN i j)=hp2 i j:=by unfold prN eB gY gY gY eB;rfl
theorem aIm (led:Bool):(SetTable.fresh 0 0 led).gaveWay=false:=by show((7:Nat) % 2==0)=false;decide
theorem tf0 (m:Nat)(led:Bool):((SetTable.fresh 0 0 led).put m).1.tooFull=false:=by cases led<;>rfl
theorem aH8 (led:Bool):(SetTable.fresh 0 0 led).fits 0=true:=rfl
theorem aD1 (m:Nat)(led:Bool):((SetTable.fresh 0 0 led).put m).1.fits 1=true:=by cases led<;>rfl
theorem aG8 (m:Nat)(led:Bool):((SetTable.fresh 0 0 led).put m).1.gaveWay=false:=by show((7:Nat) % 2==0)=false;decide
theorem qT {α:Type}(xs:Array α)(p:Nat)(x:α):(SetTable.insertAt xs p x).size=xs.size+1:=by unfold SetTable.insertAt;rw[Array.size_append,Array.size_push,Array.size_extract,Array.size_extract];omega
theorem aJb {α:Type}(m:Nat)(led:Bool)(y:α):SetTable.insertAt (#[]:Array α) ((SetTable.fresh 0 0 led).put m).2 y=#[y]:=rfl
theorem aGV (m m':Nat)(led:Bool):((((SetTable.fresh 0 0 led).put m).1).put m').1.fits 2=true:=by
 have e1:((((SetTable.fresh 0 0 led).put m).1).put m').1.place.size=2:=by unfold SetTable.put;dsimp only;rw[qT,qT];rfl
 have e2:((((SetTable.fresh 0 0 led).put m).1).put m').1.dummies=#[]:=by cases led<;>rfl
 unfold SetTable.fits SetTable.fill;rw[e1,e2];rfl
theorem aFN (f:Nat->Int)(h:Int)(led:Bool):(SetTable.fresh 0 0 led).probe f h ((SetTable.fresh 0 0 led).probeStart h)=some (.empty (SetTable.bits h % 8) none):=rfl
noncomputable def aA0 (h:Int)(n:Nat):Int:=if n=0 then h else 0
theorem aFE (h:Int)(x:Value):(λn=>((#[(h,x)]:Array (Int×Value))[n]?.map (·.1)).getD 0)=aA0 h:=by
 funext n;cases n with
 |zero=>rfl
 |succ n=>simp[aA0]
noncomputable def yE (h h':Int)(led:Bool):Option Nat:=match (kW h led).probe (aA0 h) h' ((kW h led).probeStart h') with
 |some (.empty m none)=>if ((kW h led).put m).1.tooFull then none else some m
 |_=>none
theorem zW:∀i:Fin 6,∀j:Fin 4,∀i':Fin 6,∀j':Fin 4,∀led:Bool,(i,j)≠(i',j')->(yE (hp2 i j) (hp2 i' j') led).isSome=true:=by decide +kernel
def fV (S:Addr)(h:Heap):List (Nat×Nat)->Prop
 |[]=>∃led,h.get? S=some (lY #[] 0 (.fresh 0 0 led))
 |[p]=>∃led x ep,h.get? S=some (lY #[(hp2 p.1 p.2,x)] ep (kW (hp2 p.1 p.2) led))
 |[_,_]=>∃es ep t,h.get? S=some (lY es ep t)/\es.size=2/\t.fits 2=true
 |_=>False
def uP (p:Nat×Nat):Prop:=p.1<6/\p.2<4
def OkP:List (Nat×Nat)->Prop
 |[_]=>True
 |[p,q]=>uP p/\uP q/\p≠q
 |_=>False
theorem fV.at {S:Addr}{h h':Heap}{ps:List (Nat×Nat)}(x:fV S h ps)(k:∀o,h.get? S=some o->h'.get? S=some o):fV S h' ps:=by
 match ps,x with
 |[],⟨led,e⟩=>exact⟨led,k _ e⟩
 |[p],⟨led,x,ep,e⟩=>exact⟨led,x,ep,k _ e⟩
 |[p,q],⟨es,ep,t,e,r⟩=>exact⟨es,ep,t,k _ e,r⟩
theorem fV.obj {S:Addr}{h:Heap}{ps:List (Nat×Nat)}(x:fV S h ps):∃o,h.get? S = some o/\o.cls = .type "set":=by
 match ps,x with
 |[],⟨led,e⟩=>exact⟨_,e,rfl⟩
 |[p],⟨led,x,ep,e⟩=>exact⟨_,e,rfl⟩
 |[p,q],⟨es,ep,t,e,r⟩=>exact⟨_,e,rfl⟩
theorem zH {A:Around}{E:Value->Shared->Prop}{s:Shared}{S:Addr}{p:Nat×Nat}{x:Value}{Q:Bool->Shared->Prop}{led:Bool}(hu:A.units+1<cLine)(hi:IsK s.heap (prN p.1 p.2) x)(hS:s.heap.get? S=some (lY #[] 0 (.fresh 0 0 led)))(h:∀h' tk,Heap.SameBut S s.heap h'->fV S h' [p]->s.toks<=tk->Q true { s with heap:=h',toks:=tk }):wpAny (model prog w) A (setAdd S x) Q E s:=by have hh:=zD (w:=w) p.1 p.2;refine aEb (m:=SetTable.bits (eB w (prN p.1 p.2)) % 8) hu hi hS (aH8 led) (aIm led) (Nat.zero_le _) (aFN _ _ led) (tf0 _ led) λh' tk sb e le=>h h' tk sb ?_ le;rw[hh,aJb] at e;show ∃led x ep,h'.get? S=some (lY #[(hp2 p.1 p.2,x)] ep (kW (hp2 p.1 p.2) led));generalize hp2 p.1 p.2=z at e;exact⟨led,x,_,e⟩
theorem aAy {h h':Int}{led:Bool}(z:(yE h h' led).isSome=true):∃m,(kW h led).probe (aA0 h) h' ((kW h led).probeStart h')=some (.empty m none)/\((kW h led).put m).1.tooFull=false:=by
 unfold yE at z;generalize (kW h led).probe (aA0 h) h' ((kW h led).probeStart h')=r at z ⊢;generalize kW h led=t at z ⊢
 match r,z with
 |some (.empty m none),z =>
  refine⟨m,rfl,?_⟩;dsimp only at z;by_cases c:(t.put m).1.tooFull=true
  ·rw[if_pos c] at z;cases z
  ·exact Bool.eq_false_iff.mpr c
theorem aDj {A:Around}{E:Value->Shared->Prop}{s:Shared}{S:Addr}{p q:Nat×Nat}{x y:Value}{ep:Nat}{led:Bool}{Q:Bool->Shared->Prop}(sp:uP p)(sq:uP q)(ne:q≠p)(hu:A.units+1<cLine)(hi:IsK s.heap (prN p.1 p.2) x)(hS:s.heap.get? S=some (lY #[(hp2 q.1 q.2,y)] ep (kW (hp2 q.1 q.2) led)))(h:∀h' tk,Heap.SameBut S s.heap h'->fV S h' [q,p]->s.toks<=tk->Q true { s with heap:=h',toks:=tk }):wpAny (model prog w) A (setAdd S x) Q E s:=by obtain⟨a1,a2⟩:=sq;obtain⟨b1,b2⟩:=sp;obtain⟨m,hp,htf⟩:=aAy (zW ⟨q.1,a1⟩ ⟨q.2,a2⟩ ⟨p.1,b1⟩ ⟨p.2,b2⟩ led (λe=>ne (Prod.ext (Fin.mk.inj (Prod.mk.inj e).1) (Fin.mk.inj (Prod.mk.inj e).2))));have hh:=zD (w:=w) p.1 p.2;have f1:(kW (hp2 q.1 q.2) led).fits 1=true:=aD1 _ led;have g1:(kW (hp2 q.1 q.2) led).gaveWay=false:=aG8 _ led;have f2:((kW (hp2 q.1 q.2) led).put m).1.fits 2=true:=aGV _ _ led;dsimp only at hp htf;generalize hp2 q.1 q.2=h0 at hp htf hS f1 g1 f2;generalize hp2 p.1 p.2=h1 at hp hh;generalize kW h0 led=t at hp htf hS f1 g1 f2;refine aEb (m:=m) hu hi hS f1 g1 (by show 1<=8;decide) (by rw[hh,aFE];exact hp) htf λh' tk sb e le=>h h' tk sb ⟨_,_,_,e,qT _ _ _,f2⟩ le
theorem fV.len {S:Addr}{h:Heap}{ps:List (Nat×Nat)}(x:fV S h ps)(ok:OkP ps):∃es ep t,h.get? S=some (lY es ep t)/\es.size=ps.length/\t.fits es.size=true:=by
 match ps,x,ok with
 |[p],⟨led,x,ep,e⟩,_=>exact⟨_,_,_,e,rfl,aD1 _ led⟩
 |[p,q],⟨es,ep,t,e,r,f⟩,_=>exact⟨es,ep,t,e,r,by rw[r];exact f⟩
theorem OkP.at {ps:List (Nat×Nat)}(ok:OkP ps){i:Nat}{p:Nat×Nat}(h:ps[i]?=some p):∃bV,ps=ps.take i++p::bV:=by obtain⟨hl,e⟩:=List.getElem?_eq_some_iff.mp h;exact⟨ps.drop (i+1),by rw[<- e,<- List.drop_eq_getElem_cons hl,List.take_append_drop]⟩
theorem aE7 {A:Around}{E:Value->Shared->Prop}{s:Shared}{S:Addr}{p:Nat×Nat}{ps:List (Nat×Nat)}{i:Nat}{x:Value}{Q:Bool->Shared->Prop}(ok:OkP ps)(hp:ps[i]?=some p)(hu:A.units+1<cLine)(hi:IsK s.heap (prN p.1 p.2) x)(hS:fV S s.heap (ps.take i))(h:∀h' tk,Heap.SameBut S s.heap h'->fV S h' (ps.take (i+1))->s.toks<=tk->Q true { s with heap:=h',toks:=tk }):wpAny (model prog w) A (setAdd S x) Q E s:=by
 match ps,i,ok,hp,hS,h with
 |[_],0,_,rfl,⟨led,hS⟩,h=>exact zH hu hi hS h
 |[_,_],0,_,rfl,⟨led,hS⟩,h=>exact zH hu hi hS h
 |[_,_],1,ok,rfl,⟨led,y,ep,hS⟩,h=>exact aDj ok.2.1 ok.1 ok.2.2 hu hi hS h
theorem sX {h h':Heap}{p:Nat×Nat}{v:Value}{I S:Addr}(x:IsK h (prN p.1 p.2) v)(hI:∃o,h.get? I = some o/\o.cls ≠ .type "tuple")(hS:∃o,h.get? S = some o/\o.cls ≠ .type "tuple")(k:∀b o,b≠I->b≠S->h.get? b=some o->h'.get? b=some o):IsK h' (prN p.1 p.2) v :=
 x.keep λa its ⟨o,ho,hc,r⟩=>⟨o,k a o (λe=>by subst e;obtain⟨o2,e2,n⟩:=hI;rw[ho] at e2;cases e2;exact n hc) (λe=>by subst e;obtain⟨o2,e2,n⟩:=hS;rw[ho] at e2;cases e2;exact n hc) ho,hc,r⟩
theorem aHc {A:Around}{R:Result->Shared->Prop}{I l S:Addr}{items:Array Value}{ps:List (Nat×Nat)}(hh:A.in1.handled=none)(hne:l≠I)(hSI:S≠I)(hSl:S≠l)(hn:items.size=ps.length)(ok:OkP ps)(hu:A.in1.units+1<cLine) :
  ∀(k i:Nat)(s:Shared),ps.length-i=k->i<=ps.length->s.heap.IsListIter I l i->s.heap.IsList l items->fV S s.heap (ps.take i)->(∀(j:Nat) p v,ps[j]?=some p->items[j]?=some v->IsK s.heap (prN p.1 p.2) v) ->
   (∀s',Moved [S,I] (λa b=>b = a) s s'->fV S s'.heap ps->R (.ok (.ret .none)) s')->codeAny (model prog w) A (.builtin "set.update.loop" ⟨[.ref S,.ref I],[]⟩) R s:=by
 have W:=(Walks.list (prog:=prog) (w:=w) hh I l hne items).toS;intro k
 induction k with
 |zero =>
  intro i s hk hi ht hl hS hK hR;obtain rfl:i=ps.length:=by omega
  refine codeAny_builtin F.entry_set_update_loop ?_;rw[Around.under_plainId F.plain_set_update_loop _];show wpAny _ A.in1 (pyNext (.ref I) >>= _) _ _ s;refine wpAny_bind (W.done s _ _ (by rw[hn];exact⟨ht,hl⟩) λs' hm=>?_);show wpAny _ A.in1 (ret Value.none) _ _ s';refine wpAny_pure (hR s' (hm.mono λb hb=>mem_cons_of_mem _ hb) ?_);rw[List.take_length] at hS;exact hS.at λo e=>hm.heap S _ (by simpa using hSI) e
 |succ k ih =>
  intro i s hk hi ht hl hS hK hR;have hlt:i<ps.length:=by omega
  obtain⟨p,hp⟩:∃p,ps[i]?=some p:=⟨_,getElem?_eq_getElem hlt⟩;refine codeAny_builtin F.entry_set_update_loop ?_;rw[Around.under_plainId F.plain_set_update_loop _];show wpAny _ A.in1 (pyNext (.ref I) >>= _) _ _ s;refine wpAny_bind (W.item i s _ _ (by rw[hn];exact hlt) ⟨ht,hl⟩ λv s' hP hst' hm=>?_);have hIt:∃o,s.heap.get? I = some o/\o.cls ≠ .type "tuple":=by obtain⟨o,e,c,_⟩:=ht;exact⟨o,e,by rw[c];decide⟩
  have hSt:∃o,s.heap.get? S = some o/\o.cls ≠ .type "tuple":=by obtain⟨o,e,c⟩:=hS.obj;exact⟨o,e,by rw[c];decide⟩
  have hS':fV S s'.heap (ps.take i):=hS.at λo e=>hm.heap S _ (by simpa using hSI) e;have hK':∀(j:Nat) p v,ps[j]?=some p->items[j]?=some v->IsK s'.heap (prN p.1 p.2) v:=λj p v a b=>sX (hK j p v a b) hIt hSt λb o n1 n2 e=>hm.heap b o (by simpa using n1) e;show wpAny _ A.in1 (holding [v] (setAdd S v) >>= _) _ _ s';refine wpAny_bind (wpAny_holding ?_);refine aE7 ok hp hu (hK' i p v hp hP) hS' λh' tk sb hS2 le=>?_;have ne:∀b≠S,∀o,s'.heap.get? b=some o->h'.get? b=some o:=λb n o e=>(sb.2 b n).trans e;obtain⟨t1,l1⟩:=hst';have hIt':∃o,s'.heap.get? I = some o/\o.cls ≠ .type "tuple":=by obtain⟨o,e,c,_⟩:=t1;exact⟨o,e,by rw[c];decide⟩
  have hSt':∃o,s'.heap.get? S = some o/\o.cls ≠ .type "tuple":=by obtain⟨o,e,c⟩:=hS'.obj;exact⟨o,e,by rw[c];decide⟩
  refine wpAny_pure ⟨plainId_quiet F.plain_set_update_loop _,ih (i+1) _ (by omega) hlt (t1.at λo e=>ne I (Ne.symm hSI) o e) (l1.at λo e=>ne l (Ne.symm hSl) o e) hS2 (λj p v a b=>sX (hK' j p v a b) hIt' hSt' λb o n1 n2 e=>ne b n2 o e) λs'' hm'' hS''=>?_⟩;refine hR s'' (Moved.trans (λa b c x y=>y.trans x) ((hm.mono λb hb=>mem_cons_of_mem _ hb).then_heap le λb o hb e=>ne b (λz=>hb (by simp[z])) o e) hm'') hS''
theorem aFA {A:Around}{E:Value->Shared->Prop}{s:Shared}{S l:Addr}{led:Bool}{items:Array Value}{ps:List (Nat×Nat)}{Q:Value->Shared->Prop}(hh:A.handled=none)(hu:A.units+16<cLine)(hl:s.heap.IsList l items)(hn:items.size=ps.length)(ok:OkP ps)(hK:∀(j:Nat) p v,ps[j]?=some p->items[j]?=some v->IsK s.heap (prN p.1 p.2) v)(hS:s.heap.get? S=some (lY #[] 0 (.fresh 0 0 led)))(hSl:S≠l)(q:∀(h':Heap)(tk:Nat),fV S h' ps->(∀b o,b≠S->s.heap.get? b=some o->h'.get? b=some o)->Q .none { s with heap:=h',toks:=tk }) :
  codeAny (model prog w) A (.call (.builtin "set.__init__") ⟨[.ref S,.ref l],[]⟩) (wants Q E) s:=by
 have tS:s.TypeIs (.ref S) "set":=⟨_,hS,rfl⟩;refine codeAny_call_builtin F.called_set.init.plain F.entry_set_init (check_set_init_1 tS ?_);obtain⟨⟨c,od,dt,sl⟩,gl,e1,n,e2⟩:=id hl;dsimp only at e1 e2;subst e1 e2;have no1:=F.sub_list_set;have no2:=F.sub_list_frozenset;have no3:(Value.type "list"==Value.type "dict")=false:=by decide
 unfold Builtin.«set.__init__» noKeywords Builtin.Frozenset.updateFrom;generalize ei:pyIter=it
 wp_walk
 subst ei;refine wpAny_pyIter_list hl (wpAny_bind (wpAny_runValue ?_));have nl:l≠s.heap.objs.size:=Nat.ne_of_lt (Heap.lt_size gl);have nS:S≠s.heap.objs.size:=Nat.ne_of_lt (Heap.lt_size hS);have u3:A.units+1+1+1<cLine:=by omega
 refine aHc (ps:=ps) (items:=items) (by simp[hh]) nl nS hSl hn ok (by simpa using u3) (ps.length-0) 0 _ rfl (Nat.zero_le _) ⟨_,Heap.get?_push_size _ rfl,rfl,rfl⟩ (hl.push _) ⟨led,Heap.get?_push_of_some _ hS⟩
  (λj p v a b=>(hK j p v a b).keep λa its ⟨o,ho,r⟩=>⟨o,Heap.get?_push_of_some _ ho,r⟩) λs' mv st=>?_
 obtain⟨h',g',d',tk',os'⟩:=s';obtain rfl:g'=s.gens:=mv.gens;obtain rfl:d'=s.drawn:=mv.drawn;obtain rfl:os'=s.os:=mv.os;refine wpAny_pure (wpAny_pure (q h' tk' st λb o nb e=>mv.heap b o ?_ (Heap.get?_push_of_some _ e)));intro z;simp only[mem_cons,not_mem_nil,or_false] at z;rcases z with z|z
 ·exact nb z
 ·exact absurd (Heap.lt_size e) (by rw[z];exact Nat.lt_irrefl _)
theorem aAi {A:Around}{E:Value->Shared->Prop}{s:Shared}{l:Addr}{items:Array Value}{ps:List (Nat×Nat)}{Q:Value->Shared->Prop}(hh:A.handled=none)(hu:A.units+20<cLine)(hl:s.heap.IsList l items)(hn:items.size=ps.length)(ok:OkP ps)(hK:∀(j:Nat) p v,ps[j]?=some p->items[j]?=some v->IsK s.heap (prN p.1 p.2) v)(q:∀(h':Heap)(tk:Nat),fV s.heap.objs.size h' ps->(∀b o,s.heap.get? b=some o->h'.get? b=some o)->Q (.ref s.heap.objs.size) { s with heap:=h',toks:=tk }) :
  wpAny (model prog w) A (call (.type "set") [.ref l]) Q E s:=by
 obtain⟨c,tl,hmro⟩:=F.called_set.mro;have a1:=F.called_set.made;have a2:=F.called_set.sub;have a3:=F.called_set.notType;have a4:=F.called_set.canCreate;have a5:=F.typeCall_set_1 (.ref l);have lt:l<s.heap.objs.size:=let ⟨_,g,_⟩:=hl;Heap.lt_size g
 refine wpAny_call (codeAny_of_tree (wpAny_pure ⟨Code.quiet_builtin _ (by decide +kernel),codeAny_builtin F.entry_type_call ?_⟩));rw[Around.under_plain (weight_type_call_type "set" [.ref l] []) rfl];repeat (any_goals (first|assumption|wp_step))
 refine codeAny_mono (code_set_new_1 (.ref l) (E:=E) (Q₁:=λobj s₁=>∃led:Bool,obj=.ref s.heap.objs.size/\s₁ = { s with heap:=s.heap.push (lY #[] 0 (.fresh 0 0 led)) }) λled=>⟨led,rfl,rfl⟩) λr s₁ hr=>?_
 match r,hr with
 |.error e,hr=>exact hr
 |.ok (.ret obj),⟨led,e1,e2⟩ =>
  subst e1 e2;have hS:(s.heap.push (lY #[] 0 (.fresh 0 0 led))).get? s.heap.objs.size=some (lY #[] 0 (.fresh 0 0 led)):=Heap.get?_push_size _ rfl;have tS:Shared.TypeIs { s with heap:=s.heap.push (lY #[] 0 (.fresh 0 0 led)) } (.ref s.heap.objs.size) "set":=⟨_,hS,rfl⟩;have b1:=F.called_set.init.lookup;have b2:=F.called_set.init.bind (.ref s.heap.objs.size);repeat (any_goals (first|assumption|wp_step))
  refine codeAny_mono (aFA (S:=s.heap.objs.size) (led:=led) (E:=E) (Q:=λr s₂=>r=.none/\∃h' tk,s₂ = { s with heap:=h',toks:=tk }/\fV s.heap.objs.size h' ps/\∀b o,s.heap.get? b=some o->h'.get? b=some o) (by simp[hh]) (by have u:A.units+1+16<cLine:=(by omega);simpa using u) (hl.push _) hn ok
   (λj p v a b=>(hK j p v a b).keep λa its ⟨o,ho,r⟩=>⟨o,Heap.get?_push_of_some _ ho,r⟩) hS (Nat.ne_of_gt lt) λh' tk st k=>⟨rfl,h',tk,rfl,st,λb o e=>k b o (Nat.ne_of_lt (Heap.lt_size e)) (Heap.get?_push_of_some _ e)⟩) λr₂ s₂ hr₂=>?_
  match r₂,hr₂ with
  |.error e,hr₂=>exact hr₂
  |.ok (.ret r),⟨e1,h',tk,e2,st,k⟩ =>
   subst e1 e2;repeat (any_goals (first|assumption|wp_step))
   exact q _ _ st k
end
def aC3 (p:Addr)(n:Nat):Heap->Prop:=λh=>∃es ep t,h.get? p=some (lY es ep t)/\es.size=n/\t.fits es.size=true
theorem aCH {P:Program}{w:World}{H:Hp}{h:Heap}{p:Addr}{n:Nat}(x:aC3 p n h):eC P w H h p (.ext (aC3 p n)) :=
 ⟨x,let ⟨_,_,_,e,_⟩:=x;⟨_,e⟩,λh1 h2 ⟨es,ep,t,e,r⟩ k=>⟨es,ep,t,k _ e,r⟩⟩
theorem zN {h:Heap}:∀{ds:List D}{vs:List Value} {j:Nat} {d:D} {v:Value},eM h ds vs->ds[j]?=some d->vs[j]?=some v->IsK h d v
 |[],_,j,d,v,x,e,_=>by simp at e
 |d0::ds,_,0,d,v,x,e,e'=>by obtain⟨v0,r,rfl,hv,hr⟩:=cK x;simp at e e';subst e e';exact hv
 |d0::ds,_,j+1,d,v,x,e,e'=>by obtain⟨v0,r,rfl,hv,hr⟩:=cK x;exact zN (j:=j) hr (by simpa using e) (by simpa using e')
noncomputable def prs (ps:List (Nat×Nat)):List D:=ps.map λp=>prN p.1 p.2
section
variable {X:Cx}{e:Expr}{te:DE}{k:Nat}
def aH1 (K:Frag):List V->Hp->VK->Prop:=λxs H Q=>∃a M ps,xs=[.ref a]/\bI K M H/\M (.l a)=some (prs ps)/\OkP ps/\∀p,H p=none->Q (.ref p) (upd H p (.ext (aC3 p ps.length)))
theorem aDS (hr:cM k X.A)(hc:X.calm = true):jQ X (.type "set") (aH1 X.K):=by
 intro pins s σ H xs us Q I rs ⟨a,M,ps,e,hm,ha,ok,q⟩;subst e;obtain⟨u,r,rfl,ru,rr⟩:∃u r,us=u::r/\bM (.ref a) u/\bN [] r:=by cases rs with|cons r t=>exact⟨_,_,rfl,r,t⟩
 cases rr;cases ru;obtain⟨vs,hH,hrs⟩:=hm.l a _ ha;obtain⟨lz,its,n,rv,hg⟩:=I.hok a _ hH;have hk:(prs ps).all (fW 1)=true:=by unfold prs;rw[all_map,List.all_eq_true];exact λp _=>rfl
 have hks:=tE I hk hrs rv;have hlen:its.length=ps.length:=by have e1:=rv.length;have e2:=hrs.length;unfold prs at e2;rw[length_map] at e2;omega
 have hu:X.A.units+20<cLine:=Nat.lt_of_le_of_lt (Nat.add_le_add_left (by decide:20<=64) _) hr.units;refine aAi (ps:=ps) (items:=its.toArray) (I.ok.hd hc) hu ⟨_,hg,rfl,n,rfl⟩ (by simpa using hlen) ok (λj p v hj hv=>zN hks (by unfold prs;rw[getElem?_map,hj];rfl) (by simpa using hv)) λh' tk st kp=>?_;obtain⟨es,ep,t,e1,e2,e3⟩:=st.len ok;exact⟨.ref s.heap.objs.size,_,I.laid (t':=tk) kp (Nat.le_refl _) (aCH ⟨es,ep,t,e1,e2,e3⟩),rfl,q _ (I.hok.fresh (Nat.le_refl _))⟩
def aH6:List V->Hp->VK->Prop:=λxs H Q=>∃p n,xs=[.ref p]/\H p=some (.ext (aC3 p n))/\n<=1000/\Q (.int n) H
theorem aDn:jQ X (.builtin "len") aH6:=by
 intro pins s σ H xs us Q I rs ⟨p,n,e,hH,hn,q⟩;subst e;obtain⟨u,r,rfl,ru,rr⟩:∃u r,us=u::r/\bM (.ref p) u/\bN [] r:=by cases rs with|cons r t=>exact⟨_,_,rfl,r,t⟩
 cases rr;cases ru;obtain⟨⟨es,ep,t,e1,e2,e3⟩,_⟩:=I.hok p _ hH;subst e2;exact call_len_set e1 ⟨rfl,rfl,rfl⟩ rfl e3 (by omega) ⟨.int es.size,H,I.tok _,⟨_,rfl⟩,q⟩
def vD (te:DE):DE:=λρ M Q=>te ρ M λx M1=>∃a ps,x=.ref a/\M1 (.l a)=some (prs ps)/\OkP ps/\Q (.int ps.length) M1
theorem aCO {ps:List (Nat×Nat)}(ok:OkP ps):ps.length<=1000:=by
 match ps,ok with
 |[_],_=>exact Nat.le_of_ble_eq_true rfl
 |[_,_],_=>exact Nat.le_of_ble_eq_true rfl
theorem aAq {p1 p2 p3 p4:Pos}(hr:cM k X.A)(hc:X.calm = true)(h1:X.mg "len" = none)(h2:X.mg "set" = none)(he:PDE X e te)(hg1:Gl X "len":=by rfl)(hg2:Gl X "set":=by rfl)(hs1:starEach [.Call (.Name "set" p2) [e] [] p3] X.env = [(false,eval (.Call (.Name "set" p2) [e] [] p3) X.env)]:=by rfl)(hs2:starEach [e] X.env=[(false,eval e X.env)]:=by rfl) :
  PDE X (.Call (.Name "len" p1) [.Call (.Name "set" p2) [e] [] p3] [] p4) (vD te):=by
 have A1:PA X [e] (aDY (low X.K te) aGS):=mT he uS hs2;have A2:=sH (T:="set") (x:="set") (p:=p2) (pos:=p3) (aDS hr hc) hg2 h2 rfl A1 (by decide) (by decide) hs2 rfl;have A3:=rF (id:="len") (x:="len") (p:=p1) (pos:=p4) aDn hg1 h1 rfl (mT A2 uS hs1) (by decide) (by decide) hs1 rfl;refine cA A3 λσ H Q ⟨ρ,M,Q',re,hm,q,kq⟩=>⟨ρ,M,_,re,hm,q,λv H1 ⟨d,M1,rd,hm1,ex,a,ps,e1,ha,ok,q1⟩=>?_⟩;subst e1;refine⟨a,M1,ps,by rw[aO rd],hm1,ha,ok,λp hp=>⟨p,ps.length,rfl,cE,aCO ok,kq _ _ ⟨.int ps.length,M1,cN,hm1.new hp _,ex.trans (Ext.new hp _),q1⟩⟩⟩
end
section
variable {P:Program}{w:World}{K:Frag}{mg:Str->Option Value}{base:Heap}
end
section
variable {X:Cx}{o e value:Expr}{es:List Expr}{f m x:Str}{pos pos' apos p:Pos}{te tv:DE}{t:DA}{C:Addr}{fs ps:List Str}{sp:DSp}{k j:Nat}
theorem eZ (hO:rK X.K C fs)(hf:f∈fs)(he:ZE X e te)(hb:attributeBase e f X.env (eval e X.env)=eval e X.env:=by rfl):ZE X (.Attribute e f pos) (aEt C f te):=.i (aF3 hO hf he.o hb)
theorem pN (hO:rK X.K C fs)(hf:f∈fs)(he:ZE X e te)(hv:ZE X value tv)(hs:swapsWith value (some (.Attribute e f pos')) pos.line X.env=pure false:=by rfl):ZS X (.Assign [.Attribute e f pos'] value pos) (aB6 C f te tv):=.i (aFQ hO hf he.o hv.o hs)
theorem mQ {pl:Sem Bool}(h:nA X.prog X.w X.K X.mg X.base k C m ps sp)(hr:cM j X.A)(hkj:k<=j)(ho:ZE X o te)(ha:ZA X (e::es) t)(hst:starEach (e::es) X.env=(false,eval e X.env)::starEach es X.env:=by rfl)(hpl:(backTo pos (starEach es X.env)).any (·.1)=false:=by rfl)(ht:eval (.Call (.Attribute o m apos) (e::es) [] pos) X.env=(do
   let ov <- eval o X.env
   standAt apos.atName
   let (f,first) <- holding [ov] (getMethod ov m pl)
   callWith pos f first (backTo pos (starEach (e::es) X.env)) (backToKw pos (keywordEach [] X.env))):=by rfl):ZE X (.Call (.Attribute o m apos) (e::es) [] pos) (yS C m sp te t):=.i (aDq h hr hkj ho.o ha.o hst hpl ht)
theorem wP (h:xY X.prog X.w X.K X.mg X.base k x C ps sp)(hr:cM j X.A)(hkj:k+1<=j)(ha:ZA X (e::es) t)(hg:Gl X x:=by rfl)(hdb:(x==("__debug__":Str))=false:=by decide)(he:starEach (e::es) X.env=(false,eval e X.env)::starEach es X.env:=by rfl)(hpl:(backTo pos (starEach es X.env)).any (·.1)=false:=by rfl):ZE X (.Call (.Name x p) (e::es) [] pos) (aBo C sp t):=.i (aCs h hr hkj ha.o hg hdb he hpl)
end
section
variable {X:Cx}{pins:List (Addr×Obj)}{σ:L2.St}{H:Hp}{s:Shared}{pos:Pos}{kr:Nat}
theorem aDr {e i:Expr}{te ti:DE}(hr:cM kr X.A)(he:ZE X e te)(hi:ZE X i ti)(hs:mS i:=by intro _ _;rfl):ZE X (.Subscript e i pos) (aGC X.w te ti):=.i (aER hr he.o hi.o hs)
end
section
variable {prog:Program}{w:World}
end
section
variable {X:Cx}{e:Expr}{te:DE}{k:Nat}
theorem xO {p1 p2 p3 p4:Pos}(hr:cM k X.A)(hc:X.calm = true)(h1:X.mg "len" = none)(h2:X.mg "set" = none)(he:ZE X e te)(hg1:Gl X "len":=by rfl)(hg2:Gl X "set":=by rfl)(hs1:starEach [.Call (.Name "set" p2) [e] [] p3] X.env = [(false,eval (.Call (.Name "set" p2) [e] [] p3) X.env)]:=by rfl)(hs2:starEach [e] X.env = [(false,eval e X.env)]:=by rfl):ZE X (.Call (.Name "len" p1) [.Call (.Name "set" p2) [e] [] p3] [] p4) (vD te):=.i (aAq hr hc h1 h2 he.o hg1 hg2 hs1 hs2)
end
end Dd
namespace Lw
open PySem PySem.Spec PyProof.Rows L2 Dd Mz
local macro_rules | `(tactic|ac_rfl) => `(tactic|exact ⟨rfl,rfl,rfl,by decide +kernel,rfl,by decide +kernel,by decide +kernel⟩)
local macro_rules|`(tactic|ac_nf)=>do
 let l←("aEt aB6 yS aBo aH2 aGC vD aFf aHH aHd aHn aIO aHg aIU aFy aG9 aG4 aFj aBB aIa aAQ aH9 aIq aIy aGT aD6 aHb aBM aEn aD4 aG0 aBj aE1 aIT aI1 aHl aIr aDU aIV aIG aIQ aID aIW aHx aHP aCq aCU aHC aEp aHS aIL aGY aIl aIF aB5 aAM aFd aBZ aGm aHe aHZ aHh iA aGo List.map List.length_cons List.length_nil Nat.reduceAdd Nat.reduceSub List.reduceReplicate List.cons_append List.nil_append List.set_cons_zero List.set_cons_succ List.getElem?_cons_zero List.getElem?_cons_succ gCn gN gNl aFP aGc aGU aGZ aDD aDN aBY aGL aDJ aC4 aCt aDw aCW aDI aDv ixT ixF aI0 aG3 aIe aHW aHz aFn mJ fT lF dOp xZ dC d2I d2J aG2 sL aEK dOr aGI aCo aF0 aBn aF1 aFI aEq aBW aEx aBI aEo zQ aFU aBa aBw xJ aEI aDF mR aEM aF7 aFO goC aHJ nU Option.join_some aHG aFL aE6 dPt aHN dSl aE5 aBg uZ tF aEs aIk xT yX aCh aIZ aFa aC0 aET aFk aF5 aFW aEm aEV aGk aEF aEy aGN aEP aGE aFz aEX aGf aE9 aGy aEE aFp aEH aEl aEQ aFT aEB aFl aEg aGA".splitOn " ").toArray.mapM λx=>`(Lean.Parser.Tactic.simpLemma|$(Lean.mkIdent x.toName):term)
 `(tactic|try dsimp only[$l,*])
local macro_rules|`(tactic|simp_arith)=>do
 let l←("aGd jJ aEN bT bA id decide_eq_true_eq Bool.not_eq_true' decide_eq_false_iff_not".splitOn " ").toArray.mapM λx=>`(Lean.Parser.Tactic.simpLemma|$(Lean.mkIdent x.toName):term)
 `(tactic|try simp only[$l,*])
noncomputable def top (i:Nat):Stmt:=PySem.Challenge.pw_arcmill_k89_papers_nearly_right.main.body.getD i (.Pass ⟨0,0,0,0⟩)
noncomputable def uB (j:Nat):Stmt->Stmt
 |.ClassDef _ _ _ body _ _ _ _ _ _ _=>body.getD j (.Pass ⟨0,0,0,0⟩)
 |s=>s
section
variable {P:Program}{w:World}{K:Frag}{mg:Str->Option Value}{base:Heap}
noncomputable abbrev eP:Stmt:=top 1
theorem gK:aQ ["one","other"] ["one","other"] (aI eP):=by ac_rfl
theorem kJ (hF:cX K mg "greatest_divisor" eP ["one","other"])(aBR:mg "abs" = none):Has P w K mg base 101 "greatest_divisor" ["one","other"] gL:=by
 refine Has.mkZ hF gK (λds M Q ⟨a,b,e,_⟩=>by rw[e];rfl) λf cdv A outer s H ds M Q E hr h=>?_;obtain⟨a,b,rfl,q⟩:=h;refine⟨_,(aE (aAc PassesOwn.never (aX (lB hr) (aB 1) aC) (aG (yN (i:=0) (j:=1) rfl gK.nd (aA (aB 1) (aA (aM oB (aB 0) (aB 1)) aD)))))
  (aG (aK (cB aGu aBR (aA (aB 0) aD))))),?_⟩
 refine zV (λm ρ M'=>M'=M/\∃x y:Int,ρ=[some (.int x),some (.int y)]/\m=y.natAbs/\Int.gcd x y=Int.gcd a b) _ ⟨rfl,a,b,rfl,rfl,rfl⟩ ?_;rintro m ρ M' ⟨rfl,x,y,rfl,rfl,g⟩;refine⟨rfl,rfl,lD (λc=>?_) (λc=>?_)⟩
 ·have c:y≠0:=by simpa[eqD] using c
  exact⟨c,_,aCV c,rfl,y,x.fmod y,rfl,rfl,(aCn x y).trans g⟩
 ·have c:y=0:=by simpa[eqD] using c
  subst c;refine⟨M',.refl _,?_⟩;have e:(if x<0 then -x else x)=(Int.gcd a b:Int):=by rw[<- g,Int.gcd_zero_right];split<;>omega
  rw[e];exact q
noncomputable abbrev xQ:Stmt:=top 2
theorem mO:aQ ["one","other","shared","part","top","left"] ["one","other"] (aI xQ):=by ac_rfl
theorem aBe (hF:cX K mg "plus" xQ ["one","other"])(dA:Has P w K mg base 101 "greatest_divisor" ["one","other"] gL):Has P w K mg base 102 "plus" ["one","other"] tU:=by
 refine Has.mkZ hF mO uJ λf cdv A outer s H ds M Q E hr h=>?_;obtain⟨p,r,m,n,rfl,_,h1,h2,l,q⟩:=h;refine⟨_,(aE (aY (i:=2) mO.nd (aF dA hr (by decide) (aA (aH (aB 0) aC) (aA (aH (aB 1) aC) aD))))
  (aE (aY (i:=3) mO.nd (aM kP (aH (aB 0) aC) (aB 2)))
  (aE (aY (i:=4) mO.nd (aM eX (aM bW (aH (aB 0) aC) (aM kP (aH (aB 1) aC) (aB 2))) (aM bW (aH (aB 1) aC) (aB 3))))
  (aE (aY (i:=5) mO.nd (aF dA hr (by decide) (aA (aB 4) (aA (aB 2) aD))))
  (aG (aK (aL (aA (aM kP (aB 4) (aB 5)) (aA (aM bW (aB 3) (aM kP (aH (aB 1) aC) (aB 5))) aD))))))))),?_⟩
 obtain⟨g0,l0,gd,ld,e1,e2⟩:=aIX p r _ _ _ _ rfl rfl rfl rfl;have gr:(Int.gcd p.den r.den:Int)∣(r.den:Int):=Int.gcd_dvd_right _ _;have bg:Bd m (Int.gcd p.den r.den:Int):=h1.2.dvd gd (nX p);refine⟨_,_,rfl,aDc h1.2 (by omega) gd (nX p) g0,aDc h1.2 (by omega) gd (nX p) g0,cY h1.1 (h2.2.fdiv gr) (by omega),cY h2.1 (h1.2.fdiv gd) (by omega),_,_,rfl,?_⟩;refine⟨aDc bg (by omega) ld g0 l0,aDc bg (by omega) ld g0 l0,cY (h1.2.fdiv gd) (h2.2.fdiv (Int.dvd_trans ld gr)) (by omega),by show(2:Nat)<=1000;decide,M,.refl _,?_⟩;have q':Q (.tup [.int (p+r).num,.int ((p+r).den:Int)]) M:=q;rw[<- e1,<- e2] at q';exact q'
noncomputable abbrev tO:Stmt:=top 3
theorem aB3:aQ ["one","other"] ["one","other"] (aI tO):=by ac_rfl
theorem aAC (hF:cX K mg "minus" tO ["one","other"])(lK:Has P w K mg base 102 "plus" ["one","other"] tU):Has P w K mg base 103 "minus" ["one","other"] vH:=by refine Has.mkZ hF aB3 uJ λf cdv A outer s H ds M Q E hr h=>?_;obtain⟨p,r,m,n,rfl,_,h1,h2,l,q⟩:=h;refine⟨_,(aG (aK (aF lK hr (by decide) (aA (aB 0) (aA (aL (aA (iG (aH (aB 1) aC)) (aA (aH (aB 1) aC) aD))) aD))))),?_⟩;refine⟨by show(2:Nat)<=1000;decide,p,-r,m,n,by rw[aDK],trivial,h1,h2.neg,l,M,.refl _,?_⟩;show Q (FQ (p + -r)) M;rw[<- Rat.sub_eq_add_neg];exact q
noncomputable abbrev vA:Stmt:=top 5
theorem aB0:aQ ["one","other"] ["one","other"] (aI vA):=by ac_rfl
theorem aAE (hF:cX K mg "below" vA ["one","other"]):Has P w K mg base 101 "below" ["one","other"] vF:=by refine Has.mkZ hF aB0 uJ λf cdv A outer s H ds M Q E hr h=>?_;obtain⟨p,r,m,n,rfl,_,h1,h2,l,q⟩:=h;refine⟨_,(aG (aK (bZ vP (aM bW (aH (aB 0) aC) (aH (aB 1) aC)) (aM bW (aH (aB 1) aC) (aH (aB 0) aC))))),?_⟩;refine⟨cY h1.1 h2.2 (by omega),cY h2.1 h1.2 (by omega),M,.refl _,?_⟩;have e:decide (p.num*(r.den:Int)<r.num*(p.den:Int))=decide (p<r):=decide_eq_decide.mpr (ltQ p r);show Q (.bl (decide (p.num*(r.den:Int)<r.num*(p.den:Int)))) M;rw[e];exact q
noncomputable abbrev lI:Stmt:=top 7
theorem wR:aQ ["p","q"] ["p","q"] (aI lI):=by ac_rfl
theorem uF (hF:cX K mg "together" lI ["p","q"])(lK:Has P w K mg base 102 "plus" ["one","other"] tU):Has P w K mg base 104 "together" ["p","q"] fZ:=by refine Has.mkZ hF wR (λds M Q ⟨x,y,u,v,e,_⟩=>by rw[e];rfl) λf cdv A outer s H ds M Q E hr h=>?_;obtain⟨x,y,u,v,rfl,h1,h2,h3,h4,q⟩:=h;refine⟨_,(aG (aK (aL (aA (aF lK hr (by decide) (aA (aH (aB 0) aC) (aA (aH (aB 1) aC) aD))) (aA (aF lK hr (by decide) (aA (aH (aB 0) aC) (aA (aH (aB 1) aC) aD))) aD))))),?_⟩;exact⟨x,u,_,_,rfl,trivial,h1,h3,by decide,y,v,_,_,rfl,trivial,h2,h4,by decide,by show(2:Nat)<=1000;decide,M,.refl _,q⟩
noncomputable abbrev aA1:Stmt:=top 8
theorem aFx:aQ ["p","q"] ["p","q"] (aI aA1):=by ac_rfl
theorem aDz (hF:cX K mg "off" aA1 ["p","q"])(pU:Has P w K mg base 103 "minus" ["one","other"] vH):Has P w K mg base 104 "off" ["p","q"] wZ:=by refine Has.mkZ hF aFx (λds M Q ⟨x,y,u,v,e,_⟩=>by rw[e];rfl) λf cdv A outer s H ds M Q E hr h=>?_;obtain⟨x,y,u,v,rfl,h1,h2,h3,h4,q⟩:=h;refine⟨_,(aG (aK (aL (aA (aF pU hr (by decide) (aA (aH (aB 0) aC) (aA (aH (aB 1) aC) aD))) (aA (aF pU hr (by decide) (aA (aH (aB 0) aC) (aA (aH (aB 1) aC) aD))) aD))))),?_⟩;exact⟨x,u,_,_,rfl,trivial,h1,h3,by decide,y,v,_,_,rfl,trivial,h2,h4,by decide,by show(2:Nat)<=1000;decide,M,.refl _,q⟩
noncomputable def oD (x y:Rat):Int:=if (x.den:Int)=(y.den:Int) then (x.den:Int) else (x.den:Int)*(y.den:Int)
noncomputable def oX (x y:Rat):Int:=if (x.den:Int)=(y.den:Int) then x.num else x.num*(y.den:Int)
noncomputable def oY (x y:Rat):Int:=if (x.den:Int)=(y.den:Int) then y.num else y.num*(x.den:Int)
theorem nP (x y:Rat):0<oD x y:=by
 have h1:(0:Int)<x.den:=by have:=x.den_pos;omega
 have h2:(0:Int)<y.den:=by have:=y.den_pos;omega
 unfold oD;split
 ·exact h1
 ·exact Int.mul_pos h1 h2
theorem vV (x y:Rat):((oX x y:Int):Rat)=x*(oD x y:Int):=by
 have e:=qF x;unfold oX oD;split
 ·rw[e]
 ·rw[Rat.intCast_mul,Rat.intCast_mul,e];grind
theorem wN (x y:Rat):((oY x y:Int):Rat)=y*(oD x y:Int):=by
 have e:=qF y;unfold oY oD;split
 ·rename_i h;rw[e,h]
 ·rw[Rat.intCast_mul,Rat.intCast_mul,e];grind
theorem tJ {x y:Rat}{n:Nat}(hx:BQ n x)(hy:BQ n y):Bd (n+n) (oX x y)/\Bd (n+n) (oY x y)/\Bd (n+n) (oD x y):=by
 unfold oX oY oD;refine⟨?_,?_,?_⟩
 ·split
  ·exact hx.1.mono (by omega)
  ·exact hx.1.mul hy.2
 ·split
  ·exact hy.1.mono (by omega)
  ·exact hy.1.mul hx.2
 ·split
  ·exact hx.2.mono (by omega)
  ·exact hx.2.mul hy.2
def dW:DSp:=λds M Q=>∃x y n,ds=[PQ x y]/\BQ n x/\BQ n y/\n<=8998/\Q (.tup [.int (oX x y),.int (oY x y),.int (oD x y)]) M
noncomputable abbrev gC:Stmt:=top 10
theorem fK:aQ ["p","x","y"] ["p"] (aI gC):=by ac_rfl
theorem mK (hF:cX K mg "on_one_bottom" gC ["p"]):Has P w K mg base 101 "on_one_bottom" ["p"] dW:=by
 refine Has.mkZ hF fK (λds M Q ⟨x,y,n,e,_⟩=>by rw[e];rfl) λf cdv A outer s H ds M Q E hr h=>?_;obtain⟨x,y,n,rfl,hx,hy,hn,q⟩:=h;refine⟨_,(aE (dD (aB 0) (dM (n:=2) rfl (aP (aN (i:=1) fK.nd) (aP (aN (i:=2) fK.nd) cS))))
  (aE (bL (aX (bU hr) (aH (aB 1) aC) (aH (aB 2) aC)) (aG (aK (aL (aA (aH (aB 1) aC) (aA (aH (aB 2) aC) (aA (aH (aB 1) aC) aD)))))) aV)
  (aG (aK (aL (aA (aM bW (aH (aB 1) aC) (aH (aB 2) aC)) (aA (aM bW (aH (aB 2) aC) (aH (aB 1) aC)) (aA (aM bW (aH (aB 1) aC) (aH (aB 2) aC)) aD)))))))),?_⟩
 unfold oX oY oD at q;ac_nf;rw[bT];refine⟨rfl,dif (λc=>?_) (λc=>?_)⟩
 ·rw[if_pos c,if_pos c,if_pos c] at q;exact⟨by decide,M,.refl _,q⟩
 ·rw[if_neg c,if_neg c,if_neg c] at q;exact⟨cY hx.1 hy.2 (by omega),cY hy.1 hx.2 (by omega),cY hx.2 hy.2 (by omega),by decide,M,.refl _,q⟩
def pV:DSp:=λds M Q=>∃i,ds=[.int i]/\Q (.int (if 0<i then 1 else if i=0 then 0 else -1)) M
noncomputable abbrev xM:Stmt:=top 12
theorem aDe:aQ ["number"] ["number"] (aI xM):=by ac_rfl
theorem aAV (hF:cX K mg "sign" xM ["number"]):Has P w K mg base 101 "sign" ["number"] pV:=by
 refine Has.mkZ hF aDe (λds M Q ⟨x,e,_⟩=>by rw[e];rfl) λf cdv A outer s H ds M Q E hr h=>?_;obtain⟨i,rfl,q⟩:=h;refine⟨_,(aE (bL (aX aCi (aB 0) aC) (aG (aK aC)) aV)
  (aG (aK (sN (aX (bU hr) (aB 0) aC) aC (iG aC))))),?_⟩
 ac_nf;refine dif (λc=>?_) (λc=>?_)
 ·rw[if_pos c] at q;exact⟨M,.refl _,q⟩
 ·rw[if_neg c] at q;rw[bT];refine dif (λd=>?_) (λd=>?_)
  ·rw[if_pos d] at q;exact⟨M,.refl _,q⟩
  ·rw[if_neg d] at q;exact⟨M,.refl _,q⟩
noncomputable def fS (cx cy px py:Rat):Int:=(oX px py*oD cx cy-oX cx cy*oD px py)*(oX px py*oD cx cy-oX cx cy*oD px py)+(oY px py*oD cx cy-oY cx cy*oD px py)*(oY px py*oD cx cy-oY cx cy*oD px py)
theorem aD0 (cx cy px py:Rat):((fS cx cy px py:Int):Rat)=((px-cx)*(px-cx)+(py-cy)*(py-cy))*(((oD cx cy:Int):Rat)*((oD px py:Int):Rat))*(((oD cx cy:Int):Rat)*((oD px py:Int):Rat)):=by unfold fS;simp only[Rat.intCast_add,Rat.intCast_mul,Rat.intCast_sub];rw[vV,vV,wN,wN];grind
def lC:DSp:=λds M Q=>∃cx cy px py n,ds=[PQ cx cy,PQ px py]/\BQ n cx/\BQ n cy/\BQ n px/\BQ n py/\n<=4000/\Q (.tup [.int (fS cx cy px py),.int (oD px py)]) M
noncomputable abbrev jG:Stmt:=top 14
theorem cH:aQ ["c","p","cx","cy","cd","px","py","pd","x","y"] ["c","p"] (aI jG):=by ac_rfl
theorem qD (hF:cX K mg "scaled_far" jG ["c","p"])(bX:Has P w K mg base 101 "on_one_bottom" ["p"] dW):Has P w K mg base 102 "scaled_far" ["c","p"] lC:=by
 refine Has.mkZ hF cH (λds M Q ⟨cx,cy,px,py,n,e,_⟩=>by rw[e];rfl) λf cdv A outer s H ds M Q E hr h=>?_;obtain⟨cx,cy,px,py,n,rfl,h1,h2,h3,h4,hn,q⟩:=h;refine⟨_,(aE (dD (aF bX hr (by decide) (aA (aB 0) aD)) (dM (n:=3) rfl (aP (aN (i:=2) cH.nd) (aP (aN (i:=3) cH.nd) (aP (aN (i:=4) cH.nd) cS)))))
  (aE (dD (aF bX hr (by decide) (aA (aB 1) aD)) (dM (n:=3) rfl (aP (aN (i:=5) cH.nd) (aP (aN (i:=6) cH.nd) (aP (aN (i:=7) cH.nd) cS)))))
  (aE (aY (i:=8) cH.nd (aM gD (aM bW (aB 5) (aB 4)) (aM bW (aB 2) (aB 7))))
  (aE (aY (i:=9) cH.nd (aM gD (aM bW (aB 6) (aB 4)) (aM bW (aB 3) (aB 7))))
  (aG (aK (aL (aA (aM eX (aM bW (aB 8) (aB 8)) (aM bW (aB 9) (aB 9))) (aA (aB 7) aD))))))))),?_⟩
 ac_nf;obtain⟨a1,a2,a3⟩:=tJ h1 h2;obtain⟨b1,b2,b3⟩:=tJ h3 h4;have dX:Bd (n+n+(n+n)+1) (oX px py*oD cx cy-oX cx cy*oD px py):=(b1.mul a3).sub (a1.mul b3);have dY:Bd (n+n+(n+n)+1) (oY px py*oD cx cy-oY cx cy*oD px py):=(b2.mul a3).sub (a2.mul b3);refine⟨cx,cy,n,rfl,h1,h2,by omega,?_⟩;ac_nf;refine⟨rfl,px,py,n,rfl,h3,h4,by omega,?_⟩;ac_nf;exact⟨rfl,cY b1 a3 (by omega),cY a1 b3 (by omega),cY b2 a3 (by omega),cY a2 b3 (by omega),cY dX dX (by omega),cY dY dY (by omega),by decide,M,.refl _,q⟩
noncomputable def cQ (cx cy px py:Rat):Rat:=(px-cx)*(px-cx)+(py-cy)*(py-cy)
theorem aDZ {cx cy px py:Rat}{n:Nat}(h1:BQ n cx)(h2:BQ n cy)(h3:BQ n px)(h4:BQ n py):Bd (8*n+3) (fS cx cy px py):=by obtain⟨a1,a2,a3⟩:=tJ h1 h2;obtain⟨b1,b2,b3⟩:=tJ h3 h4;have dX:Bd (n+n+(n+n)+1) (oX px py*oD cx cy-oX cx cy*oD px py):=(b1.mul a3).sub (a1.mul b3);have dY:Bd (n+n+(n+n)+1) (oY px py*oD cx cy-oY cx cy*oD px py):=(b2.mul a3).sub (a2.mul b3);exact((dX.mul dX).add (dY.mul dY)).mono (by omega)
theorem aDo (cx cy px py qx qy:Rat):(0<fS cx cy px py*oD qx qy*oD qx qy-fS cx cy qx qy*oD px py*oD px py↔cQ cx cy qx qy<cQ cx cy px py) /\
  (fS cx cy px py*oD qx qy*oD qx qy-fS cx cy qx qy*oD px py*oD px py=0↔cQ cx cy px py=cQ cx cy qx qy):=by
 have e:((fS cx cy px py*oD qx qy*oD qx qy-fS cx cy qx qy*oD px py*oD px py:Int):Rat)=(cQ cx cy px py-cQ cx cy qx qy)*((((oD cx cy:Int):Rat)*((oD px py:Int):Rat)*((oD qx qy:Int):Rat))*(((oD cx cy:Int):Rat)*((oD px py:Int):Rat)*((oD qx qy:Int):Rat))):=by simp only[Rat.intCast_mul,Rat.intCast_sub];rw[aD0,aD0];unfold cQ;grind
 have c1:(0:Rat)<((oD cx cy:Int):Rat):=Rat.intCast_pos.mpr (nP _ _);have c2:(0:Rat)<((oD px py:Int):Rat):=Rat.intCast_pos.mpr (nP _ _);have c3:(0:Rat)<((oD qx qy:Int):Rat):=Rat.intCast_pos.mpr (nP _ _);have k0:(0:Rat)<(((oD cx cy:Int):Rat)*((oD px py:Int):Rat)*((oD qx qy:Int):Rat))*(((oD cx cy:Int):Rat)*((oD px py:Int):Rat)*((oD qx qy:Int):Rat)):=Rat.mul_pos (Rat.mul_pos (Rat.mul_pos c1 c2) c3) (Rat.mul_pos (Rat.mul_pos c1 c2) c3);generalize (((oD cx cy:Int):Rat)*((oD px py:Int):Rat)*((oD qx qy:Int):Rat))*(((oD cx cy:Int):Rat)*((oD px py:Int):Rat)*((oD qx qy:Int):Rat))=κ at e k0;generalize fS cx cy px py*oD qx qy*oD qx qy-fS cx cy qx qy*oD px py*oD px py=z at e ⊢;generalize cQ cx cy px py=u at e ⊢;generalize cQ cx cy qx qy=v at e ⊢;constructor
 ·rw[<- Rat.intCast_pos,e];constructor
  ·intro h;by_cases c:v<u
   ·exact c
   ·have:u-v<=0:=by grind
    have:=Rat.mul_nonneg (a:=v-u) (b:=κ) (by grind) (by grind);grind
  ·intro h;exact Rat.mul_pos (by grind) k0
 ·constructor
  ·intro h;rw[h] at e;have:=(Rat.mul_eq_zero.mp e.symm).resolve_right (by grind);grind
  ·intro h;have:(z:Rat)=0:=by rw[e,h];grind
   exact Rat.intCast_eq_zero_iff.mp this
noncomputable def aAh (cx cy px py qx qy:Rat):Int:=if cQ cx cy qx qy<cQ cx cy px py then 1 else if cQ cx cy px py=cQ cx cy qx qy then 0 else -1
def hZ:DSp:=λds M Q=>∃cx cy px py qx qy n,ds=[PQ cx cy,PQ px py,PQ qx qy]/\BQ n cx/\BQ n cy/\BQ n px/\BQ n py/\BQ n qx/\BQ n qy/\n<=4000/\Q (.int (aAh cx cy px py qx qy)) M
noncomputable abbrev nH:Stmt:=top 13
theorem iF:aQ ["c","p","q","p_square","pd","q_square","qd"] ["c","p","q"] (aI nH):=by ac_rfl
theorem wJ (hF:cX K mg "farther" nH ["c","p","q"])(gO:Has P w K mg base 102 "scaled_far" ["c","p"] lC)(nR:Has P w K mg base 101 "sign" ["number"] pV):Has P w K mg base 103 "farther" ["c","p","q"] hZ:=by
 refine Has.mkZ hF iF (λds M Q ⟨cx,cy,px,py,qx,qy,n,e,_⟩=>by rw[e];rfl) λf cdv A outer s H ds M Q E hr h=>?_;obtain⟨cx,cy,px,py,qx,qy,n,rfl,h1,h2,h3,h4,h5,h6,hn,q⟩:=h;refine⟨_,(aE (dD (aF gO hr (by decide) (aA (aB 0) (aA (aB 1) aD))) (dM (n:=2) rfl (aP (aN (i:=3) iF.nd) (aP (aN (i:=4) iF.nd) cS))))
  (aE (dD (aF gO hr (by decide) (aA (aB 0) (aA (aB 2) aD))) (dM (n:=2) rfl (aP (aN (i:=5) iF.nd) (aP (aN (i:=6) iF.nd) cS))))
  (aG (aK (aF nR hr (by decide) (aA (aM gD (aM bW (aM bW (aB 3) (aB 6)) (aB 6)) (aM bW (aM bW (aB 5) (aB 4)) (aB 4))) aD)))))),?_⟩
 ac_nf;have bP:=aDZ h1 h2 h3 h4;have bQ:=aDZ h1 h2 h5 h6;have dP:=(tJ h3 h4).2.2;have dQ:=(tJ h5 h6).2.2;refine⟨cx,cy,px,py,n,rfl,h1,h2,h3,h4,hn,?_⟩;ac_nf;refine⟨rfl,cx,cy,qx,qy,n,rfl,h1,h2,h5,h6,hn,?_⟩;ac_nf;refine⟨rfl,cY bP dQ (by omega),cY (bP.mul dQ) dQ (by omega),cY bQ dP (by omega),cY (bQ.mul dP) dP (by omega),_,rfl,M,.refl _,?_⟩;obtain⟨e1,e2⟩:=aDo cx cy px py qx qy;have e:(if 0<fS cx cy px py*oD qx qy*oD qx qy-fS cx cy qx qy*oD px py*oD px py then 1 else if fS cx cy px py*oD qx qy*oD qx qy-fS cx cy qx qy*oD px py*oD px py=0 then 0 else -1:Int)=aAh cx cy px py qx qy:=by
  unfold aAh;by_cases c:cQ cx cy qx qy<cQ cx cy px py
  ·rw[if_pos c,if_pos (e1.mpr c)]
  ·rw[if_neg c,if_neg (λz=>c (e1.mp z))];by_cases d:cQ cx cy px py=cQ cx cy qx qy
   ·rw[if_pos d,if_pos (e2.mpr d)]
   ·rw[if_neg d,if_neg (λz=>d (e2.mp z))]
 rw[e];exact q
theorem aCr (z:Int):(if 0<z then 1 else if z=0 then 0 else -1:Int)=sgn (z:Rat):=by
 unfold sgn;by_cases c:0<z
 ·rw[if_pos c,if_pos (show(0:Rat)<(z:Rat) by exact_mod_cast c)]
 ·rw[if_neg c,if_neg (show ¬(0:Rat)<(z:Rat) from λh=>c (by exact_mod_cast h))];by_cases d:z=0
  ·rw[if_pos d,if_neg (show ¬(z:Rat)<0 by rw[d];decide)]
  ·have h1:z<0:=by omega
   rw[if_neg d,if_pos (show(z:Rat)<0 by exact_mod_cast h1)]
noncomputable abbrev xN:Stmt:=top 11
theorem fN:aQ ["a","b","p","ax","ay","ad","bx","by","bd","px","py","pd"] ["a","b","p"] (aI xN):=by ac_rfl
theorem aBX (hF:cX K mg "side" xN ["a","b","p"])(bX:Has P w K mg base 101 "on_one_bottom" ["p"] dW)(nR:Has P w K mg base 101 "sign" ["number"] pV):Has P w K mg base 102 "side" ["a","b","p"] pY:=by
 refine Has.mkZ hF fN (λds M Q ⟨x,y,u,v,x2,y2,e,_⟩=>by rw[e];rfl) λf cdv A outer s H ds M Q E hr h=>?_;obtain⟨ax,ay,bx,by',px,py,rfl,h1,h2,h3,h4,h5,h6,q⟩:=h;refine⟨_,(aE (dD (aF bX hr (by decide) (aA (aB 0) aD)) (dM (n:=3) rfl (aP (aN (i:=3) fN.nd) (aP (aN (i:=4) fN.nd) (aP (aN (i:=5) fN.nd) cS)))))
  (aE (dD (aF bX hr (by decide) (aA (aB 1) aD)) (dM (n:=3) rfl (aP (aN (i:=6) fN.nd) (aP (aN (i:=7) fN.nd) (aP (aN (i:=8) fN.nd) cS)))))
  (aE (dD (aF bX hr (by decide) (aA (aB 2) aD)) (dM (n:=3) rfl (aP (aN (i:=9) fN.nd) (aP (aN (i:=10) fN.nd) (aP (aN (i:=11) fN.nd) cS)))))
  (aG (aK (aF nR hr (by decide) (aA (aM eX (aM gD (aM bW (aB 9) (aM gD (aM bW (aB 4) (aB 8)) (aM bW (aB 7) (aB 5)))) (aM bW (aB 10) (aM gD (aM bW (aB 3) (aB 8)) (aM bW (aB 6) (aB 5))))) (aM bW (aB 11) (aM gD (aM bW (aB 3) (aB 7)) (aM bW (aB 6) (aB 4))))) aD))))))),?_⟩
 ac_nf;obtain⟨bX1,bY1,bd1⟩:=tJ h1 h2;obtain⟨bX2,bY2,bd2⟩:=tJ h3 h4;obtain⟨bX3,bY3,bd3⟩:=tJ h5 h6;have ex1:=vV ax ay;have ey1:=wN ax ay;have ex2:=vV bx by';have ey2:=wN bx by';have ex3:=vV px py;have ey3:=wN px py;have p1:=nP ax ay;have p2:=nP bx by';have p3:=nP px py;refine⟨ax,ay,900,rfl,h1,h2,by decide,?_⟩;ac_nf;refine⟨rfl,bx,by',900,rfl,h3,h4,by decide,?_⟩;ac_nf;refine⟨rfl,px,py,900,rfl,h5,h6,by decide,?_⟩;ac_nf;generalize oX ax ay=X1 at *;generalize oY ax ay=Y1 at *;generalize oD ax ay=d1 at *;generalize oX bx by'=X2 at *;generalize oY bx by'=Y2 at *;generalize oD bx by'=d2 at *;generalize oX px py=X3 at *;generalize oY px py=Y3 at *;generalize oD px py=d3 at *;have k1:IntMulOk Y1 d2:=cY bY1 bd2;have k2:IntMulOk Y2 d1:=cY bY2 bd1;have k3:IntMulOk X3 (Y1*d2-Y2*d1):=cY bX3 ((bY1.mul bd2).sub (bY2.mul bd1));have k4:IntMulOk X1 d2:=cY bX1 bd2;have k5:IntMulOk X2 d1:=cY bX2 bd1;have k6:IntMulOk Y3 (X1*d2-X2*d1):=cY bY3 ((bX1.mul bd2).sub (bX2.mul bd1));have k7:IntMulOk X1 Y2:=cY bX1 bY2;have k8:IntMulOk X2 Y1:=cY bX2 bY1;have k9:IntMulOk d3 (X1*Y2-X2*Y1):=cY bd3 ((bX1.mul bY2).sub (bX2.mul bY1));refine⟨rfl,k1,k2,k3,k4,k5,k6,k7,k8,k9,_,rfl,M,.refl _,?_⟩;have e:((X3*(Y1*d2-Y2*d1)-Y3*(X1*d2-X2*d1)+d3*(X1*Y2-X2*Y1):Int):Rat)=eQ ax ay bx by' px py*((d1:Rat)*d2*d3):=by simp only[Rat.intCast_add,Rat.intCast_sub,Rat.intCast_mul];rw[ex1,ey1,ex2,ey2,ex3,ey3];unfold eQ;grind
 rw[aCr,e,aDM (Rat.mul_pos (Rat.mul_pos (aE2 p1) (aE2 p2)) (aE2 p3))];exact q
noncomputable abbrev qM:Stmt:=top 15
theorem aAx:aQ ["p","q"] ["p","q"] (aI qM):=by ac_rfl
theorem yC (hF:cX K mg "before" qM ["p","q"])(pS:Has P w K mg base 101 "below" ["one","other"] vF):Has P w K mg base 102 "before" ["p","q"] oE:=by
 refine Has.mkZ hF aAx (λds M Q ⟨x,y,u,v,e,_⟩=>by rw[e];rfl) λf cdv A outer s H ds M Q E hr h=>?_;obtain⟨x,y,u,v,rfl,h1,h2,h3,h4,q⟩:=h;refine⟨_,(aE (bL (aX (bU hr) (aH (aB 0) aC) (aH (aB 1) aC)) (aG (aK (aF pS hr (by decide) (aA (aH (aB 0) aC) (aA (aH (aB 1) aC) aD))))) aV)
  (aG (aK (aF pS hr (by decide) (aA (aH (aB 0) aC) (aA (aH (aB 1) aC) aD)))))),?_⟩
 unfold bef at q;refine⟨rfl,rfl,?_⟩;rw[show(id (eqD (FQ x) (FQ u)))=decide (x=u) from qS x u];refine dif (λc=>?_) (λc=>?_)
 ·rw[if_pos c] at q;exact⟨y,v,_,_,rfl,trivial,h2,h4,by decide,M,.refl _,q⟩
 ·rw[if_neg c] at q;exact⟨x,u,_,_,rfl,trivial,h1,h3,by decide,M,.refl _,q⟩
inductive Pc where
 |dot (x y:Rat)|str (x y u v:Rat)|arc (cx cy ax ay bx by':Rat)|ring (cx cy ax ay:Rat)
noncomputable def pcD:Pc->D
 |.dot x y=>.tup [.str "dot",PQ x y]
 |.str x y u v=>.tup [.str "stretch",PQ x y,PQ u v]
 |.arc a b c d e f=>.tup [.str "arc",PQ a b,PQ c d,PQ e f]
 |.ring a b c d=>.tup [.str "ring",PQ a b,PQ c d]
def pcB (B:Nat):Pc->Prop
 |.dot x y=>BQ B x/\BQ B y
 |.str x y u v=>BQ B x/\BQ B y/\BQ B u/\BQ B v
 |.arc a b c d e f=>BQ B a/\BQ B b/\BQ B c/\BQ B d/\BQ B e/\BQ B f
 |.ring a b c d=>BQ B a/\BQ B b/\BQ B c/\BQ B d
noncomputable def mkS (x y u v:Rat):Pc:=if x=u/\y=v then .dot x y else if bef x y u v=true then .str x y u v else .str u v x y
def rH:DSp:=λds M Q=>∃x y u v,ds=[PQ x y,PQ u v]/\BQ 4400 x/\BQ 4400 y/\BQ 4400 u/\BQ 4400 v/\Q (pcD (mkS x y u v)) M
noncomputable abbrev nN:Stmt:=top 17
theorem xV:aQ ["p","q"] ["p","q"] (aI nN):=by ac_rfl
theorem vI (hF:cX K mg "stretch" nN ["p","q"])(hJ:Has P w K mg base 102 "before" ["p","q"] oE):Has P w K mg base 103 "stretch" ["p","q"] rH:=by
 refine Has.mkZ hF xV (λds M Q ⟨x,y,u,v,e,_⟩=>by rw[e];rfl) λf cdv A outer s H ds M Q E hr h=>?_;obtain⟨x,y,u,v,rfl,h1,h2,h3,h4,q⟩:=h;refine⟨_,(aE (bL (aX (bU hr) (aB 0) (aB 1)) (aG (aK (aL (aA bY (aA (aB 0) aD))))) aV)
  (aE (bL (dN (aF hJ hr (by decide) (aA (aB 0) (aA (aB 1) aD)))) (aG (aK (aL (aA bY (aA (aB 0) (aA (aB 1) aD)))))) aV)
  (aG (aK (aL (aA bY (aA (aB 1) (aA (aB 0) aD)))))))),?_⟩
 ac_nf;rw[jJ];unfold mkS at q;refine dif (λc=>?_) (λc=>?_)
 ·rw[if_pos c] at q;exact⟨by decide,M,.refl _,q⟩
 rw[if_neg c] at q;refine⟨_,_,_,_,rfl,h1,h2,h3,h4,lD (λd=>?_) (λd=>?_)⟩
 ·rw[if_pos d] at q;exact⟨by decide,M,.refl _,q⟩
 ·rw[if_neg (by rw[d];decide)] at q;exact⟨by decide,M,.refl _,q⟩
noncomputable def onS (x y u v a b:Rat):Bool:=decide (eQ x y u v a b=0)&&(!bef a b x y && !bef u v a b)
theorem jA {z:Rat}:sgn z=0↔z=0:=by
 unfold sgn;by_cases h:0<z
 ·rw[if_pos h];constructor
  ·intro e;exact absurd e (by decide)
  ·rintro rfl;exact absurd h (by decide)
 rw[if_neg h];by_cases h2:z<0
 ·rw[if_pos h2];constructor
  ·intro e;exact absurd e (by decide)
  ·rintro rfl;exact absurd h2 (by decide)
 rw[if_neg h2];exact⟨λ_=>by grind,λ_=>rfl⟩
def kN:DSp:=λds M Q=>(∃x y u v a b,ds=[pcD (.str x y u v),PQ a b]/\BQ 900 x/\BQ 900 y/\BQ 900 u/\BQ 900 v/\BQ 900 a/\BQ 900 b/\Q (.bl (onS x y u v a b)) M) ∨
 (∃x y a b,ds=[pcD (.dot x y),PQ a b]/\Q (.bl (decide (a=x/\b=y))) M)
noncomputable abbrev iQ:Stmt:=top 18
theorem qN:aQ ["piece","p"] ["piece","p"] (aI iQ):=by ac_rfl
theorem pK (hF:cX K mg "on_straight" iQ ["piece","p"])(iO:Has P w K mg base 102 "side" ["a","b","p"] pY)(hJ:Has P w K mg base 102 "before" ["p","q"] oE):Has P w K mg base 103 "on_straight" ["piece","p"] kN:=by
 refine Has.mkZ hF qN (λds M Q h=>by rcases h with⟨x,y,u,v,a,b,e,_⟩|⟨x,y,a,b,e,_⟩<;>(rw[e];rfl)) λf cdv A outer s H ds M Q E hr h=>?_;refine⟨_,(aE (bL (aX (bU hr) (aH (aB 0) aC) bY) (aG (aK (bZ (bU hr) (aB 1) (aH (aB 0) aC)))) aV)
  (aG (aK (dE (bZ (bU hr) (aF iO hr (by decide) (aA (aH (aB 0) aC) (aA (aH (aB 0) aC) (aA (aB 1) aD)))) aC) (dE (kR (aF hJ hr (by decide) (aA (aB 1) (aA (aH (aB 0) aC) aD)))) (dU (kR (aF hJ hr (by decide) (aA (aH (aB 0) aC) (aA (aB 1) aD)))))))))),?_⟩
 rcases h with⟨x,y,u,v,a,b,rfl,h1,h2,h3,h4,h5,h6,q⟩|⟨x,y,a,b,rfl,q⟩
 ·dsimp only[pcD];ac_nf;simp_arith;have m:∀{z:Rat},BQ 900 z->BQ 4400 z:=λh=>h.mono (by decide);rw[if_neg (by decide)];refine⟨_,_,_,_,_,_,rfl,h1,h2,h3,h4,h5,h6,?_⟩;simp_arith;unfold onS at q;by_cases c:eQ x y u v a b=0
  ·rw[if_pos (jA.mpr c)];rw[decide_eq_true c,Bool.true_and] at q;refine⟨_,_,_,_,rfl,m h5,m h6,m h1,m h2,?_⟩;cases d:bef a b x y with
   |true =>
    rw[d] at q;exact⟨M,.refl _,q⟩
   |false =>
    rw[d] at q;exact⟨_,_,_,_,rfl,m h3,m h4,m h5,m h6,M,.refl _,q⟩
  ·rw[if_neg (λz=>c (jA.mp z))];rw[decide_eq_false c,Bool.false_and] at q;exact⟨M,.refl _,q⟩
 ·dsimp only[pcD];ac_nf;simp_arith;rw[if_pos trivial];exact⟨M,.refl _,q⟩
def qW:DSp:=λds M Q=>∃c ax ay px py qx qy,ds=[c,PQ ax ay,PQ px py,PQ qx qy]/\BQ 900 ax/\BQ 900 ay/\BQ 900 px/\BQ 900 py/\BQ 900 qx/\BQ 900 qy/\Q (.bl (jZ ax ay px py qx qy)) M
noncomputable abbrev tW:Stmt:=top 21
theorem aBv:aQ ["c","a","p","q"] ["c","a","p","q"] (aI tW):=by ac_rfl
theorem aAm (hF:cX K mg "ahead" tW ["c","a","p","q"])(iO:Has P w K mg base 102 "side" ["a","b","p"] pY):Has P w K mg base 103 "ahead" ["c","a","p","q"] qW:=by
 refine Has.mkZ hF aBv (λds M Q ⟨c,x,y,u,v,x2,y2,e,_⟩=>by rw[e];rfl) λf cdv A outer s H ds M Q E hr h=>?_;obtain⟨c,ax,ay,px,py,qx,qy,rfl,h1,h2,h3,h4,h5,h6,q⟩:=h;refine⟨_,(aE (bL (aX (bU hr) (aB 2) (aB 1)) (aG (aK (bZ (lB hr) (aB 3) (aB 1)))) aV)
  (aG (aK (bZ (bU hr) (aF iO hr (by decide) (aA (aB 1) (aA (aB 2) (aA (aB 3) aD)))) aC)))),?_⟩
 ac_nf;simp_arith;unfold jZ at q;by_cases c1:px=ax/\py=ay
 ·rw[if_pos c1] at q ⊢;exact⟨M,.refl _,q⟩
 ·rw[if_neg c1] at q ⊢;refine⟨ax,ay,px,py,qx,qy,rfl,h1,h2,h3,h4,h5,h6,?_⟩;simp_arith;exact⟨M,.refl _,q⟩
theorem oQ (cx cy x y p q u v:Rat):jZ (cx+x) (cy+y) (cx+p) (cy+q) (cx+u) (cy+v)=jZ x y p q u v:=by
 unfold jZ;have e1:(cx+p=cx+x/\cy+q=cy+y)↔(p=x/\q=y):=⟨λ⟨a,b⟩=>⟨by grind,by grind⟩,λ⟨a,b⟩=>⟨by grind,by grind⟩⟩;have e2:(cx+u=cx+x/\cy+v=cy+y)↔(u=x/\v=y):=⟨λ⟨a,b⟩=>⟨by grind,by grind⟩,λ⟨a,b⟩=>⟨by grind,by grind⟩⟩;have e3:eQ (cx+x) (cy+y) (cx+p) (cy+q) (cx+u) (cy+v)=eQ x y p q u v:=by unfold eQ;grind
 rw[e3];by_cases h1:p=x/\q=y<;>by_cases h2:u=x/\v=y<;>simp[h1,h2,e1,e2]
noncomputable def onP:Pc->Rat->Rat->Bool
 |.dot x y,a,b=>decide (a=x/\b=y)
 |.str x y u v,a,b=>onS x y u v a b
 |.arc cx cy ax ay bx by',a,b=>decide (cQ cx cy a b=cQ cx cy ax ay) && !jZ ax ay bx by' a b
 |.ring cx cy ax ay,a,b=>decide (cQ cx cy a b=cQ cx cy ax ay)
theorem gQ {cx cy px py qx qy:Rat}:aAh cx cy px py qx qy=0↔cQ cx cy px py=cQ cx cy qx qy:=by
 unfold aAh;by_cases c:cQ cx cy qx qy<cQ cx cy px py
 ·rw[if_pos c];exact⟨λz=>absurd z (by decide),λz=>by rw[z] at c;exact absurd c Rat.lt_irrefl⟩
 ·rw[if_neg c];by_cases d:cQ cx cy px py=cQ cx cy qx qy
  ·rw[if_pos d];exact⟨λ_=>d,λ_=>rfl⟩
  ·rw[if_neg d];exact⟨λz=>absurd z (by decide),λz=>absurd z d⟩
def zF:DSp:=λds M Q=>∃pc a b,ds=[pcD pc,PQ a b]/\pcB 900 pc/\BQ 900 a/\BQ 900 b/\Q (.bl (onP pc a b)) M
noncomputable abbrev aGi:Stmt:=top 20
theorem aHK:aQ ["piece","p"] ["piece","p"] (aI aGi):=by ac_rfl
theorem aFZ (hF:cX K mg "on" aGi ["piece","p"])(iR:Has P w K mg base 103 "on_straight" ["piece","p"] kN)(gR:Has P w K mg base 103 "farther" ["c","p","q"] hZ)(kO:Has P w K mg base 103 "ahead" ["c","a","p","q"] qW):Has P w K mg base 104 "on" ["piece","p"] zF:=by
 refine Has.mkZ hF aHK (λds M Q ⟨x,y,u,e,_⟩=>by rw[e];rfl) λf cdv A outer s H ds M Q E hr h=>?_;obtain⟨pc,a,b,rfl,hB,ha,hb,q⟩:=h;refine⟨_,(aE (bL (iE (gI (aX (bU hr) (aH (aB 0) aC) bY) (fO (aX (bU hr) (aH (aB 0) aC) bY)))) (aG (aK (aF iR hr (by decide) (aA (aB 0) (aA (aB 1) aD))))) aV)
  (aE (bL (aX (lB hr) (aF gR hr (by decide) (aA (aH (aB 0) aC) (aA (aB 1) (aA (aH (aB 0) aC) aD)))) aC) (aG (aK cU)) aV)
  (aG (aK (aE4 (bZ (bU hr) (aH (aB 0) aC) bY) (dU (kR (aF kO hr (by decide) (aA (aH (aB 0) aC) (aA (aH (aB 0) aC) (aA (aH (aB 0) aC) (aA (aB 1) aD)))))))))))),?_⟩
 cases pc with
 |dot x y =>
  dsimp only[pcD];ac_nf;rw[bA];refine dif (λ_=>?_) (λc=>absurd rfl c);exact ifT rfl (.inr ⟨x,y,a,b,rfl,M,.refl _,q⟩)
 |str x y u v =>
  dsimp only[pcD];ac_nf;rw[bA];refine dif (λc=>absurd c (by decide)) (λ_=>?_);rw[bA];refine dif (λ_=>?_) (λc=>absurd rfl c);exact .inl ⟨x,y,u,v,a,b,rfl,hB.1,hB.2.1,hB.2.2.1,hB.2.2.2,ha,hb,M,.refl _,q⟩
 |ring cx cy ax ay =>
  obtain⟨b1,b2,b3,b4⟩:=hB;dsimp only[pcD];ac_nf;rw[bA];refine dif (λc=>absurd c (by decide)) (λ_=>?_);rw[bA];refine dif (λc=>absurd c (by decide)) (λ_=>?_);refine⟨_,_,_,_,_,_,900,rfl,b1,b2,ha,hb,b3,b4,by decide,?_⟩;ac_nf;rw[bT];dsimp only[onP] at q;by_cases c:cQ cx cy a b=cQ cx cy ax ay
  ·rw[decide_eq_true (gQ.mpr c)];rw[decide_eq_true c] at q;refine ifF rfl ?_;rw[bA];exact⟨M,.refl _,q⟩
  ·rw[decide_eq_false (λz=>c (gQ.mp z))];rw[decide_eq_false c] at q;exact ifT rfl ⟨M,.refl _,q⟩
 |arc cx cy ax ay bx by' =>
  obtain⟨b1,b2,b3,b4,b5,b6⟩:=hB;dsimp only[pcD];ac_nf;rw[bA];refine dif (λc=>absurd c (by decide)) (λ_=>?_);rw[bA];refine dif (λc=>absurd c (by decide)) (λ_=>?_);refine⟨_,_,_,_,_,_,900,rfl,b1,b2,ha,hb,b3,b4,by decide,?_⟩;ac_nf;rw[bT];dsimp only[onP] at q;by_cases c:cQ cx cy a b=cQ cx cy ax ay
  ·rw[decide_eq_true (gQ.mpr c)];rw[decide_eq_true c,Bool.true_and] at q;refine ifF rfl ?_;rw[bA];exact⟨_,_,_,_,_,_,_,rfl,b3,b4,b5,b6,ha,hb,M,.refl _,q⟩
  ·rw[decide_eq_false (λz=>c (gQ.mp z))];rw[decide_eq_false c,Bool.false_and] at q;exact ifT rfl ⟨M,.refl _,q⟩
noncomputable abbrev lG:Stmt:=top 45
theorem vR:aQ ["_law_cell"] ["_law_cell"] (aI lG):=by ac_rfl
theorem uQ (hF:cX K mg "_law_feed" lG ["_law_cell"])(rY:mg "int" = none):Has P w K mg base 101 "_law_feed" ["_law_cell"] oH:=by refine Has.mkZ hF vR (λds M Q ⟨c,e,_⟩=>by rw[e];rfl) λf cdv A outer s H ds M Q E hr h=>?_;obtain⟨c,rfl,q⟩:=h;refine⟨_,(aG (aK (bO (aA (aB 0) (aA aC (aA (qB aGO rY (aA (bZ aD9 (aB 0) (aM aCm aC aC)) aD)) aD)))))),?_⟩;refine⟨⟨by decide,by decide,by decide⟩,by show(3:Nat)<=1000;decide,λp hp=>⟨_,.refl _,?_⟩⟩;exact q p _ hp ⟨c,0,_,aJ,by decide,by decide⟩ Adv.put
noncomputable abbrev lT:Stmt:=top 46
theorem fU:aQ ["_law_feed_here","_law_many","_law_k","_law_found","_law_number"] ["_law_feed_here","_law_many"] (aI lT):=by ac_rfl
theorem uN (hF:cX K mg "_law_draw" lT ["_law_feed_here","_law_many"]):Has P w K mg base 101 "_law_draw" ["_law_feed_here","_law_many"] eT:=by
 refine Has.mkZ hF fU (λds M Q ⟨a,m,n,e,_⟩=>by rw[e];rfl) λf cdv A outer s H ds M Q E hr h=>?_;obtain⟨a,many,n,rfl,⟨c,k,fl,ha,k0,k1⟩,hn,hm,hB,q⟩:=h;refine⟨_,(aE (aY (i:=2) fU.nd (aH (aB 0) aC))
  (aE (dD (aM eX (aB 2) aC) (yQ (aB 0) aC))
  (aE (bL (iE (mF (aX (bU hr) (aH (aB 0) aC) aC) (kA (aX aCi (aH (aB 0) aC) aC)))) (aE (aY (i:=3) fU.nd (aM oB (aH (aB 0) aC) (aB 1)))
  (aE (dD (aM kP (aH (aB 0) aC) (aB 1)) (yQ (aB 0) aC))
  (aG (aK (aB 3))))) aV)
  (aE (aY (i:=4) fU.nd (aM oB (aM bW (aM eX (aM eX (aM oB (aH (aB 0) aC) (aM aCm aC aC)) (aM bW (aM bW aC (aB 2)) (aB 2))) (aB 2)) aC) aC))
  (aE (aY (i:=4) fU.nd (aM oB (aM eX (aM bW (aB 4) aC) aC) aC))
  (aG (aK (aM oB (aM kP (aB 4) aC) (aB 1))))))))),?_⟩
 have hm0:many≠0:=by omega
 have hk:Bd 63 k:=Bd.of (by omega) (by omega);refine⟨_,_,ha,rfl,_,1,ha,rfl,?_⟩;have h1:bC M a [.int c,.int (k+1),.int fl] a=some [.int c,.int (k+1),.int fl]:=aJ;have av:Adv M (bC M a [.int c,.int (k+1),.int fl]) a:=Adv.put;have fd1:FdN (bC M a [.int c,.int (k+1),.int fl]) a (n+1):=⟨c,k+1,fl,h1,by omega,by omega⟩;have slow:∀x:Int,Q (.int ((x.fdiv 16).fmod many)) (bC M a [.int c,.int (k+1),.int fl]):=λx=>q _ _ (Int.fmod_nonneg_of_pos _ hm) (Int.fmod_lt_of_pos _ hm) fd1 av;refine⟨_,_,h1,rfl,rfl,rfl,?_⟩;have bV:∀(u v:Int),∃ds d,bC M a [.int c,.int (k+1),.int fl] a=some ds/\atI ds 0=some d/\True:=λ_ _=>⟨_,_,h1,rfl,trivial⟩;refine lD (λ_=>?_) (λ_=>?_)
 ·refine⟨_,_,h1,rfl,?_⟩;refine dif (λ_=>?_) (λ_=>?_)
  ·refine⟨_,_,h1,rfl,hm0,_,_,h1,rfl,⟨hm0,Nat.lt_succ_of_lt (hB.log (by decide))⟩,_,0,h1,rfl,_,.refl _,?_⟩;refine q _ _ (Int.fmod_nonneg_of_pos _ hm) (Int.fmod_lt_of_pos _ hm) ⟨_,k+1,fl,aJ,by omega,by omega⟩ (Adv.put.trans Adv.put)
  ·refine⟨_,_,h1,rfl,⟨by decide,by decide,by decide⟩,(by dsimp only;decide),xF (by unfold Bd;decide),nV hk,nV (by unfold Bd;decide),(by dsimp only;decide),nV (by unfold Bd;decide),(by dsimp only;decide),⟨by decide,by decide +kernel⟩,hm0,_,.refl _,?_⟩;exact slow _
 ·refine⟨_,_,h1,rfl,⟨by decide,by decide,by decide⟩,(by dsimp only;decide),xF (by unfold Bd;decide),nV hk,nV (by unfold Bd;decide),(by dsimp only;decide),nV (by unfold Bd;decide),(by dsimp only;decide),⟨by decide,by decide +kernel⟩,hm0,_,.refl _,?_⟩;exact slow _
def kI:DSp:=λds M Q=>∃(ns:List Int)(k:Nat),ds=[.fz (ns.map D.int),.int (k:Int)]/\∀c:Int,Q (.int c) M
noncomputable abbrev iL:Stmt:=top 44
theorem rJ:aQ ["_law_script","_law_k"] ["_law_script","_law_k"] (aI iL):=by ac_rfl
theorem pE (hF:cX K mg "_law_cell_at" iL ["_law_script","_law_k"])(cG:mg "len" = none):Has P w K mg base 101 "_law_cell_at" ["_law_script","_law_k"] kI:=by
 refine Has.mkZ hF rJ (λds M Q ⟨a,n,z,_⟩=>by rw[z];rfl) λf cdv A outer s H ds M Q E hr h=>?_;obtain⟨ns,k,rfl,q⟩:=h;refine⟨_,(aE (bL (aX vP (aB 1) (cB fH cG (aA (aB 0) aD))) (aG (aK (aH (aB 0) (aB 1)))) aV)
  (aG (aK aC))),?_⟩
 ac_nf;show(λx M1=>_) _ _;refine dif (λc=>?_) (λc=>⟨M,.refl _,q 0⟩);have hk:k<(ns.map D.int).length:=by have:(k:Int)<((ns.map D.int).length:Int):=c;omega
 have hat:atI (ns.map D.int) (k:Int)=some (.int (ns[k]'(by simpa using hk))):=mX (by rw[getElem?_eq_getElem hk];simp);try dsimp only[jK]
 rw[hat];exact⟨M,.refl _,q _⟩
noncomputable def shP (x y:Rat):Pc->Pc
 |.dot a b=>.dot (x+a) (y+b)
 |.str a b c d=>.str (x+a) (y+b) (x+c) (y+d)
 |.arc a b c d e f=>.arc (x+a) (y+b) (x+c) (y+d) (x+e) (y+f)
 |.ring a b c d=>.ring (x+a) (y+b) (x+c) (y+d)
noncomputable def gA:Pc->Bool
 |.dot _ _=>false
 |_=>true
noncomputable def kT:Pc->Pc->Bool
 |.str x y u v,.str a b c d=>decide (eQ x y u v a b=0)&&decide (eQ x y u v c d=0)
 |.arc x y u v _ _,.arc a b c d _ _=>decide (x=a/\y=b)&&decide (cQ x y u v=cQ x y c d)
 |.arc x y u v _ _,.ring a b c d=>decide (x=a/\y=b)&&decide (cQ x y u v=cQ x y c d)
 |.ring x y u v,.arc a b c d _ _=>decide (x=a/\y=b)&&decide (cQ x y u v=cQ x y c d)
 |.ring x y u v,.ring a b c d=>decide (x=a/\y=b)&&decide (cQ x y u v=cQ x y c d)
 |_,_=>false
noncomputable def goS:List Pc->Rat->Rat->Bool
 |[],_,_=>true
 |.str x y u v::ps,a,b=>onP (.str x y u v) a b&&goS ps u v
 |_::_,_,_=>false
noncomputable def goR (t r:Rat):List Pc->Rat->Rat->Bool
 |[],_,_=>true
 |.arc cx cy ax ay bx by'::ps,a,b=>!(decide (bx=a/\by'=b))&&onP (.arc cx cy ax ay bx by') a b&&decide ((!(decide (a=t/\b=r)) && !(jZ a b bx by' t r))=ps.isEmpty)&&goR t r ps bx by'
 |_::_,_,_=>false
noncomputable def jU:Pc->Bool
 |.ring _ _ _ _=>true
 |_=>false
noncomputable def chP (g:Pc)(ps:List Pc):Bool:=!ps.isEmpty&&ps.all (kT g)&&match g with
 |.str x y u v=>goS ps x y&&(match ps.getLast? with|some p=>onP p u v|none=>false)
 |.arc _ _ ax ay bx by'=>if (match ps.head? with|some p=>jU p|none=>false) then decide (ps.length=1) else goR bx by' ps ax ay
 |.ring _ _ ax ay=>if (match ps.head? with|some p=>jU p|none=>false) then decide (ps.length=1) else goR ax ay ps ax ay
 |.dot _ _=>false
section
variable (x y:Rat)
theorem sP (a b c d e f:Rat):eQ (x+a) (y+b) (x+c) (y+d) (x+e) (y+f)=eQ a b c d e f:=by unfold eQ;grind
theorem zC (a b c d:Rat):cQ (x+a) (y+b) (x+c) (y+d)=cQ a b c d:=by unfold cQ;grind
theorem jN (z a b:Rat):z+a=z+b↔a=b:=⟨λh=>by grind,λh=>by rw[h]⟩
theorem aAz (z a b:Rat):z+a<z+b↔a<b:=⟨λh=>by grind,λh=>by grind⟩
theorem aBA (a b c d:Rat):bef (x+a) (y+b) (x+c) (y+d)=bef a b c d:=by unfold bef;simp only[jN,aAz]
theorem yA (p:Pc)(a b:Rat):onP (shP x y p) (x+a) (y+b)=onP p a b:=by cases p<;>simp only[shP,onP,onS,sP,zC,aBA,oQ,jN]
theorem aCZ (p q:Pc):kT (shP x y p) (shP x y q)=kT p q:=by cases p<;>cases q<;>simp only[shP,kT,sP,zC,jN]
theorem aAW:∀(ps:List Pc)(a b:Rat),goS (ps.map (shP x y)) (x+a) (y+b)=goS ps a b
 |[],_,_=>rfl
 |.str p q u v::ps,a,b=>by have h:=yA x y (.str p q u v) a b;simp only[shP] at h;simp only[map_cons,shP,goS,aAW ps,h]
 |.dot _ _::ps,_,_=>rfl
 |.arc _ _ _ _ _ _::ps,_,_=>rfl
 |.ring _ _ _ _::ps,_,_=>rfl
theorem xE (t r:Rat):∀(ps:List Pc)(a b:Rat),goR (x+t) (y+r) (ps.map (shP x y)) (x+a) (y+b)=goR t r ps a b
 |[],_,_=>rfl
 |.arc c d p q u v::ps,a,b=>by have h:=yA x y (.arc c d p q u v) a b;simp only[shP] at h;simp only[map_cons,shP,goR,xE t r ps,h,oQ,jN,List.isEmpty_map]
 |.dot _ _::ps,_,_=>rfl
 |.str _ _ _ _::ps,_,_=>rfl
 |.ring _ _ _ _::ps,_,_=>rfl
theorem aAf (p:Pc):jU (shP x y p)=jU p:=by cases p<;>rfl
theorem aFK (g:Pc)(ps:List Pc):chP (shP x y g) (ps.map (shP x y))=chP g ps:=by
 have e1:(ps.map (shP x y)).all (kT (shP x y g))=ps.all (kT g):=by rw[all_map];congr 1;funext q;exact aCZ x y g q
 have e2:(match (ps.map (shP x y)).head? with|some p=>jU p|none=>false)=(match ps.head? with|some p=>jU p|none=>false):=by
  cases ps with
  |nil=>rfl
  |cons p ps=>exact aAf x y p
 unfold chP;rw[e1,List.isEmpty_map];cases g with
 |dot a b=>rfl
 |str a b c d =>
  simp only[shP,aAW,List.getLast?_map];cases ps.getLast? with
  |none=>rfl
  |some p=>simp only[Option.map_some,yA]
 |arc a b c d e f=>simp only[shP,xE,e2,length_map]
 |ring a b c d=>simp only[shP,xE,e2,length_map]
end
noncomputable abbrev qZ:Stmt:=top 24
theorem aAD:aQ ["number","n"] ["number","n"] (aI qZ):=by ac_rfl
theorem wX (hF:cX K mg "raised" qZ ["number","n"]):Has P w K mg base 101 "raised" ["number","n"] (λ_ _ _=>False):=by exact Has.never hF aAD 100
noncomputable abbrev tY:Stmt:=top 9
theorem aAX:aQ ["p","number"] ["p","number"] (aI tY):=by ac_rfl
theorem aAj (hF:cX K mg "grown" tY ["p","number"]):Has P w K mg base 101 "grown" ["p","number"] (λ_ _ _=>False):=by exact Has.never hF aAX 100
noncomputable def mH:D:=.tup [.str "none"]
def jB:DSp:=λds M Q=>∃n d,ds=[mH,.int n,d]/\Q d M
noncomputable abbrev gF:Stmt:=top 25
theorem oC:aQ ["kind","n","p"] ["kind","n","p"] (aI gF):=by ac_rfl
theorem mU (hF:cX K mg "stepped_point" gF ["kind","n","p"])(bR:Has P w K mg base 104 "together" ["p","q"] fZ)(rG:Has P w K mg base 104 "off" ["p","q"] wZ)(pT:Has P w K mg base 101 "grown" ["p","number"] (λ_ _ _=>False))(qO:Has P w K mg base 101 "raised" ["number","n"] (λ_ _ _=>False)):Has P w K mg base 105 "stepped_point" ["kind","n","p"] jB:=by
 refine Has.mkZ hF oC (λds M Q ⟨n,d,e,_⟩=>by rw[e];rfl) λf cdv A outer s H ds M Q E hr h=>?_;obtain⟨n,d,rfl,q⟩:=h;refine⟨_,(aE (bL (aX (bU hr) (aH (aB 0) aC) bY) (aG (aK (aF bR hr (by decide) (aA (aB 2) (aA (aF pT hr (by decide) (aA (aH (aB 0) aC) (aA (aL (aA (aB 1) (aA aC aD))) aD))) aD))))) aV)
  (aE (bL (aX (bU hr) (aH (aB 0) aC) bY) (aG (aK (aF bR hr (by decide) (aA (aH (aB 0) aC) (aA (aF pT hr (by decide) (aA (aF rG hr (by decide) (aA (aB 2) (aA (aH (aB 0) aC) aD))) (aA (aF qO hr (by decide) (aA (aH (aB 0) aC) (aA (aB 1) aD))) aD))) aD))))) aV)
  (aG (aK (aB 2))))),?_⟩
 dsimp only[mH];ac_nf;rw[bA];refine ifF (by decide) ?_;rw[bA];exact ifF (by decide) ⟨M,.refl _,q⟩
noncomputable def aDx:Pc->Str
 |.dot _ _=>"dot"
 |.str _ _ _ _=>"stretch"
 |.arc _ _ _ _ _ _=>"arc"
 |.ring _ _ _ _=>"ring"
def iY:DSp:=λds M Q=>∃n p,ds=[mH,.int n,pcD p]/\Q (pcD p) M
noncomputable abbrev eI:Stmt:=top 26
theorem nO:aQ ["kind","n","piece"] ["kind","n","piece"] (aI eI):=by ac_rfl
theorem nF (hF:cX K mg "stepped_piece" eI ["kind","n","piece"])(gP:mg "tuple" = none)(gE:Has P w K mg base 105 "stepped_point" ["kind","n","p"] jB):Has P w K mg base 106 "stepped_piece" ["kind","n","piece"] iY:=by
 refine Has.mkZ hF nO (λds M Q ⟨n,d,e,_⟩=>by rw[e];rfl) λf cdv A outer s H ds M Q E hr h=>?_;obtain⟨n,p,rfl,q⟩:=h;refine⟨_,(aG (aK (aM aC5 (aL (aA (aH (aB 2) aC) aD)) (qB aBu gP (aA (aDG (⟨rfl,by decide +kernel,by decide +kernel,by decide +kernel,rfl,by decide +kernel⟩:mN ["kind","n","piece"] (aI eI) ["p","kind","n"] [none,some 0,some 1] _) rfl (xS (aB 2) (mZ aC) vY) (λ_ _ _ _ _=>(aN (i:=0) (show Nodup (["p","kind","n"]:List Str) by decide +kernel))) (λ_ _ _ _ _=>(aF gE hr (by decide) (aA (aB 1) (aA (aB 2) (aA (aB 0) aD)))))) aD))))),?_⟩;cases p with
 |dot x y =>
  dsimp only[pcD];ac_nf;refine⟨by decide,λz=>absurd (show(1:Nat)=0 from z.1) (by decide),?_⟩;show itT (.tup [PQ x y]) _ _ _ _ _;rw[mR];refine tM (Nat.le_of_ble_eq_true rfl) ?_;ac_nf;refine⟨_,_,rfl,?_⟩;ac_nf;intro p hp;exact⟨_,aJ,Nat.le_of_ble_eq_true rfl,M,aT.new hp _,q⟩
 |str x y u v =>
  dsimp only[pcD];ac_nf;refine⟨by decide,λz=>absurd (show(1:Nat)=0 from z.1) (by decide),?_⟩;show itT (.tup [PQ x y,PQ u v]) _ _ _ _ _;rw[mR];refine tM (Nat.le_of_ble_eq_true rfl) ?_;ac_nf;refine⟨_,_,rfl,?_⟩;ac_nf;refine⟨_,_,rfl,?_⟩;ac_nf;intro p hp;exact⟨_,aJ,Nat.le_of_ble_eq_true rfl,M,aT.new hp _,q⟩
 |arc a b c d e f =>
  dsimp only[pcD];ac_nf;refine⟨by decide,λz=>absurd (show(1:Nat)=0 from z.1) (by decide),?_⟩;show itT (.tup [PQ a b,PQ c d,PQ e f]) _ _ _ _ _;rw[mR];refine tM (Nat.le_of_ble_eq_true rfl) ?_;ac_nf;refine⟨_,_,rfl,?_⟩;ac_nf;refine⟨_,_,rfl,?_⟩;ac_nf;refine⟨_,_,rfl,?_⟩;ac_nf;intro p hp;exact⟨_,aJ,Nat.le_of_ble_eq_true rfl,M,aT.new hp _,q⟩
 |ring a b c d =>
  dsimp only[pcD];ac_nf;refine⟨by decide,λz=>absurd (show(1:Nat)=0 from z.1) (by decide),?_⟩;show itT (.tup [PQ a b,PQ c d]) _ _ _ _ _;rw[mR];refine tM (Nat.le_of_ble_eq_true rfl) ?_;ac_nf;refine⟨_,_,rfl,?_⟩;ac_nf;refine⟨_,_,rfl,?_⟩;ac_nf;intro p hp;exact⟨_,aJ,Nat.le_of_ble_eq_true rfl,M,aT.new hp _,q⟩
def jR:DSp:=λds M Q=>∃g p,ds=[pcD g,pcD p]/\gA g=true/\gA p=true/\pcB 900 g/\pcB 900 p/\Q (.bl (kT g p)) M
noncomputable abbrev gZ:Stmt:=top 28
theorem pB:aQ ["one","other"] ["one","other"] (aI gZ):=by ac_rfl
theorem nY (hF:cX K mg "same_carrier" gZ ["one","other"])(iO:Has P w K mg base 102 "side" ["a","b","p"] pY)(gR:Has P w K mg base 103 "farther" ["c","p","q"] hZ):Has P w K mg base 104 "same_carrier" ["one","other"] jR:=by
 refine Has.mkZ hF pB (λds M Q ⟨n,d,e,_⟩=>by rw[e];rfl) λf cdv A outer s H ds M Q E hr h=>?_;obtain⟨g,p,rfl,ng,np,bg,bp,q⟩:=h;refine⟨_,(aE (bL (iE (gI (aX (bU hr) (aH (aB 0) aC) bY) (fO (aX (bU hr) (aH (aB 1) aC) bY)))) (aG (aK (dE (bZ (bU hr) (aH (aB 0) aC) (aH (aB 1) aC)) (dE (bZ (bU hr) (aF iO hr (by decide) (aA (aH (aB 0) aC) (aA (aH (aB 0) aC) (aA (aH (aB 1) aC) aD)))) aC) (dU (bZ (bU hr) (aF iO hr (by decide) (aA (aH (aB 0) aC) (aA (aH (aB 0) aC) (aA (aH (aB 1) aC) aD)))) aC)))))) aV)
  (aG (aK (dE (bZ (bU hr) (aH (aB 0) aC) (aH (aB 1) aC)) (dU (bZ (bU hr) (aF gR hr (by decide) (aA (aH (aB 0) aC) (aA (aH (aB 0) aC) (aA (aH (aB 1) aC) aD)))) aC)))))),?_⟩
 have far:∀{cx cy ax ay bx by':Rat},BQ 900 cx->BQ 900 cy->BQ 900 ax->BQ 900 ay->BQ 900 bx->BQ 900 by'->∀{R:DQ},R (.int (aAh cx cy ax ay bx by')) M->hZ [PQ cx cy,PQ ax ay,PQ bx by'] M R:=λa b c d e f R r=>⟨_,_,_,_,_,_,900,rfl,a,b,c,d,e,f,by decide,r⟩;have rnd:∀{x y u v a b c d:Rat},BQ 900 x->BQ 900 y->BQ 900 u->BQ 900 v->BQ 900 c->BQ 900 d->Q (.bl (decide (x=a/\y=b)&&decide (cQ x y u v=cQ x y c d))) M ->
   if decide (x=a/\y=b)=true then hZ [PQ x y,PQ u v,PQ c d] M λx M1=>dEq id x (.int 0) M1 (Dn Q) else Dn Q (.bl false) M:=λ{x y u v a b c d} g1 g2 g3 g4 p1 p2 q=>by
  refine dif (λe=>?_) (λe=>?_)
  ·rw[decide_eq_true e,Bool.true_and] at q;refine far g1 g2 g3 g4 p1 p2 ?_;rw[bT];by_cases z:cQ x y u v=cQ x y c d
   ·rw[decide_eq_true z] at q;rw[decide_eq_true (gQ.mpr z)];exact⟨M,.refl _,q⟩
   ·rw[decide_eq_false z] at q;rw[decide_eq_false λe=>z (gQ.mp e)];exact⟨M,.refl _,q⟩
  ·rw[decide_eq_false e,Bool.false_and] at q;exact⟨M,.refl _,q⟩
 cases g with
 |dot x y=>cases ng
 |str x y u v =>
  obtain⟨g1,g2,g3,g4⟩:=bg;cases p with
  |dot x y=>cases np
  |str a b c d =>
   obtain⟨p1,p2,p3,p4⟩:=bp;dsimp only[pcD];ac_nf;rw[bA];refine dif (λ_=>?_) (λc=>absurd rfl c);refine ifT rfl ?_;rw[bA];refine dif (λ_=>?_) (λc=>absurd rfl c);refine⟨_,_,_,_,_,_,rfl,g1,g2,g3,g4,p1,p2,?_⟩;ac_nf;rw[bT];dsimp only[kT] at q;refine dif (λe=>?_) (λe=>?_)
   ·rw[decide_eq_true (jA.mp e),Bool.true_and] at q;refine⟨_,_,_,_,_,_,rfl,g1,g2,g3,g4,p3,p4,?_⟩;ac_nf;rw[bT];by_cases z:eQ x y u v c d=0
    ·rw[decide_eq_true z] at q;rw[decide_eq_true (jA.mpr z)];exact⟨M,.refl _,q⟩
    ·rw[decide_eq_false z] at q;rw[decide_eq_false λe=>z (jA.mp e)];exact⟨M,.refl _,q⟩
   ·rw[decide_eq_false (λz=>e (jA.mpr z)),Bool.false_and] at q;exact⟨M,.refl _,q⟩
  |arc a b c d e f =>
   dsimp only[pcD];ac_nf;rw[bA];refine dif (λ_=>?_) (λc=>absurd rfl c);refine ifT rfl ?_;rw[bA];exact dif (λc=>absurd c (by decide)) (λ_=>⟨M,.refl _,q⟩)
  |ring a b c d =>
   dsimp only[pcD];ac_nf;rw[bA];refine dif (λ_=>?_) (λc=>absurd rfl c);refine ifT rfl ?_;rw[bA];exact dif (λc=>absurd c (by decide)) (λ_=>⟨M,.refl _,q⟩)
 |arc x y u v u' v' =>
  obtain⟨g1,g2,g3,g4,_⟩:=bg;cases p with
  |dot x y=>cases np
  |str a b c d =>
   dsimp only[pcD];ac_nf;rw[bA];refine dif (λc=>absurd c (by decide)) (λ_=>?_);rw[bA];refine dif (λ_=>?_) (λc=>absurd rfl c);rw[bA];exact dif (λc=>absurd c (by decide)) (λ_=>⟨M,.refl _,q⟩)
  |arc a b c d e f =>
   obtain⟨p1,p2,p3,p4,_⟩:=bp;dsimp only[pcD];ac_nf;rw[bA];refine dif (λc=>absurd c (by decide)) (λ_=>?_);rw[bA];refine dif (λc=>absurd c (by decide)) (λ_=>?_);rw[jJ];exact rnd g1 g2 g3 g4 p3 p4 q
  |ring a b c d =>
   obtain⟨p1,p2,p3,p4⟩:=bp;dsimp only[pcD];ac_nf;rw[bA];refine dif (λc=>absurd c (by decide)) (λ_=>?_);rw[bA];refine dif (λc=>absurd c (by decide)) (λ_=>?_);rw[jJ];exact rnd g1 g2 g3 g4 p3 p4 q
 |ring x y u v =>
  obtain⟨g1,g2,g3,g4⟩:=bg;cases p with
  |dot x y=>cases np
  |str a b c d =>
   dsimp only[pcD];ac_nf;rw[bA];refine dif (λc=>absurd c (by decide)) (λ_=>?_);rw[bA];refine dif (λ_=>?_) (λc=>absurd rfl c);rw[bA];exact dif (λc=>absurd c (by decide)) (λ_=>⟨M,.refl _,q⟩)
  |arc a b c d e f =>
   obtain⟨p1,p2,p3,p4,_⟩:=bp;dsimp only[pcD];ac_nf;rw[bA];refine dif (λc=>absurd c (by decide)) (λ_=>?_);rw[bA];refine dif (λc=>absurd c (by decide)) (λ_=>?_);rw[jJ];exact rnd g1 g2 g3 g4 p3 p4 q
  |ring a b c d =>
   obtain⟨p1,p2,p3,p4⟩:=bp;dsimp only[pcD];ac_nf;rw[bA];refine dif (λc=>absurd c (by decide)) (λ_=>?_);rw[bA];refine dif (λc=>absurd c (by decide)) (λ_=>?_);rw[jJ];exact rnd g1 g2 g3 g4 p3 p4 q
noncomputable def iX:Pc->Bool
 |.str _ _ _ _=>true
 |_=>false
theorem uO {ps:List Pc}{i:Nat}{d:D}(h:(ps.map pcD)[i]?=some d):∃p,ps[i]?=some p/\d=pcD p:=by
 rw[getElem?_map] at h;cases e:ps[i]? with
 |none=>rw[e] at h;cases h
 |some p=>rw[e] at h;cases h;exact⟨p,rfl,rfl⟩
theorem pL {α:Type}{xs:List α}{i:Nat}{x:α}(h:xs[i]?=some x):xs.drop i=x::xs.drop (i+1):=by obtain⟨hl,e⟩:=List.getElem?_eq_some_iff.mp h;rw[List.drop_eq_getElem_cons hl,e]
def iK:DSp:=λds M Q=>∃x y u v a ps p,ds=[pcD (.str x y u v),.ref a]/\M (.l a)=some (ps.map pcD)/\ps.getLast?=some p/\(∀q∈ps,iX q=true/\pcB 900 q)/\pcB 900 (.str x y u v)/\Q (.bl (goS ps x y&&onP p u v)) M
noncomputable abbrev fC:Stmt:=top 41
theorem dR:aQ ["goal","pieces","stand","piece"] ["goal","pieces"] (aI fC):=by ac_rfl
theorem lN (hF:cX K mg "leads_straight" fC ["goal","pieces"])(rT:Has P w K mg base 104 "on" ["piece","p"] zF):Has P w K mg base 105 "leads_straight" ["goal","pieces"] iK:=by
 refine Has.mkZ hF dR (λds M Q ⟨_,_,_,_,_,_,_,e,_⟩=>by rw[e];rfl) λf cdv A outer s H ds M Q E hr h=>?_;obtain⟨x,y,u,v,a,ps,p,rfl,ha,hp,hs,⟨b1,b2,b3,b4⟩,q⟩:=h;refine⟨_,(aE (aY (i:=2) dR.nd (aH (aB 0) aC))
  (aE (qI PassesOwn.never rfl (aB 1) (aN (i:=3) dR.nd) (aE (bL (eK (dN (aF rT hr (by decide) (aA (aB 3) (aA (aB 2) aD))))) (aG (aK cU)) aV)
  (aG (aY (i:=2) dR.nd (aH (aB 3) aC)))))
  (aG (aK (aF rT hr (by decide) (aA (aH (aB 1) (iG aC)) (aA (aH (aB 0) aC) aD))))))),?_⟩
 dsimp only[pcD];ac_nf;refine⟨_,ha,λi ρ M'=>M' = M/\∃c d o,ρ = [some (.tup [.str "stretch",PQ x y,PQ u v]),some (.ref a),some (PQ c d),o]/\BQ 900 c/\BQ 900 d/\goS ps x y=goS (ps.drop i) c d,⟨rfl,x,y,none,rfl,b1,b2,rfl⟩,?_,?_,?_⟩
 ·rintro i ρ M' _ ⟨rfl,_⟩ a' e;cases e;exact ha
 ·rintro i d1 ρ M' hd ⟨rfl,c,d,o,rfl,bc,bd,eg⟩;obtain⟨r,hr',rfl⟩:=uO hd;obtain⟨sr,br⟩:=hs r (mem_of_getElem? hr');rw[pL hr'] at eg;cases r with
  |str r1 r2 r3 r4 =>
   ac_nf;refine⟨.str r1 r2 r3 r4,c,d,rfl,br,bc,bd,?_⟩;ac_nf;rw[goS] at eg;cases z:onP (.str r1 r2 r3 r4) c d with
   |false =>
    rw[z,Bool.false_and] at eg;rw[eg,Bool.false_and] at q;exact⟨M',.refl _,q⟩
   |true =>
    rw[z,Bool.true_and] at eg;dsimp only[pcD];ac_nf;exact⟨rfl,_,_,_,rfl,br.2.2.1,br.2.2.2,eg⟩
  |_=>cases sr
 ·rintro ρ M' ⟨rfl,c,d,o,rfl,bc,bd,eg⟩;rw[length_map,List.drop_length,goS] at eg;rw[eg,Bool.true_and] at q;ac_nf;obtain⟨ys,rfl⟩:=List.getLast?_eq_some_iff.mp hp;refine⟨_,_,ha,by rw[map_append];exact aBC _ _,p,u,v,rfl,(hs p (mem_append_right _ mem_cons_self)).2,b3,b4,M',.refl _,q⟩
theorem aEe {g:Bool->Bool}{a b:Bool}{M:DM}{Q:DQ}:dEq g (.bl a) (.bl b) M Q=Q (.bl (g (decide (a=b)))) M:=by
 show(bH 60 (.bl a)=true/\bH 60 (.bl b)=true/\Q (.bl (g (eqD (.bl a) (.bl b)))) M)=_;have e:eqD (.bl a) (.bl b)=decide (a=b):=by show(a==b)=_;by_cases h:a=b<;>simp[h]
 rw[e];exact propext ⟨λh=>h.2.2,λh=>⟨rfl,rfl,h⟩⟩
noncomputable def sS:Pc->Bool
 |.arc _ _ _ _ _ _=>true
 |.ring _ _ _ _=>true
 |_=>false
noncomputable def gFr:Pc->Rat×Rat
 |.arc _ _ a b _ _=>(a,b)
 |.ring _ _ a b=>(a,b)
 |_=>(0,0)
noncomputable def gTo:Pc->Rat×Rat
 |.arc _ _ _ _ a b=>(a,b)
 |.ring _ _ a b=>(a,b)
 |_=>(0,0)
theorem ix2 {g:Pc}(h:sS g=true){M:DM}{Q:DQ}:jK (pcD g) (.int 2) M Q=Q (PQ (gFr g).1 (gFr g).2) M:=by cases g<;>first|(cases h;done)|rfl
theorem ixm {g:Pc}(h:sS g=true){M:DM}{Q:DQ}:jK (pcD g) (.int (-1)) M Q=Q (PQ (gTo g).1 (gTo g).2) M:=by cases g<;>first|(cases h;done)|rfl
def iC:DSp:=λds M Q=>∃g a ps,ds=[pcD g,.ref a]/\M (.l a)=some (ps.map pcD)/\ps.length<=100/\sS g=true/\(∀q∈ps,sS q=true/\pcB 900 q)/\pcB 900 g/\Q (.bl (goR (gTo g).1 (gTo g).2 ps (gFr g).1 (gFr g).2)) M
noncomputable abbrev iT:Stmt:=top 42
theorem cI:aQ ["goal","pieces","stand","stop","left","piece","met"] ["goal","pieces"] (aI iT):=by ac_rfl
theorem pC (hF:cX K mg "leads_round" iT ["goal","pieces"])(cG:mg "len" = none)(rT:Has P w K mg base 104 "on" ["piece","p"] zF)(kO:Has P w K mg base 103 "ahead" ["c","a","p","q"] qW):Has P w K mg base 105 "leads_round" ["goal","pieces"] iC:=by
 refine Has.mkZ hF cI (λds M Q ⟨_,_,_,e,_⟩=>by rw[e];rfl) λf cdv A outer s H ds M Q E hr h=>?_;obtain⟨g,a,ps,rfl,ha,hl,rg,hs,bg,q⟩:=h;refine⟨_,(aE (aY (i:=2) cI.nd (aH (aB 0) aC))
  (aE (aY (i:=3) cI.nd (aH (aB 0) (iG aC)))
  (iB (aY (i:=4) cI.nd (cB fH cG (aA (aB 1) aD)))
  (aE (qI PassesOwn.never rfl (aB 1) (aN (i:=5) cI.nd) (aE (bL (iE (gI (aX (bU hr) (aH (aB 5) aC) bY) (gI (aX (bU hr) (aH (aB 5) aC) (aB 2)) (fO (eK (dN (aF rT hr (by decide) (aA (aB 5) (aA (aB 2) aD))))))))) (aG (aK cU)) aV)
  (aE (aCc (i:=4) aFm cI.nd aC)
  (aE (aY (i:=6) cI.nd (dE (bZ (lB hr) (aB 2) (aB 3)) (dU (kR (aF kO hr (by decide) (aA (aH (aB 5) aC) (aA (aB 2) (aA (aH (aB 5) aC) (aA (aB 3) aD)))))))))
  (aE (bL (aX (lB hr) (aB 6) (bZ (bU hr) (aB 4) aC)) (aG (aK cU)) aV)
  (aG (aY (i:=2) cI.nd (aH (aB 5) aC))))))))
  (aG (aK cU)))))),?_⟩
 have b4:BQ 900 (gFr g).1/\BQ 900 (gFr g).2/\BQ 900 (gTo g).1/\BQ 900 (gTo g).2:=by
  cases g with
  |dot _ _=>cases rg
  |str _ _ _ _=>cases rg
  |arc g1 g2 g3 g4 g5 g6=>exact⟨bg.2.2.1,bg.2.2.2.1,bg.2.2.2.2.1,bg.2.2.2.2.2⟩
  |ring g1 g2 g3 g4=>exact⟨bg.2.2.1,bg.2.2.2,bg.2.2.1,bg.2.2.2⟩
 ac_nf;show jK (pcD g) (.int 2) M _;rw[ix2 rg];ac_nf;rw[ixm rg];ac_nf;refine⟨λρ' M'=>M'=M/\ρ'=[some (pcD g),some (.ref a),some (PQ (gFr g).1 (gFr g).2),some (PQ (gTo g).1 (gTo g).2),some (.int ps.length),none,none],⟨_,ha,rfl,?_⟩,?_⟩
 ·rw[length_map]
 rintro _ M0 ⟨rfl,rfl⟩;generalize (gFr g).1=fx at *;generalize (gFr g).2=fy at *;generalize (gTo g).1=t at *;generalize (gTo g).2=r at *;obtain⟨c1,c2,c3,c4⟩:=b4;generalize pcD g=gd;ac_nf;refine⟨_,ha,λi ρ M'=>M'=M0/\∃c d o1 o2,ρ=[some gd,some (.ref a),some (PQ c d),some (PQ t r),some (.int ((ps.length:Int)-(i:Int))),o1,o2]/\BQ 900 c/\BQ 900 d/\goR t r ps fx fy=goR t r (ps.drop i) c d,⟨rfl,fx,fy,none,none,?_,c1,c2,rfl⟩,?_,?_,?_⟩
 ·rw[show(ps.length:Int)-((0:Nat):Int)=(ps.length:Int) by omega]
 ·rintro i ρ M' _ ⟨rfl,_⟩ a' e;cases e;exact ha
 ·rintro i d1 ρ M' hd ⟨rfl,c,d,o1,o2,rfl,bc,bd,eg⟩;obtain⟨p,hp,rfl⟩:=uO hd;obtain⟨sr,br⟩:=hs p (mem_of_getElem? hp);rw[pL hp] at eg;cases p with
  |dot _ _=>cases sr
  |str _ _ _ _=>cases sr
  |ring p1 p2 p3 p4 =>
   dsimp only[pcD];ac_nf;rw[bA];refine dif (λ_=>?_) (λc=>absurd rfl c);refine ifT rfl ?_;rw[goR] at eg
   ·rw[eg] at q;exact⟨M',.refl _,q⟩
   ·intros;contradiction
  |arc p1 p2 p3 p4 p5 p6 =>
   obtain⟨e1,e2,e3,e4,e5,e6⟩:=id br;rw[goR] at eg;dsimp only[pcD];ac_nf;rw[bA];refine dif (λc=>absurd c (by decide)) (λ_=>?_);rw[jJ];refine dif (λz=>?_) (λz=>?_)
   ·refine ifT rfl ?_;rw[decide_eq_true z,Bool.not_true,Bool.false_and,Bool.false_and,Bool.false_and] at eg;rw[eg] at q;exact⟨M',.refl _,q⟩
   rw[decide_eq_false z,Bool.not_false,Bool.true_and] at eg;refine⟨.arc p1 p2 p3 p4 p5 p6,c,d,rfl,br,bc,bd,?_⟩;ac_nf;cases z1:onP (.arc p1 p2 p3 p4 p5 p6) c d with
   |false =>
    rw[z1,Bool.false_and,Bool.false_and] at eg;rw[eg] at q;exact⟨M',.refl _,q⟩
   |true =>
    rw[z1,Bool.true_and] at eg;have hlt:=(List.getElem?_eq_some_iff.mp hp).1;have el:(drop (i+1) ps).isEmpty=decide ((ps.length:Int)-(i:Int)-1=0):=by
     have hd':=length_drop (i:=i+1) (l:=ps);cases e:ps.drop (i+1) with
     |nil =>
      rw[e] at hd';rw[decide_eq_true (by simp at hd';omega)];rfl
     |cons x xs =>
      rw[e] at hd';rw[decide_eq_false (by simp at hd';omega)];rfl
    have fin:∀m:Bool,(!decide (c=t/\d=r) && !jZ c d p5 p6 t r)=m->dEq id (.int ((ps.length:Int)-(i:Int)-1)) (.int 0) M' λy M2=>dEq not (.bl m) y M2 λd' M3=>match d' with
     |.bl k=>if k = true then Dn Q (.bl false) M3 else M3 = M'/\∃c_2 d_2 o1 o2,[some gd,some (D.ref a),some (PQ p5 p6),some (PQ t r),some (D.int ((ps.length:Int)-(i:Int)-1)),some (D.tup [D.str "arc",PQ p1 p2,PQ p3 p4,PQ p5 p6]),some (D.bl m)]=[some gd,some (D.ref a),some (PQ c_2 d_2),some (PQ t r),some (D.int ((ps.length:Int)-((i+1:Nat):Int))),o1,o2]/\BQ 900 c_2/\BQ 900 d_2/\goR t r ps fx fy=goR t r (drop (i+1) ps) c_2 d_2
     |_=>False:=λm em=>by
     rw[bT,id,aEe];rw[em,el] at eg;refine lD (λk=>?_) (λk=>?_)
     ·rw[decide_eq_false (by simpa using k),Bool.false_and] at eg;rw[eg] at q;exact⟨M',.refl _,q⟩
     ·rw[decide_eq_true (by simpa using k),Bool.true_and] at eg;rw[show(ps.length:Int)-(i:Int)-1=(ps.length:Int)-((i+1:Nat):Int) by omega];exact⟨rfl,p5,p6,_,_,rfl,e5,e6,eg⟩
    refine ifF (by decide) ?_;rw[jJ];refine lD (λk=>?_) (λk=>?_)
    ·refine⟨_,c,d,p5,p6,t,r,rfl,bc,bd,e5,e6,c3,c4,?_⟩;ac_nf;exact fin _ (by rw[show(!decide (c=t/\d=r))=true from k,Bool.true_and])
    ·exact fin false (by rw[show(!decide (c=t/\d=r))=false from k,Bool.false_and])
 ·rintro ρ M' ⟨rfl,c,d,o1,o2,rfl,bc,bd,eg⟩;rw[length_map,List.drop_length,goR] at eg;rw[eg] at q;ac_nf;exact⟨M',.refl _,q⟩
theorem yJ {α:Type}{xs:List α}{i:Nat}{x:α}(h:xs[i]?=some x):xs.take (i+1)=xs.take i++[x]:=by rw[List.take_add_one,h];rfl
theorem aAK {M:DM}{n:Nat}{a b:Addr}{xs ys:List D}(ha:M a=some xs)(hb:M b=some ys)(ne:a≠b)(h:xs.length≠ys.length):Cm M (n+1) (.ref a) (.ref b) false :=
 ⟨xs,ys,ha,hb,ne,λe=>absurd e h,λ_=>rfl⟩
def kC:DSp:=λds M Q=>∃g a ps,ds=[pcD g,.ref a]/\M (.l a)=some (ps.map pcD)/\ps≠[]/\ps.length<=100/\gA g=true/\pcB 900 g/\(∀p∈ps,gA p=true/\pcB 900 p)/\Q (.bl (chP g ps)) M
theorem aDV {g:Pc}(h:gA g = true):aDx g ≠ "dot":=by cases g<;>first|(cases h;done)|(show(_:Str)≠_;exact(by decide:("stretch":Str) ≠ "dot"))|exact(by decide:("arc":Str) ≠ "dot")|exact(by decide:("ring":Str) ≠ "dot")
theorem ix0 {g:Pc}{M:DM}{Q:DQ}:jK (pcD g) (.int 0) M Q=Q (.str (aDx g)) M:=by cases g<;>rfl
noncomputable abbrev jL:Stmt:=top 40
theorem vZ:aQ ["goal","pieces"] ["goal","pieces"] (aI jL):=by ac_rfl
theorem vB (hF:cX K mg "is_chain" jL ["goal","pieces"])(cG:mg "len" = none)(sF:mg "all" = none)(rT:Has P w K mg base 104 "on" ["piece","p"] zF)(hG:Has P w K mg base 104 "same_carrier" ["one","other"] jR)(fJ:Has P w K mg base 105 "leads_straight" ["goal","pieces"] iK)(iP:Has P w K mg base 105 "leads_round" ["goal","pieces"] iC):Has P w K mg base 106 "is_chain" ["goal","pieces"] kC:=by
 refine Has.mkZ hF vZ (λds M Q ⟨_,_,_,e,_⟩=>by rw[e];rfl) λf cdv A outer s H ds M Q E hr h=>?_;obtain⟨g,a,ps,rfl,ha,hne,hl,ng,bg,hs,q⟩:=h;refine⟨_,(aE (bL (aX (bU hr) (aH (aB 0) aC) bY) (aG (aK (dE (bZ (bU hr) (cB fH cG (aA (aB 1) aD)) aC) (dU (aF rT hr (by decide) (aA (aH (aB 1) aC) (aA (aH (aB 0) aC) aD))))))) aV)
  (aE (bL (iE (gI (aX (aCd hr) (aB 1) (bO aD)) (fO (eK (dN (cB (aBk rfl) sF (aA (pW (⟨rfl,by decide +kernel,by decide +kernel,by decide +kernel,rfl,by decide +kernel⟩:mN ["goal","pieces"] (aI jL) ["piece","goal"] [none,some 0] _) rfl (aB 1) (λ_ _ _ _ _=>(aN (i:=0) (show Nodup (["piece","goal"]:List Str) by decide +kernel))) (λ_ _ _ _ _=>(dE (bZ (lB hr) (aH (aB 0) aC) bY) (dU (aF hG hr (by decide) (aA (aB 1) (aA (aB 0) aD))))))) aD))))))) (aG (aK cU)) aV)
  (aE (bL (aX (bU hr) (aH (aB 0) aC) bY) (aG (aK (aF fJ hr (by decide) (aA (aB 0) (aA (aB 1) aD))))) aV)
  (aE (bL (aX (bU hr) (aH (aH (aB 1) aC) aC) bY) (aG (aK (bZ (bU hr) (cB fH cG (aA (aB 1) aD)) aC))) aV)
  (aG (aK (aF iP hr (by decide) (aA (aB 0) (aA (aB 1) aD))))))))),?_⟩
 ac_nf;show jK (pcD g) (.int 0) M _;rw[ix0];ac_nf;rw[bA];refine dif (λc=>absurd c (aDV ng)) (λ_=>?_);refine⟨by decide,λp0 hp0=>?_⟩;ac_nf;have n0:a≠p0:=bK ha hp0;have ha1:bC M p0 [] (.l a)=some (ps.map pcD):=by rw[cD n0];exact ha
 have s1:aT M (bC M p0 []):=aT.new hp0 _;refine⟨.inr ⟨⟨_,rfl⟩,_,rfl⟩,false,aAK (n:=19) ha1 aJ n0 (by rw[length_map];exact λe=>hne (List.length_eq_zero_iff.mp e)),?_⟩;generalize bC M p0 []=M1 at ha1 s1;refine ifF (by decide) ⟨_,ha1,by rw[length_map];omega,λi ys M'=>M'=M1/\ys=((ps.take i).map (kT g)).map D.bl,⟨rfl,rfl⟩,λi ys M' _ ⟨e,_⟩ a' e'=>(by cases e';rw[e];exact ha1),?_,?_⟩
 ·rintro i d1 ys M' hd ⟨rfl,rfl⟩;obtain⟨r,hr',rfl⟩:=uO hd;obtain⟨nr,br⟩:=hs r (mem_of_getElem? hr');ac_nf;show jK (pcD r) (.int 0) _ _;rw[ix0];ac_nf;rw[bA];refine ifT (by rw[decide_eq_false (aDV nr)];rfl) ⟨g,r,rfl,ng,nr,bg,br,rfl,?_⟩;rw[yJ hr',map_append,map_append];rfl
 rintro ys M' hy ⟨rfl,rfl⟩ p1 hp1;rw[length_map,List.take_length];have ha2:bC M' p1 ((ps.map (kT g)).map D.bl) (.l a)=some (ps.map pcD):=by rw[cD (bK ha1 hp1)];exact ha1
 have s2:aT M (bC M' p1 ((ps.map (kT g)).map D.bl)):=s1.trans (aT.new hp1 _);refine⟨ps.map (kT g),aJ,?_⟩;generalize bC M' p1 ((ps.map (kT g)).map D.bl)=M2 at ha2 s2;have fin:∀{b:Bool},chP g ps=b->Dn Q (.bl b) M2:=λ{b} e=>⟨M,s2,by rw[<- e];exact q⟩;have ne0:(!ps.isEmpty)=true:=by cases ps with
  |nil=>exact absurd rfl hne
  |cons _ _=>rfl
 have ea:(ps.map (kT g)).all id=ps.all (kT g):=by rw[all_map];rfl
 rw[ea];cases z:ps.all (kT g) with
 |false =>
  refine ifT rfl (fin ?_);unfold chP;rw[z,Bool.and_false,Bool.false_and]
 |true =>
  refine ifF (by decide) ?_;have hz:=List.all_eq_true.mp z;rw[ix0];rw[bA];obtain⟨p,bV,rfl⟩:=List.exists_cons_of_ne_nil hne;have rd:∀g':Pc,sS g'=true->pcB 900 g'->(∀r∈p::bV,sS r=true)->chP g (p::bV)=(if jU p=true then decide ((p::bV).length=1) else goR (gTo g').1 (gTo g').2 (p::bV) (gFr g').1 (gFr g').2) ->
    if decide (aDx p = "ring")=true then ∃xs,M2 (.l a)=some xs/\dEq id (.int xs.length) (.int 1) M2 (Dn Q) else iC [pcD g',.ref a] M2 (Dn Q):=λg' rg' bg' rr e=>by
   have er:decide (aDx p = "ring")=jU p:=by have:=rr p mem_cons_self;cases p<;>first|(cases this;done)|rfl
   rw[er];refine lD (λk=>?_) (λk=>?_)
   ·rw[k,if_pos rfl] at e;refine⟨_,ha2,?_⟩;rw[bT];refine fin (e.trans ?_);rw[length_map];by_cases k1:(p::bV).length=1
    ·rw[decide_eq_true k1,id,decide_eq_true (by omega)]
    ·rw[decide_eq_false k1,id,decide_eq_false (by omega)]
   ·rw[k,if_neg Bool.false_ne_true] at e;exact⟨g',a,p::bV,rfl,ha2,hl,rg',λr hr'=>⟨rr r hr',(hs r hr').2⟩,bg',fin e⟩
  cases g with
  |dot _ _=>cases ng
  |str x y u v =>
   refine ifT rfl ?_;obtain⟨l,hl'⟩:∃l,(p::bV).getLast?=some l:=⟨_,List.getLast?_cons⟩;refine⟨x,y,u,v,a,p::bV,l,rfl,ha2,hl',λr hr'=>⟨?_,(hs r hr').2⟩,bg,fin ?_⟩
   ·have:=hz r hr';cases r<;>first|rfl|cases this
   ·unfold chP;rw[z,ne0,hl'];rfl
  |arc g1 g2 g3 g4 g5 g6 =>
   refine ifF (by show decide (("arc":Str) = "stretch")=false;decide) ⟨_,pcD p,ha2,mX (j:=0) rfl,?_⟩;rw[ix0,bA];exact rd (.arc g1 g2 g3 g4 g5 g6) rfl bg (λr hr'=>by have:=hz r hr';cases r<;>first|rfl|cases this) (by unfold chP;rw[z,ne0];rfl)
  |ring g1 g2 g3 g4 =>
   refine ifF (by show decide (("ring":Str) = "stretch")=false;decide) ⟨_,pcD p,ha2,mX (j:=0) rfl,?_⟩;rw[ix0,bA];exact rd (.ring g1 g2 g3 g4) rfl bg (λr hr'=>by have:=hz r hr';cases r<;>first|rfl|cases this) (by unfold chP;rw[z,ne0];rfl)
theorem fX {Q:DQ}{d:D}{M:DM}(h:Q d M):Dn Q d M:=⟨M,.refl _,h⟩
theorem wV {k v:D}:∀{kvs:List (D×D)},k∉kvs.map (·.1)->oI (kvs++[(k,v)]) k=some v
 |[],_=>by unfold oI;simp
 |p::kvs,h=>by rw[map_cons,mem_cons,not_or] at h;have ih:=wV (v:=v) h.2;unfold oI at ih ⊢;rw[cons_append,find?_cons,decide_eq_false (λe=>h.1 e.symm)];exact ih
theorem vX {k v:D}:∀{kvs:List (D×D)},k∈kvs.map (·.1)->(∀p∈kvs,p.1=k->p.2=v)->oI kvs k=some v
 |[],h,_=>by cases h
 |p::kvs,h,e=>by
  unfold oI;rw[find?_cons];by_cases c:p.1=k
  ·rw[decide_eq_true c,<- e p mem_cons_self c];rfl
  ·rw[decide_eq_false c];rw[map_cons,mem_cons] at h;exact vX (h.resolve_left λz=>c z.symm) λq hq=>e q (mem_cons_of_mem _ hq)
noncomputable abbrev mD:Stmt:=top 35
theorem wD:aQ ["thing","sort"] ["thing","sort"] (aI mD):=by ac_rfl
theorem uM (hF:cX K mg "is_round" mD ["thing","sort"]):Has P w K mg base 101 "is_round" ["thing","sort"] (λ_ _ _=>False):=by exact Has.never hF wD 100
noncomputable def aI8 (C:Addr)(n:Nat)(pl kd:Addr):List D:=pF C [("sort_of_map",mH),("many_still",.int (n:Int)),("pieces",.ref pl),("kept",.ref kd)]
structure aIR (kvs:List (D×D))(pcs:List Pc)(b:Nat):Prop where
 tk:TK kvs
 le:kvs.length<=b
 ok:∀p∈kvs,∃k pc,p=(prN k 0,pcD pc)/\pcs[k]?=some pc
structure RS (w:World)(C:Addr)(M:DM)(a:Addr)(pcs:List Pc)(pl kd:Addr)(b:Nat):Prop where
 ins:M (.o a)=some (aI8 C pcs.length pl kd)
 lst:M (.l pl)=some (pcs.map pcD)
 kept:∃kvs,M (.d kd)=some (nT w kvs)/\aIR kvs pcs b
def Kp1 (M M':DM)(kd:Addr):Prop:=∀b:AK,b ≠ .d kd->∀o,M b=some o->M' b=some o
def kH (w:World)(C:Addr):DSp:=λds M Q=>∃x l1 l2 pcs,ds=[.ref x,mH,.tup [.ref l1,.ref l2]]/\M (.o x)=some (pF C [])/\M (.l l1)=some (pcs.map pcD)/\M (.l l2)=some []/\pcs.length<=100 /\
 ∀M' pl kd,M (.d kd)=none->RS w C M' x pcs pl kd 0->(∀b:AK,b ≠ .o x->∀o,M b=some o->M' b=some o)->Q .non M'
noncomputable abbrev fQ:Stmt:=uB 0 (top 37)
theorem qC:aQ ["self","sort","picture"] ["self","sort","picture"] (aI fQ):=by ac_rfl
theorem pI {C_Rounds:Addr}(hF:aCa K mg "Rounds" C_Rounds "Rounds.__init__" fQ ["self","sort","picture"])(cG:mg "len"=none)(o_Rounds:rK K C_Rounds ["sort_of_map","many_still","pieces","kept"]):xY P w K mg base 101 "Rounds" C_Rounds ["self","sort","picture"] (kH w C_Rounds):=by
 refine xY.mkZ hF qC (λds M Q ⟨_,_,_,_,e,_⟩=>by rw[e];rfl) λf cdv A outer s H ds M Q E hr h=>?_;obtain⟨x,l1,l2,pcs,rfl,hx,h1,h2,hl,q⟩:=h;refine⟨_,(aE (pN o_Rounds (by decide) (aB 0) (aB 1))
  (aE (pN o_Rounds (by decide) (aB 0) (cB fH cG (aA (aH (aB 2) aC) aD)))
  (aE (pN o_Rounds (by decide) (aB 0) (aM eX (aH (aB 2) aC) (aH (aB 2) aC)))
  (aG (pN o_Rounds (by decide) (aB 0) aAG))))),?_⟩
 ac_nf;refine⟨x,[],rfl,hx,by decide,_,(by rw[eO];exact h1),x,[("sort_of_map",mH)],rfl,eU,by decide,_,_,(by rw[eO,eO];exact h1),(by rw[eO,eO];exact h2),(by rw[length_map,List.length_nil];omega),λp hp=>⟨x,[("sort_of_map",mH),("many_still",.int ((pcs.map pcD).length:Nat))],rfl,(by rw[uA];exact eU),Nat.le_of_ble_eq_true rfl,λp2 hp2=>⟨x,[("sort_of_map",mH),("many_still",.int ((pcs.map pcD).length:Nat)),("pieces",.ref p)],rfl,(by rw[tH];exact eU),Nat.le_of_ble_eq_true rfl,?_⟩⟩⟩;have e2:M (.d p2)=none:=by rw[jX,tP,jX,jX] at hp2;exact hp2
 have e1:M (.l p)=none:=by rw[eO,eO] at hp;exact hp
 refine fX (q _ p p2 e2 ⟨?_,?_,[],?_,TK.nil,Nat.le_refl _,λz hz=>by cases hz⟩ ?_)
 ·rw[eU,length_map];rfl
 ·rw[eO,uD,eO,aJ,append_nil]
 ·rw[jX,iW];rfl
 ·intro b hb o e;rw[iZ hb,wO (cJ e e2),iZ hb,rC (cJ e e1),iZ hb,iZ hb];exact e
noncomputable abbrev dO:Stmt:=uB 3 (top 37)
theorem lQ:aQ ["self","links"] ["self","links"] (aI dO):=by ac_rfl
theorem kS {C_Rounds:Addr}(hF:qL K C_Rounds "flows_on" "Rounds.flows_on" dO ["self","links"])(o_Rounds:rK K C_Rounds ["sort_of_map","many_still","pieces","kept"]):nA P w K mg base 101 C_Rounds "flows_on" ["self","links"] (λ_ _ _=>False):=by exact nA.mkZ (k:=100) hF o_Rounds.cls lQ (λds M Q h=>h.elim) λf cdv A outer s H ds M Q E hr h=>h.elim
def iJ (w:World)(C:Addr):DSp:=λds M Q=>∃a k pcs pl kd b pc,ds=[.ref a,.int (k:Nat),.int 0]/\RS w C M a pcs pl kd b/\pcs[k]?=some pc/\b<900/\∀M',RS w C M' a pcs pl kd (b+1)->Kp1 M M' kd->Q (pcD pc) M'
noncomputable abbrev dJ:Stmt:=uB 1 (top 37)
theorem lS:aQ ["self","number","n"] ["self","number","n"] (aI dJ):=by ac_rfl
theorem kX {C_Rounds:Addr}(hF:qL K C_Rounds "piece_in" "Rounds.piece_in" dJ ["self","number","n"])(o_Rounds:rK K C_Rounds ["sort_of_map","many_still","pieces","kept"])(gH:Has P w K mg base 106 "stepped_piece" ["kind","n","piece"] iY) :
  nA P w K mg base 107 C_Rounds "piece_in" ["self","number","n"] (iJ w C_Rounds):=by
 refine nA.mkZ hF o_Rounds.cls lS (λds M Q ⟨_,_,_,_,_,_,_,e,_⟩=>by rw[e];rfl) λf cdv A outer s H ds M Q E hr h=>?_;obtain⟨a,k,pcs,pl,kd,b,pc,rfl,R,hk,hb,q⟩:=h;refine⟨_,(aE (bL (aX (aAF hr) (aL (aA (aB 1) (aA (aB 2) aD))) (eZ o_Rounds (by decide) (aB 0)) rfl) (aG (dD (aF gH hr (by decide) (aA (eZ o_Rounds (by decide) (aB 0)) (aA (aB 2) (aA (aH (eZ o_Rounds (by decide) (aB 0)) (aB 1)) aD)))) (zS hr (eZ o_Rounds (by decide) (aB 0)) (aL (aA (aB 1) (aA (aB 2) aD)))))) aV)
  (aG (aK (aDr hr (eZ o_Rounds (by decide) (aB 0)) (aL (aA (aB 1) (aA (aB 2) aD))))))),?_⟩
 ac_nf;obtain⟨kvs,hkv,KV⟩:=R.kept;have hkey:aAB (.tup [.int (k:Int),.int 0]):=⟨⟨_,rfl⟩,rfl⟩;refine⟨by decide,a,_,_,rfl,R.ins,rfl,kvs,hkv,KV.tk,hkey,?_⟩;refine lD (λc=>?_) (λc=>?_)
 ·have c':¬(D.tup [.int (k:Int),.int 0]∈kvs.map (·.1)):=by simpa using c
  refine⟨a,_,_,rfl,R.ins,rfl,a,_,_,rfl,R.ins,rfl,_,_,R.lst,mX (by rw[getElem?_map,hk];rfl),0,pc,rfl,?_⟩;ac_nf;refine⟨a,_,_,rfl,R.ins,rfl,by decide,kvs,hkv,KV.tk,by have:=KV.le;omega,hkey,?_⟩;have ep:lJ kvs (.tup [.int (k:Int),.int 0]) (pcD pc)=kvs++[(.tup [.int (k:Int),.int 0],pcD pc)]:=by unfold lJ;rw[if_neg c']
  have kp:Kp1 M (pG M kd (nT w (lJ kvs (.tup [.int (k:Int),.int 0]) (pcD pc)))) kd:=λb n o e=>by rw[wO n];exact e
  have R':RS w C_Rounds (pG M kd (nT w (lJ kvs (.tup [.int (k:Int),.int 0]) (pcD pc)))) a pcs pl kd (b+1):=by
   refine⟨by rw[tH];exact R.ins,by rw[uD];exact R.lst,_,iW,KV.tk.put hkey,?_,?_⟩
   ·rw[ep,length_append];have:=KV.le;show kvs.length+1<=b+1;omega
   ·rw[ep];intro z hz;rcases List.mem_append.mp hz with hz|hz
    ·exact KV.ok z hz
    ·rw[List.mem_singleton.mp hz];exact⟨k,pc,rfl,hk⟩
  refine⟨a,_,_,rfl,R'.ins,rfl,by decide,_,pcD pc,iW,KV.tk.put hkey,hkey,?_,fX (q _ R' kp)⟩;rw[ep];exact wV c'
 ·have c':D.tup [.int (k:Int),.int 0]∈kvs.map (·.1):=by simpa using c
  refine⟨a,_,_,rfl,R.ins,rfl,by decide,kvs,pcD pc,hkv,KV.tk,hkey,?_,fX (q M ⟨R.ins,R.lst,kvs,hkv,KV.tk,by have:=KV.le;omega,KV.ok⟩ λb _ o e=>e)⟩;refine vX c' λz hz ez=>?_;obtain⟨k',pc',rfl,hk'⟩:=KV.ok z hz;have e1:=List.cons.inj (D.tup.inj (show D.tup [.int (k':Int),.int ((0:Nat):Int)]=.tup [.int (k:Int),.int 0] from ez));have e2:(k':Int)=(k:Int):=D.int.inj e1.1;obtain rfl:k'=k:=by omega
  rw[hk] at hk';cases hk';rfl
def kK:DSp:=λds M Q=>∃z:Int,ds=[.int z]/\Q (.bl true) M
noncomputable abbrev lV:Stmt:=top 30
theorem vW:aQ ["thing"] ["thing"] (aI lV):=by ac_rfl
theorem tV (hF:cX K mg "is_whole" lV ["thing"])(aZ:mg "isinstance" = none)(rY:mg "int" = none)(nW:mg "bool" = none):Has P w K mg base 101 "is_whole" ["thing"] kK:=by refine Has.mkZ hF vW (λds M Q ⟨_,z,_⟩=>by rw[z];rfl) λf cdv A outer s H ds M Q E hr h=>?_;obtain⟨z,rfl,q⟩:=h;refine⟨_,(aG (aK (dE (hE (aB 0) aZ rY) (dU (kR (hE (aB 0) aZ nW)))))),?_⟩;ac_nf;exact .inl ⟨_,_,rfl,rfl,ifT rfl (.inl ⟨_,_,rfl,rfl,fX q⟩)⟩
def oG:DSp:=λds M Q=>∃(k:Nat)(a:Addr) (xs:List D),ds=[.int k,.ref a]/\M (.l a)=some xs/\k<xs.length/\Q (.bl true) M
noncomputable abbrev lO:Stmt:=top 34
theorem wU:aQ ["thing","things"] ["thing","things"] (aI lO):=by ac_rfl
theorem tR (hF:cX K mg "is_place" lO ["thing","things"])(cG:mg "len" = none)(fE:Has P w K mg base 101 "is_whole" ["thing"] kK):Has P w K mg base 102 "is_place" ["thing","things"] oG:=by refine Has.mkZ hF wU (λds M Q ⟨_,_,_,z,_⟩=>by rw[z];rfl) λf cdv A outer s H ds M Q E hr h=>?_;obtain⟨k,a,xs,rfl,ha,hk,q⟩:=h;refine⟨_,(aG (aK (dE (aF fE hr (by decide) (aA (aB 0) aD)) (dU (aAl aH4 vP aC (aB 0) (cB fH cG (aA (aB 1) aD))))))),?_⟩;ac_nf;refine⟨_,rfl,?_⟩;ac_nf;refine ifT rfl (ifT (decide_eq_true (by omega)) ⟨_,ha,?_⟩);rw[decide_eq_true (by omega:(k:Int)<(xs.length:Int))];exact fX q
def oF (w:World)(C:Addr):DSp:=λds M Q=>∃a k pcs pl kd b,ds=[.ref a,prN k 0]/\RS w C M a pcs pl kd b/\k<pcs.length/\Q (.bl true) M
noncomputable abbrev dL:Stmt:=uB 2 (top 37)
theorem mB:aQ ["self","thing"] ["self","thing"] (aI dL):=by ac_rfl
theorem kY {C_Rounds:Addr}(hF:qL K C_Rounds "has_link" "Rounds.has_link" dL ["self","thing"])(aZ:mg "isinstance" = none)(gP:mg "tuple" = none)(cG:mg "len"=none)(o_Rounds:rK K C_Rounds ["sort_of_map","many_still","pieces","kept"])(lL:Has P w K mg base 102 "is_place" ["thing","things"] oG)(fE:Has P w K mg base 101 "is_whole" ["thing"] kK)(lE:Has P w K mg base 101 "is_round" ["thing","sort"] (λ_ _ _=>False)) :
  nA P w K mg base 103 C_Rounds "has_link" ["self","thing"] (oF w C_Rounds):=by
 refine nA.mkZ hF o_Rounds.cls mB (λds M Q ⟨_,_,_,_,_,_,e,_⟩=>by rw[e];rfl) λf cdv A outer s H ds M Q E hr h=>?_;obtain⟨a,k,pcs,pl,kd,b,rfl,R,hk,q⟩:=h;refine⟨_,(aE (bL (iE (gI (eK (dN (hE (aB 1) aZ gP))) (gI (aX (lB hr) (cB fH cG (aA (aB 1) aD)) aC) (fO (eK (dN (aF lL hr (by decide) (aA (aH (aB 1) aC) (aA (eZ o_Rounds (by decide) (aB 0)) aD))))))))) (aG (aK cU)) aV)
  (aE (bL (aX vP (aH (aB 1) aC) (eZ o_Rounds (by decide) (aB 0))) (aG (aK (dE (aF fE hr (by decide) (aA (aH (aB 1) aC) aD)) (dU (bZ (bU hr) (aH (aB 1) aC) aC))))) aV)
  (aG (aK (aF lE hr (by decide) (aA (aH (aB 1) aC) (aA (eZ o_Rounds (by decide) (aB 0)) aD))))))),?_⟩
 dsimp only[prN];ac_nf;refine .inl ⟨_,_,rfl,rfl,ifF rfl ?_⟩;ac_nf;rw[bT];refine ifF (by decide) ⟨a,_,_,rfl,R.ins,rfl,k,pl,_,rfl,R.lst,by rw[length_map];exact hk,?_⟩;ac_nf;refine ifF (by decide) ⟨a,_,_,rfl,R.ins,rfl,?_⟩;ac_nf;refine ifT (decide_eq_true (by omega)) ⟨_,rfl,?_⟩;ac_nf;rw[bT];exact ifT rfl (fX q)
theorem RS.mono {w:World}{C:Addr}{M:DM}{a:Addr}{pcs:List Pc}{pl kd:Addr}{b b':Nat}(h:RS w C M a pcs pl kd b)(l:b<=b'):RS w C M a pcs pl kd b' :=
 ⟨h.ins,h.lst,let ⟨kvs,e,k⟩:=h.kept;⟨kvs,e,k.tk,Nat.le_trans k.le l,k.ok⟩⟩
theorem RS.sub {w:World}{C:Addr}{M M':DM}{a:Addr}{pcs:List Pc}{pl kd:Addr}{b:Nat}(h:RS w C M a pcs pl kd b)(s:aT M M'):RS w C M' a pcs pl kd b :=
 ⟨s _ _ h.ins,s _ _ h.lst,let ⟨kvs,e,k⟩:=h.kept;⟨kvs,s _ _ e,k⟩⟩
theorem Kp1.refl (M:DM)(kd:Addr):Kp1 M M kd:=λ_ _ _ e=>e
theorem Kp1.trans {M M1 M2:DM}{kd:Addr}(h:Kp1 M M1 kd)(h':Kp1 M1 M2 kd):Kp1 M M2 kd:=λb n o e=>h' b n o (h b n o e)
theorem Kp1.of {M M':DM}(s:aT M M')(kd:Addr):Kp1 M M' kd:=λb _ o e=>s b o e
noncomputable def jT (pcs:List Pc)(ls:List (Nat×Nat)):List Pc:=ls.filterMap λl=>pcs[l.1]?
structure vE (pcs:List Pc)(ls:List (Nat×Nat)):Prop where
 lt:∀l∈ls,l.1<pcs.length/\l.2=0
 ne:ls≠[]
 le:ls.length<=3
theorem pR {ls:List (Nat×Nat)}{i:Nat}{d:D}(h:(prs ls)[i]?=some d):∃l,ls[i]?=some l/\d=prN l.1 l.2:=by
 unfold prs at h;rw[getElem?_map] at h;cases e:ls[i]? with
 |none=>rw[e] at h;cases h
 |some l=>rw[e] at h;cases h;exact⟨l,rfl,rfl⟩
theorem gM (ls:List (Nat×Nat)):(prs ls).length=ls.length:=by unfold prs;rw[length_map]
theorem aAw {pcs:List Pc}{ls:List (Nat×Nat)}{i:Nat}{l:Nat×Nat}{pc:Pc}(h:ls[i]?=some l)(hk:pcs[l.1]?=some pc):jT pcs (ls.take (i+1))=jT pcs (ls.take i)++[pc]:=by unfold jT;rw[yJ h,List.filterMap_append,filterMap_cons,hk];rfl
theorem aA7 {pcs:List Pc}{ls:List (Nat×Nat)}{p:Pc}(h:p∈jT pcs ls):p∈pcs:=by unfold jT at h;obtain⟨l,_,e⟩:=List.mem_filterMap.mp h;exact mem_of_getElem? e
theorem aCy {pcs:List Pc}{ls:List (Nat×Nat)}(L:vE pcs ls):jT pcs ls≠[]:=by obtain⟨l,bV,rfl⟩:=List.exists_cons_of_ne_nil L.ne;unfold jT;rw[filterMap_cons,getElem?_eq_getElem (L.lt l mem_cons_self).1];exact List.cons_ne_nil _ _
def kM (w:World)(C:Addr):DSp:=λds M Q=>∃g a pcs pl kd b lk ls,ds=[pcD g,.ref a,.ref lk]/\RS w C M a pcs pl kd b/\M (.l lk)=some (prs ls)/\vE pcs ls/\(iX g=true->OkP ls)/\gA g=true/\pcB 900 g/\(∀p∈pcs,gA p=true/\pcB 900 p)/\b<800 /\
 ∀M',RS w C M' a pcs pl kd (b+3)->Kp1 M M' kd->Q (.bl (chP g (jT pcs ls))) M'
noncomputable abbrev eG:Stmt:=top 39
theorem qU:aQ ["goal","other","links"] ["goal","other","links"] (aI eG):=by ac_rfl
theorem pJ {C_Rounds:Addr}(hF:cX K mg "chain_shown" eG ["goal","other","links"])(aZ:mg "isinstance" = none)(lU:mg "list" = none)(sF:mg "all" = none)(cG:mg "len" = none)(aB9:mg "set"=none)(eV:nA P w K mg base 103 C_Rounds "has_link" ["self","thing"] (oF w C_Rounds))(cL:nA P w K mg base 107 C_Rounds "piece_in" ["self","number","n"] (iJ w C_Rounds))(lP:Has P w K mg base 106 "is_chain" ["goal","pieces"] kC):Has P w K mg base 108 "chain_shown" ["goal","other","links"] (kM w C_Rounds):=by
 refine Has.mkZ hF qU (λds M Q ⟨_,_,_,_,_,_,_,_,e,_⟩=>by rw[e];rfl) λf cdv A outer s H ds M Q E hr h=>?_;obtain⟨g,a,pcs,pl,kd,b,lk,ls,rfl,R,hlk,L,hok,ng,bg,hp,hb,q⟩:=h;refine⟨_,(aE (bL (iE (gI (eK (dN (hE (aB 2) aZ lU))) (fO (eK (dN (cB (aBk rfl) sF (aA (pW (⟨rfl,by decide +kernel,by decide +kernel,by decide +kernel,rfl,by decide +kernel⟩:mN ["goal","other","links"] (aI eG) ["link","other"] [none,some 1] _) rfl (aB 2) (λ_ _ _ _ _=>(aN (i:=0) (show Nodup (["link","other"]:List Str) by decide +kernel))) (λ_ _ _ _ _=>(mQ eV hr (by decide) (aB 1) (aA (aB 0) aD)))) aD))))))) (aG (aK cU)) aV)
  (aE (bL (iE (mF (aX (bU hr) (aH (aB 0) aC) bY) (kA (aX (lB hr) (xO hr rfl cG aB9 (aB 2)) (cB fH cG (aA (aB 2) aD)))))) (aG (aK cU)) aV)
  (aG (aK (aF lP hr (by decide) (aA (aB 0) (aA (pW (⟨rfl,by decide +kernel,by decide +kernel,by decide +kernel,rfl,by decide +kernel⟩:mN ["goal","other","links"] (aI eG) ["link","other"] [none,some 1] _) rfl (aB 2) (λ_ _ _ _ _=>(aN (i:=0) (show Nodup (["link","other"]:List Str) by decide +kernel))) (λ_ _ _ _ _=>(mQ cL hr (by decide) (aB 1) (aA (aH (aB 0) aC) (aA (aH (aB 0) aC) aD))))) aD))))))),?_⟩
 have tail:∀M',aT M M'->∃ds,M' (.l lk) = some ds/\rM (some lk) ds [none,some (.ref a)] (gN 0) (yS C_Rounds "piece_in" (iJ w C_Rounds) (xZ 1) (fT (dOp jK (xZ 0) (dC (.int 0))) (fT (dOp jK (xZ 0) (dC (.int 1))) lF))) M' λx M1=>kC [pcD g,x] M1 (Dn Q):=λM' sub=>by
  refine⟨_,sub _ _ hlk,by rw[gM];have:=L.le;omega,λi ys M2=>RS w C_Rounds M2 a pcs pl kd (b+i)/\Kp1 M' M2 kd/\ys=(jT pcs (ls.take i)).map pcD,⟨R.sub sub,.refl _ _,rfl⟩,λi ys M2 _ ⟨_,k,_⟩ a' e=>(by cases e;exact k (.l lk) (λz=>nomatch z) _ (sub _ _ hlk)),?_,?_⟩
  ·rintro i d1 ys M2 hd ⟨R2,K2,rfl⟩;obtain⟨l,hl,rfl⟩:=pR hd;obtain⟨l1,l2⟩:=L.lt l (mem_of_getElem? hl);have hi:=(List.getElem?_eq_some_iff.mp hl).1;have:=L.le;obtain⟨pc,hpc⟩:∃pc,pcs[l.1]?=some pc:=⟨_,getElem?_eq_getElem l1⟩;dsimp only[prN];ac_nf;refine⟨a,_,rfl,R2.ins,rfl,a,l.1,pcs,pl,kd,b+i,pc,by rw[l2];rfl,R2,hpc,by omega,λM3 R3 K3=>⟨R3,K2.trans K3,?_⟩⟩;rw[aAw hl hpc,map_append];rfl
  ·rintro ys M2 hy ⟨R2,K2,rfl⟩ p hp';rw[gM,List.take_length] at *;have hle:(jT pcs ls).length<=3:=Nat.le_trans (List.length_filterMap_le _ _) L.le;exact⟨g,p,jT pcs ls,rfl,aJ,aCy L,by omega,ng,bg,λr hr'=>hp r (aA7 hr'),M2,aT.new hp' _,q M2 (R2.mono (by have:=L.le;omega)) ((Kp1.of sub kd).trans K2)⟩
 ac_nf;refine tK hlk rfl ?_;ac_nf;refine ifF (by decide) ⟨_,hlk,by rw[gM];have:=L.le;omega,λi ys M'=>M'=M/\ys=(replicate i true).map D.bl,⟨rfl,rfl⟩,λi ys M' _ ⟨e,_⟩ a' e'=>(by cases e';rw[e];exact hlk),?_,?_⟩
 ·rintro i d1 ys M' hd ⟨rfl,rfl⟩;obtain⟨l,hl,rfl⟩:=pR hd;obtain⟨l1,l2⟩:=L.lt l (mem_of_getElem? hl);ac_nf;refine⟨a,_,rfl,R.ins,rfl,a,l.1,pcs,pl,kd,b,by rw[l2],R,l1,rfl,?_⟩;rw[List.replicate_succ',map_append];rfl
 rintro ys M' hy ⟨rfl,rfl⟩ p1 hp1;refine⟨_,aJ,?_⟩;have s1:aT M' (bC M' p1 ((replicate (prs ls).length true).map D.bl)):=aT.new hp1 _;have l1:=s1 _ _ hlk;generalize bC M' p1 ((replicate (prs ls).length true).map D.bl)=M1 at s1 l1;refine ifF (by rw[List.all_replicate];cases (prs ls).length<;>rfl) ?_;rw[ix0,bA];refine dif (λc=>?_) (λc=>ifF (by decide) (tail M1 s1));have so:iX g=true:=by
  cases g with
  |str _ _ _ _=>rfl
  |dot _ _=>cases ng
  |arc _ _ _ _ _ _=>exact absurd c (by show("arc":Str) ≠ "stretch";decide)
  |ring _ _ _ _=>exact absurd c (by show("ring":Str) ≠ "stretch";decide)
 refine⟨lk,ls,rfl,l1,hok so,_,l1,?_⟩;rw[bT,gM];exact ifF (by simp) (tail M1 s1)
def Kp2 (M M':DM)(kd kd2:Addr):Prop:=∀b:AK,b ≠ .d kd->b ≠ .d kd2->∀o,M b=some o->M' b=some o
theorem Kp2.refl (M:DM)(kd kd2:Addr):Kp2 M M kd kd2:=λ_ _ _ _ e=>e
theorem Kp2.trans {M M1 M2:DM}{kd kd2:Addr}(h:Kp2 M M1 kd kd2)(h':Kp2 M1 M2 kd kd2):Kp2 M M2 kd kd2:=λb n n' o e=>h' b n n' o (h b n n' o e)
theorem Kp2.of {M M':DM}(s:aT M M')(kd kd2:Addr):Kp2 M M' kd kd2:=λb _ _ o e=>s b o e
theorem Kp1.l {M M':DM}{kd:Addr}(h:Kp1 M M' kd)(kd2:Addr):Kp2 M M' kd kd2:=λb n _ o e=>h b n o e
theorem Kp1.r {M M':DM}{kd:Addr}(h:Kp1 M M' kd)(kd2:Addr):Kp2 M M' kd2 kd:=λb _ n o e=>h b n o e
theorem RS.kp1 {w:World}{C:Addr}{M M':DM}{a:Addr}{pcs:List Pc}{pl kd kd2:Addr}{b:Nat}(h:RS w C M a pcs pl kd b)(k:Kp1 M M' kd2)(n:kd≠kd2):RS w C M' a pcs pl kd b :=
 ⟨k (.o a) (λz=>nomatch z) _ h.ins,k (.l pl) (λz=>nomatch z) _ h.lst,let ⟨kvs,e,r⟩:=h.kept;⟨kvs,k (.d kd) (λz=>n (AK.d.inj z)) _ e,r⟩⟩
noncomputable def shB (pcs pcs2:List Pc)(lss:List (List (Nat×Nat))):Bool:=(pcs.zip lss).all λp=>chP p.1 (jT pcs2 p.2)
def pH (M:DM)(pp:Addr)(lss:List (List (Nat×Nat))):Prop:=∃as:List Addr,M (.l pp)=some (as.map D.ref)/\as.length=lss.length/\∀(i:Nat) a ls,as[i]?=some a->lss[i]?=some ls->M (.l a)=some (prs ls)
def iV (w:World)(C:Addr):DSp:=λds M Q=>∃a pcs pl kd b a2 pcs2 pl2 kd2 b2 pp lss,ds=[.ref a,.ref a2,.ref pp]/\RS w C M a pcs pl kd b/\RS w C M a2 pcs2 pl2 kd2 b2/\kd≠kd2/\pH M pp lss/\lss.length=pcs.length/\pcs.length<=3/\b<100/\b2<100 /\
 (∀(i:Nat) g ls,pcs[i]?=some g->lss[i]?=some ls->vE pcs2 ls/\(iX g=true->OkP ls))/\(∀p∈pcs,gA p=true/\pcB 900 p)/\(∀p∈pcs2,gA p=true/\pcB 900 p) /\
 ∀M',RS w C M' a pcs pl kd (b+3)->RS w C M' a2 pcs2 pl2 kd2 (b2+9)->Kp2 M M' kd kd2->Q (.bl (shB pcs pcs2 lss)) M'
noncomputable abbrev gB:Stmt:=top 38
theorem cO:aQ ["own","other","papers","number","paper","links_of_rounds","n","links"] ["own","other","papers"] (aI gB):=by ac_rfl
theorem mE {C_Rounds:Addr}(hF:cX K mg "picture_shown" gB ["own","other","papers"])(aZ:mg "isinstance" = none)(lU:mg "list" = none)(cG:mg "len" = none)(iI:mg "enumerate"=none)(o_Rounds:rK K C_Rounds ["sort_of_map","many_still","pieces","kept"])(eY:nA P w K mg base 101 C_Rounds "flows_on" ["self","links"] (λ_ _ _=>False))(cL:nA P w K mg base 107 C_Rounds "piece_in" ["self","number","n"] (iJ w C_Rounds))(iN:Has P w K mg base 108 "chain_shown" ["goal","other","links"] (kM w C_Rounds)):Has P w K mg base 109 "picture_shown" ["own","other","papers"] (iV w C_Rounds):=by
 refine Has.mkZ hF cO (λds M Q ⟨_,_,_,_,_,_,_,_,_,_,_,_,e,_⟩=>by rw[e];rfl) λf cdv A outer s H ds M Q E hr h=>?_;obtain⟨a,pcs,pl,kd,b,a2,pcs2,pl2,kd2,b2,pp,lss,rfl,R,R2,nkd,⟨as,hpp,hlen,hls⟩,hll,h3,hb,hb2,hlk,hp,hp2,q⟩:=h;refine⟨_,(aE (bL (iE (gI (eK (dN (hE (aB 2) aZ lU))) (fO (aX (lB hr) (cB fH cG (aA (aB 2) aD)) (cB fH cG (aA (eZ o_Rounds (by decide) (aB 0)) aD)))))) (aG (aK cU)) aV)
  (aE (vU PassesOwn.never rfl iI (aA (aB 2) aD) (dM (n:=2) rfl (aP (aN (i:=3) cO.nd) (aP (aN (i:=4) cO.nd) cS))) (aE (aY (i:=5) cO.nd (sN (aX vP (aB 3) (eZ o_Rounds (by decide) (aB 0))) (bO (aA (aB 4) aD)) (aB 4)))
  (aE (bL (iE (gI (eK (dN (hE (aB 5) aZ lU))) (fO (aX (aCd hr) (aB 5) (bO aD))))) (aG (aK cU)) aV)
  (aE (vU PassesOwn.never rfl iI (aA (aB 5) aD) (dM (n:=2) rfl (aP (aN (i:=6) cO.nd) (aP (aN (i:=7) cO.nd) cS))) (aG (bL (eK (dN (aF iN hr (by decide) (aA (mQ cL hr (by decide) (aB 0) (aA (aB 3) (aA (aB 6) aD))) (aA (aB 1) (aA (aB 7) aD)))))) (aG (aK cU)) aV)))
  (aG (bL (iE (mF (aX aD9 (aB 3) (eZ o_Rounds (by decide) (aB 0))) (kA (eK (dN (mQ eY hr (by decide) (aB 1) (aA (aH (aB 5) (iG aC)) aD))))))) (aG (aK cU)) aV))))))
  (aG (aK cU)))),?_⟩
 ac_nf;refine tK hpp rfl ?_;ac_nf;refine ifF (by decide) ⟨_,hpp,a,_,_,rfl,R.ins,rfl,_,R.lst,?_⟩;ac_nf;rw[bT,length_map,length_map];refine ifF (by rw[decide_eq_true (by omega)];rfl) ⟨_,hpp,λi ρ M'=>RS w C_Rounds M' a pcs pl kd (b+i)/\RS w C_Rounds M' a2 pcs2 pl2 kd2 (b2+3*i)/\Kp2 M M' kd kd2/\shB pcs pcs2 lss=shB (pcs.drop i) pcs2 (lss.drop i)/\∃o1 o2 o3 o4 o5,ρ=[some (.ref a),some (.ref a2),some (.ref pp),o1,o2,o3,o4,o5],⟨R,R2,.refl _ _ _,rfl,_,_,_,_,_,rfl⟩,?_,?_,?_⟩
 ·rintro i ρ M' _ ⟨_,_,k,_⟩;exact k (.l pp) (λz=>nomatch z) (λz=>nomatch z) _ hpp
 ·rintro i d1 ρ M' hd ⟨Ri,R2i,Ki,ei,o1,o2,o3,o4,o5,rfl⟩;rw[getElem?_map] at hd;obtain⟨pa,hpa,rfl⟩:∃pa,as[i]?=some pa/\d1=.ref pa:=by
   cases e:as[i]? with
   |none=>rw[e] at hd;cases hd
   |some pa=>rw[e] at hd;cases hd;exact⟨pa,rfl,rfl⟩
  have hi:=(List.getElem?_eq_some_iff.mp hpa).1;obtain⟨ls,hls'⟩:∃ls,lss[i]?=some ls:=⟨_,getElem?_eq_getElem (by omega)⟩;obtain⟨g,hg⟩:∃g,pcs[i]?=some g:=⟨_,getElem?_eq_getElem (by omega)⟩;obtain⟨LK,OK⟩:=hlk i g ls hg hls';have hpl:=Ki (.l pa) (λz=>nomatch z) (λz=>nomatch z) _ (hls i pa ls hpa hls');have es:shB (pcs.drop i) pcs2 (lss.drop i)=(chP g (jT pcs2 ls)&&shB (pcs.drop (i+1)) pcs2 (lss.drop (i+1))):=by unfold shB;rw[pL hg,pL hls',List.zip_cons_cons,all_cons]
  ac_nf;refine⟨rfl,a,_,_,rfl,Ri.ins,rfl,?_⟩;ac_nf;refine ifT (decide_eq_true (by omega)) ⟨by decide,λq1 hq1=>?_⟩;refine tK aJ rfl ?_;have s1:aT M' (bC M' q1 [.ref pa]):=aT.new hq1 _;have e1:bC M' q1 [.ref pa] (.l q1)=some [.ref pa]:=aJ;generalize bC M' q1 [.ref pa]=M1 at s1 e1 ⊢;ac_nf;refine ifF (by decide) ⟨by decide,λq2 hq2=>?_⟩;ac_nf;have n12:q1≠q2:=bK e1 hq2;have e2:bC M1 q2 [] (.l q1)=some [.ref pa]:=by rw[cD n12];exact e1
  refine⟨.inr ⟨⟨_,rfl⟩,_,rfl⟩,false,aAK (n:=19) e2 aJ n12 (λz=>nomatch z),?_⟩;have s2:aT M' (bC M1 q2 []):=s1.trans (aT.new hq2 _);generalize bC M1 q2 []=M2 at s2 e2 ⊢;have K2:Kp2 M M2 kd kd2:=Ki.trans (.of s2 _ _);ac_nf;refine ifF (by decide) ⟨_,e2,λj ρ M3=>(j=0/\M3=M2/\∃o4 o5,ρ=[some (.ref a),some (.ref a2),some (.ref pp),some (.int i),some (.ref pa),some (.ref q1),o4,o5]) ∨
   (j=1/\M3 (.l q1)=some [.ref pa]/\RS w C_Rounds M3 a pcs pl kd (b+(i+1))/\RS w C_Rounds M3 a2 pcs2 pl2 kd2 (b2+3*(i+1))/\Kp2 M M3 kd kd2/\chP g (jT pcs2 ls)=true/\∃o4 o5,ρ=[some (.ref a),some (.ref a2),some (.ref pp),some (.int i),some (.ref pa),some (.ref q1),o4,o5]),.inl ⟨rfl,rfl,_,_,rfl⟩,?_,?_,?_⟩
  ·rintro j ρ M3 _ (⟨_,rfl,_⟩|⟨_,z,_⟩)
   ·exact e2
   ·exact z
  ·rintro j d2 ρ M3 hd2 hP;have hj:j=0:=by
    cases j with
    |zero=>rfl
    |succ j=>simp at hd2
   subst hj;cases hd2;rcases hP with⟨_,rfl,o4,o5,rfl⟩|⟨z,_⟩
   ·ac_nf;refine⟨rfl,a,_,rfl,(Ri.sub s2).ins,rfl,a,i,pcs,pl,kd,b+i,g,rfl,Ri.sub s2,hg,by omega,λM4 R4 K4=>?_⟩;ac_nf;have R24:=(R2i.sub s2).kp1 K4 (Ne.symm nkd);refine⟨g,a2,pcs2,pl2,kd2,b2+3*i,pa,ls,rfl,R24,K4 (.l pa) (λz=>nomatch z) _ (s2 _ _ hpl),LK,OK,(hp g (mem_of_getElem? hg)).1,(hp g (mem_of_getElem? hg)).2,hp2,by omega,λM5 R5 K5=>?_⟩;ac_nf;have R45:=R4.kp1 K5 nkd;have K25:Kp2 M M5 kd kd2:=(K2.trans (K4.l kd2)).trans (K5.r kd);have e5:=K5 (.l q1) (λz=>nomatch z) _ (K4 (.l q1) (λz=>nomatch z) _ e2);rw[ei,es] at q;cases z:chP g (jT pcs2 ls) with
    |false =>
     rw[z,Bool.false_and] at q;exact⟨M5,.refl _,q M5 (R45.mono (by omega)) (R5.mono (by omega)) K25⟩
    |true =>
     exact .inr ⟨rfl,e5,R45,R5.mono (by omega),K25,rfl,_,_,rfl⟩
   ·cases z
  ·rintro ρ M3 (⟨z,_⟩|⟨_,_,R3,R23,K3,z,o4,o5,rfl⟩)
   ·cases z
   ·ac_nf;refine⟨a,_,_,rfl,R3.ins,rfl,?_⟩;ac_nf;refine ifF (decide_eq_false (by omega)) ⟨R3,R23,K3,?_,_,_,_,_,_,rfl⟩;rw[ei,es,z,Bool.true_and]
 ·rintro ρ M' ⟨Ri,R2i,Ki,ei,o1,o2,o3,o4,o5,rfl⟩;rw[length_map] at *;have ee:shB (pcs.drop as.length) pcs2 (lss.drop as.length)=true:=by rw[List.drop_of_length_le (by omega)];rfl
  rw[ee] at ei;ac_nf;have:=q M' (Ri.mono (by omega)) (R2i.mono (by omega)) Ki;rw[ei] at this;exact fX this
def jV:DSp:=λds M Q=>∃l1 l2 e1 e2 pcs pcs2 p1 p2 lss lss2,ds=[.tup [mH,.tup [.ref l1,.ref e1],.tup [.ref l2,.ref e2]],.tup [.ref p1,.ref p2]]/\M (.l l1)=some (pcs.map pcD)/\M (.l l2)=some (pcs2.map pcD)/\M (.l e1)=some []/\M (.l e2)=some [] /\
 pH M p1 lss/\pH M p2 lss2/\lss.length=pcs.length/\lss2.length=pcs2.length/\pcs.length<=3/\pcs2.length<=3 /\
 (∀(i:Nat) g ls,pcs[i]?=some g->lss[i]?=some ls->vE pcs2 ls/\(iX g=true->OkP ls))/\(∀(i:Nat) g ls,pcs2[i]?=some g->lss2[i]?=some ls->vE pcs ls/\(iX g=true->OkP ls)) /\
 (∀p∈pcs,gA p=true/\pcB 900 p)/\(∀p∈pcs2,gA p=true/\pcB 900 p)/\∀M',aT M M'->Q (.bl (shB pcs pcs2 lss&&shB pcs2 pcs lss2)) M'
theorem pH.sub {M M':DM}{pp:Addr}{lss:List (List (Nat×Nat))}(h:pH M pp lss)(s:aT M M'):pH M' pp lss :=
 let ⟨as,a,b,c⟩:=h;⟨as,s _ _ a,b,λi x ls e e'=>s _ _ (c i x ls e e')⟩
noncomputable abbrev iU:Stmt:=top 36
theorem cZ:aQ ["even","papers","sort","one","other","ones","others"] ["even","papers"] (aI iU):=by ac_rfl
theorem pA {C_Rounds:Addr}(hF:cX K mg "alike_shown" iU ["even","papers"])(aZ:mg "isinstance" = none)(gP:mg "tuple" = none)(cG:mg "len"=none)(fP:xY P w K mg base 101 "Rounds" C_Rounds ["self","sort","picture"] (kH w C_Rounds))(eL:Has P w K mg base 109 "picture_shown" ["own","other","papers"] (iV w C_Rounds)):Has P w K mg base 110 "alike_shown" ["even","papers"] jV:=by
 refine Has.mkZ hF cZ (λds M Q ⟨_,_,_,_,_,_,_,_,_,_,e,_⟩=>by rw[e];rfl) λf cdv A outer s H ds M Q E hr h=>?_;obtain⟨l1,l2,e1,e2,pcs,pcs2,p1,p2,lss,lss2,rfl,hl1,hl2,he1,he2,P1,P2,ll1,ll2,n1,n2,L1,L2,B1,B2,q⟩:=h;refine⟨_,(aE (dD (aB 0) (dM (n:=3) rfl (aP (aN (i:=2) cZ.nd) (aP (aN (i:=3) cZ.nd) (aP (aN (i:=4) cZ.nd) cS)))))
  (aE (bL (iE (gI (eK (dN (hE (aB 1) aZ gP))) (fO (aX (lB hr) (cB fH cG (aA (aB 1) aD)) aC)))) (aG (aK cU)) aV)
  (aE (aY (i:=5) cZ.nd (wP fP hr (by decide) (aA (aB 2) (aA (aB 3) aD))))
  (aE (aY (i:=6) cZ.nd (wP fP hr (by decide) (aA (aB 2) (aA (aB 4) aD))))
  (aG (aK (dE (aF eL hr (by decide) (aA (aB 5) (aA (aB 6) (aA (aH (aB 1) aC) aD)))) (dU (aF eL hr (by decide) (aA (aB 6) (aA (aB 5) (aA (aH (aB 1) aC) aD)))))))))))),?_⟩
 ac_nf;refine⟨rfl,.inl ⟨_,_,rfl,rfl,ifF rfl ?_⟩⟩;ac_nf;rw[bT];refine ifF (by decide) λx hx1 hx2 hx3=>⟨x,l1,e1,pcs,rfl,eU,by rw[eO];exact hl1,by rw[eO];exact he1,by omega,λM1 pl kd hkd R1 st1=>⟨rfl,λy hy1 hy2 hy3=>?_⟩⟩;rw[jX] at hkd;have s1:aT M M1:=λb o e=>st1 b (cJ e hx3) o (by rw[iZ (cJ e hx3)];exact e);refine⟨y,l2,e2,pcs2,rfl,eU,by rw[eO];exact s1 _ _ hl2,by rw[eO];exact s1 _ _ he2,by omega,λM2 pl2 kd2 hkd2 R2 st2=>⟨rfl,?_⟩⟩;rw[jX] at hkd2;have s12:aT M1 M2:=λb o e=>st2 b (cJ e hy3) o (by rw[iZ (cJ e hy3)];exact e);have s2:=s1.trans s12;have nkd:kd≠kd2:=λz=>by obtain⟨kvs,e,_⟩:=R1.kept;rw[z,hkd2] at e;cases e
 have d1:∀b o,M b=some o->b ≠ .d kd/\b ≠ .d kd2:=λb o e=>⟨cJ e hkd,cJ (s1 b o e) hkd2⟩;have sk:∀{M' M'':DM},aT M M'->Kp2 M' M'' kd kd2->aT M M'':=λsm k b o e=>k b (d1 b o e).1 (d1 b o e).2 o (sm b o e);refine⟨x,pcs,pl,kd,0,y,pcs2,pl2,kd2,0,p1,lss,rfl,R1.sub s12,R2,nkd,P1.sub s2,ll1,n1,by decide,by decide,L1,B1,B2,λM3 R13 R23 K3=>?_⟩;have s3:=sk s2 K3;ac_nf;cases z:shB pcs pcs2 lss with
 |false =>
  have:=q M3 s3;rw[z,Bool.false_and] at this;exact ifF (by decide) (fX this)
 |true =>
  refine ifT rfl ⟨y,pcs2,pl2,kd2,0+9,x,pcs,pl,kd,0+3,p2,lss2,rfl,R23,R13,Ne.symm nkd,P2.sub s3,ll2,n2,by decide,by decide,L2,B2,B1,λM4 R24 R14 K4=>?_⟩;have:=q M4 (sk s3 λb n n' o e=>K4 b n' n o e);rw[z,Bool.true_and] at this;exact fX this
noncomputable def nB (n:Nat):List (List (Nat×Nat)):=(range n).map λk=>[(k,0)]
noncomputable def T9 (others:List Pc)(extra:Pc)(ls:List (Nat×Nat)):Bool:=shB (others++[extra]) others (nB others.length++[ls])
noncomputable def U9 (others:List Pc)(extra:Pc):Bool:=shB others (others++[extra]) (nB others.length)
def aDs (ls:List (Nat×Nat))(due:Bool)(ls':List (Nat×Nat))(due':Bool):Prop:=(ls'=ls/\due'=due)∨(ls'=ls.dropLast/\due'=false/\1<ls.length)∨(ls'=ls.reverse/\due'=false/\ls.reverse≠ls)
noncomputable def lA (others:List Pc)(extra:Pc)(ls:List (Nat×Nat))(due:Bool):Bool:=U9 others extra&&decide (T9 others extra ls=due)&&(decide (ls.length<=1) || !T9 others extra ls.dropLast)&&(decide (ls.reverse=ls) || !T9 others extra ls.reverse)
theorem aAJ {others:List Pc}{extra:Pc}{ls ls':List (Nat×Nat)}{due due':Bool}(h:lA others extra ls due=true)(v:aDs ls due ls' due'):U9 others extra=true/\T9 others extra ls'=due':=by
 unfold lA at h;simp only[Bool.and_eq_true,Bool.or_eq_true,decide_eq_true_eq,Bool.not_eq_true'] at h;obtain⟨⟨⟨h1,h2⟩,h3⟩,h4⟩:=h;refine⟨h1,?_⟩;rcases v with⟨rfl,rfl⟩|⟨rfl,rfl,l⟩|⟨rfl,rfl,n⟩
 ·exact h2
 ·exact h3.resolve_left (by omega)
 ·exact h4.resolve_left n
section
variable (x y:Rat)
theorem aBd (pcs:List Pc)(ls:List (Nat×Nat)):jT (pcs.map (shP x y)) ls=(jT pcs ls).map (shP x y):=by unfold jT;rw[List.map_filterMap];congr 1;funext l;rw[getElem?_map]
theorem yB:∀(pcs pcs2:List Pc)(lss:List (List (Nat×Nat))),shB (pcs.map (shP x y)) (pcs2.map (shP x y)) lss=shB pcs pcs2 lss
 |[],_,_=>rfl
 |_::_,_,[]=>rfl
 |g::pcs,pcs2,ls::lss=>by have ih:=yB pcs pcs2 lss;unfold shB at ih ⊢;rw[map_cons,List.zip_cons_cons,List.zip_cons_cons,all_cons,all_cons,ih,aBd,aFK]
theorem aBO (others:List Pc)(extra:Pc)(ls:List (Nat×Nat)):T9 (others.map (shP x y)) (shP x y extra) ls=T9 others extra ls:=by unfold T9;rw[length_map,<- List.map_singleton,<- map_append,yB]
theorem aHE (others:List Pc)(extra:Pc):U9 (others.map (shP x y)) (shP x y extra)=U9 others extra:=by unfold U9;rw[length_map,<- List.map_singleton,<- map_append,yB]
theorem pO (others:List Pc)(extra:Pc)(ls:List (Nat×Nat))(due:Bool):lA (others.map (shP x y)) (shP x y extra) ls due=lA others extra ls due:=by unfold lA;rw[aHE,aBO,aBO,aBO]
theorem qX (p:Pc):gA (shP x y p)=gA p:=by cases p<;>rfl
end
noncomputable def sHi (a:Nat)(w:Nat)(h:Int):Int:=if w=4/\h=a then h+3 else h
noncomputable def aEr (a w:Nat)(h:Int)(gap:Bool):List Pc:=[mkS 0 0 (w:Rat) (h:Rat),mkS ((w:Rat)+(if gap then 1 else 0)) (h:Rat) 4 (a:Rat)]
noncomputable def aDm (a:Nat):Pc:=mkS 0 0 4 (a:Rat)
noncomputable def aAN (a w:Nat)(h:Int)(gap:Bool):Bool:=decide (w=2)&&(decide ((a:Int)=2*h) && !gap)
theorem aGB:∀a:Fin 5,∀w4 gap:Bool,∀h:Fin 9,lA (aEr a (if w4 then 4 else 2) (sHi a (if w4 then 4 else 2) ((h:Nat)-2)) (gap && !w4)) (aDm a) [(0,0),(1,0)] (aAN a (if w4 then 4 else 2) (sHi a (if w4 then 4 else 2) ((h:Nat)-2)) (gap && !w4))=true /\
  (aEr a (if w4 then 4 else 2) (sHi a (if w4 then 4 else 2) ((h:Nat)-2)) (gap && !w4)).all iX=true/\iX (aDm a)=true:=by decide +kernel
noncomputable def rR (u v:Int):Pc:=.ring 0 0 u v
noncomputable def rA (u v:Int):List Pc:=[.arc 0 0 v (-u:Int) (-v:Int) u,.arc 0 0 (-v:Int) u v (-u:Int)]
noncomputable def rB (u v:Int):Pc:=.arc 0 0 u v (-u:Int) (-v:Int)
theorem aGt:∀u:Fin 4,∀v:Fin 7,∀by':Bool,lA [rR (1+(u:Nat)) ((v:Nat)-3)] (rR ((1+(u:Nat))*(if by' then 2 else 1)) (((v:Nat)-3)*(if by' then 2 else 1))) [(0,0)] (!by')=true /\
  lA (rA (1+(u:Nat)) ((v:Nat)-3)) (rR ((1+(u:Nat))*(if by' then 2 else 1)) (((v:Nat)-3)*(if by' then 2 else 1))) [(0,0),(1,0),(0,0)] (!by')=true /\
  lA (rA (1+(u:Nat)) ((v:Nat)-3)) (rB (1+(u:Nat)) ((v:Nat)-3)) [(0,0),(1,0)] true=true:=by decide +kernel
def jH:DSp:=λds M Q=>∃fa n,ds=[.ref fa]/\FdN M fa n/\n<=1000/\∀(x y:Int) M',-6<=x->x<=6->-6<=y->y<=6->FdN M' fa (n+2)->Adv M M' fa->Q (PQ x y) M'
theorem iH (x y:Int):PQ (x:Rat) (y:Rat)=.tup [.tup [.int x,.int 1],.tup [.int y,.int 1]]:=by show D.tup [FQ x,FQ y]=_;rw[aBD,aBD]
noncomputable abbrev kE:Stmt:=top 47
theorem tZ:aQ ["_law_feed_here"] ["_law_feed_here"] (aI kE):=by ac_rfl
theorem rP (hF:cX K mg "_law_point" kE ["_law_feed_here"])(bD:Has P w K mg base 101 "_law_draw" ["_law_feed_here","_law_many"] eT):Has P w K mg base 102 "_law_point" ["_law_feed_here"] jH:=by refine Has.mkZ hF tZ (λds M Q ⟨_,_,e,_⟩=>by rw[e];rfl) λf cdv A outer s H ds M Q E hr h=>?_;obtain⟨fa,n,rfl,hf,hn,q⟩:=h;refine⟨_,(aG (aK (aL (aA (aL (aA (aM gD (aF bD hr (by decide) (aA (aB 0) (aA aC aD))) aC) (aA aC aD))) (aA (aL (aA (aM gD (aF bD hr (by decide) (aA (aB 0) (aA aC aD))) aC) (aA aC aD))) aD))))),?_⟩;ac_nf;refine⟨fa,13,n,rfl,hf,by omega,by decide,by unfold Bd;decide,λr M1 r0 r1 f1 a1=>?_⟩;ac_nf;refine⟨by decide,fa,13,n+1,rfl,f1,by omega,by decide,by unfold Bd;decide,λr' M2 r0' r1' f2 a2=>?_⟩;ac_nf;refine⟨by decide,by decide,?_⟩;have:=q (r-6) (r'-6) M2 (by omega) (by omega) (by omega) (by omega) f2 (a1.trans a2);rw[iH] at this;exact fX this
def oM:DSp:=λds M Q=>∃x y:Int,ds=[PQ x y]/\Q (PQ ((-y:Int):Rat) (x:Rat)) M
noncomputable abbrev lH:Stmt:=top 48
theorem wL:aQ ["_law_v"] ["_law_v"] (aI lH):=by ac_rfl
theorem tI (hF:cX K mg "_law_left" lH ["_law_v"]):Has P w K mg base 101 "_law_left" ["_law_v"] oM:=by refine Has.mkZ hF wL (λds M Q ⟨_,_,e,_⟩=>by rw[e];rfl) λf cdv A outer s H ds M Q E hr h=>?_;obtain⟨x,y,rfl,q⟩:=h;refine⟨_,(aG (aK (aL (aA (aL (aA (aM gD aC (aH (aH (aB 0) aC) aC)) (aA (aH (aH (aB 0) aC) aC) aD))) (aA (aH (aB 0) aC) aD))))),?_⟩;rw[iH] at q ⊢;ac_nf;rw[show(0:Int)-y = -y by omega];exact⟨by decide,by decide,fX q⟩
theorem aBf (xs:List D)(h:1<=xs.length):Dd.cutD xs none (some (-1))=xs.dropLast:=by unfold Dd.cutD HT.sIx;dsimp only;rw[if_pos (by decide),List.drop_zero,List.dropLast_eq_take,show((-1:Int)+(xs.length:Int)).toNat-0=xs.length-1 by omega]
theorem aHM {M:DM}{n:Nat}(p p':Nat×Nat):Cm M (n+2) (prN p.1 p.2) (prN p'.1 p'.2) (decide (p=p')):=by
 refine⟨λj=>if j=0 then decide (p.1=p'.1) else decide (p.2=p'.2),λj x y e1 e2=>?_,?_⟩
 ·match j,e1,e2 with
  |0,e1,e2 =>
   cases e1;cases e2;refine⟨rfl,rfl,?_⟩;show decide (p.1=p'.1)=((p.1:Int)==(p'.1:Int));by_cases h:p.1=p'.1
   ·rw[decide_eq_true h,h];simp
   ·rw[decide_eq_false h];exact(beq_eq_false_iff_ne.mpr (by omega)).symm
  |1,e1,e2 =>
   cases e1;cases e2;refine⟨rfl,rfl,?_⟩;show decide (p.2=p'.2)=((p.2:Int)==(p'.2:Int));by_cases h:p.2=p'.2
   ·rw[decide_eq_true h,h];simp
   ·rw[decide_eq_false h];exact(beq_eq_false_iff_ne.mpr (by omega)).symm
  |j+2,e1,e2=>cases e1
 ·show decide (p=p')=((decide (p.1=p'.1)&&(decide (p.2=p'.2)&&true))&&true);obtain⟨a,b⟩:=p;obtain⟨c,d⟩:=p';by_cases h:a=c<;>by_cases h':b=d<;>simp[h,h']
theorem aGa {M:DM}{n:Nat}{a b:Addr}{ls ls':List (Nat×Nat)}(ha:M a=some (prs ls))(hb:M b=some (prs ls'))(ne:a≠b)(hl:ls.length=ls'.length):Cm M (n+3) (.ref a) (.ref b) (decide (ls=ls')):=by
 refine⟨_,_,ha,hb,ne,λ_=>⟨λj=>decide (ls[j]?=ls'[j]?),λj x y e1 e2=>?_,?_⟩,λh=>absurd (by rw[gM,gM];exact hl) h⟩
 ·obtain⟨l,h1,rfl⟩:=pR e1;obtain⟨l',h2,rfl⟩:=pR e2;dsimp only;rw[h1,h2,show decide (some l=some l')=decide (l=l') by simp];exact aHM l l'
 ·rw[gM];by_cases h:ls=ls'
  ·rw[decide_eq_true h,h];simp
  ·rw[decide_eq_false h];symm;rw[List.all_eq_false];refine Classical.byContradiction λz=>h (List.ext_getElem? λj=>?_);by_cases hj:j<ls.length
   ·refine Classical.byContradiction λz2=>z ⟨j,List.mem_range.mpr hj,by simpa using z2⟩
   ·rw[getElem?_eq_none (by omega),getElem?_eq_none (by omega)]
def fB (M M':DM)(fa:Addr):Prop:=∀b:AK,b ≠ .l fa->∀o,M b=some o->M' b=some o
theorem fB.ad {M M':DM}{fa:Addr}(h:Adv M M' fa):fB M M' fa:=λb n o e=>by rw[h.ak n];exact e
theorem fB.trans {M M1 M2:DM}{fa:Addr}(h:fB M M1 fa)(h':fB M1 M2 fa):fB M M2 fa:=λb n o e=>h' b n o (h b n o e)
theorem fB.of {M M':DM}(s:aT M M')(fa:Addr):fB M M' fa:=λb _ o e=>s b o e
def mW:DSp:=λds M Q=>∃fa n lk ls due,ds=[.ref fa,.ref lk,.bl due]/\FdN M fa n/\n<=1000/\lk≠fa/\M (.l lk)=some (prs ls)/\ls.length<=3 /\
 ∀r lk' ls' due' M',aDs ls due ls' due'->M' (.l r)=some [.ref lk',.bl due']->M' (.l lk')=some (prs ls')->fB M M' fa->Q (.ref r) M'
noncomputable abbrev kG:Stmt:=top 49
theorem mL:aQ ["_law_feed_here","_law_links_here","_law_due","_law_way"] ["_law_feed_here","_law_links_here","_law_due"] (aI kG):=by ac_rfl
theorem rN (hF:cX K mg "_law_links" kG ["_law_feed_here","_law_links_here","_law_due"])(cG:mg "len" = none)(bD:Has P w K mg base 101 "_law_draw" ["_law_feed_here","_law_many"] eT):Has P w K mg base 102 "_law_links" ["_law_feed_here","_law_links_here","_law_due"] mW:=by
 refine Has.mkZ hF mL (λds M Q ⟨_,_,_,_,_,e,_⟩=>by rw[e];rfl) λf cdv A outer s H ds M Q E hr h=>?_;obtain⟨fa,n,lk,ls,due,rfl,hf,hn,nf,hlk,hl3,q⟩:=h;refine⟨_,(aE (aY (i:=3) mL.nd (aF bD hr (by decide) (aA (aB 0) (aA aC aD))))
  (iB (bL (iE (mF (aX (bU hr) (aB 3) aC) (kA (aX aCi (cB fH cG (aA (aB 1) aD)) aC)))) (aG (aK (bO (aA (sQ (aB 1) vY (mZ (iG aC))) (aA cU aD))))) aV)
  (aE (bL (iE (mF (aX (bU hr) (aB 3) aC) (kA (aX (aA8 hr) (yZ (aB 1) (iG aC)) (aB 1))))) (aG (aK (bO (aA (yZ (aB 1) (iG aC)) (aA cU aD))))) aV)
  (aG (aK (bO (aA (aB 1) (aA (aB 2) aD)))))))),?_⟩
 ac_nf;refine⟨fa,5,n,rfl,hf,by omega,by decide,by unfold Bd;decide,λr M1 r0 r1 f1 a1=>?_⟩;have hk1:M1 (.l lk)=some (prs ls):=by rw[a1.l lk nf];exact hlk
 ac_nf;have ret:∀(M2:DM)(lk':Addr) (ls':List (Nat×Nat)) (due':Bool),aDs ls due ls' due'->aT M1 M2->M2 (.l lk')=some (prs ls')->2<=1000/\∀p:Addr,M2 (.l p)=none->Dn Q (.ref p) (bC M2 p [.ref lk',.bl due']):=λM2 lk' ls' due' v s e=>⟨by decide,λp hp=>by refine fX (q p lk' ls' due' _ v aJ ?_ ((fB.ad a1).trans (.of (s.trans (aT.new hp _)) fa)));rw[cD (bK e hp)];exact e⟩
 refine⟨λρ' M'=>M'=M1/\ρ'=[some (.ref fa),some (.ref lk),some (.bl due),some (.int r)],?_,?_⟩
 ·rw[bT];refine lD (λc=>?_) (λc=>?_)
  ·refine⟨_,hk1,dif (λc2=>⟨_,hk1,λp hp=>?_⟩) (λc2=>⟨rfl,rfl⟩)⟩;have el:Dd.cutD (prs ls) none (some (-1))=prs ls.dropLast:=by rw[gM] at c2;unfold prs;rw[aBf _ (by rw[length_map];omega),List.dropLast_eq_take,List.dropLast_eq_take,length_map,List.map_take]
   rw[el];exact ret _ p ls.dropLast false (.inr (.inl ⟨rfl,rfl,by rw[gM] at c2;omega⟩)) (aT.new hp _) aJ
  ·exact ifF (by decide) ⟨rfl,rfl⟩
 rintro _ M2 ⟨rfl,rfl⟩;ac_nf;rw[bT];refine lD (λc=>⟨rfl,_,hk1,λp hp=>?_⟩) (λc=>ifF (by decide) (ret _ lk ls due (.inl ⟨rfl,rfl⟩) (.refl _) hk1));have er:(prs ls).reverse=prs ls.reverse:=by unfold prs;rw[List.map_reverse]
 rw[er];have n1:p≠lk:=λz=>by rw[z,hk1] at hp;cases hp
 have hk3:bC M2 p (prs ls.reverse) (.l lk)=some (prs ls):=by rw[cD (Ne.symm n1)];exact hk1
 refine⟨.inr ⟨⟨_,rfl⟩,_,rfl⟩,_,aGa (n:=17) aJ hk3 n1 (by rw[List.length_reverse]),?_⟩;have s3:aT M2 (bC M2 p (prs ls.reverse)):=aT.new hp _;generalize bC M2 p (prs ls.reverse)=M3 at hk3 s3;refine lD (λc3=>⟨rfl,_,hk3,λp2 hp2=>?_⟩) (λc3=>ret _ lk ls due (.inl ⟨rfl,rfl⟩) s3 hk3);rw[er];exact ret _ p2 ls.reverse false (.inr (.inr ⟨rfl,rfl,by simpa using c3⟩)) (s3.trans (aT.new hp2 _)) aJ
structure xW (others:List Pc)(extra:Pc)(ls:List (Nat×Nat))(due:Bool):Prop where
 good:lA others extra ls due=true
 len:others.length<=2
 lk:∀l∈ls,l.1<others.length/\l.2=0
 ne:ls≠[]
 le:ls.length<=3
 nd:∀p∈others++[extra],gA p=true/\pcB 900 p
 st:iX extra=true->ls=[(0,0),(1,0)]
def pM:DSp:=λds M Q=>∃fa n,ds=[.ref fa]/\FdN M fa n/\n<=100 /\
 ∀r lo lk others extra ls due M',xW others extra ls due->M' (.l r)=some [.ref lo,pcD extra,.ref lk,.bl due]->M' (.l lo)=some (others.map pcD)->M' (.l lk)=some (prs ls)->FdN M' fa (n+20)->lk≠fa->fB M M' fa->Q (.ref r) M'
theorem bqi {z:Int}(h1:-100<=z)(h2:z<=100):BQ 900 (z:Rat):=BQ.mono (.int (aHv (by omega) (by omega)) (by decide)) (by decide)
theorem bq4 {B:Nat}{z:Rat}(h:BQ 900 z)(l:900<=B):BQ B z:=h.mono l
theorem bqs {x z:Int}(h1:-100<=x+z)(h2:x+z<=100):BQ 900 ((x:Rat)+(z:Rat)):=by rw[<- Rat.intCast_add];exact bqi h1 h2
theorem xA (x y a b c d:Rat):mkS (x+a) (y+b) (x+c) (y+d)=shP x y (mkS a b c d):=by
 unfold mkS;simp only[jN,aBA];split
 ·rfl
 ·split<;>rfl
theorem uX {a b c d:Rat}(h1:BQ 900 a)(h2:BQ 900 b)(h3:BQ 900 c)(h4:BQ 900 d):pcB 900 (mkS a b c d):=by
 unfold mkS;split
 ·exact⟨h1,h2⟩
 ·split
  ·exact⟨h1,h2,h3,h4⟩
  ·exact⟨h3,h4,h1,h2⟩
theorem nG {p:Pc}(h:iX p=true):gA p=true:=by cases p<;>first|(cases h;done)|rfl
theorem eN {M M':DM}{a:Addr}{n:Nat}(h:FdN M a n)(s:aT M M'):FdN M' a n:=let ⟨c,k,f,e,r⟩:=h;⟨c,k,f,s _ _ e,r⟩
theorem sK {M:DM}{a p:Addr}{n:Nat}(h:FdN M a n)(hp:M (.l p)=none):p≠a:=λz=>by obtain⟨c,k,f,e,_⟩:=h;rw[z,e] at hp;cases hp
theorem aD7 {a b c d:Rat}(h1:a=c)(h2:b=d):PQ a b=PQ c d:=by rw[h1,h2]
noncomputable abbrev eD:Stmt:=top 50
theorem aU:aQ ["_law_feed_here","_law_p","_law_a","_law_q","_law_way","_law_high","_law_r","_law_gap","_law_begin","_law_due"] ["_law_feed_here"] (aI eD):=by ac_rfl
theorem jS (hF:cX K mg "_law_straight_ones" eD ["_law_feed_here"])(bD:Has P w K mg base 101 "_law_draw" ["_law_feed_here","_law_many"] eT)(eS:Has P w K mg base 102 "_law_point" ["_law_feed_here"] jH)(bR:Has P w K mg base 104 "together" ["p","q"] fZ)(jD:Has P w K mg base 103 "stretch" ["p","q"] rH):Has P w K mg base 105 "_law_straight_ones" ["_law_feed_here"] pM:=by
 refine Has.mkZ hF aU (λds M Q ⟨_,_,e,_⟩=>by rw[e];rfl) λf cdv A outer s H ds M Q E hr h=>?_;obtain⟨fa,n,rfl,hf,hn,q⟩:=h;refine⟨_,(aE (aY (i:=1) aU.nd (aF eS hr (by decide) (aA (aB 0) aD)))
  (aE (aY (i:=2) aU.nd (aF bD hr (by decide) (aA (aB 0) (aA aC aD))))
  (aE (aY (i:=3) aU.nd (aF bR hr (by decide) (aA (aB 1) (aA (aL (aA (aL (aA aC (aA aC aD))) (aA (aL (aA (aB 2) (aA aC aD))) aD))) aD))))
  (aE (yN (i:=4) (j:=5) rfl aU.nd (aA (aH (bO (aA aC (aA aC aD))) (aF bD hr (by decide) (aA (aB 0) (aA aC aD)))) (aA (aM gD (aF bD hr (by decide) (aA (aB 0) (aA aC aD))) aC) aD)))
  (aE (aY (i:=6) aU.nd (aF bR hr (by decide) (aA (aB 1) (aA (aL (aA (aL (aA (aB 4) (aA aC aD))) (aA (aL (aA (aB 5) (aA aC aD))) aD))) aD))))
  (iB (bL (aX (bU hr) (aB 6) (aB 3)) (aE (aY (i:=6) aU.nd (aF bR hr (by decide) (aA (aB 6) (aA (aL (aA (aL (aA aC (aA aC aD))) (aA (aL (aA aC (aA aC aD))) aD))) aD))))
  (aG (aY (i:=5) aU.nd (aM eX (aB 5) aC)))) aV)
  (iB (aY (i:=7) aU.nd (dE (bZ (bU hr) (aF bD hr (by decide) (aA (aB 0) (aA aC aD))) aC) (dU (bZ (bU hr) (aB 4) aC))))
  (aE (aY (i:=8) aU.nd (aB 6))
  (iB (bL (dN (aB 7)) (aG (aY (i:=8) aU.nd (aF bR hr (by decide) (aA (aB 6) (aA (aL (aA (aL (aA aC (aA aC aD))) (aA (aL (aA aC (aA aC aD))) aD))) aD))))) aV)
  (iB (aY (i:=9) aU.nd (dE (bZ (bU hr) (aB 4) aC) (dE (bZ (bU hr) (aB 2) (aM bW aC (aB 5))) (dU (kR (aB 7))))))
  (aG (aK (bO (aA (bO (aA (aF jD hr (by decide) (aA (aB 1) (aA (aB 6) aD))) (aA (aF jD hr (by decide) (aA (aB 8) (aA (aB 3) aD))) aD))) (aA (aF jD hr (by decide) (aA (aB 1) (aA (aB 3) aD))) (aA (bO (aA (aL (aA aC (aA aC aD))) (aA (aL (aA aC (aA aC aD))) aD))) (aA (aB 9) aD))))))))))))))))),?_⟩
 ac_nf;refine⟨fa,n,rfl,hf,by omega,λx y M1 x1 x2 y1 y2 f1 a1=>?_⟩;ac_nf;refine⟨fa,5,n+2,rfl,f1,by omega,by decide,by unfold Bd;decide,λa M2 a0 a5 f2 a2=>?_⟩;ac_nf;rw[<- iH 4 a];have tog:∀{x y u v:Int}{M:DM} {R:DQ},-50<=x->x<=50->-50<=y->y<=50->-50<=u->u<=50->-50<=v->v<=50->R (PQ ((x:Rat)+(u:Rat)) ((y:Rat)+(v:Rat))) M->fZ [PQ x y,PQ u v] M R:=λa b c d e f g h r=>⟨_,_,_,_,rfl,bq4 (bqi (by omega) (by omega)) (by decide),bq4 (bqi (by omega) (by omega)) (by decide),bq4 (bqi (by omega) (by omega)) (by decide),bq4 (bqi (by omega) (by omega)) (by decide),r⟩;refine⟨by decide,by decide,by decide,tog (by omega) (by omega) (by omega) (by omega) (by omega) (by omega) (by omega) (by omega) ?_⟩;ac_nf;obtain⟨an,rfl⟩:∃an:Nat,a=(an:Int):=⟨a.toNat,by omega⟩;refine⟨by decide,λp hp=>⟨fa,2,n+3,rfl,eN f2 (aT.new hp _),by omega,by decide,by unfold Bd;decide,λb M3 b0 b1 f3 a3=>?_⟩⟩;have hp3:M3 (.l p)=some [.int 2,.int 4]:=by rw[a3.l p (sK f2 hp)];exact aJ
 have A3:fB M M3 fa:=(((fB.ad a1).trans (fB.ad a2)).trans (.of (aT.new hp _) fa)).trans (fB.ad a3);obtain⟨w4,rfl⟩:∃w4:Bool,b=(if w4 then 1 else 0):=by
  by_cases z:b=1
  ·exact⟨true,z⟩
  ·exact⟨false,by show b=0;omega⟩
 refine⟨_,.int ((if w4 then 4 else 2:Nat):Int),hp3,by cases w4<;>rfl,fa,9,n+4,rfl,f3,by omega,by decide,by unfold Bd;decide,λh M4 h0 h9 f4 a4=>?_⟩;obtain⟨hn',rfl⟩:∃hn':Nat,h=(hn':Int):=⟨h.toNat,by omega⟩;have hw:(if w4 then 4 else 2:Nat)=2∨(if w4 then 4 else 2:Nat)=4:=by cases w4<;>simp
 have SG:=λgap:Bool=>aGB ⟨an,by omega⟩ w4 gap ⟨hn',by omega⟩;dsimp only at SG;generalize hW:(if w4 then 4 else 2:Nat)=W at hw SG ⊢;ac_nf;rw[<- iH (W:Int) ((hn':Int)-2)];refine⟨by decide,by decide,by decide,tog (by omega) (by omega) (by omega) (by omega) (by omega) (by omega) (by omega) (by omega) ?_⟩;refine⟨λρ' M'=>M'=M4/\ρ'=[some (.ref fa),some (PQ x y),some (.int (an:Int)),some (PQ ((x:Rat)+((4:Int):Rat)) ((y:Rat)+((an:Int):Rat))),some (.int (W:Int)),some (.int (sHi an W ((hn':Int)-2))),some (PQ ((x:Rat)+((W:Int):Rat)) ((y:Rat)+((sHi an W ((hn':Int)-2):Int):Rat))),none,none,none],?_,?_⟩
 ·rw[jJ];refine dif (λc=>?_) (λc=>?_)
  ·have c1:(W:Int)=4:=by have:=(jN _ _ _).mp c.1;exact_mod_cast this
   have c2:(hn':Int)-2=(an:Int):=by have:=(jN _ _ _).mp c.2;exact_mod_cast this
   have e:sHi an W ((hn':Int)-2)=(hn':Int)-2+3:=if_pos ⟨by omega,c2⟩;rw[<- iH 0 3,e];refine⟨by decide,by decide,by decide,_,_,_,_,rfl,bq4 (bqs (by omega) (by omega)) (by decide),bq4 (bqs (by omega) (by omega)) (by decide),bq4 (bqi (by omega) (by omega)) (by decide),bq4 (bqi (by omega) (by omega)) (by decide),rfl,?_⟩;rw[aD7 (show((x:Rat)+((W:Int):Rat))+((0:Int):Rat)=(x:Rat)+((W:Int):Rat) by grind) (show((y:Rat)+(((hn':Int)-2:Int):Rat))+((3:Int):Rat)=(y:Rat)+(((hn':Int)-2+3:Int):Rat) by rw[Rat.intCast_add _ 3];grind)]
  ·have e:sHi an W ((hn':Int)-2)=(hn':Int)-2:=if_neg λz=>c ⟨by rw[z.1];rfl,by rw[z.2]⟩;rw[e];exact⟨rfl,rfl⟩
 rintro _ M5 ⟨rfl,rfl⟩;have hh1:-2<=sHi an W ((hn':Int)-2)/\sHi an W ((hn':Int)-2)<=10:=by unfold sHi;split<;>omega
 generalize sHi an W ((hn':Int)-2)=hh at SG hh1 ⊢;have A5:=A3.trans (fB.ad a4);ac_nf;have ew:(!w4)=decide ((W:Int)=2):=by subst hW;cases w4<;>rfl
 refine⟨λρ' M'=>FdN M' fa (n+6)/\fB M M' fa/\∃g0:Bool,ρ'=[some (.ref fa),some (PQ x y),some (.int (an:Int)),some (PQ ((x:Rat)+((4:Int):Rat)) ((y:Rat)+((an:Int):Rat))),some (.int (W:Int)),some (.int hh),some (PQ ((x:Rat)+((W:Int):Rat)) ((y:Rat)+(hh:Rat))),some (.bl (g0 && !w4)),none,none],?_,?_⟩
 ·refine⟨fa,3,n+5,rfl,f4,by omega,by decide,by unfold Bd;decide,λg M6 g0 g3 f6 a6=>?_⟩;have A6:=A5.trans (fB.ad a6);ac_nf;rw[bT];refine dif (λc=>?_) (λc=>?_)
  ·rw[bT];exact⟨f6,A6,true,by rw[ew];rfl⟩
  ·exact⟨f6,A6,false,rfl⟩
 rintro _ M7 ⟨f7,A7,g0,rfl⟩;obtain⟨G1,G2,G3⟩:=SG g0;have gw:(g0 && !w4)=true->W=2:=λz=>by
  have:decide ((W:Int)=2)=true:=by rw[<- ew];exact(Bool.and_eq_true_iff.mp z).2
  have:=of_decide_eq_true this;omega
 generalize (g0 && !w4)=gap at G1 G2 gw ⊢;ac_nf;refine⟨λρ' M'=>M'=M7/\ρ'=[some (.ref fa),some (PQ x y),some (.int (an:Int)),some (PQ ((x:Rat)+((4:Int):Rat)) ((y:Rat)+((an:Int):Rat))),some (.int (W:Int)),some (.int hh),some (PQ ((x:Rat)+((W:Int):Rat)) ((y:Rat)+(hh:Rat))),some (.bl gap),some (PQ ((x:Rat)+(((W:Int)+(if gap then 1 else 0):Int):Rat)) ((y:Rat)+(hh:Rat))),none],?_,?_⟩
 ·cases gap with
  |true =>
   have:=gw rfl;rw[<- iH 1 0];refine ifT rfl ⟨by decide,by decide,by decide,_,_,_,_,rfl,bq4 (bqs (by omega) (by omega)) (by decide),bq4 (bqs (by omega) (by omega)) (by decide),bq4 (bqi (by omega) (by omega)) (by decide),bq4 (bqi (by omega) (by omega)) (by decide),rfl,?_⟩;rw[aD7 (show((x:Rat)+((W:Int):Rat))+((1:Int):Rat)=(x:Rat)+(((W:Int)+(if (true=true) then 1 else 0):Int):Rat) by rw[if_pos rfl,Rat.intCast_add];grind) (show((y:Rat)+(hh:Rat))+((0:Int):Rat)=(y:Rat)+(hh:Rat) by grind)]
  |false =>
   refine ifF (by decide) ⟨rfl,?_⟩;rw[if_neg (by decide),Int.add_zero]
 rintro _ M8 ⟨rfl,rfl⟩;ac_nf;refine⟨λρ' M'=>M'=M8/\ρ'=[some (.ref fa),some (PQ x y),some (.int (an:Int)),some (PQ ((x:Rat)+((4:Int):Rat)) ((y:Rat)+((an:Int):Rat))),some (.int (W:Int)),some (.int hh),some (PQ ((x:Rat)+((W:Int):Rat)) ((y:Rat)+(hh:Rat))),some (.bl gap),some (PQ ((x:Rat)+(((W:Int)+(if gap then 1 else 0):Int):Rat)) ((y:Rat)+(hh:Rat))),some (.bl (aAN an W hh gap))],?_,?_⟩
 ·unfold aAN;rw[bT];refine dif (λc=>?_) (λc=>?_)
  ·refine⟨xF (by unfold Bd;decide),?_⟩;rw[bT,decide_eq_true (show W=2 by omega)];refine dif (λc2=>?_) (λc2=>?_)
   ·rw[decide_eq_true c2];exact⟨rfl,rfl⟩
   ·rw[decide_eq_false c2];exact⟨rfl,rfl⟩
  ·rw[decide_eq_false (show ¬W=2 by omega)];exact⟨rfl,rfl⟩
 rintro _ M9 ⟨rfl,rfl⟩;ac_nf;have bx:=bqi (z:=x) (by omega) (by omega);have by0:=bqi (z:=y) (by omega) (by omega);have b1:BQ 900 ((x:Rat)+((W:Int):Rat)):=bqs (by omega) (by omega);have b2:BQ 900 ((y:Rat)+(hh:Rat)):=bqs (by omega) (by omega);have b3:BQ 900 ((x:Rat)+((4:Int):Rat)):=bqs (by omega) (by omega);have b4:BQ 900 ((y:Rat)+((an:Int):Rat)):=bqs (by omega) (by omega);have b5:BQ 900 ((x:Rat)+(((W:Int)+(if gap then 1 else 0):Int):Rat)):=bqs (by split<;>omega) (by split<;>omega);have up:∀{z:Rat},BQ 900 z->BQ 4400 z:=λh=>h.mono (by decide);have eW:((W:Int):Rat)=(W:Rat):=Rat.intCast_natCast W;have eA:((an:Int):Rat)=(an:Rat):=Rat.intCast_natCast an;have e1:mkS (x:Rat) (y:Rat) ((x:Rat)+((W:Int):Rat)) ((y:Rat)+(hh:Rat))=shP x y (mkS 0 0 (W:Rat) (hh:Rat)):=by rw[<- xA,Rat.add_zero,Rat.add_zero,eW]
 have e2:mkS ((x:Rat)+(((W:Int)+(if gap then 1 else 0):Int):Rat)) ((y:Rat)+(hh:Rat)) ((x:Rat)+((4:Int):Rat)) ((y:Rat)+((an:Int):Rat))=shP x y (mkS ((W:Rat)+(if gap then 1 else 0)) (hh:Rat) 4 (an:Rat)):=by rw[<- xA,eA,Rat.intCast_add,eW];cases gap<;>rfl
 have e3:mkS (x:Rat) (y:Rat) ((x:Rat)+((4:Int):Rat)) ((y:Rat)+((an:Int):Rat))=shP x y (aDm an):=by unfold aDm;rw[<- xA,Rat.add_zero,Rat.add_zero,eA];rfl
 have OO:xW [mkS (x:Rat) (y:Rat) ((x:Rat)+((W:Int):Rat)) ((y:Rat)+(hh:Rat)),mkS ((x:Rat)+(((W:Int)+(if gap then 1 else 0):Int):Rat)) ((y:Rat)+(hh:Rat)) ((x:Rat)+((4:Int):Rat)) ((y:Rat)+((an:Int):Rat))] (mkS (x:Rat) (y:Rat) ((x:Rat)+((4:Int):Rat)) ((y:Rat)+((an:Int):Rat))) [(0,0),(1,0)] (aAN an W hh gap):=by
  have eo:[mkS (x:Rat) (y:Rat) ((x:Rat)+((W:Int):Rat)) ((y:Rat)+(hh:Rat)),mkS ((x:Rat)+(((W:Int)+(if gap then 1 else 0):Int):Rat)) ((y:Rat)+(hh:Rat)) ((x:Rat)+((4:Int):Rat)) ((y:Rat)+((an:Int):Rat))]=(aEr an W hh gap).map (shP x y):=by rw[e1,e2];rfl
  have all:=List.all_eq_true.mp G2;refine⟨by rw[eo,e3,pO];exact G1,Nat.le_of_ble_eq_true rfl,?_,by decide,by decide,?_,λ_=>rfl⟩
  ·intro l hl;simp only[mem_cons,not_mem_nil,or_false] at hl;rcases hl with rfl|rfl
   ·exact⟨Nat.le_of_ble_eq_true rfl,rfl⟩
   ·exact⟨Nat.le_of_ble_eq_true rfl,rfl⟩
  ·intro p hp;simp only[cons_append,List.nil_append,mem_cons,not_mem_nil,or_false] at hp;rcases hp with rfl|rfl|rfl
   ·exact⟨by rw[e1,qX];exact nG (all _ mem_cons_self),uX bx by0 b1 b2⟩
   ·exact⟨by rw[e2,qX];exact nG (all _ (mem_cons_of_mem _ mem_cons_self)),uX b5 b2 b3 b4⟩
   ·exact⟨by rw[e3,qX];exact nG G3,uX bx by0 b3 b4⟩
 refine⟨_,_,_,_,rfl,up bx,up by0,up b1,up b2,_,_,_,_,rfl,up b5,up b2,up b3,up b4,by decide,λq1 hq1=>⟨_,_,_,_,rfl,up bx,up by0,up b3,up b4,by decide,by decide,by decide,λq2 hq2=>⟨by decide,λq3 hq3=>?_⟩⟩⟩;have f8:=eN (eN (eN f7 (aT.new hq1 [pcD (mkS (x:Rat) (y:Rat) ((x:Rat)+((W:Int):Rat)) ((y:Rat)+(hh:Rat))),pcD (mkS ((x:Rat)+(((W:Int)+(if gap then 1 else 0):Int):Rat)) ((y:Rat)+(hh:Rat)) ((x:Rat)+((4:Int):Rat)) ((y:Rat)+((an:Int):Rat)))])) (aT.new hq2 [prN 0 0,prN 1 0])) (aT.new hq3 [.ref q1,pcD (mkS (x:Rat) (y:Rat) ((x:Rat)+((4:Int):Rat)) ((y:Rat)+((an:Int):Rat))),.ref q2,.bl (aAN an W hh gap)]);refine fX (q q3 q1 q2 _ _ _ _ _ OO aJ ?_ ?_ (FdN.mono f8 (by omega)) (sK (eN f7 (aT.new hq1 _)) hq2) (A7.trans (.of (((aT.new hq1 _).trans (aT.new hq2 _)).trans (aT.new hq3 _)) fa)))
 ·rw[cD (bK (by rw[cD (bK aJ hq2)];exact aJ) hq3),cD (bK aJ hq2),aJ];rfl
 ·rw[cD (bK aJ hq3),aJ];rfl
theorem aDk (z:Int):((0:Int):Rat)-(z:Rat)=((-z:Int):Rat):=by rw[<- Rat.intCast_sub];congr 1;omega
noncomputable abbrev fL:Stmt:=top 51
theorem bJ:aQ ["_law_feed_here","_law_c","_law_v","_law_by","_law_r","_law_outer","_law_left_here","_law_right","_law_arcs","_law_back"] ["_law_feed_here"] (aI fL):=by ac_rfl
theorem lW (hF:cX K mg "_law_round_ones" fL ["_law_feed_here"])(bD:Has P w K mg base 101 "_law_draw" ["_law_feed_here","_law_many"] eT)(eS:Has P w K mg base 102 "_law_point" ["_law_feed_here"] jH)(bR:Has P w K mg base 104 "together" ["p","q"] fZ)(rG:Has P w K mg base 104 "off" ["p","q"] wZ)(jI:Has P w K mg base 101 "_law_left" ["_law_v"] oM):Has P w K mg base 105 "_law_round_ones" ["_law_feed_here"] pM:=by
 refine Has.mkZ hF bJ (λds M Q ⟨_,_,e,_⟩=>by rw[e];rfl) λf cdv A outer s H ds M Q E hr h=>?_;obtain⟨fa,n,rfl,hf,hn,q⟩:=h;refine⟨_,(aE (aY (i:=1) bJ.nd (aF eS hr (by decide) (aA (aB 0) aD)))
  (aE (aY (i:=2) bJ.nd (aL (aA (aL (aA (aM eX aC (aF bD hr (by decide) (aA (aB 0) (aA aC aD)))) (aA aC aD))) (aA (aL (aA (aM gD (aF bD hr (by decide) (aA (aB 0) (aA aC aD))) aC) (aA aC aD))) aD))))
  (aE (aY (i:=3) bJ.nd (aF bD hr (by decide) (aA (aB 0) (aA aC aD))))
  (aE (aY (i:=4) bJ.nd (aF bR hr (by decide) (aA (aB 1) (aA (aB 2) aD))))
  (aE (aY (i:=5) bJ.nd (aF bR hr (by decide) (aA (aB 4) (aA (aH (bO (aA (aL (aA (aL (aA aC (aA aC aD))) (aA (aL (aA aC (aA aC aD))) aD))) (aA (aB 2) aD))) (aB 3)) aD))))
  (aE (bL (aX (bU hr) (aF bD hr (by decide) (aA (aB 0) (aA aC aD))) aC) (aG (aK (bO (aA (bO (aA (aL (aA bY (aA (aB 1) (aA (aB 4) aD)))) aD)) (aA (aL (aA bY (aA (aB 1) (aA (aB 5) aD)))) (aA (bO (aA (aL (aA aC (aA aC aD))) aD)) (aA (bZ (bU hr) (aB 3) aC) aD))))))) aV)
  (aE (aY (i:=6) bJ.nd (aF bR hr (by decide) (aA (aB 1) (aA (aF jI hr (by decide) (aA (aB 2) aD)) aD))))
  (aE (aY (i:=7) bJ.nd (aF bR hr (by decide) (aA (aB 1) (aA (aF rG hr (by decide) (aA (aL (aA (aL (aA aC (aA aC aD))) (aA (aL (aA aC (aA aC aD))) aD))) (aA (aF jI hr (by decide) (aA (aB 2) aD)) aD))) aD))))
  (aE (aY (i:=8) bJ.nd (bO (aA (aL (aA bY (aA (aB 1) (aA (aB 7) (aA (aB 6) aD))))) (aA (aL (aA bY (aA (aB 1) (aA (aB 6) (aA (aB 7) aD))))) aD))))
  (aE (bL (aX (bU hr) (aF bD hr (by decide) (aA (aB 0) (aA aC aD))) aC) (aG (aK (bO (aA (aB 8) (aA (aL (aA bY (aA (aB 1) (aA (aB 5) aD)))) (aA (bO (aA (aL (aA aC (aA aC aD))) (aA (aL (aA aC (aA aC aD))) (aA (aL (aA aC (aA aC aD))) aD)))) (aA (bZ (bU hr) (aB 3) aC) aD))))))) aV)
  (aE (aY (i:=9) bJ.nd (aF bR hr (by decide) (aA (aB 1) (aA (aF rG hr (by decide) (aA (aL (aA (aL (aA aC (aA aC aD))) (aA (aL (aA aC (aA aC aD))) aD))) (aA (aB 2) aD))) aD))))
  (aG (aK (bO (aA (aB 8) (aA (aL (aA bY (aA (aB 1) (aA (aB 4) (aA (aB 9) aD))))) (aA (bO (aA (aL (aA aC (aA aC aD))) (aA (aL (aA aC (aA aC aD))) aD))) (aA cU aD)))))))))))))))))),?_⟩
 ac_nf;refine⟨fa,n,rfl,hf,by omega,λx y M1 x1 x2 y1 y2 f1 a1=>?_⟩;ac_nf;refine⟨fa,4,n+2,rfl,f1,by omega,by decide,by unfold Bd;decide,λu M2 u0 u4 f2 a2=>?_⟩;ac_nf;refine⟨by decide,fa,7,n+3,rfl,f2,by omega,by decide,by unfold Bd;decide,λv M3 v0 v7 f3 a3=>?_⟩;ac_nf;refine⟨by decide,by decide,fa,2,n+4,rfl,f3,by omega,by decide,by unfold Bd;decide,λb M4 b0 b1 f4 a4=>?_⟩;have A4:fB M M4 fa:=(((fB.ad a1).trans (fB.ad a2)).trans (fB.ad a3)).trans (fB.ad a4);obtain⟨un,rfl⟩:∃un:Nat,u=(un:Int):=⟨u.toNat,by omega⟩;obtain⟨vn,rfl⟩:∃vn:Nat,v=(vn:Int):=⟨v.toNat,by omega⟩;obtain⟨by',rfl⟩:∃by':Bool,b=(if by' then 1 else 0):=by
  by_cases z:b=1
  ·exact⟨true,z⟩
  ·exact⟨false,by show b=0;omega⟩
 have RG:=aGt ⟨un,by omega⟩ ⟨vn,by omega⟩ by';dsimp only at RG;have hU:1<=1+(un:Int)/\1+(un:Int)<=4:=by omega
 have hV:-3<=(vn:Int)-3/\(vn:Int)-3<=3:=by omega
 generalize 1+(un:Int)=U at RG hU ⊢;generalize (vn:Int)-3=V at RG hV ⊢;obtain⟨RA,RB,RC⟩:=RG;rw[<- iH U V];ac_nf;have up:∀{z:Int},-50<=z->z<=50->BQ 4400 (z:Rat):=λa b=>bq4 (bqi (by omega) (by omega)) (by decide);refine⟨_,_,_,_,rfl,up (by omega) (by omega),up (by omega) (by omega),up (by omega) (by omega),up (by omega) (by omega),?_⟩;ac_nf;rw[<- iH 0 0];refine⟨by decide,by decide,by decide,by decide,λp hp=>⟨_,PQ ((if by' then U else 0:Int):Rat) ((if by' then V else 0:Int):Rat),aJ,by cases by'<;>rfl,_,_,_,_,rfl,bq4 (bqs (by omega) (by omega)) (by decide),bq4 (bqs (by omega) (by omega)) (by decide),up (by split<;>omega) (by split<;>omega),up (by split<;>omega) (by split<;>omega),?_⟩⟩;have f5:=eN f4 (aT.new hp [PQ ((0:Int):Rat) ((0:Int):Rat),PQ (U:Rat) (V:Rat)]);have A5:=A4.trans (.of (aT.new hp [PQ ((0:Int):Rat) ((0:Int):Rat),PQ (U:Rat) (V:Rat)]) fa);generalize bC M4 p [PQ ((0:Int):Rat) ((0:Int):Rat),PQ (U:Rat) (V:Rat)]=M5 at f5 A5;have oc:∀(x Z:Int),((x:Rat)+(Z:Rat))+((if by' then Z else 0:Int):Rat)=(x:Rat)+((Z*(if by' then 2 else 1):Int):Rat):=λx Z=>by
  cases by' with
  |true=>rw[if_pos rfl,if_pos rfl,Rat.intCast_mul];grind
  |false=>rw[if_neg (by decide),if_neg (by decide),Int.mul_one];grind
 rw[oc,oc];have hk:1<=(if by' then 2 else 1:Int)/\(if by' then 2 else 1:Int)<=2:=by split<;>omega
 have eb:decide ((if by' then 1 else 0:Int)=0) = !by':=by cases by'<;>rfl
 have oU:-8<=U*(if by' then 2 else 1)/\U*(if by' then 2 else 1)<=8:=by split<;>omega
 have oV:-8<=V*(if by' then 2 else 1)/\V*(if by' then 2 else 1)<=8:=by split<;>omega
 generalize U*(if by' then 2 else 1)=OU at RA RB oU ⊢;generalize V*(if by' then 2 else 1)=OV at RA RB oV ⊢;have bx:=bqi (z:=x) (by omega) (by omega);have by0:=bqi (z:=y) (by omega) (by omega);have bs:∀{x z:Int},-6<=x->x<=6->-8<=z->z<=8->BQ 900 ((x:Rat)+(z:Rat)):=λa b c d=>bqs (by omega) (by omega);have sR:∀u v:Int,shP (x:Rat) (y:Rat) (rR u v)=.ring x y ((x:Rat)+(u:Rat)) ((y:Rat)+(v:Rat)):=λu v=>by show Pc.ring _ _ _ _=_;rw[Rat.add_zero,Rat.add_zero]
 have sB:shP (x:Rat) (y:Rat) (rB U V)=.arc x y ((x:Rat)+(U:Rat)) ((y:Rat)+(V:Rat)) ((x:Rat)+((-U:Int):Rat)) ((y:Rat)+((-V:Int):Rat)):=by show Pc.arc _ _ _ _ _ _=_;rw[Rat.add_zero,Rat.add_zero]
 have sA:(rA U V).map (shP (x:Rat) (y:Rat))=[.arc x y ((x:Rat)+(V:Rat)) ((y:Rat)+((-U:Int):Rat)) ((x:Rat)+((-V:Int):Rat)) ((y:Rat)+(U:Rat)),.arc x y ((x:Rat)+((-V:Int):Rat)) ((y:Rat)+(U:Rat)) ((x:Rat)+(V:Rat)) ((y:Rat)+((-U:Int):Rat))]:=by show[Pc.arc _ _ _ _ _ _,Pc.arc _ _ _ _ _ _]=_;rw[Rat.add_zero,Rat.add_zero]
 refine⟨fa,2,n+5,rfl,f5,by omega,by decide,by unfold Bd;decide,λg M6 g0 g1 f6 a6=>?_⟩;have A6:=A5.trans (fB.ad a6);ac_nf;rw[bT];refine dif (λ_=>?_) (λ_=>?_)
 ·refine⟨by decide,by decide,λq1 hq1=>⟨by decide,by decide,by decide,λq2 hq2=>?_⟩⟩;rw[bT,id,eb];refine⟨by decide,λq3 hq3=>?_⟩;have OO:xW [.ring x y ((x:Rat)+(U:Rat)) ((y:Rat)+(V:Rat))] (.ring x y ((x:Rat)+(OU:Rat)) ((y:Rat)+(OV:Rat))) [(0,0)] (!by'):=by
   refine⟨by rw[<- sR,<- sR,<- List.map_singleton,pO];exact RA,Nat.le_of_ble_eq_true rfl,?_,by decide,by decide,?_,λz=>by cases z⟩
   ·intro l hl;rw[List.mem_singleton.mp hl];exact⟨Nat.le_of_ble_eq_true rfl,rfl⟩
   ·intro r hr';simp only[cons_append,List.nil_append,mem_cons,not_mem_nil,or_false] at hr';rcases hr' with rfl|rfl
    ·exact⟨rfl,bx,by0,bs (by omega) (by omega) (by omega) (by omega),bs (by omega) (by omega) (by omega) (by omega)⟩
    ·exact⟨rfl,bx,by0,bs (by omega) (by omega) (by omega) (by omega),bs (by omega) (by omega) (by omega) (by omega)⟩
  refine fX (q q3 q1 q2 _ _ _ _ _ OO aJ ?_ ?_ (FdN.mono (eN (eN (eN f6 (aT.new hq1 _)) (aT.new hq2 _)) (aT.new hq3 _)) (by omega)) (sK (eN f6 (aT.new hq1 _)) hq2) (A6.trans (.of (((aT.new hq1 _).trans (aT.new hq2 _)).trans (aT.new hq3 _)) fa)))
  ·rw[cD (bK (by rw[cD (bK aJ hq2)];exact aJ) hq3),cD (bK aJ hq2),aJ];rfl
  ·rw[cD (bK aJ hq3),aJ];rfl
 ·refine⟨U,V,rfl,?_⟩;ac_nf;refine⟨_,_,_,_,rfl,up (by omega) (by omega),up (by omega) (by omega),up (by omega) (by omega),up (by omega) (by omega),?_⟩;ac_nf;refine⟨by decide,by decide,by decide,U,V,rfl,_,_,_,_,rfl,up (by omega) (by omega),up (by omega) (by omega),up (by omega) (by omega),up (by omega) (by omega),?_⟩;rw[aDk,aDk,Int.neg_neg];refine⟨_,_,_,_,rfl,up (by omega) (by omega),up (by omega) (by omega),up (by omega) (by omega),up (by omega) (by omega),?_⟩;ac_nf;refine⟨by decide,by decide,by decide,λqa hqa=>?_⟩;have ea:bC M6 qa ([.tup [.str "arc",PQ (x:Rat) (y:Rat),PQ ((x:Rat)+(V:Rat)) ((y:Rat)+((-U:Int):Rat)),PQ ((x:Rat)+((-V:Int):Rat)) ((y:Rat)+(U:Rat))],.tup [.str "arc",PQ (x:Rat) (y:Rat),PQ ((x:Rat)+((-V:Int):Rat)) ((y:Rat)+(U:Rat)),PQ ((x:Rat)+(V:Rat)) ((y:Rat)+((-U:Int):Rat))]]) (.l qa)=some (((rA U V).map (shP (x:Rat) (y:Rat))).map pcD):=by rw[aJ,sA];rfl
  have f7:=eN f6 (aT.new hqa ([.tup [.str "arc",PQ (x:Rat) (y:Rat),PQ ((x:Rat)+(V:Rat)) ((y:Rat)+((-U:Int):Rat)),PQ ((x:Rat)+((-V:Int):Rat)) ((y:Rat)+(U:Rat))],.tup [.str "arc",PQ (x:Rat) (y:Rat),PQ ((x:Rat)+((-V:Int):Rat)) ((y:Rat)+(U:Rat)),PQ ((x:Rat)+(V:Rat)) ((y:Rat)+((-U:Int):Rat))]]));have nqa:=sK f6 hqa;have A7:=A6.trans (.of (aT.new hqa ([.tup [.str "arc",PQ (x:Rat) (y:Rat),PQ ((x:Rat)+(V:Rat)) ((y:Rat)+((-U:Int):Rat)),PQ ((x:Rat)+((-V:Int):Rat)) ((y:Rat)+(U:Rat))],.tup [.str "arc",PQ (x:Rat) (y:Rat),PQ ((x:Rat)+((-V:Int):Rat)) ((y:Rat)+(U:Rat)),PQ ((x:Rat)+(V:Rat)) ((y:Rat)+((-U:Int):Rat))]])) fa);generalize bC M6 qa ([.tup [.str "arc",PQ (x:Rat) (y:Rat),PQ ((x:Rat)+(V:Rat)) ((y:Rat)+((-U:Int):Rat)),PQ ((x:Rat)+((-V:Int):Rat)) ((y:Rat)+(U:Rat))],.tup [.str "arc",PQ (x:Rat) (y:Rat),PQ ((x:Rat)+((-V:Int):Rat)) ((y:Rat)+(U:Rat)),PQ ((x:Rat)+(V:Rat)) ((y:Rat)+((-U:Int):Rat))]])=M7 at ea f7 A7 ⊢;refine⟨fa,2,n+6,rfl,f7,by omega,by decide,by unfold Bd;decide,λg' M8 g0' g1' f8 a8=>?_⟩;have A8:=A7.trans (fB.ad a8);have ea8:M8 (.l qa)=some (((rA U V).map (shP (x:Rat) (y:Rat))).map pcD):=by rw[a8.l qa nqa];exact ea
  have ndA:∀r∈(rA U V).map (shP (x:Rat) (y:Rat)),gA r=true/\pcB 900 r:=λr hr'=>by
   rw[sA] at hr';simp only[mem_cons,not_mem_nil,or_false] at hr';rcases hr' with rfl|rfl
   ·exact⟨rfl,bx,by0,bs (by omega) (by omega) (by omega) (by omega),bs (by omega) (by omega) (by omega) (by omega),bs (by omega) (by omega) (by omega) (by omega),bs (by omega) (by omega) (by omega) (by omega)⟩
   ·exact⟨rfl,bx,by0,bs (by omega) (by omega) (by omega) (by omega),bs (by omega) (by omega) (by omega) (by omega),bs (by omega) (by omega) (by omega) (by omega),bs (by omega) (by omega) (by omega) (by omega)⟩
  ac_nf;rw[bT];refine dif (λ_=>?_) (λ_=>?_)
  ·refine⟨by decide,by decide,by decide,by decide,by decide,λq2 hq2=>?_⟩;rw[bT,id,eb];refine⟨by decide,λq3 hq3=>?_⟩;have OO:xW ((rA U V).map (shP (x:Rat) (y:Rat))) (.ring x y ((x:Rat)+(OU:Rat)) ((y:Rat)+(OV:Rat))) [(0,0),(1,0),(0,0)] (!by'):=by
    refine⟨by rw[<- sR,pO];exact RB,by rw[sA];exact Nat.le_of_ble_eq_true rfl,?_,by decide,by decide,?_,λz=>by cases z⟩
    ·rw[sA];intro l hl;simp only[mem_cons,not_mem_nil,or_false] at hl;rcases hl with rfl|rfl|rfl<;>exact⟨Nat.le_of_ble_eq_true rfl,rfl⟩
    ·intro r hr';rcases List.mem_append.mp hr' with hr'|hr'
     ·exact ndA r hr'
     ·rw[List.mem_singleton.mp hr'];exact⟨rfl,bx,by0,bs (by omega) (by omega) (by omega) (by omega),bs (by omega) (by omega) (by omega) (by omega)⟩
   refine fX (q q3 qa q2 _ _ _ _ _ OO aJ ?_ ?_ (FdN.mono (eN (eN f8 (aT.new hq2 _)) (aT.new hq3 _)) (by omega)) (sK f8 hq2) (A8.trans (.of ((aT.new hq2 _).trans (aT.new hq3 _)) fa)))
   ·exact((aT.new hq2 _).trans (aT.new hq3 _)) _ _ ea8
   ·rw[cD (bK aJ hq3),aJ];rfl
  ·refine⟨by decide,by decide,by decide,_,_,_,_,rfl,up (by omega) (by omega),up (by omega) (by omega),up (by omega) (by omega),up (by omega) (by omega),?_⟩;rw[aDk,aDk];refine⟨_,_,_,_,rfl,up (by omega) (by omega),up (by omega) (by omega),up (by omega) (by omega),up (by omega) (by omega),?_⟩;ac_nf;refine⟨by decide,by decide,by decide,by decide,λq2 hq2=>⟨by decide,λq3 hq3=>?_⟩⟩;have OO:xW ((rA U V).map (shP (x:Rat) (y:Rat))) (.arc x y ((x:Rat)+(U:Rat)) ((y:Rat)+(V:Rat)) ((x:Rat)+((-U:Int):Rat)) ((y:Rat)+((-V:Int):Rat))) [(0,0),(1,0)] true:=by
    refine⟨by rw[<- sB,pO];exact RC,by rw[sA];exact Nat.le_of_ble_eq_true rfl,?_,by decide,by decide,?_,λz=>by cases z⟩
    ·rw[sA];intro l hl;simp only[mem_cons,not_mem_nil,or_false] at hl;rcases hl with rfl|rfl<;>exact⟨Nat.le_of_ble_eq_true rfl,rfl⟩
    ·intro r hr';rcases List.mem_append.mp hr' with hr'|hr'
     ·exact ndA r hr'
     ·rw[List.mem_singleton.mp hr'];exact⟨rfl,bx,by0,bs (by omega) (by omega) (by omega) (by omega),bs (by omega) (by omega) (by omega) (by omega),bs (by omega) (by omega) (by omega) (by omega),bs (by omega) (by omega) (by omega) (by omega)⟩
   refine fX (q q3 qa q2 _ _ _ _ _ OO aJ ?_ ?_ (FdN.mono (eN (eN f8 (aT.new hq2 _)) (aT.new hq3 _)) (by omega)) (sK f8 hq2) (A8.trans (.of ((aT.new hq2 _).trans (aT.new hq3 _)) fa)))
   ·exact((aT.new hq2 _).trans (aT.new hq3 _)) _ _ ea8
   ·rw[cD (bK aJ hq3),aJ];rfl
theorem aEU (xs:List D)(lo hi:Option Int):(Dd.cutD xs lo hi).length<=xs.length:=by unfold Dd.cutD;rw[length_take,length_drop];omega
theorem uL {n j:Nat}{l:List (Nat×Nat)}(h:(nB n)[j]?=some l):j<n/\l=[(j,0)]:=by
 unfold nB at h;rw[getElem?_map] at h;by_cases c:j<n
 ·rw[List.getElem?_range c] at h;cases h;exact⟨c,rfl⟩
 ·rw[getElem?_eq_none (by rw[List.length_range];omega)] at h;cases h
theorem kQ (n:Nat):(nB n).length=n:=by unfold nB;rw[length_map,List.length_range]
theorem pH.snoc {M:DM}{pp qp lk:Addr}{lss:List (List (Nat×Nat))}{ls:List (Nat×Nat)}{xs:List D}(h:pH M pp lss)(hx:M (.l pp)=some xs)(hq:M (.l qp)=some (xs++[.ref lk]))(hl:M (.l lk)=some (prs ls)):pH M qp (lss++[ls]):=by
 obtain⟨as,e,el,f⟩:=h;rw[e] at hx;cases hx;refine⟨as++[lk],by rw[hq,map_append];rfl,by rw[length_append,length_append,el];rfl,λj a l h1 h2=>?_⟩;by_cases c:j<as.length
 ·rw[getElem?_append_left c] at h1;rw[getElem?_append_left (by omega)] at h2;exact f j a l h1 h2
 ·rw[List.getElem?_append_right (by omega)] at h1 h2;have hj:j-as.length=0:=by
   rcases Nat.eq_zero_or_pos (j-as.length) with z|z
   ·exact z
   ·rw[getElem?_eq_none (by show 1<=_;omega)] at h1;cases h1
  rw[hj] at h1;rw[show j-lss.length=0 by omega] at h2;cases h1;cases h2;exact hl
theorem aFF {others:List Pc}{extra:Pc}{ls ls':List (Nat×Nat)}{due due':Bool}(OO:xW others extra ls due)(V:aDs ls due ls' due'):vE others ls'/\(iX extra=true->OkP ls'):=by
 rcases V with⟨rfl,rfl⟩|⟨rfl,rfl,l⟩|⟨rfl,rfl,n⟩
 ·refine⟨⟨OO.lk,OO.ne,OO.le⟩,λz=>?_⟩;rw[OO.st z];exact⟨⟨by decide,by decide⟩,⟨by decide,by decide⟩,by decide⟩
 ·refine⟨⟨λx hx=>OO.lk x (List.dropLast_subset _ hx),λz=>?_,by rw[List.length_dropLast];have:=OO.le;omega⟩,λz=>?_⟩
  ·have:=congrArg length z;rw[List.length_dropLast,List.length_nil] at this;omega
  ·rw[OO.st z];exact trivial
 ·refine⟨⟨λx hx=>OO.lk x (List.mem_reverse.mp hx),λz=>OO.ne (List.reverse_eq_nil_iff.mp z),by rw[List.length_reverse];exact OO.le⟩,λz=>?_⟩;rw[OO.st z];exact⟨⟨by decide,by decide⟩,⟨by decide,by decide⟩,by decide⟩
def sp_law:DSp:=λds M Q=>∃ns:List Int,ds=[.fz (ns.map D.int)]/\ns.length<=63/\∀M',Q (.bl true) M'
noncomputable abbrev jY:Stmt:=top 52
theorem eE:aQ ["_law_script","_law_cell","_law_feed_here","_law_others","_law_extra","_law_links_here","_law_due","_law_own","_law_even","_law_found"] ["_law_script"] (aI jY):=by ac_rfl
theorem aDB {f0:Addr}{fd0:FuncData}(hF:L2.Fun K "law" "law" jY f0 fd0)(cG:mg "len" = none)(uI:mg "range" = none)(aZ:mg "isinstance" = none)(nW:mg "bool" = none)(iS:Has P w K mg base 101 "_law_cell_at" ["_law_script","_law_k"] kI)(lX:Has P w K mg base 101 "_law_feed" ["_law_cell"] oH)(bD:Has P w K mg base 101 "_law_draw" ["_law_feed_here","_law_many"] eT)(eF:Has P w K mg base 105 "_law_straight_ones" ["_law_feed_here"] pM)(fG:Has P w K mg base 105 "_law_round_ones" ["_law_feed_here"] pM)(kF:Has P w K mg base 102 "_law_links" ["_law_feed_here","_law_links_here","_law_due"] mW)(fM:Has P w K mg base 110 "alike_shown" ["even","papers"] jV):iM P w K mg base CX0 151 f0 fd0 ["_law_script"] (mM K sp_law):=by
 refine Fun.okZ hF eE (λds M Q ⟨ns,e,_⟩=>by rw[e];rfl) λcdv A outer s H ds M Q E hr h=>?_;obtain⟨ns,rfl,hl,q⟩:=h;refine⟨_,(aE (qI PassesOwn.never rfl (aM eX (bO (aA (aF iS hr (by decide) (aA (aB 0) (aA aC aD))) aD)) (sQ (aB 0) (mZ aC) (mZ aC))) (aN (i:=1) eE.nd) (aE (aY (i:=2) eE.nd (aF lX hr (by decide) (aA (aB 1) aD)))
  (iB (bL (aX (bU hr) (aF bD hr (by decide) (aA (aB 2) (aA aC aD))) aC) (aG (dD (aF eF hr (by decide) (aA (aB 2) aD)) (dM (n:=4) rfl (aP (aN (i:=3) eE.nd) (aP (aN (i:=4) eE.nd) (aP (aN (i:=5) eE.nd) (aP (aN (i:=6) eE.nd) cS))))))) (aG (dD (aF fG hr (by decide) (aA (aB 2) aD)) (dM (n:=4) rfl (aP (aN (i:=3) eE.nd) (aP (aN (i:=4) eE.nd) (aP (aN (i:=5) eE.nd) (aP (aN (i:=6) eE.nd) cS))))))))
  (aE (dD (aF kF hr (by decide) (aA (aB 2) (aA (aB 5) (aA (aB 6) aD)))) (dM (n:=2) rfl (aP (aN (i:=5) eE.nd) (aP (aN (i:=6) eE.nd) cS))))
  (aE (xD (i:=7) (⟨rfl,by decide +kernel,by decide +kernel,by decide +kernel,rfl,by decide +kernel⟩:mN ["_law_script","_law_cell","_law_feed_here","_law_others","_law_extra","_law_links_here","_law_due","_law_own","_law_even","_law_found"] (aI jY) ["_law_k"] [none] _) rfl eE.nd uI (aA (cB fH cG (aA (aB 3) aD)) aD) (λ_ _ _ _ _=>(aN (i:=0) (show Nodup (["_law_k"]:List Str) by decide +kernel))) (λ_ _ _ _ _=>(bO (aA (aL (aA (aB 0) (aA aC aD))) aD))))
  (aE (aY (i:=8) eE.nd (aL (aA (aL (aA bY aD)) (aA (aL (aA (aM eX (aB 3) (bO (aA (aB 4) aD))) (aA (bO aD) aD))) (aA (aL (aA (aB 3) (aA (bO aD) aD))) aD)))))
  (aE (aY (i:=9) eE.nd (bO (aA (aF fM hr (by decide) (aA (aB 8) (aA (aL (aA (aM eX (aB 7) (bO (aA (aB 5) aD))) (aA (aB 7) aD))) aD))) aD)))
  (aE (aA2 (yF (aB 9) (aF fM hr (by decide) (aA (aL (aA (aH (aB 8) aC) (aA (aH (aB 8) aC) (aA (aH (aB 8) aC) aD)))) (aA (aL (aA (aB 7) (aA (aM eX (aB 7) (bO (aA (aB 5) aD))) aD))) aD)))))
  (aG (bL (iE (gI (aX (aA8 hr) (aB 9) (bO (aA (aB 6) (aA (aB 6) aD)))) (fO (aX (aES hr) cU (pW (⟨rfl,by decide +kernel,by decide +kernel,by decide +kernel,rfl,by decide +kernel⟩:mN ["_law_script","_law_cell","_law_feed_here","_law_others","_law_extra","_law_links_here","_law_due","_law_own","_law_even","_law_found"] (aI jY) ["_law_one"] [none] _) rfl (aB 9) (λ_ _ _ _ _=>(aN (i:=0) (show Nodup (["_law_one"]:List Str) by decide +kernel))) (λ_ _ _ _ _=>(zZ (K':=K) rfl (aB 0) aZ nW))) rfl)))) (aG (aK cU)) aV))))))))))
  (aG (aK cU))),?_⟩
 ac_nf;refine⟨ns,0,rfl,λc0=>⟨by decide,λp hp p1 hp1=>⟨_,_,by rw[cD (bK aJ hp1)];exact aJ,aJ,?_,λp2 hp2=>⟨_,aJ,?_⟩⟩⟩⟩
 ·have:=aEU (ns.map D.int) (some 1) (some 12);rw[length_map] at this;show 1+_<=1000;omega
 have allI:∀(i:Nat)(d:D),([.int c0]++Dd.cutD (ns.map D.int) (some 1) (some 12))[i]?=some d->∃c,d=.int c:=λi d e=>by
  rcases List.mem_append.mp (mem_of_getElem? e) with z|z
  ·exact⟨c0,List.mem_singleton.mp z⟩
  ·obtain⟨c,_,rfl⟩:=List.mem_map.mp (aDy z);exact⟨c,rfl⟩
 have hL:bC (bC (bC M p [.int c0]) p1 (Dd.cutD (ns.map D.int) (some 1) (some 12))) p2 ([.int c0]++Dd.cutD (ns.map D.int) (some 1) (some 12)) (.l p2)=some ([.int c0]++Dd.cutD (ns.map D.int) (some 1) (some 12)):=aJ;generalize bC (bC (bC M p [.int c0]) p1 (Dd.cutD (ns.map D.int) (some 1) (some 12))) p2 ([.int c0]++Dd.cutD (ns.map D.int) (some 1) (some 12))=M0 at hL ⊢;generalize [.int c0]++Dd.cutD (ns.map D.int) (some 1) (some 12)=cs at allI hL ⊢;refine⟨λi ρ M'=>aT M0 M'/\∃o1 o2 o3 o4 o5 o6 o7 o8 o9,ρ=[some (.fz (ns.map D.int)),o1,o2,o3,o4,o5,o6,o7,o8,o9],⟨.refl _,_,_,_,_,_,_,_,_,_,rfl⟩,?_,?_,?_⟩
 ·rintro i ρ M' _ ⟨s',_⟩ a' e;cases e;exact s' _ _ hL
 ·rintro i d1 ρ M' hd ⟨s0,o1,o2,o3,o4,o5,o6,o7,o8,o9,rfl⟩;obtain⟨c,rfl⟩:=allI i d1 hd;ac_nf;refine⟨c,rfl,λfa M1 hfa f1 a1=>?_⟩;have n0:∀b o,M0 b=some o->b ≠ .l fa:=λb o e=>cJ (s0 b o e) hfa;have sA:∀{Ma Mb:DM},aT M0 Ma->fB Ma Mb fa->aT M0 Mb:=λsa a b o e=>a b (n0 b o e) o (sa b o e);have s1:=sA s0 (fB.ad a1);ac_nf;refine⟨λρ' M2=>∃lo lk others extra ls due,xW others extra ls due/\M2 (.l lo)=some (others.map pcD)/\M2 (.l lk)=some (prs ls)/\FdN M2 fa 100/\lk≠fa/\aT M0 M2/\ρ'=[some (.fz (ns.map D.int)),some (.int c),some (.ref fa),some (.ref lo),some (pcD extra),some (.ref lk),some (.bl due),o7,o8,o9],?_,?_⟩
  ·refine⟨fa,2,0,rfl,f1,by decide,by decide,by unfold Bd;decide,λg M2 g0 g1 f2 a2=>?_⟩;have s2:=sA s1 (fB.ad a2);ac_nf;rw[bT];refine dif (λ_=>?_) (λ_=>?_)
   ·refine⟨fa,1,rfl,f2,by decide,λr lo lk others extra ls due M3 OO hr3 hlo hlk f3 n3 A3=>?_⟩;ac_nf;exact⟨_,hr3,rfl,lo,lk,others,extra,ls,due,OO,hlo,hlk,f3.mono (by decide),n3,sA s2 A3,rfl⟩
   ·refine⟨fa,1,rfl,f2,by decide,λr lo lk others extra ls due M3 OO hr3 hlo hlk f3 n3 A3=>?_⟩;ac_nf;exact⟨_,hr3,rfl,lo,lk,others,extra,ls,due,OO,hlo,hlk,f3.mono (by decide),n3,sA s2 A3,rfl⟩
  rintro _ M2 ⟨lo,lk,others,extra,ls,due,OO,hlo,hlk,f2,nlk,s2,rfl⟩;ac_nf;refine⟨fa,100,lk,ls,due,rfl,f2,by decide,nlk,hlk,OO.le,λr lk' ls' due' M3 V hr3 hlk3 A3=>?_⟩;have nlo:lo≠fa:=λz=>by obtain⟨c',k',f',e',_⟩:=f2;rw[z,e'] at hlo;have:=congrArg length (Option.some.inj hlo);rw[length_map] at this;have:=OO.len;simp at *;omega
  have hlo3:=A3 (.l lo) (λz=>nlo (AK.l.inj z)) _ hlo;have s3:=sA s2 A3;ac_nf;refine⟨_,hr3,rfl,_,hlo3,?_⟩;rw[length_map];have hn:=OO.len;refine⟨⟨by omega,by omega⟩,by omega,λi ys M'=>aT M3 M'/\∃as:List Addr,ys=as.map D.ref/\as.length=i/\∀(j:Nat) a,as[j]?=some a->M' (.l a)=some (prs [(j,0)]),⟨.refl _,[],rfl,rfl,λj a e=>by cases e⟩,?_,?_⟩
  ·rintro i ys M' hi ⟨sM,as,rfl,el,ha⟩;ac_nf;refine⟨by decide,by decide,λpn hpn=>⟨sM.trans (aT.new hpn _),as++[pn],by rw[map_append];rfl,by rw[length_append,el];rfl,λj a e=>?_⟩⟩;rw[List.getElem?_append] at e;split at e
   ·rw[cD (bK (ha j a e) hpn)];exact ha j a e
   ·have hj:j-as.length=0:=by
     rcases Nat.eq_zero_or_pos (j-as.length) with z|z
     ·exact z
     ·rw[getElem?_eq_none (by show 1<=_;omega)] at e;cases e
    rw[hj] at e;cases e;have:j=i:=by omega
    subst this;rw[aJ];show some [D.tup [.int (0+(j:Int)),.int 0]]=some [D.tup [.int (j:Int),.int ((0:Nat):Int)]];rw[Int.zero_add];rfl
  rintro ys M4 hy ⟨s34,as,rfl,el,ha⟩ po hpo;rw[Int.toNat_natCast] at el;have own4:pH (bC M4 po (as.map D.ref)) po (nB others.length):=by refine⟨as,aJ,by rw[kQ,el],λj a l e e'=>?_⟩;obtain⟨_,hj⟩:=uL e';rw[hj,cD (bK (ha j a e) hpo)];exact ha j a e
  have s4:aT M3 (bC M4 po (as.map D.ref)):=s34.trans (aT.new hpo _);have eo4:bC M4 po (as.map D.ref) (.l po)=some (as.map D.ref):=aJ;generalize bC M4 po (as.map D.ref)=M5 at own4 s4 eo4 ⊢;refine⟨by decide,by decide,λq1 hq1=>⟨_,_,(aT.new hq1 _) _ _ (s4 _ _ hlo3),aJ,by rw[length_map];show _+1<=1000;omega,λq2 hq2=>?_⟩⟩;have hlk5:=s4 _ _ hlk3;have hlo5:=s4 _ _ hlo3;have b6:aT M5 (bC (bC M5 q1 [pcD extra]) q2 (others.map pcD++[pcD extra])):=(aT.new hq1 _).trans (aT.new hq2 _);have e6:bC (bC M5 q1 [pcD extra]) q2 (others.map pcD++[pcD extra]) (.l q2)=some ((others++[extra]).map pcD):=by rw[aJ,map_append];rfl
  generalize bC (bC M5 q1 [pcD extra]) q2 (others.map pcD++[pcD extra])=M6 at b6 e6 ⊢;refine⟨by decide,λq3 hq3=>⟨by decide,by decide,λq4 hq4=>⟨by decide,by decide,by decide,λq5 hq5=>?_⟩⟩⟩;have b7:aT M6 (bC (bC (bC M6 q3 []) q4 []) q5 [.ref lk']):=((aT.new hq3 _).trans (aT.new hq4 _)).trans (aT.new hq5 _);have c5:bC (bC (bC M6 q3 []) q4 []) q5 [.ref lk'] (.l q5)=some [.ref lk']:=aJ;have c4:bC (bC (bC M6 q3 []) q4 []) q5 [.ref lk'] (.l q4)=some []:=(aT.new hq5 _) _ _ aJ;have c3:bC (bC (bC M6 q3 []) q4 []) q5 [.ref lk'] (.l q3)=some []:=((aT.new hq4 _).trans (aT.new hq5 _)) _ _ aJ;generalize bC (bC (bC M6 q3 []) q4 []) q5 [.ref lk']=M7 at b7 c3 c4 c5 ⊢;have b57:=b6.trans b7;have own7:=own4.sub b57;have eo7:=b57 _ _ eo4;have las:as.length<=2:=by omega
  obtain⟨LK,OKx⟩:=aFF OO V;obtain⟨hU,hT⟩:=aAJ OO.good V;unfold U9 at hU;unfold T9 at hT;have L1:∀(i:Nat) g l,(others++[extra])[i]?=some g->(nB others.length++[ls'])[i]?=some l->vE others l/\(iX g=true->OkP l):=λi g l h1 h2=>by
   by_cases ci:i<others.length
   ·rw[getElem?_append_left (by rw[kQ];exact ci)] at h2;obtain⟨_,rfl⟩:=uL h2;exact⟨⟨λx hx=>by rw[List.mem_singleton.mp hx];exact⟨ci,rfl⟩,(λz=>nomatch z),Nat.le_of_ble_eq_true rfl⟩,λ_=>trivial⟩
   ·rw[List.getElem?_append_right (by omega)] at h1;rw[List.getElem?_append_right (by rw[kQ];omega),kQ] at h2;have hi0:i-others.length=0:=by
     rcases Nat.eq_zero_or_pos (i-others.length) with z|z
     ·exact z
     ·rw[getElem?_eq_none (by show 1<=_;omega)] at h1;cases h1
    rw[hi0] at h1 h2;cases h1;cases h2;exact⟨LK,OKx⟩
  have L2:∀(i:Nat) g l,others[i]?=some g->(nB others.length)[i]?=some l->vE (others++[extra]) l/\(iX g=true->OkP l):=λi g l h1 h2=>by obtain⟨ci,rfl⟩:=uL h2;exact⟨⟨λx hx=>by rw[List.mem_singleton.mp hx];exact⟨by rw[length_append];show i<_+1;omega,rfl⟩,(λz=>nomatch z),Nat.le_of_ble_eq_true rfl⟩,λ_=>trivial⟩
  have n1:(nB others.length++[ls']).length=(others++[extra]).length:=by rw[length_append,length_append,kQ];rfl
  have n2:=kQ others.length;have n3:(others++[extra]).length<=3:=by rw[length_append];show _+1<=3;omega
  have B2:∀p∈others,gA p=true/\pcB 900 p:=λp hp=>OO.nd p (List.mem_append_left _ hp);have n4:others.length<=3:=by omega
  refine⟨_,_,eo7,c5,by rw[length_map];show _+1<=1000;omega,λq6 hq6=>⟨by decide,q2,lo,q3,q4,others++[extra],others,q6,po,nB others.length++[ls'],nB others.length,rfl,(aT.new hq6 _) _ _ (b7 _ _ e6),(aT.new hq6 _) _ _ (b57 _ _ hlo5),(aT.new hq6 _) _ _ c3,(aT.new hq6 _) _ _ c4,?_,own7.sub (aT.new hq6 _),n1,n2,n3,n4,L1,L2,OO.nd,B2,λM8 b8=>?_⟩⟩
  ·exact pH.snoc (own7.sub (aT.new hq6 _)) ((aT.new hq6 _) _ _ eo7) aJ ((aT.new hq6 _) _ _ (b57 _ _ hlk5))
  rw[hT,hU,Bool.and_true];have b78:aT M7 M8:=(aT.new hq6 _).trans b8;refine⟨by decide,λq7 hq7=>⟨⟨_,aJ⟩,by decide,by decide,λq8 hq8=>?_⟩⟩;have b9:aT M8 (bC (bC M8 q7 [.bl due']) q8 [.ref lk']):=(aT.new hq7 _).trans (aT.new hq8 _);have c7:bC (bC M8 q7 [.bl due']) q8 [.ref lk'] (.l q7)=some [.bl due']:=(aT.new hq8 _) _ _ aJ;have c8:bC (bC M8 q7 [.bl due']) q8 [.ref lk'] (.l q8)=some [.ref lk']:=aJ;generalize bC (bC M8 q7 [.bl due']) q8 [.ref lk']=M9 at b9 c7 c8 ⊢;have b79:=b78.trans b9;have b59:=b57.trans b79;have own_9:=own4.sub b59;have eo9:=b59 _ _ eo4;refine⟨_,_,eo9,c8,by rw[length_map];show _+1<=1000;omega,λq9 hq9=>⟨by decide,lo,q2,q4,q3,others,others++[extra],po,q9,nB others.length,nB others.length++[ls'],rfl,(aT.new hq9 _) _ _ (b59 _ _ hlo5),(aT.new hq9 _) _ _ ((b7.trans b79) _ _ e6),(aT.new hq9 _) _ _ (b79 _ _ c4),(aT.new hq9 _) _ _ (b79 _ _ c3),own_9.sub (aT.new hq9 _),?_,n2,n1,n4,n3,L2,L1,B2,OO.nd,λM10 b10=>?_⟩⟩
  ·exact pH.snoc (own_9.sub (aT.new hq9 _)) ((aT.new hq9 _) _ _ eo9) aJ ((aT.new hq9 _) _ _ (b59 _ _ hlk5))
  rw[hT,hU,Bool.true_and];have b910:aT M9 M10:=(aT.new hq9 _).trans b10;have s8:aT M0 M8:=s3.trans (s4.trans (b57.trans b78));have s10:aT M0 M10:=s8.trans (b9.trans b910);have n7:∀b o,M0 b=some o->b ≠ .l q7:=λb o e=>cJ (s8 b o e) hq7;refine⟨[.bl due'],.bl due',rfl,b910 _ _ c7,by show 1<1000;decide,by decide,λqa hqa=>?_⟩;have n7a:q7≠qa:=λz=>by rw[<- z,aJ] at hqa;cases hqa
  have s11:aT M0 (bC (bC M10 q7 ([.bl due']++[.bl due'])) qa [.bl due',.bl due']):=λb o e=>(aT.new hqa _) b o (by rw[rC (n7 b o e)];exact s10 b o e);have e7:bC (bC M10 q7 ([.bl due']++[.bl due'])) qa [.bl due',.bl due'] (.l q7)=some [.bl due',.bl due']:=by rw[cD n7a];exact aJ
  have ea:bC (bC M10 q7 ([.bl due']++[.bl due'])) qa [.bl due',.bl due'] (.l qa)=some [.bl due',.bl due']:=aJ;generalize bC (bC M10 q7 ([.bl due']++[.bl due'])) qa [.bl due',.bl due']=M11 at s11 e7 ea ⊢;refine⟨.inr ⟨⟨_,rfl⟩,_,rfl⟩,true,aAP (n:=19) e7 ea n7a (λx hx=>by simp only[mem_cons,not_mem_nil,or_false] at hx;rcases hx with rfl|rfl<;>rfl),?_⟩;refine ifF (by decide) ⟨_,e7,by show 2<=1000;decide,λi ys M'=>M'=M11/\ys=(replicate i true).map D.bl,⟨rfl,rfl⟩,λi ys M' _ ⟨e,_⟩ a' e'=>(by cases e';rw[e];exact e7),?_,?_⟩
  ·rintro i d2 ys M' hd2 ⟨rfl,rfl⟩;have hb:d2=.bl due':=by have:=mem_of_getElem? hd2;simp only[mem_cons,not_mem_nil,or_false] at this;rcases this with h|h<;>exact h
   subst hb;ac_nf;refine .inl ⟨_,_,rfl,rfl,rfl,?_⟩;rw[List.replicate_succ',map_append];rfl
  rintro ys M' hy2 ⟨rfl,rfl⟩ qb hqb;refine⟨_,aJ,ifF rfl ⟨s11.trans (aT.new hqb _),_,_,_,_,_,_,_,_,_,rfl⟩⟩
 ·rintro ρ M' ⟨_,o1,o2,o3,o4,o5,o6,o7,o8,o9,rfl⟩;ac_nf;exact fX (q M')
theorem law_here (ns:List Int)(hl:ns.length<=63)(M:DM):sp_law [.fz (ns.map D.int)] M λd _=>d=.bl true:=⟨ns,rfl,hl,λ_=>rfl⟩
end
local macro_rules | `(tactic|subst_eqs) => `(tactic|(intro _ _ _ _ _ _ us hl;first |(obtain ⟨_,h⟩ := us1 hl;subst h;rfl) |(obtain ⟨_,_,h⟩ := us2 hl;subst h;rfl) |(obtain ⟨_,_,_,h⟩ := us3 hl;subst h;rfl) |(obtain ⟨_,_,_,_,h⟩ := us4 hl;subst h;rfl)))
theorem all_mk {l:PySem.W.OpenLaw}{w:World}{K:Frag}{h:Heap}{mg:Str->Option Value}{fa f0 f1 f2 f3 f4 f5 f6 f7 f8 f9 f10 f11 f12 f13 f14 f15 f16 f17 f18 f19 f20 f21 f22 f23 f24 f25 f26 f27 f31 f32 f34 f35 f36 f37 f38 f39 f40 f41 f42:Addr}(X:K.In h)(G:h.Ns mainGlobals mg)(hfa:mg "law"=some (.ref fa)){C_Rounds:Addr}(ac_Rounds:nsIn K mainGlobals "Rounds"=some (some (.ref C_Rounds)))(oc_Rounds:Cls K C_Rounds)(on_Rounds_sort_of_map:findIn K (.ref C_Rounds) "sort_of_map"=some none)(on_Rounds_many_still:findIn K (.ref C_Rounds) "many_still"=some none)(on_Rounds_pieces:findIn K (.ref C_Rounds) "pieces"=some none)(on_Rounds_kept:findIn K (.ref C_Rounds) "kept"=some none){od42 an42:Option Addr}{sl42:Array (Option Value)}{oc42 kV42 dc42 pm42 cd42 ct42:Value}(b0:FK K "greatest_divisor" f0 eP)(b1:FK K "plus" f1 xQ)(b2:FK K "minus" f2 tO)(b3:FK K "below" f3 vA)(b4:FK K "together" f4 lI)(b5:FK K "off" f5 aA1)(b6:FK K "on_one_bottom" f6 gC)(b7:FK K "sign" f7 xM)(b8:FK K "scaled_far" f8 jG)(b9:FK K "farther" f9 nH)(b10:FK K "side" f10 xN)(b11:FK K "before" f11 qM)(b12:FK K "stretch" f12 nN)(b13:FK K "on_straight" f13 iQ)(b14:FK K "ahead" f14 tW)(b15:FK K "on" f15 aGi)(b16:FK K "_law_feed" f16 lG)(b17:FK K "_law_draw" f17 lT)(b18:FK K "_law_cell_at" f18 iL)(b19:FK K "raised" f19 qZ)(b20:FK K "grown" f20 tY)(b21:FK K "stepped_point" f21 gF)(b22:FK K "stepped_piece" f22 eI)(b23:FK K "same_carrier" f23 gZ)(b24:FK K "leads_straight" f24 fC)(b25:FK K "leads_round" f25 iT)(b26:FK K "is_chain" f26 jL)(b27:FK K "is_round" f27 mD)(bi28:∃f fd,Mk K C_Rounds f/\L2.Fun K "__init__" "Rounds.__init__" fQ f fd)(bm29:∃f fd,xI K C_Rounds "flows_on" f/\L2.Fun K "flows_on" "Rounds.flows_on" dO f fd)(bm30:∃f fd,xI K C_Rounds "piece_in" f/\L2.Fun K "piece_in" "Rounds.piece_in" dJ f fd)(b31:FK K "is_whole" f31 lV)(b32:FK K "is_place" f32 lO)(bm33:∃f fd,xI K C_Rounds "has_link" f/\L2.Fun K "has_link" "Rounds.has_link" dL f fd)(b34:FK K "chain_shown" f34 eG)(b35:FK K "picture_shown" f35 gB)(b36:FK K "alike_shown" f36 iU)(b37:FK K "_law_point" f37 kE)(b38:FK K "_law_left" f38 lH)(b39:FK K "_law_links" f39 kG)(b40:FK K "_law_straight_ones" f40 eD)(b41:FK K "_law_round_ones" f41 fL)(a42:nsIn K mainGlobals "law" = some (some (.ref f42)))(l42:K.lookup f42 = some ⟨oc42,od42,.func (fnOf "law" "law" (jE jY) (dI jY) (aI jY) .none kV42 dc42 pm42 an42 cd42 ct42),sl42⟩)(c42:codeIn K cd42 "law"=true)(k42:keepIn K (.ref f42)=true)(z_abs:nsIn K mainGlobals "abs"=some none)(z_all:nsIn K mainGlobals "all"=some none)(z_bool:nsIn K mainGlobals "bool"=some none)(z_enumerate:nsIn K mainGlobals "enumerate"=some none)(z_int:nsIn K mainGlobals "int"=some none)(z_isinstance:nsIn K mainGlobals "isinstance"=some none)(z_len:nsIn K mainGlobals "len"=some none)(z_list:nsIn K mainGlobals "list"=some none)(z_range:nsIn K mainGlobals "range"=some none)(z_set:nsIn K mainGlobals "set"=some none)(z_tuple:nsIn K mainGlobals "tuple"=some none):∃fd:FuncData,(∀(s:Shared)(v:Value),BindsTo s fd ⟨[v],[]⟩ [("_law_script",v)])/\∀base:Heap,K.In base->base.Ns mainGlobals mg->iM l.prog w K mg base CX0 151 fa fd ["_law_script"] (mM K sp_law):=by
 have e:=hfa.symm.trans (mg_of X G a42);cases e;have H0:=b0.has X G (ps:=["one","other"]) (by subst_eqs)
 have H1:=b1.has X G (ps:=["one","other"]) (by subst_eqs)
 have H2:=b2.has X G (ps:=["one","other"]) (by subst_eqs)
 have H3:=b3.has X G (ps:=["one","other"]) (by subst_eqs)
 have H4:=b4.has X G (ps:=["p","q"]) (by subst_eqs)
 have H5:=b5.has X G (ps:=["p","q"]) (by subst_eqs)
 have H6:=b6.has X G (ps:=["p"]) (by subst_eqs)
 have H7:=b7.has X G (ps:=["number"]) (by subst_eqs)
 have H8:=b8.has X G (ps:=["c","p"]) (by subst_eqs)
 have H9:=b9.has X G (ps:=["c","p","q"]) (by subst_eqs)
 have H10:=b10.has X G (ps:=["a","b","p"]) (by subst_eqs)
 have H11:=b11.has X G (ps:=["p","q"]) (by subst_eqs)
 have H12:=b12.has X G (ps:=["p","q"]) (by subst_eqs)
 have H13:=b13.has X G (ps:=["piece","p"]) (by subst_eqs)
 have H14:=b14.has X G (ps:=["c","a","p","q"]) (by subst_eqs)
 have H15:=b15.has X G (ps:=["piece","p"]) (by subst_eqs)
 have H16:=b16.has X G (ps:=["_law_cell"]) (by subst_eqs)
 have H17:=b17.has X G (ps:=["_law_feed_here","_law_many"]) (by subst_eqs)
 have H18:=b18.has X G (ps:=["_law_script","_law_k"]) (by subst_eqs)
 have H19:=b19.has X G (ps:=["number","n"]) (by subst_eqs)
 have H20:=b20.has X G (ps:=["p","number"]) (by subst_eqs)
 have H21:=b21.has X G (ps:=["kind","n","p"]) (by subst_eqs)
 have H22:=b22.has X G (ps:=["kind","n","piece"]) (by subst_eqs)
 have H23:=b23.has X G (ps:=["one","other"]) (by subst_eqs)
 have H24:=b24.has X G (ps:=["goal","pieces"]) (by subst_eqs)
 have H25:=b25.has X G (ps:=["goal","pieces"]) (by subst_eqs)
 have H26:=b26.has X G (ps:=["goal","pieces"]) (by subst_eqs)
 have H27:=b27.has X G (ps:=["thing","sort"]) (by subst_eqs)
 have H28:aCa K mg "Rounds" C_Rounds "Rounds.__init__" fQ ["self","sort","picture"]:=by obtain⟨f,fd,hm,F⟩:=bi28;exact⟨f,fd,hm,mg_of X G ac_Rounds,F,F.binds (ps:=["self","sort","picture"]) (by subst_eqs)⟩
 have H29:qL K C_Rounds "flows_on" "Rounds.flows_on" dO ["self","links"]:=by obtain⟨f,fd,hm,F⟩:=bm29;exact⟨f,fd,hm,F,F.binds (ps:=["self","links"]) (by subst_eqs)⟩
 have H30:qL K C_Rounds "piece_in" "Rounds.piece_in" dJ ["self","number","n"]:=by obtain⟨f,fd,hm,F⟩:=bm30;exact⟨f,fd,hm,F,F.binds (ps:=["self","number","n"]) (by subst_eqs)⟩
 have H31:=b31.has X G (ps:=["thing"]) (by subst_eqs)
 have H32:=b32.has X G (ps:=["thing","things"]) (by subst_eqs)
 have H33:qL K C_Rounds "has_link" "Rounds.has_link" dL ["self","thing"]:=by obtain⟨f,fd,hm,F⟩:=bm33;exact⟨f,fd,hm,F,F.binds (ps:=["self","thing"]) (by subst_eqs)⟩
 have H34:=b34.has X G (ps:=["goal","other","links"]) (by subst_eqs)
 have H35:=b35.has X G (ps:=["own","other","papers"]) (by subst_eqs)
 have H36:=b36.has X G (ps:=["even","papers"]) (by subst_eqs)
 have H37:=b37.has X G (ps:=["_law_feed_here"]) (by subst_eqs)
 have H38:=b38.has X G (ps:=["_law_v"]) (by subst_eqs)
 have H39:=b39.has X G (ps:=["_law_feed_here","_law_links_here","_law_due"]) (by subst_eqs)
 have H40:=b40.has X G (ps:=["_law_feed_here"]) (by subst_eqs)
 have H41:=b41.has X G (ps:=["_law_feed_here"]) (by subst_eqs)
 have F42:=fun_mk (st:=jY) l42 c42 k42;have o_Rounds:rK K C_Rounds ["sort_of_map","many_still","pieces","kept"]:=⟨oc_Rounds,λf hf=>by
  simp only[mem_cons,not_mem_nil,or_false] at hf;rcases hf with rfl|rfl|rfl|rfl
  ·exact on_Rounds_sort_of_map
  ·exact on_Rounds_many_still
  ·exact on_Rounds_pieces
  ·exact on_Rounds_kept⟩
 have aBR:=mg_none_of X G z_abs;have sF:=mg_none_of X G z_all;have nW:=mg_none_of X G z_bool;have iI:=mg_none_of X G z_enumerate;have rY:=mg_none_of X G z_int;have aZ:=mg_none_of X G z_isinstance;have cG:=mg_none_of X G z_len;have lU:=mg_none_of X G z_list;have uI:=mg_none_of X G z_range;have aB9:=mg_none_of X G z_set;have gP:=mg_none_of X G z_tuple;refine⟨fnOf "law" "law" (jE jY) (dI jY) (aI jY) .none kV42 dc42 pm42 an42 cd42 ct42,λs v=>.of_eq rfl,λbase _ _=>?_⟩;have dA:=kJ (P:=l.prog) (w:=w) (base:=base) H0 aBR;have lK:=aBe H1 dA;have pU:=aAC H2 lK;have pS:=aAE (P:=l.prog) (w:=w) (base:=base) H3;have bR:=uF H4 lK;have rG:=aDz H5 pU;have bX:=mK (P:=l.prog) (w:=w) (base:=base) H6;have nR:=aAV (P:=l.prog) (w:=w) (base:=base) H7;have gO:=qD H8 bX;have gR:=wJ H9 gO nR;have iO:=aBX H10 bX nR;have hJ:=yC H11 pS;have jD:=vI H12 hJ;have iR:=pK H13 iO hJ;have kO:=aAm H14 iO;have rT:=aFZ H15 iR gR kO;have lX:=uQ (P:=l.prog) (w:=w) (base:=base) H16 rY;have bD:=uN (P:=l.prog) (w:=w) (base:=base) H17;have iS:=pE (P:=l.prog) (w:=w) (base:=base) H18 cG;have qO:=wX (P:=l.prog) (w:=w) (base:=base) H19;have pT:=aAj (P:=l.prog) (w:=w) (base:=base) H20;have gE:=mU H21 bR rG pT qO;have gH:=nF H22 gP gE;have hG:=nY H23 iO gR;have fJ:=lN H24 rT;have iP:=pC H25 cG rT kO;have lP:=vB H26 cG sF rT hG fJ iP;have lE:=uM (P:=l.prog) (w:=w) (base:=base) H27;have fP:=pI (mg:=mg) (P:=l.prog) (w:=w) (base:=base) H28 cG o_Rounds;have eY:=kS (mg:=mg) (P:=l.prog) (w:=w) (base:=base) H29 o_Rounds;have cL:=kX (mg:=mg) H30 o_Rounds gH;have fE:=tV (P:=l.prog) (w:=w) (base:=base) H31 aZ rY nW;have lL:=tR H32 cG fE;have eV:=kY (mg:=mg) H33 aZ gP cG o_Rounds lL fE lE;have iN:=pJ H34 aZ lU sF cG aB9 eV cL lP;have eL:=mE H35 aZ lU cG iI o_Rounds eY cL iN;have fM:=pA H36 aZ gP cG fP eL;have eS:=rP H37 bD;have jI:=tI (P:=l.prog) (w:=w) (base:=base) H38;have kF:=rN H39 cG bD;have eF:=jS H40 bD eS bR jD;have fG:=lW H41 bD eS bR rG jI;exact aDB (P:=l.prog) (w:=w) (base:=base) F42 cG uI aZ nW iS lX bD eF fG kF fM
end Lw
namespace PySem.W.Fast
local macro_rules|`(#check $s:str)=>do
 let mut n:=0;let mut k:=0;let mut o:=#[]
 for c in s.getString.toList do
  n:=n*85+(if c.toNat<92 then c.toNat-35 else c.toNat-36);k:=k+1
  if k=10 then
   let i:=Lean.mkIdent (.mkSimple s!"tw{n}")
   o:=o.push (←`(command|noncomputable def $i:ident:Unit:=()));n:=0;k:=0
 return Lean.mkNullNode (o.map (·.raw))
#check "IK#ZTRD%VmgsO9SU4jqMLH[o>#V1=,KZ9/*AUSf:M>0w##DRWOg3%x.G],iCZReW.gH8v7,R[wGFP<]QlOnic/s[1D1WlO5d3;3sQ>;VD$*ccM+=3.+6gr87^S#cef@]^A/AH&l3'k@>dk2i`7,kSE,?*ORiqjlJ(9Z:4`>pj'O:k@aU.?aSepJg0UEohmq9bXRMD'sWf>49g*t7nKc.i't=F8AUfwcKgdmE)`0kDXE)4@U*o2fIsTDlY*Mx+3YXx$?.kHk8*Pi/1_M>L,6's4=<6aH3el;R#G_$?swAa$=+btpoGn(uDg&)6%okIgLc6+7Ap,nGPuh9P_d]4J_raYQ:MrVk:Hn`t%PnG(98(iCmW71U6Nm,^LIeN(s6gA]B:&UZrs5N>G0F'>Fg:;.`0U93E)TF9?n^slU,M7m$8$U6C:JG9`6#4_T'7@8mq(n@84pnvTp(kL/.7f20S2t9gjr_+uGletnM`<R8BfEK^B+[ClpjQC$@`axV#a4thnA7#Rc13(RpXpb&bhE@H)%,OUe#c@LJZb]e0k/tM^_FORd&K/f%QNBRr4o@n0"
end PySem.W.Fast
open PySem PySem.W PyProof.Rows
set_option maxRecDepth 100000 in
set_option maxHeartbeats 0 in
theorem PySem.Challenge.cw_arcmill_k89_papers_nearly_right_holds : PySem.Challenge.rw_arcmill_k89_papers_nearly_right.Holds := by
 w_on;o_law;k_head;(case hw=>w_witness2)
 k_fill
 refine Dd.walk_ofD (l:=PySem.Challenge.rw_arcmill_k89_papers_nearly_right) (n:=63) (k:=151) (x:="_law_script") (sp:=Lw.sp_law) rfl (by decide) rfl ⟨rfl,by decide,by decide⟩ (λw h Y=>PySem.W.kIn_of Y) ?F Lw.law_here
 case F =>
  intro w mg fa h KX G hmg
  refine' Lw.all_mk KX G hmg ?ac_Rounds ?oc_Rounds ?on_Rounds_sort_of_map ?on_Rounds_many_still ?on_Rounds_pieces ?on_Rounds_kept ?b0 ?b1 ?b2 ?b3 ?b4 ?b5 ?b6 ?b7 ?b8 ?b9 ?b10 ?b11 ?b12 ?b13 ?b14 ?b15 ?b16 ?b17 ?b18 ?b19 ?b20 ?b21 ?b22 ?b23 ?b24 ?b25 ?b26 ?b27 ?bi28 ?bm29 ?bm30 ?b31 ?b32 ?bm33 ?b34 ?b35 ?b36 ?b37 ?b38 ?b39 ?b40 ?b41 ?a42 ?l42 ?c42 ?k42 ?z_abs ?z_all ?z_bool ?z_enumerate ?z_int ?z_isinstance ?z_len ?z_list ?z_range ?z_set ?z_tuple
  (case ac_Rounds=>k_is)
  (case oc_Rounds=>exact⟨by k_is,by k_is,by k_is,by k_is⟩)
  (case on_Rounds_sort_of_map|on_Rounds_many_still|on_Rounds_pieces|on_Rounds_kept =>k_is)
  (case b0|b1|b2|b3|b4|b5|b6|b7|b8|b9|b10|b11|b12|b13|b14|b15|b16|b17|b18|b19|b20|b21|b22|b23|b24|b25|b26|b27 =>exact⟨by k_is,_,L2.fun_mk (by k_is) (by k_is) (by k_is)⟩)
  (case bi28=>exact⟨_,_,⟨by k_is,by k_is,by k_is,by k_is⟩,L2.fun_mk (by k_is) (by k_is) (by k_is)⟩)
  (case bm29=>exact⟨_,_,⟨by k_is,by k_is,by k_is⟩,L2.fun_mk (by k_is) (by k_is) (by k_is)⟩)
  (case bm30=>exact⟨_,_,⟨by k_is,by k_is,by k_is⟩,L2.fun_mk (by k_is) (by k_is) (by k_is)⟩)
  (case b31|b32 =>exact⟨by k_is,_,L2.fun_mk (by k_is) (by k_is) (by k_is)⟩)
  (case bm33=>exact⟨_,_,⟨by k_is,by k_is,by k_is⟩,L2.fun_mk (by k_is) (by k_is) (by k_is)⟩)
  (case b34|b35|b36|b37|b38|b39|b40|b41 =>exact⟨by k_is,_,L2.fun_mk (by k_is) (by k_is) (by k_is)⟩)
  (case a42|l42|c42|k42|z_abs|z_all|z_bool|z_enumerate|z_int|z_isinstance|z_len|z_list|z_range|z_set|z_tuple =>k_is)
