import PyProof.Rows.All
import Wide.All
import OpenK.AllK
import Wide.FinOn
import Lean
import PyProof.EqAt
import PyProof.EqKinds
import PyProof.TupleCall
import PyProof.NeKinds
import PyProof.IsRules
import PyProof.CompFree
import KE.LcSums
import PyProof.FactsAll.range_1
import PyProof.SeqRoads2
import KE.KRevSl
import PyProof.ZipIter
import PyProof.TupleIter
import PyProof.FitsBits
import PyProof.NoPylong
import KE.IntBitsLaws
import PyProof.CompMap
import PyProof.AutoSeq1
import PyProof.SeqInW
import KE.KDictList
import PyProof.Rows.TupDisplay
import KE.KSortTup
import PyProof.Rows.SortKeyStr
import PyProof.ListMulRoad
import PyProof.Rows.SumAny
import PyProof.StrLawsOcc
import PyProof.FitsReplace
import PyProof.CollectIter
import PyProof.Rows.CountFlat
import PyProof.Draws
import PyProof.EnumMake
import PyProof.Rows.TupTab
import PyProof.Rows.SetFrom
import KE.KLam
import PySem.Challenge.RW_arcmill_k44_whole_just_the_same_points
set_option Elab.async false
set_option linter.all false
set_option bootstrap.genMatcherCode false
set_option maxRecDepth 100000
open List (range mem_cons_self mem_cons_of_mem mem_append_left mem_append_right append_nil replicate length_take getElem?_map mem_of_getElem? length_append length_map size_toArray length_drop replicate_succ flatten_cons map_cons length_cons toArray all_cons lookup_cons mem_cons not_mem_nil getElem_mem getElem?_eq_getElem append_assoc map_append nodup_nil map_map nodup_append mem_singleton getD_eq_getElem?_getD zip_cons_cons length_nil pairwise_singleton pairwise_map foldl_cons map take_length Nodup filter_cons_of_pos filter_append length_filter_le)
open PySem.W (methodObj Frag keepIn callWith_K fnOf codeIn nsIn mg_of CodeHd tabObj envX mg_none_of)
namespace L2
open PySem PySem.Spec PyProof.Rows
noncomputable abbrev Key:=Sum Int Str
noncomputable def aIR:Key->Value->Bool
 |.inl k,v=>Value.isInt k v
 |.inr x,v=>Value.isStrOf x v
noncomputable def aI0 (w:World):Key->Int
 |.inl k=>hashInt k
 |.inr x=>hashStr w x
theorem eH:∀{k:Key}{v:Value},aIR k v=true->(∃i t,k=Sum.inl i/\v=Value.int i t)∨(∃x t,k=Sum.inr x/\v=Value.str x t)
 |.inl i,v,h=>by obtain⟨t,e⟩:=Value.isInt_shape (k:=i) (v:=v) h;exact .inl ⟨i,t,rfl,e⟩
 |.inr x,v,h=>by obtain⟨t,e⟩:=Value.isStrOf_shape (x:=x) (v:=v) h;exact .inr ⟨x,t,rfl,e⟩
theorem aJT (a b:Int):decide ((Sum.inl a:Key)=Sum.inl b)=(a==b):=by
 by_cases e:a=b
 ·subst e;simp
 ·have h:¬(Sum.inl a:Key)=Sum.inl b:=λq=>e (Sum.inl.inj q);rw[decide_eq_false h];exact(beq_eq_false_iff_ne.mpr e).symm
theorem aJu (a b:Str):decide ((Sum.inr a:Key)=Sum.inr b)=decide (a=b):=by
 by_cases e:a=b
 ·subst e;simp
 ·have h:¬(Sum.inr a:Key)=Sum.inr b:=λq=>e (Sum.inr.inj q);rw[decide_eq_false h,decide_eq_false e]
theorem aJH (a:Int)(b:Str):decide ((Sum.inl a:Key)=Sum.inr b)=false:=decide_eq_false (λq=>nomatch q)
theorem aK2 (a:Str)(b:Int):decide ((Sum.inr a:Key)=Sum.inl b)=false:=decide_eq_false (λq=>nomatch q)
noncomputable def aDx (prog:Program)(w:World):PySem.KeyKind prog w Key where
 is:=aIR
 hash:=aI0 w
 inj:=λv a b ha hb=>by
  rcases eH ha with⟨i,t,rfl,rfl⟩|⟨x,t,rfl,rfl⟩
  ·rcases eH hb with⟨j,u,rfl,e⟩|⟨y,u,rfl,e⟩
   ·injection e with e1 _;rw[e1]
   ·exact nomatch e
  ·rcases eH hb with⟨j,u,rfl,e⟩|⟨y,u,rfl,e⟩
   ·exact nomatch e
   ·injection e with e1 _;rw[e1]
 byValue:=λk v h=>by rcases eH h with⟨i,t,rfl,rfl⟩|⟨x,t,rfl,rfl⟩<;>rfl
 pyHash:=λhv h=>by
  rcases eH hv with⟨i,t,rfl,rfl⟩|⟨x,t,rfl,rfl⟩
  ·exact wpAny_pyHash_int h
  ·exact wpAny_pyHash_str h
 eqBool:=λhu hv h=>by
  rcases eH hu with⟨i,t,rfl,rfl⟩|⟨x,t,rfl,rfl⟩
  ·rcases eH hv with⟨j,u,rfl,rfl⟩|⟨y,u,rfl,rfl⟩
   ·rw[aJT] at h;exact wpAny_eqBool_int h
   ·rw[aJH] at h;exact SeqAt.EqAt.int_str i t y u _ _ _ _ h
  ·rcases eH hv with⟨j,u,rfl,rfl⟩|⟨y,u,rfl,rfl⟩
   ·rw[aK2] at h;exact SeqAt.EqAt.str_int x t j u _ _ _ _ h
   ·rw[aJu] at h;exact wpAny_eqBool_str h
 «strs»:=λk x t v h=>by
  rcases eH h with⟨i,u,rfl,e⟩|⟨y,u,rfl,e⟩
  ·exact nomatch e
  ·injection e with e1 _
   subst e1;cases v<;>rfl
inductive V where
 |non|bl (b:Bool)|int (i:Int)|str (x:Str)|byt (b:Array UInt8)|flt (b:UInt64)|ref (a:Addr)|ty (n:String)
 deriving DecidableEq
def RelV:V->Value->Prop
 |.non,u=>u=Value.none
 |.bl b,u=>u=Value.bool b
 |.int i,u=>∃t,u=Value.int i t
 |.str x,u=>∃t,u=Value.str x t
 |.byt b,u=>∃t,u=Value.bytes b t
 |.flt b,u=>∃t,u=Value.float b t
 |.ref a,u=>u=Value.ref a
 |.ty n,u=>u=Value.type n
abbrev bZ:List V->List Value->Prop:=Paired RelV
theorem bZ.length {xs:List V}{us:List Value}(r:bZ xs us):xs.length=us.length:=Paired.length r
theorem bZ.get:∀{xs:List V}{us:List Value} {i:Nat} {x:V},bZ xs us->xs[i]?=some x->∃u,us[i]?=some u/\RelV x u
 |_,_,_,_,.nil,e=>by simp at e
 |_,_,0,_,.cons r _,e=>by simp at e;subst e;exact⟨_,rfl,r⟩
 |_,_,i+1,x,.cons _ t,e=>by obtain⟨u,h1,h2⟩:=bZ.get (i:=i) (x:=x) t (by simpa using e);exact⟨u,by simpa using h1,h2⟩
theorem bZ.set {x:V}{u:Value}(r:RelV x u):∀{xs:List V}{us:List Value} (i:Nat),bZ xs us->bZ (xs.set i x) (us.set i u)
 |_,_,_,.nil=>.nil
 |_,_,0,.cons _ t=>.cons r t
 |_,_,i+1,.cons q t=>.cons q (bZ.set r i t)
theorem bZ.append:∀{xs ys:List V}{us ws:List Value},bZ xs us->bZ ys ws->bZ (xs++ys) (us++ws)
 |_,_,_,_,.nil,s=>s
 |_,_,_,_,.cons r t,s=>.cons r (bZ.append t s)
theorem bZ.take:∀{xs:List V}{us:List Value} (n:Nat),bZ xs us->bZ (xs.take n) (us.take n)
 |_,_,0,_=>.nil
 |_,_,_+1,.nil=>.nil
 |_,_,n+1,.cons r t=>.cons r (bZ.take n t)
theorem bZ.drop:∀{xs:List V}{us:List Value} (n:Nat),bZ xs us->bZ (xs.drop n) (us.drop n)
 |_,_,0,r=>r
 |_,_,_+1,.nil=>.nil
 |_,_,n+1,.cons _ t=>bZ.drop n t
def aMi:Option V->Option Value->Prop
 |some v,some u=>RelV v u
 |none,none=>True
 |_,_=>False
def KV {κ:Type}:List (κ×V)->List (κ×Value)->Prop:=Paired λ(p:κ×V)(q:κ×Value)=>p.1=q.1/\RelV p.2 q.2
noncomputable def kV:Key->V
 |.inl i=>.int i
 |.inr x=>.str x
inductive HO where
  |lst (xs:List V)
  |tup (xs:List V)
  |dK (kvs:List (Key×V))|dT (kvs:List (List Key×V))
  |set (S:Int->Bool) (n:Nat)
  |ins (C dx:Addr) (fs:List (Str×V))
  |own (x:Addr)
  |xd (fs:List (Str×V))
  |met (f x:Addr)
  |rng (lo hi:Int)
  |frz (o:Obj) (u:HO)
  |tbl (ps:Array Value)
  |ext (φ:Heap->Prop)
noncomputable abbrev Hp:=Addr->Option HO
noncomputable def upd (H:Hp)(a:Addr)(o:HO):Hp:=λb=>if b=a then some o else H b
theorem bL {H:Hp}{a:Addr}{o:HO}:upd H a o a=some o:=by unfold upd;rw[if_pos rfl]
theorem aM {H:Hp}{a b:Addr}{o:HO}(h:b≠a):upd H a o b=H b:=by unfold upd;rw[if_neg h]
theorem vA {H:Hp}{a b:Addr}{o u:HO}(h:H a=some o)(h':H b=some u)(d:o≠u):a≠b:=by intro e;subst e;rw[h] at h';exact d (Option.some.inj h')
theorem aS {H:Hp}{a b:Addr}{o:HO}(h:H a=some o)(h':H b=none):a≠b:=by intro e;subst e;rw[h] at h';cases h'
section
variable (P:Program)(w:World)
def jJ (H:Hp)(h:Heap)(a:Addr):HO->Prop
 |.lst xs=>xs.length<=sizeLine/\∃(its:List Value)(n:Nat),bZ xs its/\h.get? a = some { cls:=.type "list",data:=.seq its.toArray n }
 |.tup xs=>xs.length<=sizeLine/\∃its:List Value,bZ xs its/\IsTup h a its.toArray
 |.dK kvs=>kvs.length<=sizeLine/\(a==sysModules)=false/\∃vs,KV kvs vs/\h.DictOf (aDx P w) a vs
 |.dT kvs=>kvs.length<=sizeLine/\(a==sysModules)=false/\∃xs:List (List Key×Addr×Value),
   Paired (λ(p:List Key×V)(q:List Key×Addr×Value)=>p.1=q.1/\H q.2.1=some (.tup (p.1.map kV))/\RelV p.2 q.2.2) kvs xs /\
   ∃o es ep,h.get? a=some o/\o.ExactDict/\o.data=.dict es ep/\es.toList=xs.map (entryOfKey (tupleKind (aDx P w)))/\(xs.map (·.1)).Nodup
 |.set S n=>h.SetOf (intKind P w) a S n
 |.ins C dx fs=>H dx=some (.own a)/\fs.length<=1000/\dx≠a/\h.get? a=some (PySem.W.instObj C dx) /\
   ∃mA,h.Ns1 dx mA/\(∀f,aMi (fs.lookup f) (mA f))/\PySem.Within mA (fs.map (·.1))
 |.own _=>∃o,h.get? a=some o
 |.xd fs=>∃mA,h.Ns1 a mA/\∀f,aMi (fs.lookup f) (mA f)
 |.rng lo hi=>∃t u v,h.get? a = some { cls:=.type "range",data:=.fields #[.int lo t,.int hi u,.int 1 v] }
 |.frz o u=>h.get? a=some o/\jJ H h a u
 |.tbl ps=>h.get? a=some { cls:=.none,data:=.fields ps }
 |.met f x=>h.get? a=some (methodObj (.ref f) (.ref x))
 |.ext φ=>φ h/\(∃o,h.get? a=some o)/\∀h1 h2:Heap,φ h1->(∀o,h1.get? a=some o->h2.get? a=some o)->φ h2
def HOk (H:Hp)(h:Heap):Prop:=∀a o,H a=some o->jJ P w H h a o
end
section
variable {P:Program}{w:World}{H H':Hp}{h h':Heap}{a:Addr}{o:HO}
theorem jJ.lt (x:jJ P w H h a o):a<h.objs.size:=by
 cases o with
 |lst xs=>obtain⟨_,_,_,_,e⟩:=x;exact Heap.lt_size e
 |tup xs=>obtain⟨_,_,_,p⟩:=x;exact p.lt
 |dK kvs=>obtain⟨_,_,_,_,o,_,_,e,_⟩:=x;exact Heap.lt_size e
 |dT kvs=>obtain⟨_,_,_,_,o,_,_,e,_⟩:=x;exact Heap.lt_size e
 |set S n=>obtain⟨o,_,_,_,e,_⟩:=x;exact Heap.lt_size e
 |ins C dx fs=>obtain⟨_,_,_,e,_⟩:=x;exact Heap.lt_size e
 |own y=>obtain⟨_,e⟩:=x;exact Heap.lt_size e
 |xd fs=>obtain⟨_,⟨_,_,_,e,_⟩,_⟩:=x;exact Heap.lt_size e
 |rng lo hi=>obtain⟨_,_,_,e⟩:=x;exact Heap.lt_size e
 |frz ob u=>obtain⟨e,_⟩:=x;exact Heap.lt_size e
 |tbl ps=>exact Heap.lt_size (show h.get? a=some _ from x)
 |met f y=>exact Heap.lt_size (show h.get? a=some _ from x)
 |ext φ=>obtain⟨_,⟨_,e⟩,_⟩:=x;exact Heap.lt_size e
theorem Paired.mapP {α β:Type}{F G:α->β->Prop}:∀{l₁:List α}{l₂:List β},Paired F l₁ l₂->(∀a b,F a b->G a b)->Paired G l₁ l₂
 |_,_,.nil,_=>.nil
 |_,_,.cons r t,f=>.cons (f _ _ r) (Paired.mapP t f)
theorem jJ.stay (x:jJ P w H h a o)(k:∀b u,(b=a∨H b=some (.own a))->h.get? b=some u->h'.get? b=some u)(ho:∀b,H b=some (.own a)->H' b=some (.own a))(ht:∀b xs,H b=some (.tup xs)->H' b=some (.tup xs)):jJ P w H' h' a o:=by
 induction o with
 |lst xs=>obtain⟨z,its,n,r,e⟩:=x;exact⟨z,its,n,r,k _ _ (.inl rfl) e⟩
 |tup xs=>obtain⟨z,its,r,ob,e,c⟩:=x;exact⟨z,its,r,ob,k _ _ (.inl rfl) e,c⟩
 |dK kvs=>obtain⟨z,y,vs,r,ob,es,ep,e,c⟩:=x;exact⟨z,y,vs,r,ob,es,ep,k _ _ (.inl rfl) e,c⟩
 |dT kvs =>
  obtain⟨z,y,xs,r,ob,es,ep,e,c⟩:=x;exact⟨z,y,xs,Paired.mapP r λp q z=>⟨z.1,ht _ _ z.2.1,z.2.2⟩,ob,es,ep,k _ _ (.inl rfl) e,c⟩
 |set S n=>obtain⟨ob,es,ep,t,e,c⟩:=x;exact⟨ob,es,ep,t,k _ _ (.inl rfl) e,c⟩
 |ins C dx fs =>
  obtain⟨d,z,ne,e,mA,⟨od,es,ep,e2,c⟩,r⟩:=x;exact⟨ho _ d,z,ne,k _ _ (.inl rfl) e,mA,⟨od,es,ep,k _ _ (.inr d) e2,c⟩,r⟩
 |own y=>obtain⟨ob,e⟩:=x;exact⟨ob,k _ _ (.inl rfl) e⟩
 |xd fs=>obtain⟨mA,⟨od,es,ep,e,c⟩,r⟩:=x;exact⟨mA,⟨od,es,ep,k _ _ (.inl rfl) e,c⟩,r⟩
 |rng lo hi=>obtain⟨t,u,v,e⟩:=x;exact⟨t,u,v,k _ _ (.inl rfl) e⟩
 |frz ob u ih=>obtain⟨e,q⟩:=x;exact⟨k _ _ (.inl rfl) e,ih q⟩
 |tbl ps =>
  have e:h.get? a=some { cls:=.none,data:=.fields ps }:=x;show h'.get? a=some { cls:=.none,data:=.fields ps };exact k a _ (.inl rfl) e
 |met f y =>
  have e:h.get? a=some (methodObj (.ref f) (.ref y)):=x;show h'.get? a=some (methodObj (.ref f) (.ref y));exact k a _ (.inl rfl) e
 |ext φ=>obtain⟨p,⟨o,e⟩,st⟩:=x;exact⟨st _ _ p λo q=>k _ _ (.inl rfl) q,⟨o,k _ _ (.inl rfl) e⟩,st⟩
theorem HOk.lt (x:HOk P w H h)(e:H a=some o):a<h.objs.size:=(x a o e).lt
theorem HOk.fresh (x:HOk P w H h)(e:h.objs.size<=a):H a=none:=by
 cases q:H a with
 |none=>rfl
 |some u=>exact absurd (Nat.lt_of_lt_of_le (x.lt q) e) (Nat.lt_irrefl _)
theorem HOk.kept (x:HOk P w H h)(k:∀b u,h.get? b=some u->h'.get? b=some u):HOk P w H h':=λa o e =>
 (x a o e).stay (λb u _ q=>k b u q) (λ_ q=>q) λ_ _ q=>q
theorem HOk.laid (x:HOk P w H h)(k:∀b u,h.get? b=some u->h'.get? b=some u)(hp:h.objs.size<=a)(new:jJ P w (upd H a o) h' a o):HOk P w (upd H a o) h':=λb u e=>by
 have hn:=x.fresh hp;by_cases hb:b=a
 ·subst hb;rw[bL] at e;cases e;exact new
 ·rw[aM hb] at e;exact(x b u e).stay (λc v _ q=>k c v q) (λc q=>by rw[aM (aS q hn)];exact q) λc xs q=>by rw[aM (aS q hn)];exact q
end
def Rd (H:Hp)(a:Addr)(u:HO):Prop:=H a=some u ∨ ∃o,H a=some (.frz o u)
theorem Rd.ok {P:Program}{w:World}{H:Hp}{h:Heap}{a:Addr}{u:HO}(r:Rd H a u)(x:HOk P w H h):jJ P w H h a u:=by
 rcases r with r|⟨o,r⟩
 ·exact x a u r
 ·obtain⟨_,q⟩:=x a _ r;exact q
def Mut:Option HO->Prop
 |some (.lst _)=>True
 |some (.dK _)=>True
 |some (.dT _)=>True
 |some (.set _ _)=>True
 |some (.ins _ _ _)=>True
 |some (.ext _)=>True
 |_=>False
section
variable {P:Program}{w:World}{H:Hp}{h h':Heap}{x e:Addr}{o':HO}
theorem HOk.write (ok:HOk P w H h)(mu:Mut (H x))(he:e=x∨H e=some (.own x))(k:∀b u,b≠e->h.get? b=some u->h'.get? b=some u)(heo:∃u,h'.get? e=some u)(new:jJ P w (upd H x o') h' x o'):HOk P w (upd H x o') h':=λb u q=>by
 have nown:∀c y,H c=some (.own y)->c≠x:=λc y r z=>by subst z;rw[r] at mu;exact mu
 have ntup:∀c xs,H c=some (.tup xs)->c≠x:=λc xs r z=>by subst z;rw[r] at mu;exact mu
 by_cases hb:b=x
 ·subst hb;rw[bL] at q;cases q;exact new
 ·rw[aM hb] at q;by_cases hbe:b=e
  ·have q':H b=some (.own x):=by
    rcases he with z|z
    ·exact absurd (hbe.trans z) hb
    ·rw[hbe];exact z
   rw[q] at q';cases q';obtain⟨v,hv⟩:=heo;exact⟨v,by rw[hbe];exact hv⟩
  ·refine(ok b u q).stay (λc v hc r=>k c v ?_ r) (λc r=>by rw[aM (nown c b r)];exact r) λc xs r=>by rw[aM (ntup c xs r)];exact r
   rcases hc with rfl|hc
   ·exact hbe
   ·rintro rfl;rcases he with z|z
    ·exact nown c b hc z
    ·rw[hc] at z;cases z;exact hb rfl
end
structure Un (fs ex:List Addr)(H H':Hp)(h h':Heap):Prop where
 keep:∀b o,h.get? b=some o->H b=none->b∉fs->b∉ex->h'.get? b=some o
 slot:∀b o,h.get? b=some o->H b=none->b∈fs->b∉ex->∃sl,h'.get? b=some { o with slots:=sl }
 free:∀b o,h.get? b=some o->H b=none->b∉ex->H' b=none
 there:∀b o,h.get? b=some o->b∉ex->∃o',h'.get? b=some o'
 tups:∀b xs,H b=some (.tup xs)->H' b=some (.tup xs)
 frzs:∀b o u,H b=some (.frz o u)->H' b=some (.frz o u)
 tbls:∀b ps,H b=some (.tbl ps)->∃more,H' b=some (.tbl (ps++more))
section
variable {fs fs' ex ex':List Addr}{H H1 H2:Hp}{h h1 h2 h':Heap}{a x e:Addr}{o:HO}
theorem Un.any (u:Un fs ex H H1 h h1){b:Addr}{ob:Obj}(q:h.get? b=some ob)(n:H b=none)(hx:b∉ex):∃sl,h1.get? b=some { ob with slots:=sl }:=by
 by_cases hb:b∈fs
 ·exact u.slot b ob q n hb hx
 ·exact⟨ob.slots,u.keep b ob q n hb hx⟩
theorem Un.trans (a:Un fs ex H H1 h h1)(b:Un fs ex H1 H2 h1 h2):Un fs ex H H2 h h2 where
 keep:=λc ob q n hc hx=>b.keep c ob (a.keep c ob q n hc hx) (a.free c ob q n hx) hc hx
 slot:=λc ob q n hc hx=>by obtain⟨sl,e1⟩:=a.slot c ob q n hc hx;obtain⟨sl',e2⟩:=b.slot c _ e1 (a.free c ob q n hx) hc hx;exact⟨sl',e2⟩
 free:=λc ob q n hx=>by obtain⟨o',e1⟩:=a.there c ob q hx;exact b.free c o' e1 (a.free c ob q n hx) hx
 there:=λc ob q hx=>by obtain⟨o',e1⟩:=a.there c ob q hx;exact b.there c o' e1 hx
 tups:=λc xs q=>b.tups c xs (a.tups c xs q)
 frzs:=λc ob xs q=>b.frzs c ob xs (a.frzs c ob xs q)
 tbls:=λc ps q=>by obtain⟨m1,e1⟩:=a.tbls c ps q;obtain⟨m2,e2⟩:=b.tbls c _ e1;exact⟨m1++m2,by rw[e2,Array.append_assoc]⟩
theorem Un.kept (k:∀b u,h.get? b=some u->h'.get? b=some u):Un fs ex H H h h' :=
 ⟨λb ob q _ _ _=>k b ob q,λb ob q _ _ _=>⟨ob.slots,k b ob q⟩,λ_ _ _ n _=>n,λb ob q _=>⟨ob,k b ob q⟩,λ_ _ q=>q,λ_ _ _ q=>q,λ_ ps q=>⟨#[],by rw[q];simp⟩⟩
theorem Un.refl:Un fs ex H H h h:=Un.kept λ_ _ q=>q
theorem Un.laid (k:∀b u,h.get? b=some u->h'.get? b=some u)(hp:h.objs.size<=a)(hn:H a=none):Un fs ex H (upd H a o) h h' where
 keep:=λb u q _ _ _=>k b u q
 slot:=λb u q _ _ _=>⟨u.slots,k b u q⟩
 free:=λb u q n _=>by rw[aM (Nat.ne_of_lt (Nat.lt_of_lt_of_le (Heap.lt_size q) hp))];exact n
 there:=λb u q _=>⟨u,k b u q⟩
 tups:=λb xs q=>by rw[aM (aS q hn)];exact q
 frzs:=λb u xs q=>by rw[aM (aS q hn)];exact q
 tbls:=λb ps q=>⟨#[],by rw[aM (aS q hn),q];simp⟩
theorem Un.write (mu:Mut (H x))(he:e=x∨H e=some (.own x))(k:∀b u,b≠e->h.get? b=some u->h'.get? b=some u)(heo:∃u,h'.get? e=some u):Un fs ex H (upd H x o) h h':=by
 have hx:∀b,H b=none->b≠x:=λb n z=>by subst z;rw[n] at mu;exact mu
 have hb:∀b,H b=none->b≠e:=λb n z=>by
  subst z;rcases he with r|r
  ·exact hx b n r
  ·rw[n] at r;cases r
 have hm:∀b u,H b=some u->¬Mut (some u)->b≠x:=λb u q nm z=>by subst z;rw[q] at mu;exact nm mu
 refine⟨λb u q n _ _=>k b u (hb b n) q,λb u q n _ _=>⟨u.slots,k b u (hb b n) q⟩,λb u q n _=>by rw[aM (hx b n)];exact n,λb u q _=>?_,
  λb xs q=>by rw[aM (hm b _ q λz=>z)];exact q,λb u xs q=>by rw[aM (hm b _ q λz=>z)];exact q,λb ps q=>⟨#[],by rw[aM (hm b _ q λz=>z),q];simp⟩⟩
 by_cases hbe:b=e
 ·subst hbe;exact heo
 ·exact⟨u,k b u hbe q⟩
end
noncomputable def trk (h:Heap)(H:Hp):List Addr:=(range h.objs.size).filter λa=>(H a).isSome
noncomputable def wY (h:Heap)(H:Hp):Heap:=PySem.W.hideAll h (trk h H)
theorem aEB (h:Heap)(H:Hp):(wY h H).objs.size=h.objs.size:=PySem.W.hideAll_size _ _
theorem aEE {h:Heap}{H:Hp}{b:Addr}{o:Obj}(e:h.get? b=some o)(n:H b=none):(wY h H).get? b=some o :=
 PySem.W.hideAll_get _ e λhm=>by have q:(H b).isSome=true:=(List.mem_filter.mp hm).2;rw[n] at q;simp at q
theorem aHV {h:Heap}{H:Hp}{b:Addr}{o:Obj}(e:(wY h H).get? b=some o):h.get? b=some o/\H b=none:=by
 have e':h.get? b=some o:=PySem.W.of_hideAll (trk h H) e;refine⟨e',?_⟩;cases q:H b with
 |none=>rfl
 |some x =>
  have hm:b∈trk h H:=List.mem_filter.mpr ⟨List.mem_range.mpr (Heap.lt_size e'),by simp[q]⟩;have z:(wY h H).get? b=none:=PySem.W.hideAll_none (trk h H) hm;rw[z] at e;cases e
noncomputable def qM (g h:Heap)(L:Addr):List (Addr×Obj):=(range h.objs.size).filterMap λa=>if a=L∨(g.get? a).isSome=true then none else (h.get? a).map λo=>(a,o)
theorem pE {g h:Heap}{L a:Addr}{o:Obj}(h1:a≠L)(h2:g.get? a=none)(h3:h.get? a=some o):(a,o)∈qM g h L :=
 List.mem_filterMap.mpr ⟨a,List.mem_range.mpr (Heap.lt_size h3),by simp[h1,h2,h3]⟩
theorem wB {g h:Heap}{L:Addr}{p:Addr×Obj}(hp:p∈qM g h L):p.1≠L/\g.get? p.1=none/\h.get? p.1=some p.2:=by
 obtain⟨b,_,e⟩:=List.mem_filterMap.mp hp;split at e
 ·cases e
 ·rename_i hn;cases q:h.get? b with
  |none=>rw[q] at e;simp at e
  |some u =>
   rw[q] at e;simp only[Option.map_some,Option.some.injEq] at e;subst e;refine⟨λz=>hn (.inl z),?_,q⟩;show g.get? b=none;cases r:g.get? b with
   |none=>rfl
   |some v=>exact(hn (.inr (by simp[r]))).elim
noncomputable def cN (g h:Heap)(L d:Addr):List (Addr×Obj):=(qM g h L).filter λp=>decide (p.1≠d)
theorem aB4 {g h:Heap}{L:Addr}:News g L h (qM g h L):=λp hp=>let ⟨a,b,c⟩:=wB hp;⟨c,a,b⟩
structure Mod (K:Frag)(mg:Str->Option Value)(base:Heap):Prop where
 kin:K.In base
 glob:base.Ns mainGlobals mg
 blt:∃mb,base.Ns builtinsNs mb/\∀x:Str,x ≠ "__name__"->mb x=bootBuiltins x
 nolimit:base.NoLimit
structure Cx where
 prog:Program
 w:World
 K:Frag
 mg:Str->Option Value
 base:Heap
 A:Around
 N:List Str
 s₀:Shared
 H₀:Hp
 env:Env
 outer:List Env
 stack:List Env
 ex:List Addr
 fn:Str->Bool
 calm:Bool
 pn:List (Addr×Obj)
 xe:Value->Shared->Prop
noncomputable def frs (l:List Env):List Addr:=l.filterMap (·.frame)
noncomputable abbrev Cx.fs (X:Cx):List Addr:=frs X.outer
def Vis (sc:Scope)(x:Str):Prop:=sc.names.lookup x=some .local∨sc.names.lookup x=some .cell∨sc.names.lookup x=some .free
def Loc (sc:Scope)(x:Str):Prop:=sc.names.lookup x=some .local∨sc.names.lookup x=some .cell
def aMf (env:Env)(h:Heap)(m:Str->Option Value)(x:Str)(u:Value):Prop :=
 (env.kindOf x=some .local/\m x=some u)∨((env.kindOf x=some .cell∨env.kindOf x=some .free)/\∃c,env.cells.lookup x=some c/\h.IsCell c (some u))
structure Cx.Ok (X:Cx):Prop where
 mod:Mod X.K X.mg X.base
 kind:X.env.scope.kind=.function
 glob:X.env.globals=mainGlobals
 blt:X.env.builtins=builtinsNs
 above:X.s₀.heap.objs.size<=X.env.locals
 inj:∀x y c,X.env.cells.lookup x=some c->X.env.cells.lookup y=some c->x=y
 has:∀x,(X.env.kindOf x=some .cell∨X.env.kindOf x=some .free)->∃c,X.env.cells.lookup x=some c
 cab:∀x c,X.fn x=true->X.env.cells.lookup x=some c->X.s₀.heap.objs.size<=c
 hd:X.calm=true->X.A.handled=none
 frames:X.A.frames=some X.stack
 stk:X.stack=X.outer∨(X.stack=X.env::X.outer/\X.env.frame=some X.env.locals)
 exf:∀b∈X.ex,b≠X.env.locals/\∀x c,X.env.cells.lookup x=some c->c≠b
 bs:∀b o,X.base.get? b=some o->X.s₀.heap.get? b=some o/\X.H₀ b=none
 bsz:X.base.objs.size<=X.s₀.heap.objs.size
 noex:∀b o,X.base.get? b=some o->b∉X.ex
 exfs:∀b∈X.ex,b∉X.fs
 funs:X.s₀.heap.FunFrames X.base X.outer
 frf:∀b∈X.fs,X.H₀ b=none
structure Inv (X:Cx)(pins:List (Addr×Obj))(σ:List (Option V))(H:Hp)(s:Shared):Prop where
 ok:X.Ok
 os:s.os=X.s₀.os
 bare:AllBare s.gens
 base:Un X.fs X.ex X.H₀ H X.s₀.heap s.heap
 loc:∃m,s.heap.Ns X.env.locals m/\∀(i:Nat)(x:Str) (v:V),X.N[i]?=some x->σ[i]?=some (some v)->Vis X.env.scope x->∃u,RelV v u/\aMf X.env s.heap m x u
 cell:∀x c,X.env.cells.lookup x=some c->∃v,s.heap.IsCell c v
 free:H X.env.locals=none
 freeC:∀x c,X.env.cells.lookup x=some c->H c=none
 pin:∀p∈X.pn++pins,s.heap.get? p.1=some p.2/\H p.1=none/\p.1≠X.env.locals/\p.1∉X.fs/\∀v,p.2.data ≠ .cell v
 hok:HOk X.prog X.w H s.heap
 len:σ.length=X.N.length
section
variable {X:Cx}{pins:List (Addr×Obj)}{σ:List (Option V)}{H H':Hp}{s:Shared}{h':Heap}
theorem Cx.Ok.nofr (ok:X.Ok){b:Addr}{o:Obj}(e:X.base.get? b=some o):b∉X.fs:=λhb=>by have:=(ok.funs.mem hb).1;rw[e] at this;cases this
theorem Inv.bs (I:Inv X pins σ H s):∀b o,X.base.get? b=some o->s.heap.get? b=some o/\H b=none:=λb o e =>
 ⟨I.base.keep b o (I.ok.bs b o e).1 (I.ok.bs b o e).2 (I.ok.nofr e) (I.ok.noex b o e),I.base.free b o (I.ok.bs b o e).1 (I.ok.bs b o e).2 (I.ok.noex b o e)⟩
theorem Inv.bk (I:Inv X pins σ H s):∀b o,X.base.get? b=some o->s.heap.get? b=some o:=λb o e=>(I.bs b o e).1
theorem Inv.mod (I:Inv X pins σ H s):Mod X.K X.mg X.base:=I.ok.mod
theorem Inv.kIn (I:Inv X pins σ H s):X.K.In s.heap:=I.ok.mod.kin.keeps I.bk
theorem Inv.fr (I:Inv X pins σ H s):∃m,Fr X.base X.env.locals s.heap m :=
 let ⟨m,hn,_⟩:=I.loc
 ⟨m,hn,I.bk,Nat.le_trans I.ok.bsz I.ok.above⟩
theorem Inv.lt (I:Inv X pins σ H s):X.env.locals<s.heap.objs.size:=let ⟨_,hn,_⟩:=I.loc;hn.lt
theorem Inv.sz (I:Inv X pins σ H s):X.s₀.heap.objs.size<=s.heap.objs.size:=Nat.le_trans I.ok.above (Nat.le_of_lt I.lt)
theorem Inv.nofs (I:Inv X pins σ H s){a:Addr}(h:s.heap.objs.size<=a):a∉X.fs:=λhb=>by obtain⟨_,o,ho,_⟩:=I.ok.funs.mem hb;exact absurd (Nat.lt_of_lt_of_le (Heap.lt_size ho) (Nat.le_trans I.sz h)) (Nat.lt_irrefl _)
theorem Inv.cne (I:Inv X pins σ H s):∀x c,X.env.cells.lookup x=some c->c≠X.env.locals:=λx c e z=>by obtain⟨v,o,ho,hd⟩:=I.cell x c e;obtain⟨m,⟨o',es,ep,ho',hd',_⟩,_⟩:=I.loc;rw[z,ho'] at ho;cases ho;rw[hd'] at hd;cases hd
theorem Inv.funs (I:Inv X pins σ H s):s.heap.FunFrames X.base X.outer:=by
 have all:∀(l:List Env),(∀b∈frs l,b∈X.fs)->X.s₀.heap.FunFrames X.base l->s.heap.FunFrames X.base l:=by
  intro l
  induction l with
  |nil=>intro _ _;trivial
  |cons env r ih =>
   intro hs hl;obtain⟨hk,⟨L,o,hf,hn,ho,hd⟩,hr⟩:=hl;have hL:L∈X.fs:=hs L (by unfold frs;rw[List.filterMap_cons,hf];exact mem_cons_self);obtain⟨sl,e⟩:=I.base.slot L o ho (I.ok.frf L hL) hL λz=>I.ok.exfs L z hL;exact⟨hk,⟨L,_,hf,hn,e,hd⟩,ih (λb hb=>hs b (by unfold frs;rw[List.filterMap_cons,hf];exact mem_cons_of_mem _ hb)) hr⟩
 exact all X.outer (λ_ hb=>hb) I.ok.funs
theorem Inv.stack (I:Inv X pins σ H s):s.heap.FunFrames X.base X.stack:=by
 rcases I.ok.stk with e|⟨e,hf⟩
 ·rw[e];exact I.funs
 ·rw[e];obtain⟨m,hn,_⟩:=I.loc;refine .cons (by rw[I.ok.kind];decide) hf hn ?_ I.funs;exact Heap.get?_none_of_le (Nat.le_trans I.ok.bsz I.ok.above)
theorem Inv.stkSub (I:Inv X pins σ H s):∀b∈frs X.stack,b∈X.env.locals::X.fs:=λb hb=>by
 rcases I.ok.stk with e|⟨e,hf⟩
 ·rw[e] at hb;exact mem_cons_of_mem _ hb
 ·rw[e] at hb;unfold frs at hb;rw[List.filterMap_cons,hf] at hb;exact hb
theorem Inv.stkFree (I:Inv X pins σ H s):∀b∈frs X.stack,H b=none:=λb hb=>by
 rcases List.mem_cons.mp (I.stkSub b hb) with e|hb
 ·rw[e];exact I.free
 ·obtain⟨_,o,ho,_⟩:=I.ok.funs.mem hb;exact I.base.free b o ho (I.ok.frf b hb) λz=>I.ok.exfs b z hb
theorem Inv.step {g':Array GenState}{t':Nat}{d':Drawn}{ch:List Addr}(I:Inv X pins σ H s)(hch:∀b∈ch,(b∈X.ex∨X.s₀.heap.objs.size<=b)/\b≠X.env.locals/\(∀x c,X.env.cells.lookup x=some c->c≠b)/\∀p∈X.pn++pins,p.1≠b)(keep:∀b o,b≠X.env.locals->b∉X.fs->b∉ch->s.heap.get? b=some o->H b=none->h'.get? b=some o)(slot:∀b o,b≠X.env.locals->b∈X.fs->b∉ch->s.heap.get? b=some o->H b=none->∃sl,h'.get? b=some { o with slots:=sl })(free:∀b o,b∉ch->s.heap.get? b=some o->H b=none->H' b=none)(there:∀b o,b∉ch->s.heap.get? b=some o->∃o',h'.get? b=some o')(tups:∀b xs,H b=some (.tup xs)->H' b=some (.tup xs))(frzs:∀b o u,H b=some (.frz o u)->H' b=some (.frz o u))(tbls:∀b ps,H b=some (.tbl ps)->∃more,H' b=some (.tbl (ps++more)))(ns:∀m,s.heap.Ns X.env.locals m->h'.Ns X.env.locals m)(hok:HOk X.prog X.w H' h')(hg:AllBare g') :
  Inv X pins σ H' { s with heap:=h',gens:=g',drawn:=d',toks:=t' }:=by
 have neL:∀b o,X.s₀.heap.get? b=some o->b≠X.env.locals:=λb o e=>Nat.ne_of_lt (Nat.lt_of_lt_of_le (Heap.lt_size e) I.ok.above);have neC:∀b o,X.s₀.heap.get? b=some o->b∉X.ex->b∉ch:=λb o e hx hb=>by
  rcases (hch b hb).1 with z|z
  ·exact hx z
  ·exact absurd (Nat.lt_of_lt_of_le (Heap.lt_size e) z) (Nat.lt_irrefl _)
 have cellK:∀x c,X.env.cells.lookup x=some c->∀v,s.heap.IsCell c v->h'.IsCell c v:=λx c e v ⟨o,ho,hd⟩=>by
  have nch:c∉ch:=λz=>(hch c z).2.2.1 x c e rfl;by_cases hc:c∈X.fs
  ·obtain⟨sl,q⟩:=slot c o (I.cne x c e) hc nch ho (I.freeC x c e);exact⟨_,q,hd⟩
  ·exact⟨o,keep c o (I.cne x c e) hc nch ho (I.freeC x c e),hd⟩
 refine⟨I.ok,I.os,hg,⟨λb o e n hb hx=>?_,λb o e n hb hx=>?_,λb o e n hx=>?_,λb o e hx=>?_,λb xs e=>tups b xs (I.base.tups b xs e),λb o xs e=>frzs b o xs (I.base.frzs b o xs e),λb ps e=>?_⟩,?_,λx c e=>?_,?_,λx c e=>?_,λp hp=>?_,hok,I.len⟩
 ·exact keep b o (neL b o e) hb (neC b o e hx) (I.base.keep b o e n hb hx) (I.base.free b o e n hx)
 ·obtain⟨sl,e1⟩:=I.base.slot b o e n hb hx;obtain⟨sl',e2⟩:=slot b _ (neL b o e) hb (neC b o e hx) e1 (I.base.free b o e n hx);exact⟨sl',e2⟩
 ·obtain⟨o',e1⟩:=I.base.there b o e hx;exact free b o' (neC b o e hx) e1 (I.base.free b o e n hx)
 ·obtain⟨o',e1⟩:=I.base.there b o e hx;exact there b o' (neC b o e hx) e1
 ·obtain⟨m1,e1⟩:=I.base.tbls b ps e;obtain⟨m2,e2⟩:=tbls b _ e1;exact⟨m1++m2,by rw[e2,Array.append_assoc]⟩
 ·obtain⟨m,hn,hl⟩:=I.loc;refine⟨m,ns m hn,λi x v e1 e2 e3=>?_⟩;obtain⟨u,r,l⟩:=hl i x v e1 e2 e3;refine⟨u,r,?_⟩;rcases l with l|⟨k,c,e,z⟩
  ·exact .inl l
  ·exact .inr ⟨k,c,e,cellK x c e _ z⟩
 ·obtain⟨v,z⟩:=I.cell x c e;exact⟨v,cellK x c e v z⟩
 ·obtain⟨m,⟨o,_,_,ho,_⟩,_⟩:=I.loc;exact free _ o (λz=>(hch _ z).2.1 rfl) ho I.free
 ·obtain⟨v,o,ho,hd⟩:=I.cell x c e;exact free c o (λz=>(hch c z).2.2.1 x c e rfl) ho (I.freeC x c e)
 ·obtain⟨e,n,ne,nf,d⟩:=I.pin p hp;have nch:p.1∉ch:=λz=>(hch p.1 z).2.2.2 p hp rfl;exact⟨keep p.1 p.2 ne nf nch e n,free p.1 p.2 nch e n,ne,nf,d⟩
theorem Inv.un {t':Nat}(I:Inv X pins σ H s)(u:Un X.fs [] H H' s.heap h')(hok:HOk X.prog X.w H' h'):Inv X pins σ H' { s with heap:=h',toks:=t' }:=by
 obtain⟨m,⟨o,es,ep,ho,r⟩,_⟩:=id I.loc;obtain⟨sl,hL⟩:=u.any ho I.free (by simp);exact I.step (g':=s.gens) (d':=s.drawn) (ch:=[]) (λ_ z=>nomatch z) (λb o _ hb _ e n=>u.keep b o e n hb (by simp)) (λb o _ hb _ e n=>u.slot b o e n hb (by simp)) (λb o _ e n=>u.free b o e n (by simp)) (λb o _ e=>u.there b o e (by simp)) u.tups u.frzs u.tbls (λm' hm=>by obtain⟨o',es',ep',ho',r'⟩:=hm;rw[ho] at ho';cases ho';exact⟨_,es',ep',hL,r'⟩) hok I.bare
theorem Inv.call {g':Array GenState}{t':Nat}{d':Drawn}{ch:List Addr}(I:Inv X pins σ H s)(u:Un (frs X.stack) ch H H' s.heap h')(hok:HOk X.prog X.w H' h')(hg:AllBare g')(hch:∀b∈ch,(b∈X.ex∨X.s₀.heap.objs.size<=b)/\b≠X.env.locals/\(∀x c,X.env.cells.lookup x=some c->c≠b)/\∀p∈X.pn++pins,p.1≠b) :
  Inv X pins σ H' { s with heap:=h',gens:=g',drawn:=d',toks:=t' }:=by
 obtain⟨m,⟨o,es,ep,ho,r⟩,_⟩:=id I.loc;obtain⟨sl,hL⟩:=u.any ho I.free λz=>(hch _ z).2.1 rfl;exact I.step (ch:=ch) hch (λb o hL hb hc e n=>u.keep b o e n (λz=>(List.mem_cons.mp (I.stkSub b z)).elim hL hb) hc) (λb o _ _ hc e n=>u.any e n hc) (λb o hc e n=>u.free b o e n hc) (λb o hc e=>u.there b o e hc) u.tups u.frzs u.tbls (λm' hm=>by obtain⟨o',es',ep',ho',r'⟩:=hm;rw[ho] at ho';cases ho';exact⟨_,es',ep',hL,r'⟩) hok hg
theorem Inv.turned {t':Nat}{it:Addr}(I:Inv X pins σ H s)(k:∀b o,b≠it->s.heap.get? b=some o->h'.get? b=some o)(hn:H it=none)(hL:it≠X.env.locals)(h1:it∈X.ex∨X.s₀.heap.objs.size<=it)(h2:∀x c,X.env.cells.lookup x=some c->c≠it)(h3:∀p∈X.pn++pins,p.1≠it):Inv X pins σ H { s with heap:=h',toks:=t' }:=by
 have nit:∀b u,H b=some u->b≠it:=λb u e z=>by rw[z,hn] at e;cases e
 refine I.step (g':=s.gens) (d':=s.drawn) (ch:=[it]) (λb hb=>?_) (λb o _ _ hc e _=>k b o (λz=>hc (by simp[z])) e) (λb o _ _ hc e _=>⟨o.slots,k b o (λz=>hc (by simp[z])) e⟩) (λ_ _ _ _ n=>n)
  (λb o hc e=>⟨o,k b o (λz=>hc (by simp[z])) e⟩) (λ_ _ e=>e) (λ_ _ _ e=>e) (λb ps e=>⟨#[],by rw[e];simp⟩) (λm hm=>?_) (λb u e=>?_) I.bare
 ·have e:b=it:=by simpa using hb
  subst e;exact⟨h1,hL,h2,h3⟩
 ·obtain⟨o,es,ep,ho,r⟩:=hm;exact⟨o,es,ep,k _ o (Ne.symm hL) ho,r⟩
 ·refine(I.hok b u e).stay (λc v hc q=>k c v ?_ q) (λ_ q=>q) λ_ _ q=>q;rcases hc with z|z
  ·rw[z];exact nit b u e
  ·exact nit c _ z
theorem Inv.tok (I:Inv X pins σ H s)(t:Nat):Inv X pins σ H { s with toks:=t }:=I.un (h':=s.heap) (t':=t) Un.refl I.hok
theorem Inv.kept {t':Nat}(I:Inv X pins σ H s)(k:∀b u,s.heap.get? b=some u->h'.get? b=some u):Inv X pins σ H { s with heap:=h',toks:=t' }:=I.un (Un.kept k) (I.hok.kept k)
theorem Inv.laid {a:Addr}{o:HO}{t':Nat}(I:Inv X pins σ H s)(k:∀b u,s.heap.get? b=some u->h'.get? b=some u)(hp:s.heap.objs.size<=a)(new:jJ X.prog X.w (upd H a o) h' a o) :
  Inv X pins σ (upd H a o) { s with heap:=h',toks:=t' }:=I.un (Un.laid k hp (I.hok.fresh hp)) (I.hok.laid k hp new)
theorem Inv.write {x e:Addr}{o:HO}{t':Nat}(I:Inv X pins σ H s)(mu:Mut (H x))(he:e=x∨H e=some (.own x))(k:∀b u,b≠e->s.heap.get? b=some u->h'.get? b=some u)(heo:∃u,h'.get? e=some u)(new:jJ X.prog X.w (upd H x o) h' x o):Inv X pins σ (upd H x o) { s with heap:=h',toks:=t' }:=I.un (Un.write mu he k heo) (I.hok.write mu he k heo new)
theorem Inv.pins_of {pins':List (Addr×Obj)}(I:Inv X pins σ H s)(h:∀p∈pins',s.heap.get? p.1=some p.2/\H p.1=none/\p.1≠X.env.locals/\p.1∉X.fs/\∀v,p.2.data ≠ .cell v):Inv X pins' σ H s :=
 ⟨I.ok,I.os,I.bare,I.base,I.loc,I.cell,I.free,I.freeC,λp hp=>(List.mem_append.mp hp).elim (λz=>I.pin p (mem_append_left _ z)) (h p),I.hok,I.len⟩
theorem aBM {N:List Str}(hN:N.Nodup){i j:Nat}{x:Str}(a:N[i]?=some x)(b:N[j]?=some x):i=j:=by obtain⟨h1,e1⟩:=List.getElem?_eq_some_iff.mp a;obtain⟨h2,e2⟩:=List.getElem?_eq_some_iff.mp b;exact(List.getElem_inj hN).mp (e1.trans e2.symm)
theorem zL {M:Model}{A:Around}{E:Value->Shared->Prop}{i:Nat}{x:Str}{v:V}{u:Value}{Q:Unit->Shared->Prop}(I:Inv X pins σ H s)(hN:X.N.Nodup)(hi:X.N[i]?=some x)(hx:Loc X.env.scope x)(r:RelV v u)(h:∀s',Inv X pins (σ.set i (some v)) H s'->(∃a,Heap.SameBut a s.heap s'.heap/\(a=X.env.locals∨X.env.cells.lookup x=some a))->Q () s')(hf:X.fn x=true∨X.env.scope.names.lookup x=some .local:=by first|exact .inl rfl|exact .inr rfl|assumption):wpAny M A (storeName X.env x u) Q E s:=by
 obtain⟨m,hn,hl⟩:=id I.loc;have hcls:(X.env.scope.kind == .class||(X.env.scope.kind == .module&&X.env.locals != X.env.globals))=false:=by rw[I.ok.kind];rfl
 have hiσ:i<σ.length:=by rw[I.len];exact(List.getElem?_eq_some_iff.mp hi).1
 have cne:=I.cne;have tracked:∀{a:Addr}{h':Heap},(∃o,s.heap.get? a=some o/\H a=none)->Heap.SameBut a s.heap h'->HOk X.prog X.w H h':=λ{a h'} ha hs b ob e=>by
  obtain⟨_,_,hfree⟩:=ha;refine(I.hok b ob e).stay (λc w' hc q=>(hs.2 c ?_).trans q) (λ_ q=>q) λ_ _ q=>q;rintro rfl;rcases hc with rfl|hc
  ·rw[hfree] at e;cases e
  ·rw[hfree] at hc;cases hc
 rcases hx with hk|hk
 ·refine wpAny_storeName_local hk hn (λh' hn' hs=>?_) hcls;obtain⟨oL,_,_,hoL,_⟩:=id hn;refine h _ ⟨I.ok,I.os,I.bare,⟨λb o e n hb hx=>?_,λb o e n hb hx=>?_,I.base.free,λb o e hx=>?_,I.base.tups,I.base.frzs,I.base.tbls⟩,⟨_,hn',λj y v' e1 e2 e3=>?_⟩,λy c e=>?_,I.free,I.freeC,λp hp=>?_,tracked ⟨oL,hoL,I.free⟩ hs,by simpa using I.len⟩ ⟨_,hs,.inl rfl⟩
  ·exact(hs.2 b (Nat.ne_of_lt (Nat.lt_of_lt_of_le (Heap.lt_size e) I.ok.above))).trans (I.base.keep b o e n hb hx)
  ·obtain⟨sl,e1⟩:=I.base.slot b o e n hb hx;exact⟨sl,(hs.2 b (Nat.ne_of_lt (Nat.lt_of_lt_of_le (Heap.lt_size e) I.ok.above))).trans e1⟩
  ·obtain⟨o',e1⟩:=I.base.there b o e hx;exact⟨o',(hs.2 b (Nat.ne_of_lt (Nat.lt_of_lt_of_le (Heap.lt_size e) I.ok.above))).trans e1⟩
  ·by_cases hj:j=i
   ·subst hj;rw[hi] at e1;cases e1;rw[List.getElem?_set_self hiσ] at e2;cases e2;exact⟨u,r,.inl ⟨hk,by simp⟩⟩
   ·rw[List.getElem?_set_ne (Ne.symm hj)] at e2;obtain⟨u',r',q⟩:=hl j y v' e1 e2 e3;refine⟨u',r',?_⟩;rcases q with⟨k,e⟩|⟨k,c,e,z⟩
    ·refine .inl ⟨k,?_⟩;have:y≠x:=λe=>hj (aBM hN e1 (e ▸ hi));simp[this,e]
    ·exact .inr ⟨k,c,e,z.sameBut hs (cne y c e)⟩
  ·obtain⟨w',z⟩:=I.cell y c e;exact⟨w',z.sameBut hs (cne y c e)⟩
  ·obtain⟨e,n,ne,nf,d⟩:=I.pin p hp;exact⟨(hs.2 p.1 ne).trans e,n,ne,nf,d⟩
 ·have hfn:X.fn x=true:=by
   rcases hf with z|z
   ·exact z
   ·rw[z] at hk;cases hk
  obtain⟨c,hc⟩:=I.ok.has x (.inl hk);obtain⟨w',z⟩:=I.cell x c hc;refine wpAny_storeName_cell I.ok.kind hk hc z (λh' hc' hs=>?_);obtain⟨oc,hoc,hocd⟩:=id z;refine h { s with heap:=h' } ⟨I.ok,I.os,I.bare,⟨λb o e n hb hx=>?_,λb o e n hb hx=>?_,I.base.free,λb o e hx=>?_,I.base.tups,I.base.frzs,I.base.tbls⟩,⟨m,hn.sameBut hs (Ne.symm (cne x c hc)),λj y v' e1 e2 e3=>?_⟩,λy c' e=>?_,I.free,I.freeC,λp hp=>?_,tracked ⟨oc,hoc,I.freeC x c hc⟩ hs,by simpa using I.len⟩ ⟨c,hs,.inr hc⟩
  ·exact(hs.2 b (Nat.ne_of_lt (Nat.lt_of_lt_of_le (Heap.lt_size e) (I.ok.cab x c hfn hc)))).trans (I.base.keep b o e n hb hx)
  ·obtain⟨sl,e1⟩:=I.base.slot b o e n hb hx;exact⟨sl,(hs.2 b (Nat.ne_of_lt (Nat.lt_of_lt_of_le (Heap.lt_size e) (I.ok.cab x c hfn hc)))).trans e1⟩
  ·obtain⟨o',e1⟩:=I.base.there b o e hx;exact⟨o',(hs.2 b (Nat.ne_of_lt (Nat.lt_of_lt_of_le (Heap.lt_size e) (I.ok.cab x c hfn hc)))).trans e1⟩
  ·by_cases hj:j=i
   ·subst hj;rw[hi] at e1;cases e1;rw[List.getElem?_set_self hiσ] at e2;cases e2;exact⟨u,r,.inr ⟨.inl hk,c,hc,hc'⟩⟩
   ·rw[List.getElem?_set_ne (Ne.symm hj)] at e2;obtain⟨u',r',q⟩:=hl j y v' e1 e2 e3;refine⟨u',r',?_⟩;rcases q with q|⟨k,c',e,z'⟩
    ·exact .inl q
    ·refine .inr ⟨k,c',e,z'.sameBut hs ?_⟩;rintro rfl;exact hj (aBM hN e1 (I.ok.inj _ _ _ e hc ▸ hi))
  ·by_cases hcc:c'=c
   ·subst hcc;exact⟨_,hc'⟩
   ·obtain⟨w2,z2⟩:=I.cell y c' e;exact⟨w2,z2.sameBut hs hcc⟩
  ·obtain⟨e,n,ne,nf,d⟩:=I.pin p hp;refine⟨(hs.2 p.1 ?_).trans e,n,ne,nf,d⟩;intro q;rw[q,hoc] at e;have q':oc=p.2:=Option.some.inj e;exact d w' (by rw[<- q'];exact hocd)
theorem oQ {M:Model}{A:Around}{E:Value->Shared->Prop}{i:Nat}{x:Str}{v:V}{u:Value}{Q:Unit->Shared->Prop}(I:Inv X pins σ H s)(hN:X.N.Nodup)(hi:X.N[i]?=some x)(hx:Loc X.env.scope x)(r:RelV v u)(h:∀s',Inv X pins (σ.set i (some v)) H s'->Q () s')(hf:X.fn x=true∨X.env.scope.names.lookup x=some .local:=by first|exact .inl rfl|exact .inr rfl|assumption):wpAny M A (storeName X.env x u) Q E s :=
 zL I hN hi hx r (λs' I' _=>h s' I') hf
theorem Inv.call' {s':Shared}{ch:List Addr}(I:Inv X pins σ H s)(ho:s'.os=s.os)(u:Un (frs X.stack) ch H H' s.heap s'.heap)(hok:HOk X.prog X.w H' s'.heap)(hg:AllBare s'.gens)(hch:∀b∈ch,(b∈X.ex∨X.s₀.heap.objs.size<=b)/\b≠X.env.locals/\(∀x c,X.env.cells.lookup x=some c->c≠b)/\∀p∈X.pn++pins,p.1≠b):Inv X pins σ H' s':=by obtain⟨h',g',d',t',o'⟩:=s';have e:o'=s.os:=ho;subst e;exact I.call (g':=g') (t':=t') (d':=d') u hok hg hch
end
abbrev XK:=Value->Option Addr->Hp->Prop
noncomputable abbrev St:=List (Option V)
abbrev VK:=V->Hp->Prop
abbrev TE:=St->Hp->VK->Prop
abbrev TT:=St->Hp->(Bool->Hp->Prop)->Prop
abbrev TA:=St->Hp->(List V->Hp->Prop)->Prop
structure sX where
 nx:St->Hp->Prop
 rt:VK
 bk:St->Hp->Prop:=λ_ _=>False
 ct:St->Hp->Prop:=λ_ _=>False
abbrev TS:=sX->St->Hp->Prop
def EP (X:Cx)(pins:List (Addr×Obj))(σ:St)(Q:VK)(u:Value)(s':Shared):Prop:=∃v H',Inv X pins σ H' s'/\RelV v u/\Q v H'
def TP (X:Cx)(pins:List (Addr×Obj))(σ:St)(Q:Bool->Hp->Prop)(b:Bool)(s':Shared):Prop:=∃H',Inv X pins σ H' s'/\Q b H'
def AP (X:Cx)(pins:List (Addr×Obj))(σ:St)(Q:List V->Hp->Prop)(us:List Value)(s':Shared):Prop:=∃vs H',Inv X pins σ H' s'/\bZ vs us/\Q vs H'
def SP (X:Cx)(pins:List (Addr×Obj))(D:sX)(f:Flow)(s':Shared):Prop :=
 match f with
 |.next=>∃σ' H',Inv X pins σ' H' s'/\D.nx σ' H'
 |.brk=>∃σ' H',Inv X pins σ' H' s'/\D.bk σ' H'
 |.cont=>∃σ' H',Inv X pins σ' H' s'/\D.ct σ' H'
 |.ret u=>∃v σ' H',Inv X pins σ' H' s'/\RelV v u/\D.rt v H'
def PE (X:Cx)(e:Expr)(t:TE):Prop :=
 ∀(pins:List (Addr×Obj)) (s:Shared) (σ:St) (H:Hp) (Q:VK),Inv X pins σ H s->t σ H Q->wpAny (model X.prog X.w) X.A (eval e X.env) (EP X pins σ Q) X.xe s
def PT (X:Cx)(e:Expr)(t:TT):Prop :=
 ∀(pins:List (Addr×Obj)) (s:Shared) (σ:St) (H:Hp) (Q:Bool->Hp->Prop),Inv X pins σ H s->t σ H Q->wpAny (model X.prog X.w) X.A (isTrue e X.env (eval e X.env)) (TP X pins σ Q) X.xe s
def PW (X:Cx)(e:Expr)(t:TT):Prop :=
 ∀(whole:Sem Value)(pins:List (Addr×Obj)) (s:Shared) (σ:St) (H:Hp) (Q:Bool->Hp->Prop),Inv X pins σ H s->t σ H Q->wpAny (model X.prog X.w) X.A (isTrue e X.env whole) (TP X pins σ Q) X.xe s
theorem PW.pt {X:Cx}{e:Expr}{t:TT}(h:PW X e t):PT X e t:=h _
def PA (X:Cx)(es:List Expr)(t:TA):Prop :=
 ∀(pos:Pos)(pins:List (Addr×Obj)) (s:Shared) (σ:St) (H:Hp) (Q:List V->Hp->Prop),Inv X pins σ H s->t σ H Q->wpAny (model X.prog X.w) X.A (spliced (backTo pos (starEach es X.env))) (AP X pins σ Q) X.xe s
def PS (X:Cx)(st:Stmt)(t:TS):Prop :=
 ∀(pins:List (Addr×Obj)) (s:Shared) (σ:St) (H:Hp) (D:sX),Inv X pins σ H s->t D σ H->wpAny (model X.prog X.w) X.A (exec st X.env) (SP X pins D) X.xe s
def PSs (X:Cx)(st:List Stmt)(t:TS):Prop :=
 ∀(pins:List (Addr×Obj)) (s:Shared) (σ:St) (H:Hp) (D:sX),Inv X pins σ H s->t D σ H->wpAny (model X.prog X.w) X.A (execs st X.env) (SP X pins D) X.xe s
theorem thn {α:Type}{t:Sem α}{Q Q':α->Shared->Prop}{M:Model}{A:Around}{E:Value->Shared->Prop}{s:Shared}(h:wpAny M A t Q E s)(hQ:∀a s,Q a s->Q' a s):wpAny M A t Q' E s:=wpAny_mono h hQ λ_ _ x=>x
section
variable {X:Cx}
def aN5 (i:Nat):TE:=λσ H Q=>∃v,σ[i]?=some (some v)/\Q v H
def tC (v:V):TE:=λ_ H Q=>Q v H
theorem aFG {i:Nat}{x:Str}{pos:Pos}(hN:X.N[i]?=some x)(hv:Vis X.env.scope x)(hd:(x==("__debug__":Str))=false:=by decide)(hcd:(x==("__classdict__":Str))=false:=by decide):PE X (.Name x pos) (aN5 i):=by
 intro pins s σ H Q I h;obtain⟨v,e,h⟩:=h;obtain⟨m,hn,hl⟩:=I.loc;obtain⟨u,r,l⟩:=hl i x v hN e hv;have fin:EP X pins σ Q u s:=⟨v,H,I,r,h⟩;rcases l with⟨hk,hm⟩|⟨hk,c,hc,hcell⟩
 ·exact wpAny_Name (wpAny_loadName_local I.ok.kind hk hn hm fin) hd
 ·rcases hk with hk|hk
  ·exact wpAny_Name (wpAny_loadName_cell I.ok.kind hk hc hcell fin) hd
  ·exact wpAny_Name (wpAny_loadName_free I.ok.kind hk hc hcell fin hcd) hd
theorem aJg {i j pos}:PE X (.Constant (.int i) j pos) (tC (.int i)):=λ_ _ _ H _ I h=>wpAny_Constant_int ⟨.int i,H,I.tok _,⟨_,rfl⟩,h⟩
theorem aMl {b j pos}:PE X (.Constant (.bool b) j pos) (tC (.bl b)):=λ_ _ _ H _ I h=>Constant_bool ⟨.bl b,H,I,rfl,h⟩
theorem aLg {j pos}:PE X (.Constant .none j pos) (tC .non):=λ_ _ _ H _ I h=>Constant_none ⟨.non,H,I,rfl,h⟩
theorem aLq {x j pos}:PE X (.Constant (.str x) j pos) (tC (.str x)):=λ_ _ _ H _ I h=>Calls.Constant_str ⟨.str x,H,I.tok _,⟨_,rfl⟩,h⟩
def Gl (X:Cx)(x:Str):Prop:=X.env.kindOf x=some .globalImplicit
theorem aAm {E:Value->Shared->Prop}{pins:List (Addr×Obj)}{s:Shared}{σ:St}{H:Hp}{x:Str}{u:Value}{pos:Pos}{Q:Value->Shared->Prop}(I:Inv X pins σ H s)(hg:Gl X x)(hm:X.mg x=some u)(h:Q u s)(hd:(x==("__debug__":Str))=false:=by decide):wpAny (model X.prog X.w) X.A (eval (.Name x pos) X.env) Q E s :=
 Calls.Name_function_global I.ok.kind hg (Calls.loadGlobal_global (by rw[I.ok.glob];exact I.mod.glob.keeps I.bk) hm h) hd
theorem xU {E:Value->Shared->Prop}{pins:List (Addr×Obj)}{s:Shared}{σ:St}{H:Hp}{x:Str}{u:Value}{pos:Pos}{Q:Value->Shared->Prop}(I:Inv X pins σ H s)(hg:Gl X x)(hm:X.mg x=none)(hv:bootBuiltins x=some u)(h:Q u s)(hn:x ≠ "__name__":=by decide)(hd:(x==("__debug__":Str))=false:=by decide):wpAny (model X.prog X.w) X.A (eval (.Name x pos) X.env) Q E s:=by obtain⟨mb,h1,h2⟩:=I.mod.blt;exact Calls.Name_function_global I.ok.kind hg (Calls.loadGlobal_builtin (by rw[I.ok.glob];exact I.mod.glob.keeps I.bk) hm (by rw[I.ok.blt];exact h1.keeps I.bk) ((h2 x hn).trans hv) h) hd
theorem aH7 {x:Str}{v:V}{u:Value}{pos:Pos}(hg:Gl X x)(hm:X.mg x=some u)(r:RelV v u)(hd:(x==("__debug__":Str))=false:=by decide):PE X (.Name x pos) (tC v) :=
 λ_ _ _ H _ I h=>aAm I hg hm ⟨v,H,I,r,h⟩ hd
variable {a b:Expr}{ta tb:TE}{pos:Pos}
def tB (t:TE):TT:=λσ H Q=>t σ H λx H1=>∃c,x=.bl c/\Q c H1
theorem aK0 {e:Expr}{t:TE}(h:PE X e t)(he:∀whole,isTrue e X.env whole=(do let v <- whole;standAt e.pos;holding [v] (truthy v)):=by intro _;rfl):PT X e (tB t):=by intro pins s σ H Q I hw;refine isTrue_plain (thn (h pins s σ H _ I hw) λv s1 ⟨x,H1,I1,r1,q1⟩=>?_) (he _);obtain⟨d,rfl,q⟩:=q1;cases r1;exact wpAny_truthy_bool ⟨H1,I1,q⟩
variable {tA tB':TT}{cN:List Expr}
def aNJ (t u:TT):TT:=λσ H Q=>t σ H λc H1=>if c=true then u σ H1 Q else Q false H1
def tOr (t u:TT):TT:=λσ H Q=>t σ H λc H1=>if c=true then Q true H1 else u σ H1 Q
def aOa (t:TT):TT:=λσ H Q=>t σ H λc H1=>Q (!c) H1
theorem aIl (ha:PT X a tA):PW X (.BoolOp .And [a] pos) tA:=by
 intro wh pins s σ H Q I h;refine isTrue_and (thn (ha pins s σ H Q I h) λc s1 e=>?_);cases c with
 |true=>exact isTrue_and_nil e
 |false=>exact e
theorem aJm (ha:PT X a tA):PW X (.BoolOp .Or [a] pos) tA:=by
 intro wh pins s σ H Q I h;refine isTrue_or (thn (ha pins s σ H Q I h) λc s1 e=>?_);cases c with
 |false=>exact isTrue_or_nil e
 |true=>exact e
theorem aKV (ha:PT X a tA)(hb:PW X (.BoolOp .And (b::cN) pos) tB'):PW X (.BoolOp .And (a::b::cN) pos) (aNJ tA tB'):=by
 intro wh pins s σ H Q I h;refine isTrue_and (thn (ha pins s σ H _ I h) λc s1 ⟨H1,I1,q1⟩=>?_);cases c with
 |true=>exact hb wh pins s1 σ H1 Q I1 q1
 |false=>exact⟨H1,I1,q1⟩
theorem aLT (ha:PT X a tA)(hb:PW X (.BoolOp .Or (b::cN) pos) tB'):PW X (.BoolOp .Or (a::b::cN) pos) (tOr tA tB'):=by
 intro wh pins s σ H Q I h;refine isTrue_or (thn (ha pins s σ H _ I h) λc s1 ⟨H1,I1,q1⟩=>?_);cases c with
 |true=>exact⟨H1,I1,q1⟩
 |false=>exact hb wh pins s1 σ H1 Q I1 q1
theorem aKY (ha:PT X a tA):PT X (.UnaryOp .Not a pos) (aOa tA):=by intro pins s σ H Q I h;exact isTrue_not (ha pins s σ H (λc H1=>Q (!c) H1) I h)
def aMM (ta tb:TE):TE:=λσ H Q=>ta σ H λx H1=>∃c,x=.bl c/\if c=true then tb σ H1 Q else Q (.bl false) H1
def aOb (ta tb:TE):TE:=λσ H Q=>ta σ H λx H1=>∃c,x=.bl c/\if c=true then Q (.bl true) H1 else tb σ H1 Q
def aMb (ta:TE):TE:=λσ H Q=>ta σ H λx H1=>∃c,x=.bl c/\Q (.bl (!c)) H1
theorem aJq {op}{t:TE}(h:PE X a t):PE X (.BoolOp op [a] pos) t:=λpins s σ H Q I hw=>BoolOp_one (h pins s σ H Q I hw)
theorem aKl (ha:PE X a ta)(hb:PE X (.BoolOp .And (b::cN) pos) tb):PE X (.BoolOp .And (a::b::cN) pos) (aMM ta tb):=by
 intro pins s σ H Q I h;refine BoolOp_and (thn (ha pins s σ H _ I h) λv s1 ⟨x,H1,I1,r1,q1⟩=>?_);obtain⟨c,rfl,q1⟩:=q1;cases r1;refine wpAny_truthy_bool ?_;cases c with
 |true=>exact hb pins s1 σ H1 Q I1 q1
 |false=>exact⟨.bl false,H1,I1,rfl,q1⟩
theorem aNa (ha:PE X a ta)(hb:PE X (.BoolOp .Or (b::cN) pos) tb):PE X (.BoolOp .Or (a::b::cN) pos) (aOb ta tb):=by
 intro pins s σ H Q I h;refine BoolOp_or (thn (ha pins s σ H _ I h) λv s1 ⟨x,H1,I1,r1,q1⟩=>?_);obtain⟨c,rfl,q1⟩:=q1;cases r1;refine wpAny_truthy_bool ?_;cases c with
 |false=>exact hb pins s1 σ H1 Q I1 q1
 |true=>exact⟨.bl true,H1,I1,rfl,q1⟩
theorem aLw (ha:PE X a ta):PE X (.UnaryOp .Not a pos) (aMb ta):=by intro pins s σ H Q I h;refine UnaryOp_ (thn (ha pins s σ H _ I h) λv s1 ⟨x,H1,I1,r1,q1⟩=>?_);obtain⟨c,rfl,q1⟩:=q1;cases r1;exact not_of (wpAny_truthy_bool ⟨.bl (!c),H1,I1,rfl,q1⟩)
def tIf (t:TT)(ta tb:TE):TE:=λσ H Q=>t σ H λc H1=>if c=true then ta σ H1 Q else tb σ H1 Q
theorem aFj {c:Expr}(hc:PT X c tA)(ha:PE X a ta)(hb:PE X b tb):PE X (.IfExp c a b pos) (tIf tA ta tb):=by
 intro pins s σ H Q I h;refine wpAny_IfExp (thn (hc pins s σ H _ I h) λd s1 ⟨H1,I1,q1⟩=>?_);cases d with
 |true=>exact ha pins s1 σ H1 Q I1 q1
 |false=>exact hb pins s1 σ H1 Q I1 q1
end
def SqL (K:Frag)(H:Hp)(a:Addr)(xs:List V):Prop :=
 Rd H a (.lst xs) ∨
  ∃(o:Obj)(its:Array Value) (n:Nat),K.lookup a = some o/\o.cls = .type "list"/\o.dict=none/\o.data=.seq its n/\its.size<=sizeLine/\bZ xs its.toList
def SqT (K:Frag)(H:Hp)(a:Addr)(xs:List V):Prop :=
 Rd H a (.tup xs) ∨
  ∃(o:Obj)(its:Array Value) (n:Nat),K.lookup a = some o/\o.cls = .type "tuple"/\o.data=.seq its n/\its.size<=sizeLine/\bZ xs its.toList
noncomputable def aNI:Value->Option V
 |.none=>some .non
 |.bool b=>some (.bl b)
 |.int i _=>some (.int i)
 |.str x _=>some (.str x)
 |.bytes b _=>some (.byt b)
 |.float b _=>some (.flt b)
 |.ref a=>some (.ref a)
 |.type n=>some (.ty n)
 |_=>none
theorem RelV.abs {x:V}{u:Value}(r:RelV x u):aNI u=some x:=by
 cases x with
 |non=>cases r;rfl
 |bl _=>cases r;rfl
 |int _=>obtain⟨t,rfl⟩:=r;rfl
 |str _=>obtain⟨t,rfl⟩:=r;rfl
 |byt _=>obtain⟨t,rfl⟩:=r;rfl
 |flt _=>obtain⟨t,rfl⟩:=r;rfl
 |ref _=>cases r;rfl
 |ty _=>cases r;rfl
theorem RelV.inj {x y:V}{u:Value}(r:RelV x u)(q:RelV y u):x=y:=Option.some.inj (r.abs.symm.trans q.abs)
theorem bZ.inj:∀{xs ys:List V}{us:List Value},bZ xs us->bZ ys us->xs=ys
 |_,_,_,.nil,.nil=>rfl
 |_,_,_,.cons r t,.cons r' t'=>by rw[r.inj r',bZ.inj t t']
section
variable {X:Cx}{pins:List (Addr×Obj)}{σ:St}{H:Hp}{s:Shared}{a:Addr}{xs ys:List V}
theorem SqL.of {K:Frag}(h:H a=some (.lst xs)):SqL K H a xs:=.inl (.inl h)
theorem SqT.of {K:Frag}(h:H a=some (.tup xs)):SqT K H a xs:=.inl (.inl h)
theorem Inv.list (I:Inv X pins σ H s)(h:SqL X.K H a xs):∃its:List Value,bZ xs its/\PlainL s.heap a its.toArray/\xs.length<=sizeLine:=by
 rcases h with h|⟨o,its,n,hk,hc,hd,hs,hz,r⟩
 ·obtain⟨z,its,n,r,e⟩:=h.ok I.hok;exact⟨its,r,⟨_,n,e,rfl,rfl,rfl⟩,z⟩
 ·refine⟨its.toList,r,⟨o,n,I.kIn a o hk,hc,hd,by simpa using hs⟩,?_⟩;have e:=r.length;simp only[Array.length_toList] at e;omega
theorem Inv.tuple (I:Inv X pins σ H s)(h:SqT X.K H a xs):∃its:List Value,bZ xs its/\IsTup s.heap a its.toArray/\xs.length<=sizeLine:=by
 rcases h with h|⟨o,its,n,hk,hc,hs,hz,r⟩
 ·obtain⟨z,its,r,p⟩:=h.ok I.hok;exact⟨its,r,p,z⟩
 ·refine⟨its.toList,r,⟨o,I.kIn a o hk,hc,n,by simpa using hs⟩,?_⟩;have e:=r.length;simp only[Array.length_toList] at e;omega
theorem Inv.list_inj (I:Inv X pins σ H s)(h:SqL X.K H a xs)(h':SqL X.K H a ys):xs=ys:=by
 obtain⟨its,r,⟨o,n,e,_,_,d⟩,_⟩:=I.list h;obtain⟨its',r',⟨o',n',e',_,_,d'⟩,_⟩:=I.list h';rw[e] at e';cases e';rw[d] at d';injection d' with d1 _
 have:its=its':=by simpa using congrArg Array.toList d1
 subst this;exact r.inj r'
theorem Inv.tuple_inj (I:Inv X pins σ H s)(h:SqT X.K H a xs)(h':SqT X.K H a ys):xs=ys:=by
 obtain⟨its,r,⟨o,e,_,n,d⟩,_⟩:=I.tuple h;obtain⟨its',r',⟨o',e',_,n',d'⟩,_⟩:=I.tuple h';rw[e] at e';cases e';rw[d] at d';injection d' with d1 _
 have:its=its':=by simpa using congrArg Array.toList d1
 subst this;exact r.inj r'
end
noncomputable abbrev Cx.wish (X:Cx)(E:Value->Shared->Prop):Cx:={ X with xe:=E }
noncomputable abbrev Cx.nox (X:Cx):Cx:=X.wish λ_ _=>False
theorem Cx.Ok.wish {X:Cx}(ok:X.Ok)(E:Value->Shared->Prop):(X.wish E).Ok :=
 ⟨ok.mod,ok.kind,ok.glob,ok.blt,ok.above,ok.inj,ok.has,ok.cab,ok.hd,ok.frames,ok.stk,ok.exf,ok.bs,ok.bsz,ok.noex,ok.exfs,ok.funs,ok.frf⟩
theorem Cx.Ok.unwish {X:Cx}{E:Value->Shared->Prop}(ok:(X.wish E).Ok):X.Ok :=
 ⟨ok.mod,ok.kind,ok.glob,ok.blt,ok.above,ok.inj,ok.has,ok.cab,ok.hd,ok.frames,ok.stk,ok.exf,ok.bs,ok.bsz,ok.noex,ok.exfs,ok.funs,ok.frf⟩
section
variable {X:Cx}{pins:List (Addr×Obj)}{σ:St}{H:Hp}{s:Shared}{E:Value->Shared->Prop}
theorem Inv.wish (I:Inv X pins σ H s)(E:Value->Shared->Prop):Inv (X.wish E) pins σ H s:=⟨I.ok.wish E,I.os,I.bare,I.base,I.loc,I.cell,I.free,I.freeC,I.pin,I.hok,I.len⟩
theorem Inv.unwish (I:Inv (X.wish E) pins σ H s):Inv X pins σ H s:=⟨I.ok.unwish,I.os,I.bare,I.base,I.loc,I.cell,I.free,I.freeC,I.pin,I.hok,I.len⟩
theorem SP.unwish {D:sX}{f:Flow}{s':Shared}(h:SP (X.wish E) pins D f s'):SP X pins D f s':=by
 cases f with
 |next=>obtain⟨σ',H',I,q⟩:=h;exact⟨σ',H',I.unwish,q⟩
 |brk=>obtain⟨σ',H',I,q⟩:=h;exact⟨σ',H',I.unwish,q⟩
 |cont=>obtain⟨σ',H',I,q⟩:=h;exact⟨σ',H',I.unwish,q⟩
 |ret u=>obtain⟨v,σ',H',I,r,q⟩:=h;exact⟨v,σ',H',I.unwish,r,q⟩
theorem PSs.nox {st:List Stmt}{t:TS}(h:PSs X.nox st t):PSs X st t:=λpins s σ H D I hw =>
 wpAny_mono (h pins s σ H D (I.wish _) hw) (λ_ _ q=>q.unwish) λ_ _ z=>False.elim z
end
section
variable {X:Cx}{st:Stmt}{cN:List Stmt}{t u:TS}{e:Expr}{te:TE}{pos:Pos}
def aMD:TS:=λD σ H=>D.nx σ H
def aN2 (t u:TS):TS:=λD σ H=>t { D with nx:=u D } σ H
theorem aG9:PSs X [] aMD:=λ_ _ σ H _ I h=>wpAny_execs_nil ⟨σ,H,I,h⟩
theorem aBj (h1:PS X st t)(h2:PSs X cN u):PSs X (st::cN) (aN2 t u):=by
 intro pins s σ H D I h;refine wpAny_execs_cons (thn (h1 pins s σ H { D with nx:=u D } I h) λf s1 q=>?_);cases f with
 |next =>
  obtain⟨σ',H',I',q⟩:=q;exact h2 pins s1 σ' H' D I' q
 |ret v=>exact q
 |brk=>exact q
 |cont=>exact q
theorem aHP (h1:PS X st t):PSs X [st] t:=by
 intro pins s σ H D I h;refine wpAny_execs_cons (thn (h1 pins s σ H D I h) λf s1 q=>?_);cases f with
 |next=>exact wpAny_execs_nil q
 |ret v=>exact q
 |brk=>exact q
 |cont=>exact q
theorem Inv.quiet {pins:List (Addr×Obj)}{σ:St}{H:Hp}{s:Shared}(I:Inv X pins σ H s):interactive X.env=false:=by simp[interactive,I.ok.kind]
def aL5 (te:TE):TS:=λD σ H=>te σ H λ_ H1=>D.nx σ H1
theorem aHA (he:PE X e te)(hs:swapsWith e none pos.line X.env=pure false:=by rfl):PS X (.Expr e pos) (aL5 te):=by intro pins s σ H D I h;exact wpAny_Expr_any (thn (he pins s σ H _ I h) λv s1 ⟨x,H1,I1,r1,q1⟩=>⟨σ,H1,I1,q1⟩) I.quiet hs
def aNS (te:TE):TS:=λD σ H=>te σ H D.rt
theorem aKK (he:PE X e te):PS X (.Return (some e) pos) (aNS te):=by intro pins s σ H D I h;exact wpAny_Return_some (thn (he pins s σ H _ I h) λv s1 ⟨x,H1,I1,r1,q1⟩=>⟨x,σ,H1,I1,r1,q1⟩)
def aNA (c:TT)(t u:TS):TS:=λD σ H=>c σ H λb H1=>if b=true then t D σ H1 else u D σ H1
theorem aMG {c:Expr}{a b:List Stmt}{tc:TT}(hc:PT X c tc)(ha:PSs X a t)(hb:PSs X b u):PS X (.If c a b pos) (aNA tc t u):=by
 intro pins s σ H D I h;refine wpAny_If (thn (hc pins s σ H _ I h) λd s1 ⟨H1,I1,q1⟩=>?_);cases d with
 |true=>exact ha pins s1 σ H1 D I1 q1
 |false=>exact hb pins s1 σ H1 D I1 q1
end
abbrev TG:=V->St->Hp->(St->Hp->Prop)->Prop
abbrev TGs:=List V->St->Hp->(St->Hp->Prop)->Prop
def PG (X:Cx)(target:Expr)(t:TG):Prop :=
 ∀(pins:List (Addr×Obj)) (s:Shared) (σ:St) (H:Hp) (v:V) (u:Value) (Q:St->Hp->Prop),Inv X pins σ H s->RelV v u->t v σ H Q ->
  wpAny (model X.prog X.w) X.A (assign target X.env u) (λ_ s'=>∃σ' H',Inv X pins σ' H' s'/\Q σ' H') X.xe s
def PGs (X:Cx)(ts:List Expr)(t:TGs):Prop :=
 ∀(pins:List (Addr×Obj)) (s:Shared) (σ:St) (H:Hp) (vs:List V) (us:List Value) (Q:St->Hp->Prop),Inv X pins σ H s->bZ vs us->t vs σ H Q ->
  wpAny (model X.prog X.w) X.A (assignInOrder ((assignEach ts X.env).map (·.2)) us) (λ_ s'=>∃σ' H',Inv X pins σ' H' s'/\Q σ' H') X.xe s
abbrev aLa:=V->V->V->Hp->(Hp->Prop)->Prop
def aLt (X:Cx)(t:aLa):Prop :=
 ∀(pins:List (Addr×Obj)) (s:Shared) (σ:St) (H:Hp) (o i v:V) (ov iv u:Value) (Q:Hp->Prop),Inv X pins σ H s->RelV o ov->RelV i iv->RelV v u->t o i v H Q ->
  wpAny (model X.prog X.w) X.A (setItem ov iv u) (λ_ s'=>∃H',Inv X pins σ H' s'/\Q H') X.xe s
abbrev TIp:=V->V->Hp->VK->Prop
def PIp (X:Cx)(op:Operator)(t:TIp):Prop :=
 ∀(pins:List (Addr×Obj)) (s:Shared) (σ:St) (H:Hp) (x y:V) (v u:Value) (Q:VK),Inv X pins σ H s->RelV x v->RelV y u->t x y H Q ->
  wpAny (model X.prog X.w) X.A (inplaceOp op v u) (EP X pins σ Q) X.xe s
section
variable {X:Cx}{pos:Pos}
def aIQ (i:Nat):TG:=λv σ H Q=>Q (σ.set i (some v)) H
theorem aIh {i:Nat}{x:Str}(hN:X.N.Nodup)(hi:X.N[i]?=some x)(hx:Loc X.env.scope x)(hf:X.fn x=true∨X.env.scope.names.lookup x=some .local:=by first|exact .inl rfl|exact .inr rfl|assumption):PG X (.Name x pos) (aIQ i):=by intro pins s σ H v u Q I r h;exact wpAny_assign_Name (oQ I hN hi hx r (λs' I'=>⟨_,H,I',h⟩) hf)
def aND:TGs:=λvs σ H Q=>vs=[]/\Q σ H
def aMX (t:TG)(u:TGs):TGs:=λvs σ H Q=>∃v r,vs=v::r/\t v σ H λσ' H'=>u r σ' H' Q
theorem aH1:PGs X [] aND:=by intro pins s σ H vs us Q I r h;obtain⟨e,h⟩:=h;subst e;cases r;exact assignInOrder_nil ⟨σ,H,I,h⟩
theorem aFx {e:Expr}{es:List Expr}{t:TG}{u:TGs}(h1:PG X e t)(h2:PGs X es u)(hs:(assignEach (e::es) X.env).map (·.2)=assign e X.env::(assignEach es X.env).map (·.2):=by rfl):PGs X (e::es) (aMX t u):=by
 intro pins s σ H vs us Q I r h;obtain⟨v,vr,e1,h⟩:=h;subst e1;cases r with
 |cons r rr =>
  rw[hs];refine assignInOrder_cons (thn (h1 pins s σ H _ _ _ I r h) λ_ s1 ⟨σ1,H1,I1,q1⟩=>?_);exact h2 pins s1 σ1 H1 _ _ Q I1 rr q1
def aOi (K:Frag)(n:Nat)(t:TGs):TG:=λv σ H Q=>∃a xs,v=.ref a/\SqT K H a xs/\xs.length=n/\t xs σ H Q
theorem aKA {es:List Expr}{k:Nat}{t:TGs}{n:Nat}(hc:X.calm=true)(h:PGs X es t)(hn:(assignEach es X.env).length=n:=by rfl)(hst:(assignEach es X.env).findIdx? (·.1)=none:=by rfl):PG X (.Tuple es k pos) (aOi X.K n t):=by intro pins s σ H v u Q I r hw;obtain⟨a,xs,e1,hq,hl,hw⟩:=hw;subst e1;cases r;obtain⟨its,rv,ht,hz⟩:=I.tuple hq;refine assign_Tuple_tuple (I.ok.hd hc) ht (by simp[hn,<- hl,rv.length]) hst λh' hx=>?_;have I1:Inv X pins σ H { s with heap:=h' }:=I.kept (t':=s.toks) λb o e=>hx b o (Nat.ne_of_lt (Heap.lt_size e)) e;exact h pins _ σ H xs _ Q I1 (by simpa using rv) hw
def aOl (to ti:TE)(t:aLa):TG:=λv σ H Q=>to σ H λo H1=>ti σ H1 λi H2=>t o i v H2 λH3=>Q σ H3
theorem aGD {o i:Expr}{to ti:TE}{t:aLa}(ho:PE X o to)(hi:PE X i ti)(hs:aLt X t)(ha:∀v,assign (.Subscript o i pos) X.env v=(do
   let ov <- holding [v] (eval o X.env)
   let iv <- holding [v,ov] (eval i X.env)
   standAt pos
   holding [v,ov,iv] (setItem ov iv v)
   release [v,ov,iv] []):=by intro _;rfl):PG X (.Subscript o i pos) (aOl to ti t):=by
 intro pins s σ H v u Q I r h;rw[ha];refine wpAny_bind (wpAny_holding (thn (ho pins s σ H _ I h) λov s1 ⟨x,H1,I1,r1,q1⟩=>?_));refine wpAny_bind (wpAny_holding (thn (hi pins s1 σ H1 _ I1 q1) λiv s2 ⟨y,H2,I2,r2,q2⟩=>?_));refine wpAny_bind (wpAny_standAt (wpAny_bind (wpAny_holding (thn (hs pins s2 σ H2 x y v ov iv u _ I2 r1 r2 r q2) λ_ s3 ⟨H3,I3,q3⟩=>?_))));exact wpAny_release ⟨σ,H3,I3,q3⟩
def aMI (te:TE)(g:TG):TS:=λD σ H=>te σ H λx H1=>g x σ H1 D.nx
theorem aIT {tg e:Expr}{te:TE}{g:TG}(he:PE X e te)(hg:PG X tg g)(hs:swapsWithSole [tg] e pos.line X.env=pure false:=by rfl)(hw:swappedStores [tg] e X.env=pure none:=by rfl)(h1:(assignEach [tg] X.env).map (·.2)=[assign tg X.env]:=by rfl):PS X (.Assign [tg] e pos) (aMI te g):=by intro pins s σ H D I h;refine wpAny_Assign_stores (thn (he pins s σ H _ I h) λv s1 ⟨x,H1,I1,r1,q1⟩=>?_) hs hw;rw[h1];exact thn (hg pins s1 σ H1 x v _ I1 r1 q1) λ_ s2 q=>q
theorem aJh {i:Nat}{x:Str}{e:Expr}{te:TE}{pos':Pos}(hN:X.N.Nodup)(hi:X.N[i]?=some x)(hx:Loc X.env.scope x)(he:PE X e te)(hs:swapsWith e (some (.Name x pos')) pos.line X.env=pure false:=by rfl)(hf:X.fn x=true∨X.env.scope.names.lookup x=some .local:=by first|exact .inl rfl|exact .inr rfl|assumption) :
  PS X (.Assign [.Name x pos'] e pos) (aMI te (aIQ i)):=by
 intro pins s σ H D I h;refine wpAny_Assign_Name (thn (he pins s σ H _ I h) λv s1 ⟨y,H1,I1,r1,q1⟩=>?_) hs;exact oQ I1 hN hi hx r1 (λs2 I2=>⟨_,H1,I2,q1⟩) hf
def aNC (i j:Nat)(ta:TA):TS:=λD σ H=>ta σ H λvs H1=>∃v w,vs=[v,w]/\D.nx ((σ.set i (some v)).set j (some w)) H1
theorem aLh {i j:Nat}{x y:Str}{a b:Expr}{ta:TA}{px py pt:Pos}{kt k2 pt2}(hc:X.calm=true)(hN:X.N.Nodup)(hi:X.N[i]?=some x)(hj:X.N[j]?=some y)(hij:i≠j)(hx:X.env.scope.names.lookup x=some .local)(hy:X.env.scope.names.lookup y=some .local)(ha:PA X [a,b] ta)(hw:swappedStores [.Tuple [.Name x px,.Name y py] kt pt] (.Tuple [a,b] k2 pt2) X.env=pure (some [x,y]))(hs:swapsWithSole [.Tuple [.Name x px,.Name y py] kt pt] (.Tuple [a,b] k2 pt2) pos.line X.env=pure false:=by rfl) :
  PS X (.Assign [.Tuple [.Name x px,.Name y py] kt pt] (.Tuple [a,b] k2 pt2) pos) (aNC i j ta):=by
 intro pins s σ H D I h;rw[exec_Assign_arm];refine wpAny_bind (wpAny_standAt ?_);rw[hs];refine wpAny_bind (wpAny_pure ?_);rw[if_neg (by decide)];refine wpAny_bind (Tuple_ (thn (ha _ pins s σ H _ I h) λus s1 ⟨vs,H1,I1,r1,q1⟩=>?_));obtain⟨v,w,e1,q1⟩:=q1;subst e1;obtain⟨u1,u2,rfl,rv,rw'⟩:∃u1 u2,us=[u1,u2]/\RelV v u1/\RelV w u2:=by
  cases r1 with
  |cons p q =>
   cases q with
   |cons p' q' =>
    cases q';exact⟨_,_,rfl,p,p'⟩
 refine wpAny_newObj_type ?_ (by show 2<=sizeLine;decide);have I2:Inv X pins σ H1 { s1 with heap:=s1.heap.push { cls:=.type "tuple",data:=.seq [u1,u2].toArray } }:=I1.kept (t':=s1.toks) λb o e=>Heap.get?_push_of_some _ e;rw[hw];refine wpAny_bind (wpAny_pure ?_);show wpAny (model X.prog X.w) X.A (do rule "assign.swapped-stores";let items <- unpackItems (.ref s1.heap.objs.size) 2 none;assignInOrder [λv=>bindName X.env y v,λv=>bindName X.env x v] items.reverse;pure Flow.next) _ _ _;refine wpAny_bind (wpAny_rule (wpAny_bind (unpackItems_tuple (items:=#[u1,u2]) (I.ok.hd hc) (IsTup.new s1.heap _) λh' hx'=>?_)));have I3:=I2.kept (h':=h') (t':=s1.toks) λb o e=>hx' b o (Nat.ne_of_lt (Heap.lt_size e)) e;show wpAny _ _ (assignInOrder [λv=>bindName X.env y v,λv=>bindName X.env x v] [u2,u1] >>= λ_=>pure Flow.next) _ _ _;refine wpAny_bind (assignInOrder_cons (wpAny_bindName (oQ I3 hN hj (.inl hy) rw' (λs2 I4=>?_) (.inr hy))));refine assignInOrder_cons (wpAny_bindName (oQ I4 hN hi (.inl hx) rv (λs3 I5=>assignInOrder_nil (wpAny_pure ?_)) (.inr hx)));rw[List.set_comm _ _ (Ne.symm hij)] at I5;exact⟨_,H1,I5,q1⟩
def aNW (i:Nat)(te:TE)(ti:TIp):TS:=λD σ H=>∃x,σ[i]?=some (some x)/\te σ H λy H1=>ti x y H1 λz H2=>D.nx (σ.set i (some z)) H2
theorem aGG {i:Nat}{x:Str}{e:Expr}{te:TE}{op:Operator}{ti:TIp}{pos':Pos}(hN:X.N.Nodup)(hi:X.N[i]?=some x)(hx:Loc X.env.scope x)(he:PE X e te)(ho:PIp X op ti)(hf:X.fn x=true∨X.env.scope.names.lookup x=some .local:=by first|exact .inl rfl|exact .inr rfl|assumption) :
  PS X (.AugAssign (.Name x pos') op e pos) (aNW i te ti):=by
 intro pins s σ H D I h;obtain⟨v,e1,h⟩:=h;obtain⟨m,hn,hl⟩:=I.loc;have vis:Vis X.env.scope x:=by rcases hx with k|k;exact .inl k;exact .inr (.inl k)
 obtain⟨u,r,l⟩:=hl i x v hi e1 vis;refine wpAny_AugAssign_Name ?_;have go:wpAny (model X.prog X.w) X.A (eval e X.env) (λw s₂=>wpAny (model X.prog X.w) X.A (inplaceOp op u w) (λr s₃=>wpAny (model X.prog X.w) X.A (storeName X.env x r) (λ_=>SP X pins D .next) X.xe s₃) X.xe s₂) X.xe s:=by refine thn (he pins s σ H _ I h) λw s1 ⟨y,H1,I1,r1,q1⟩=>?_;refine thn (ho pins s1 σ H1 v y u w _ I1 r r1 q1) λz s2 ⟨zv,H2,I2,r2,q2⟩=>?_;exact oQ I2 hN hi hx r2 (λs3 I3=>⟨_,H2,I3,q2⟩) hf
 rcases l with⟨hk,hm⟩|⟨hk,c,hc,hcell⟩
 ·exact wpAny_loadName_local I.ok.kind hk hn hm go
 ·rcases hk with hk|hk
  ·exact wpAny_loadName_cell I.ok.kind hk hc hcell go
  ·rcases hx with k|k
   ·have:X.env.scope.names.lookup x=some .free:=hk;rw[k] at this;cases this
   ·have:X.env.scope.names.lookup x=some .free:=hk;rw[k] at this;cases this
noncomputable def ipI (f:Int->Int->Int):TIp:=λx y H Q=>∃i j,x=.int i/\y=.int j/\Q (.int (f i j)) H
theorem aLj:PIp X .Add (ipI λi j=>i+j):=by intro pins s σ H x y v u Q I r1 r2 h;obtain⟨i,j,e1,e2,q⟩:=h;subst e1;subst e2;obtain⟨t,rfl⟩:=r1;obtain⟨t',rfl⟩:=r2;exact iadd_int ⟨.int _,H,I.tok _,⟨_,rfl⟩,q⟩
end
section
variable {X:Cx}{pos:Pos}
def aKQ (c:TT)(tb:TS):TS:=λD σ H=>∃W:Nat->St->Hp->Prop,(∃m,W m σ H)/\∀m σ H,W m σ H ->
 c σ H λb H1=>if b=true then ∃N:St->Hp->Prop,(∀σ' H',N σ' H'->∃m',m'<m/\W m' σ' H')/\tb { D with nx:=N,ct:=N,bk:=D.nx } σ H1 else D.nx σ H1
theorem aGK {c:Expr}{body:List Stmt}{tc:TT}{tb:TS}(hp:PassesOwn (model X.prog X.w) X.A X.env X.xe)(hc:PT X c tc)(hb:PSs X body tb):PS X (.While c body [] pos) (aKQ tc tb):=by
 intro pins s σ H D I h;obtain⟨W,⟨m0,w0⟩,turn⟩:=h;refine wpAny_While (codeAny_whileLoop (λn s'=>∃σ' H',Inv X pins σ' H' s'/\W n σ' H') ?_ m0 ⟨σ,H,I,w0⟩);rintro n s1 ⟨σ1,H1,I1,w1⟩;refine wpAny_passesOwn hp (thn (hc pins s1 σ1 H1 _ I1 (turn n σ1 H1 w1)) λb s2 ⟨H2,I2,q2⟩=>?_);cases b with
 |true =>
  obtain⟨N,hN,q2⟩:=q2;rw[if_pos rfl];refine wpAny_passesOwn hp (thn (hb pins s2 σ1 H2 _ I2 q2) λf s3 q3=>?_);cases f with
  |next =>
   obtain⟨σ3,H3,I3,n3⟩:=q3;obtain⟨m',hm,w3⟩:=hN σ3 H3 n3;exact⟨m',hm,σ3,H3,I3,w3⟩
  |cont =>
   obtain⟨σ3,H3,I3,n3⟩:=q3;obtain⟨m',hm,w3⟩:=hN σ3 H3 n3;exact⟨m',hm,σ3,H3,I3,w3⟩
  |brk=>exact q3
  |ret v=>exact q3
 |false =>
  rw[if_neg Bool.false_ne_true];exact wpAny_execs_nil ⟨σ1,H2,I2,q2⟩
end
structure It where
 go:Nat->Hp->Prop
 yld:Nat->Hp->V->Hp->Prop
 stop:Nat->Hp->Prop
def yG (X:Cx)(pins:List (Addr×Obj))(H:Hp)(b:Addr):Prop :=
 H b=none/\b≠X.env.locals/\b∉X.fs/\(b∈X.ex∨X.s₀.heap.objs.size<=b)/\(∀x c,X.env.cells.lookup x=some c->c≠b)/\∀p∈X.pn++pins,p.1≠b
theorem Inv.fpOk {X:Cx}{pins:List (Addr×Obj)}{σ:St}{H H':Hp}{s:Shared}{b:Addr}(I:Inv X pins σ H s)(hb:s.heap.objs.size<=b)(hn:H' b=none):yG X pins H' b:=by
 refine⟨hn,Nat.ne_of_gt (Nat.lt_of_lt_of_le I.lt hb),I.nofs hb,.inr (Nat.le_trans I.sz hb),λx c e z=>?_,λp hp z=>?_⟩
 ·obtain⟨v,q⟩:=I.cell x c e;exact absurd (Nat.lt_of_lt_of_le q.lt (by rw[z];exact hb)) (Nat.lt_irrefl _)
 ·exact absurd (Nat.lt_of_lt_of_le (Heap.lt_size (I.pin p hp).1) (by rw[z];exact hb)) (Nat.lt_irrefl _)
structure aEh (P:Program)(w:World)(K:Frag)(tg:Expr)(J:It)(fp:List Addr)(it:Addr)(tn:Nat->Heap->Prop):Prop where
 mem:it∈fp
 obj:∀i h,tn i h->∀b∈fp,∃o,h.get? b=some o/\∀v,o.data ≠ .cell v
 keep:∀i h h',tn i h->(∀b∈fp,∀o,h.get? b=some o->h'.get? b=some o)->tn i h'
 item:∀(X:Cx),X.prog=P->X.w=w->X.K=K->X.calm=true->∀(i:Nat)(pins:List (Addr×Obj)) (s:Shared) (σ:St) (H:Hp) (E:Value->Shared->Prop),Inv X pins σ H s->(∀b∈fp,yG X pins H b)->tn i s.heap->J.go i H ->
  wpAny (model P w) X.A (pyNext (.ref it)) (λr s1=>∃u,r=some u /\
   wpAny (model P w) X.A (letOwnedTupleGo tg (.ref it) u) (λ_ s2=>∃x H',Inv X pins σ H' s2/\RelV x u/\J.yld i H x H'/\tn (i+1) s2.heap/\∀b∈fp,H' b=none) E s1) E s
 done:∀(X:Cx),X.prog=P->X.w=w->X.K=K->X.calm=true->∀(i:Nat)(pins:List (Addr×Obj)) (s:Shared) (σ:St) (H:Hp) (E:Value->Shared->Prop),Inv X pins σ H s->(∀b∈fp,yG X pins H b)->tn i s.heap->J.stop i H ->
  wpAny (model P w) X.A (pyNext (.ref it)) (λr s1=>r=none/\Inv X pins σ H s1) E s
 self:∀(A:Around)(i:Nat) (s:Shared) (Q:Value->Shared->Prop) (E:Value->Shared->Prop),tn i s.heap->Q (.ref it) s->wpAny (model P w) A (pyIter (.ref it)) Q E s
abbrev TI:=St->Hp->(It->Hp->Prop)->Prop
def PIE (X:Cx)(pins:List (Addr×Obj))(σ:St)(tg:Expr)(R:It->Hp->Prop)(itv:Value)(s2:Shared):Prop :=
 ∃(it:Addr)(fp:List Addr) (tn:Nat->Heap->Prop) (J:It) (H':Hp),itv=.ref it/\Inv X pins σ H' s2/\aEh X.prog X.w X.K tg J fp it tn/\tn 0 s2.heap/\(∀b∈fp,yG X pins H' b)/\R J H'
def PI (X:Cx)(tg iter:Expr)(wi:TI):Prop :=
 ∀(pins:List (Addr×Obj)) (s:Shared) (σ:St) (H:Hp) (R:It->Hp->Prop),Inv X pins σ H s->wi σ H R ->
  wpAny (model X.prog X.w) X.A (eval iter X.env) (λv s1=>wpAny (model X.prog X.w) X.A (pyIter v) (PIE X pins σ tg R) X.xe s1) X.xe s
theorem aE8 {M:Model}{A:Around}{E:Value->Shared->Prop}{s:Shared}{tg:Expr}{it:Addr}{u:Value}{o:Obj}{n:String}{vs:Array Value}{Q:Unit->Shared->Prop}(ho:s.heap.get? it=some o)(hc:o.cls=.type n)(hd:o.data=.fields vs)(hn:["enumerate","zip","dict_itemiterator","dict_reverseitemiterator","odict_iterator","itertools.zip_longest","itertools.pairwise"].contains n=false)(hQ:Q () s):wpAny M A (letOwnedTupleGo tg (.ref it) u) Q E s:=by
 unfold letOwnedTupleGo;cases tg<;>first
  |exact wpAny_pure hQ
  |(cases u<;>first
    |exact wpAny_pure hQ
    |(
      refine wpAny_bind (wpAny_load ho ?_);rw[hc,hd];show wpAny M A (if (["enumerate","zip","dict_itemiterator","dict_reverseitemiterator","odict_iterator","itertools.zip_longest","itertools.pairwise"].contains n&&vs[0]?==some (rawInt _))=true then _ else _) Q E s;rw[if_neg (by intro h;rw[hn,Bool.false_and] at h;cases h)];exact wpAny_pure hQ))
noncomputable def Itl (K:Frag)(a:Addr):It :=
 ⟨λi H=>∃xs x,SqL K H a xs/\xs[i]?=some x,λi H x H'=>H'=H/\∀xs,SqL K H a xs->xs[i]?=some x,λi H=>∃xs,SqL K H a xs/\xs.length<=i⟩
noncomputable def Itr (lo:Int)(n:Nat):It:=⟨λi _=>i<n,λi H x H'=>H'=H/\x=.int (lo+i),λi _=>n<=i⟩
theorem aDP {P:Program}{w:World}{K:Frag}{tg:Expr}(a it:Addr):aEh P w K tg (Itl K a) [it] it (λi h=>h.IsListIter it a i) where
 mem:=by simp
 obj:=λi h st b hb=>by
  have e:b=it:=by simpa using hb
  subst e;obtain⟨o,e,c,d⟩:=st;exact⟨o,e,λv z=>by rw[d] at z;cases z⟩
 keep:=λi h h' st k=>st.at λo e=>k it (by simp) o e
 item:=by intro X hP hw hK hc i pins s σ H E I hf st hg;subst hP hw hK;obtain⟨xs,x,hq,hx⟩:=hg;obtain⟨its,rv,p,hz⟩:=I.list hq;obtain⟨u,hu,ru⟩:=rv.get hx;obtain⟨f0,f1,f2,f3,f4,f5⟩:=hf it (by simp);refine wpAny_pyNext_list_item st p.isList (x:=u) (by simpa using hu) λh' st' sb=>?_;have I1:Inv X pins σ H { s with heap:=h' }:=I.turned (t':=s.toks) (λb o hb e=>(sb.2 b hb).trans e) f0 f1 f3 f4 f5;obtain⟨o,e,c,d⟩:=id st';exact⟨u,rfl,aE8 (s:={ s with heap:=h' }) e c d (by decide) ⟨x,H,I1,ru,⟨rfl,λys hy=>by rw[I.list_inj hy hq];exact hx⟩,st',λb hb=>(hf b hb).1⟩⟩
 done:=by intro X hP hw hK hc i pins s σ H E I hf st hg;subst hP hw hK;obtain⟨xs,hq,hx⟩:=hg;obtain⟨its,rv,p,hz⟩:=I.list hq;obtain⟨f0,f1,f2,f3,f4,f5⟩:=hf it (by simp);have hl:=rv.length;exact wpAny_pyNext_list_end (I.ok.hd hc) st p.isList (by simp;omega) λh' eb=>⟨rfl,I.turned (t':=s.toks) (λb o hb e=>eb b o hb e) f0 f1 f3 f4 f5⟩
 self:=λ_ _ _ _ _ st h=>wpAny_pyIter_listiter st h
theorem aCC {P:Program}{w:World}{K:Frag}{tg:Expr}(it:Addr)(lo:Int)(n:Nat):aEh P w K tg (Itr lo n) [it] it (λi h=>IsRangeIter h it (lo+(i:Nat)*1) ((n:Int)-(i:Nat)) 1) where
 mem:=by simp
 obj:=λi h st b hb=>by
  have e:b=it:=by simpa using hb
  subst e;exact⟨_,st,λv z=>by have z':Data.fields _=Data.cell v:=z;cases z'⟩
 keep:=λi h h' st k=>k it (by simp) _ st
 item:=by intro X hP hw hK hc i pins s σ H E I hf st hg;subst hP hw hK;obtain⟨f0,f1,f2,f3,f4,f5⟩:=hf it (by simp);have W:=Walks.range (prog:=X.prog) (w:=X.w) (I.ok.hd hc) it lo 1 n;refine W.item i s _ _ hg st λv h' tk hv st' kk=>?_;obtain⟨t,rfl⟩:=hv;have I1:Inv X pins σ H { s with heap:=h',toks:=tk }:=I.turned (λb o hb e=>kk b o (by simpa using hb) e) f0 f1 f3 f4 f5;refine⟨_,rfl,aE8 (s:={ s with heap:=h',toks:=tk }) (n:="range_iterator") st' rfl rfl (by decide) ⟨.int (lo+i),H,I1,⟨t,?_⟩,⟨rfl,rfl⟩,st',λb hb=>(hf b hb).1⟩⟩;rw[Int.mul_one]
 done:=by intro X hP hw hK hc i pins s σ H E I hf st hg;subst hP hw hK;obtain⟨f0,f1,f2,f3,f4,f5⟩:=hf it (by simp);exact wpAny_pyNext_range_end (I.ok.hd hc) st (by have:n<=i:=hg;omega) λh' eb=>⟨rfl,I.turned (t':=s.toks) (λb o hb e=>eb b o hb e) f0 f1 f3 f4 f5⟩
 self:=λ_ _ _ _ _ st h=>wpAny_pyIter_rangeiter st h
section
variable {X:Cx}{tg:Expr}
noncomputable def aLV (K:Frag)(tl:TE):TI:=λσ H R=>tl σ H λx H1=>∃a,x=.ref a/\(∃xs,SqL K H1 a xs)/\R (Itl K a) H1
theorem aAJ {l:Expr}{tl:TE}(hl:PE X l tl):PI X tg l (aLV X.K tl):=by
 intro pins s σ H R I h;refine thn (hl pins s σ H _ I h) λv s1 ⟨x,H1,I1,r1,q1⟩=>?_;obtain⟨a,e,⟨xs,hq⟩,q⟩:=q1;subst e;cases r1;obtain⟨its,rv,p,hz⟩:=I1.list hq;refine wpAny_pyIter_list p.isList ?_;refine⟨s1.heap.objs.size,[s1.heap.objs.size],_,_,H1,rfl,I1.kept (t':=s1.toks) λb o e=>Heap.get?_push_of_some _ e,aDP a _,⟨_,Heap.get?_push_size _ rfl,rfl,rfl⟩,λb hb=>?_,q⟩;have e:b=s1.heap.objs.size:=by simpa using hb
 subst e;exact I1.fpOk (Nat.le_refl _) (I1.hok.fresh (Nat.le_refl _))
theorem aFY {pins:List (Addr×Obj)}{σ:St}{H:Hp}{s:Shared}{R:It->Hp->Prop}{E:Value->Shared->Prop}{lo hi:Int}{t u v:Tok}{tk:Nat}(I:Inv X pins σ H s)(h1:-(2^62)<=lo)(h2:lo<2^62)(h3:-(2^62)<=hi)(h4:hi<2^62)(q:R (Itr lo (hi-lo).toNat) H):wpAny (model X.prog X.w) X.A (pyIter (.ref s.heap.objs.size)) (PIE X pins σ tg R) E { s with heap:=s.heap.push { cls:=.type "range",data:=.fields #[.int lo t,.int hi u,.int 1 v] },toks:=tk }:=by
 refine wpAny_pyIter_range (IsRange.new ..) (small_one h1 h2 h3 h4) ?_;have I1:Inv X pins σ H { s with heap:=s.heap.push { cls:=.type "range",data:=.fields #[.int lo t,.int hi u,.int 1 v] },toks:=tk }:=I.kept λb o e=>Heap.get?_push_of_some _ e;refine⟨(s.heap.push { cls:=.type "range",data:=.fields #[.int lo t,.int hi u,.int 1 v] }).objs.size,[(s.heap.push { cls:=.type "range",data:=.fields #[.int lo t,.int hi u,.int 1 v] }).objs.size],_,_,H,rfl,
  I1.kept (t':=tk) λb o e=>Heap.get?_push_of_some _ e,aCC _ lo (hi-lo).toNat,?_,λb hb=>?_,q⟩
 ·have e1:lo+((0:Nat):Int)*1=lo:=by simp
  have e2:(((hi-lo).toNat:Nat):Int)-((0:Nat):Int)=Builtin.Range.rangeSize lo hi 1:=by rw[rangeSize_one];split<;>omega
  show IsRangeIter _ _ (lo+((0:Nat):Int)*1) ((((hi-lo).toNat:Nat):Int)-((0:Nat):Int)) 1;rw[e1,e2];exact Heap.get?_push_size _ rfl
 ·have e:b = (s.heap.push { cls:=.type "range",data:=.fields #[.int lo t,.int hi u,.int 1 v] }).objs.size:=by simpa using hb
  subst e;exact I1.fpOk (Nat.le_refl _) (I1.hok.fresh (Nat.le_refl _))
noncomputable def aNj (ta:TA):TI:=λσ H R=>ta σ H λvs H1=>∃j:Int,vs=[.int j]/\-(2^62)<=j/\j<2^62/\R (Itr 0 j.toNat) H1
theorem zF {a:Expr}{ta:TA}{p pos:Pos}(hg:Gl X "range")(hm:X.mg "range" = none)(ha:PA X [a] ta)(hs:starEach [a] X.env = [(false,eval a X.env)]:=by rfl):PI X tg (.Call (.Name "range" p) [a] [] pos) (aNj ta):=by
 intro pins s σ H R I h;refine Call_ (xU I hg hm boot_range (PyProof.Rows.callWith_type1 (thn (ha pos pins s σ H _ I h) λus s1 ⟨vs,H1,I1,r1,q1⟩=>?_) hs rfl));obtain⟨j,e,q1,q2,q⟩:=q1;subst e;cases r1 with
 |cons r rr =>
  cases rr;obtain⟨t,rfl⟩:=r;exact call_range_1 (aFY I1 (by omega) (by omega) q1 q2 (by simpa using q))
def aM1 (wi:TI)(g:TG)(tb:TS):TS:=λD σ H=>wi σ H λJ H1=>∃W:Nat->Nat->St->Hp->Prop,(∃m,W 0 m σ H1)/\∀i m σ H,W i m σ H ->
 (J.stop i H/\D.nx σ H)∨(J.go i H/\∃N:St->Hp->Prop,(∀σ' H',N σ' H'->∃m',m'<m/\W (i+1) m' σ' H')/\∀x H',J.yld i H x H'->g x σ H' λσ2 H2=>tb { D with nx:=N,ct:=N,bk:=D.nx } σ2 H2)
noncomputable def aAP (fp:List Addr)(h:Heap):List (Addr×Obj):=fp.filterMap λb=>(h.get? b).map λo=>(b,o)
theorem mX {fp:List Addr}{h:Heap}{b:Addr}{o:Obj}(hb:b∈fp)(e:h.get? b=some o):(b,o)∈aAP fp h:=List.mem_filterMap.mpr ⟨b,hb,by rw[e];rfl⟩
theorem aDQ {fp:List Addr}{h:Heap}{p:Addr×Obj}(hp:p∈aAP fp h):p.1∈fp/\h.get? p.1=some p.2:=by
 obtain⟨b,hb,e⟩:=List.mem_filterMap.mp hp;cases q:h.get? b with
 |none=>rw[q] at e;cases e
 |some o =>
  rw[q] at e;have e':(b,o)=p:=Option.some.inj e;subst e';exact⟨hb,q⟩
theorem Inv.pinned {pins:List (Addr×Obj)}{σ:St}{H:Hp}{s:Shared}{fp:List Addr}(I:Inv X pins σ H s)(hf:∀b∈fp,yG X pins H b)(ho:∀b∈fp,∃o,s.heap.get? b=some o/\∀v,o.data ≠ .cell v):Inv X (pins++aAP fp s.heap) σ H s :=
 I.pins_of λp hp=>(List.mem_append.mp hp).elim (λz=>I.pin p (mem_append_right _ z)) λz=>by obtain⟨hb,e⟩:=aDQ z;obtain⟨f0,f1,f2,_⟩:=hf p.1 hb;obtain⟨o,e',d⟩:=ho p.1 hb;rw[e] at e';cases e';exact⟨e,f0,f1,f2,d⟩
theorem Inv.unpinned {pins pl:List (Addr×Obj)}{σ:St}{H:Hp}{s:Shared}(I:Inv X (pins++pl) σ H s):Inv X pins σ H s:=I.pins_of λp hp=>I.pin p (mem_append_right _ (mem_append_left _ hp))
theorem vZ {iter:Expr}{body:List Stmt}{wi:TI}{g:TG}{tb:TS}{pos:Pos}(hp:PassesOwn (model X.prog X.w) X.A X.env X.xe)(hc:X.calm=true)(hi:PI X tg iter wi)(hg:PG X tg g)(hb:PSs X body tb)(hs:∀x,foldedSetIterable iter X.env x=pure x:=by intro _;rfl):PS X (.For tg iter body [] pos) (aM1 wi g tb):=by
 intro pins s σ H D I h;refine wpAny_For (thn (hi pins s σ H _ I h) λv s1 h1=>thn h1 λitv s2 h2=>?_) hs;obtain⟨it,fp,tn,J,H2,e,I2,T,st2,f2,W,⟨m0,w0⟩,turn⟩:=h2;subst e;have stat:∀{H':Hp},(∀b∈fp,H' b=none)->∀b∈fp,yG X pins H' b:=λhn b hb=>⟨hn b hb,(f2 b hb).2⟩;refine codeAny_forLoop_any (λn s'=>∃i σ' H',Inv X pins σ' H' s'/\tn i s'.heap/\(∀b∈fp,H' b=none)/\W i n σ' H') ?_ m0 ⟨0,σ,H2,I2,st2,λb hb=>(f2 b hb).1,w0⟩;rintro n s3 ⟨i,σ3,H3,I3,st3,fr3,w3⟩;rcases turn i n σ3 H3 w3 with⟨stop,qn⟩|⟨go,N,hN,step⟩
 ·refine wpAny_passesOwn hp (thn (T.done X rfl rfl rfl hc i pins s3 σ3 H3 X.xe I3 (stat fr3) st3 stop) λr s4 ⟨hr,I4⟩=>?_);subst hr;exact wpAny_execs_nil ⟨σ3,H3,I4,qn⟩
 ·refine wpAny_passesOwn hp (thn (T.item X rfl rfl rfl hc i pins s3 σ3 H3 X.xe I3 (stat fr3) st3 go) λr s4 ⟨u,hr,h4⟩=>?_);subst hr;refine wpAny_passesOwn hp (thn h4 λ_ s5 ⟨x,H5,I5,r5,y5,st5,fr5⟩=>?_);have I5':=I5.pinned (stat fr5) (T.obj _ _ st5);refine wpAny_passesOwn hp (thn (hg _ s5 σ3 H5 x u _ I5' r5 (step x H5 y5)) λ_ s6 ⟨σ6,H6,I6,q6⟩=>?_);refine wpAny_passesOwn hp (thn (hb _ s6 σ6 H6 _ I6 q6) λf s7 q7=>?_);have again:∀{σ7:St}{H7:Hp},Inv X (pins++aAP fp s5.heap) σ7 H7 s7->N σ7 H7->∃m,m<n/\∃i σ' H',Inv X pins σ' H' s7/\tn i s7.heap/\(∀b∈fp,H' b=none)/\W i m σ' H':=λ{σ7 H7} I7 n7=>by obtain⟨m',hm,w7⟩:=hN σ7 H7 n7;refine⟨m',hm,i+1,σ7,H7,I7.unpinned,T.keep _ _ _ st5 λb hb o e=>(I7.pin (b,o) (mem_append_right _ (mem_append_right _ (mX hb e)))).1,λb hb=>?_,w7⟩;obtain⟨o,e,d⟩:=T.obj _ _ st5 b hb;exact(I7.pin (b,o) (mem_append_right _ (mem_append_right _ (mX hb e)))).2.1
  cases f with
  |next=>obtain⟨σ7,H7,I7,n7⟩:=q7;exact again I7 n7
  |cont=>obtain⟨σ7,H7,I7,n7⟩:=q7;exact again I7 n7
  |brk=>obtain⟨σ7,H7,I7,q7⟩:=q7;exact⟨σ7,H7,I7.unpinned,q7⟩
  |ret v=>obtain⟨x7,σ7,H7,I7,r7,q7⟩:=q7;exact⟨x7,σ7,H7,I7.unpinned,r7,q7⟩
end
abbrev R2:=V->V->Hp->VK->Prop
def OpR (X:Cx)(f:Value->Value->Sem Value)(r:R2):Prop :=
 ∀(pins:List (Addr×Obj)) (s:Shared) (σ:St) (H:Hp) (x y:V) (v u:Value) (Q:VK),Inv X pins σ H s->RelV x v->RelV y u->r x y H Q ->
  wpAny (model X.prog X.w) X.A (f v u) (EP X pins σ Q) X.xe s
def UnR (X:Cx)(f:Value->Sem Value)(r:V->Hp->VK->Prop):Prop :=
 ∀(pins:List (Addr×Obj)) (s:Shared) (σ:St) (H:Hp) (x:V) (v:Value) (Q:VK),Inv X pins σ H s->RelV x v->r x H Q ->
  wpAny (model X.prog X.w) X.A (f v) (EP X pins σ Q) X.xe s
def sB (X:Cx)(f:Value)(r:List V->Hp->VK->Prop):Prop :=
 ∀(pins:List (Addr×Obj)) (s:Shared) (σ:St) (H:Hp) (xs:List V) (us:List Value) (Q:VK),Inv X pins σ H s->bZ xs us->r xs H Q ->
  wpAny (model X.prog X.w) X.A (call f us) (EP X pins σ Q) X.xe s
def tOp (r:R2)(ta tb:TE):TE:=λσ H Q=>ta σ H λx H1=>tb σ H1 λy H2=>r x y H2 Q
def tUn (r:V->Hp->VK->Prop)(ta:TE):TE:=λσ H Q=>ta σ H λx H1=>r x H1 Q
def rI (C:Int->Int->Prop)(g:Int->Int->V):R2:=λx y H Q=>∃i j,x=.int i/\y=.int j/\C i j/\Q (g i j) H
def rI0 (g:Int->Int->V):R2:=λx y H Q=>∃i j,x=.int i/\y=.int j/\Q (g i j) H
def rU (g:Int->V):V->Hp->VK->Prop:=λx H Q=>∃i,x=.int i/\Q (g i) H
section
variable {X:Cx}{a b c:Expr}{ta tb tc:TE}{pos:Pos}
theorem aK4 (ha:PE X a ta)(hb:PE X b tb){pins:List (Addr×Obj)}{s:Shared}{σ:St}{H:Hp}{R:V->V->Hp->Prop}(I:Inv X pins σ H s)(h:ta σ H λx H1=>tb σ H1 λy H2=>R x y H2){Q:Value->Shared->Prop}{f:Value->Value->Sem Value}(hf:∀v u s2 x y H2,Inv X pins σ H2 s2->RelV x v->RelV y u->R x y H2->wpAny (model X.prog X.w) X.A (f v u) Q X.xe s2) :
  wpAny (model X.prog X.w) X.A (eval a X.env) (λv s₁=>wpAny (model X.prog X.w) X.A (eval b X.env) (λu s₂=>wpAny (model X.prog X.w) X.A (f v u) Q X.xe s₂) X.xe s₁) X.xe s:=by
 refine thn (ha pins s σ H _ I h) λv s1 ⟨x,H1,I1,r1,q1⟩=>?_;refine thn (hb pins s1 σ H1 _ I1 q1) λu s2 ⟨y,H2,I2,r2,q2⟩=>?_;exact hf v u s2 x y H2 I2 r1 r2 q2
theorem aMW {op:Operator}{r:R2}(ho:OpR X (binaryOp op) r)(ha:PE X a ta)(hb:PE X b tb):PE X (.BinOp a op b pos) (tOp r ta tb):=by intro pins s σ H Q I h;exact wpAny_BinOp (aK4 ha hb I h λv u s2 x y H2 I2 rx ry q=>ho pins s2 σ H2 x y v u Q I2 rx ry q)
theorem aMA {op:UnaryOp}{r:V->Hp->VK->Prop}(ho:UnR X (unaryOp op) r)(ha:PE X a ta):PE X (.UnaryOp op a pos) (tUn r ta):=by intro pins s σ H Q I h;exact UnaryOp_ (thn (ha pins s σ H _ I h) λv s1 ⟨x,H1,I1,r1,q1⟩=>ho pins s1 σ H1 x v Q I1 r1 q1)
theorem opI {f:Value->Value->Sem Value}{C:Int->Int->Prop}{g:Int->Int->Int}(rule:∀(i j:Int)(t u:Tok) (s:Shared) (Q:Value->Shared->Prop) (E:Value->Shared->Prop),C i j->Q (.int (g i j) s.toks) { s with toks:=s.toks+1 }->wpAny (model X.prog X.w) X.A (f (.int i t) (.int j u)) Q E s) :
  OpR X f (rI C λi j=>.int (g i j)):=by
 intro pins s σ H x y v u Q I rx ry h;obtain⟨i,j,rfl,rfl,hc,q⟩:=h;obtain⟨t,rfl⟩:=rx;obtain⟨t',rfl⟩:=ry;exact rule i j t t' s _ _ hc ⟨.int (g i j),H,I.tok _,⟨_,rfl⟩,q⟩
theorem aNl {f:Value->Value->Sem Value}{g:Int->Int->Int}(rule:∀(i j:Int)(t u:Tok) (s:Shared) (Q:Value->Shared->Prop) (E:Value->Shared->Prop),Q (.int (g i j) s.toks) { s with toks:=s.toks+1 }->wpAny (model X.prog X.w) X.A (f (.int i t) (.int j u)) Q E s) :
  OpR X f (rI0 λi j=>.int (g i j)):=by
 intro pins s σ H x y v u Q I rx ry h;obtain⟨i,j,rfl,rfl,q⟩:=h;obtain⟨t,rfl⟩:=rx;obtain⟨t',rfl⟩:=ry;exact rule i j t t' s _ _ ⟨.int (g i j),H,I.tok _,⟨_,rfl⟩,q⟩
theorem aH6 {f:Value->Value->Sem Value}{g:Int->Int->Bool}(rule:∀(i j:Int)(t u:Tok) (s:Shared) (Q:Value->Shared->Prop) (E:Value->Shared->Prop),Q (.bool (g i j)) s->wpAny (model X.prog X.w) X.A (f (.int i t) (.int j u)) Q E s) :
  OpR X f (rI0 λi j=>.bl (g i j)):=by
 intro pins s σ H x y v u Q I rx ry h;obtain⟨i,j,rfl,rfl,q⟩:=h;obtain⟨t,rfl⟩:=rx;obtain⟨t',rfl⟩:=ry;exact rule i j t t' s _ _ ⟨.bl (g i j),H,I,rfl,q⟩
def aNr (i j:Int):Prop:=0<=j/\j<=1000000/\i.natAbs<2^64
theorem aJa:OpR X (binaryOp .Add) (rI0 λi j=>.int (i+j)):=aNl λ_ _ _ _ _ _ _ q=>add_int q
theorem aI7:OpR X (binaryOp .Sub) (rI0 λi j=>.int (i-j)):=aNl λ_ _ _ _ _ _ _ q=>sub_int q
theorem aHM:OpR X (binaryOp .Mod) (rI (λ_ j=>j≠0) λi j=>.int (i.fmod j)):=opI λ_ _ _ _ _ _ _ hc q=>mod_int' hc q
theorem aJj:OpR X (binaryOp .Pow) (rI aNr λi j=>.int (i^j.toNat)):=opI λ_ _ _ _ _ _ _ hc q=>pow_int_small hc.1 hc.2.1 hc.2.2 q
theorem unI {f:Value->Sem Value}{g:Int->Int}(rule:∀(i:Int)(t:Tok) (s:Shared) (Q:Value->Shared->Prop) (E:Value->Shared->Prop),Q (.int (g i) s.toks) { s with toks:=s.toks+1 }->wpAny (model X.prog X.w) X.A (f (.int i t)) Q E s) :
  UnR X f (rU λi=>.int (g i)):=by
 intro pins s σ H x v Q I rx h;obtain⟨i,rfl,q⟩:=h;obtain⟨t,rfl⟩:=rx;exact rule i t s _ _ ⟨.int (g i),H,I.tok _,⟨_,rfl⟩,q⟩
theorem aJM:UnR X (unaryOp .USub) (rU λi=>.int (-i)):=unI λ_ _ _ _ _ q=>neg_int q
end
section
variable {X:Cx}{a b c:Expr}{ta tb tc:TE}{pos:Pos}
theorem aMx:OpR X (compareOp .Lt) (rI0 λi j=>.bl (decide (i<j))):=aH6 λ_ _ _ _ _ _ _ q=>lt_int q
theorem aLP:OpR X (compareOp .LtE) (rI0 λi j=>.bl (decide (i<=j))):=aH6 λ_ _ _ _ _ _ _ q=>le_int q
theorem aL1:OpR X (compareOp .Gt) (rI0 λi j=>.bl (decide (j<i))):=aH6 λ_ _ _ _ _ _ _ q=>gt_int q
theorem aMj:OpR X (compareOp .GtE) (rI0 λi j=>.bl (decide (j<=i))):=aH6 λ_ _ _ _ _ _ _ q=>ge_int q
theorem aAV (b:Expr){op:CmpOp}(h:op ≠ .In:=by decide)(h2:op ≠ .NotIn:=by decide):behindInMarks op b=false:=by
 have e1:(op==CmpOp.In)=false:=by cases op<;>first|rfl|exact absurd rfl h
 have e2:(op==CmpOp.NotIn)=false:=by cases op<;>first|rfl|exact absurd rfl h2
 cases b<;>simp[behindInMarks,e1,e2]
theorem aHp {op:CmpOp}{r:R2}(ho:OpR X (compareOp op) r)(ha:PE X a ta)(hb:PE X b tb)(hm:behindInMarks op b=false):PE X (.Compare a [op] [b] pos) (tOp r ta tb):=by intro pins s σ H Q I h;exact wpAny_Compare1 (aK4 ha hb I h λv u s2 x y H2 I2 rx ry q=>ho pins s2 σ H2 x y v u Q I2 rx ry q) hm
def aMc (t:TE):TT:=λσ H Q=>t σ H λx H'=>∃k,x=.bl k/\Q k H'
theorem aHR {op:CmpOp}{r:R2}(ho:OpR X (compareOp op) r)(ha:PE X a ta)(hb:PE X b tb)(hm:behindInMarks op b=false):PT X (.Compare a [op] [b] pos) (aMc (tOp r ta tb)):=by
 intro pins s σ H Q I h;refine wpAny_isTrue_Compare1 (thn (ha pins s σ H _ I h) λv s1 ⟨x,H1,I1,r1,q1⟩=>thn (hb pins s1 σ H1 _ I1 q1) λu s2 ⟨y,H2,I2,r2,q2⟩ =>
  thn (ho pins s2 σ H2 x y v u _ I2 r1 r2 q2) λc s3 ⟨z,H3,I3,r3,k,e,q3⟩=>?_) hm
 subst e;cases r3;exact wpAny_truthy_bool ⟨H3,I3,q3⟩
theorem aAX:(sizeLine:Nat)<2^63:=by rw[sizeLine_eq];decide
theorem uV {x:V}{us:List Value}(r:bZ [x] us):∃u,us=[u]/\RelV x u:=by
 cases r with
 |cons r1 r2=>cases r2;exact⟨_,rfl,r1⟩
theorem aER:sB X (.builtin "abs") (λxs H Q=>∃i,xs=[.int i]/\Q (.int (if i<0 then -i else i)) H):=by intro pins s σ H xs us Q I r h;obtain⟨i,rfl,q⟩:=h;obtain⟨u,rfl,t,rfl⟩:=uV r;exact call_abs_int λu tk=>⟨.int (if i<0 then -i else i),H,I.tok _,⟨_,rfl⟩,q⟩
theorem aD8:sB X (.type "int") (λxs H Q=>(∃i,xs=[.int i]/\Q (.int i) H) ∨ ∃k,xs=[.bl k]/\Q (.int (if k then 1 else 0)) H):=by
 intro pins s σ H xs us Q I r h;rcases h with⟨i,rfl,q⟩|⟨k,rfl,q⟩
 ·obtain⟨u,rfl,t,rfl⟩:=uV r;exact call_int_int ⟨.int i,H,I,⟨_,rfl⟩,q⟩
 ·obtain⟨u,rfl,r1⟩:=uV r;cases r1;exact call_int_bool ⟨.int (if k then 1 else 0),H,I.tok _,⟨_,rfl⟩,q⟩
end
section
variable {prog:Program}{w:World}{A:Around}{E:Value->Shared->Prop}{s:Shared}{K:Frag}{x dx C f:Addr}{mA:Str->Option Value}{name:Str}{v:Value}
end
section
variable {P:Program}{w:World}{H H':Hp}{h h':Heap}{a C dx:Addr}{fs fs':List (Str×V)}
end
structure Cls (K:Frag)(C:Addr):Prop where
 pg:PySem.W.plainGet K C Str.empty=true
 hd:PySem.W.hasDictIn K C=true
 po:PySem.W.plainOver K C=true
 sa:PySem.W.findIn K (.ref C) "__setattr__" = some (some (.builtin "object.__setattr__"))
section
variable {X:Cx}{pins:List (Addr×Obj)}{σ:St}{H:Hp}{s:Shared}{a C dx:Addr}{fs:List (Str×V)}{f:Str}{v:V}{A:Around}{E:Value->Shared->Prop}
end
section
variable {X:Cx}{o e value:Expr}{f:Str}{pos pos' tpos:Pos}{ta tv:TE}
end
section
variable {X:Cx}{pins:List (Addr×Obj)}{σ:St}{H:Hp}{s:Shared}{A:Around}{E:Value->Shared->Prop}{Q:Value->Shared->Prop}{c:Value}{b:Bool}
end
structure eE (k:Nat)(A:Around):Prop where
 hd:A.handled=none
 dp:A.depth+3*k+5<recursionLimit
 un:A.units+16*k+200<cLine
theorem eE.mono {j k:Nat}{A:Around}(r:eE k A)(h:j<=k):eE j A:=⟨r.hd,by have:=r.dp;omega,by have:=r.un;omega⟩
theorem eE.deeper {k:Nat}{A:Around}(r:eE (k+1) A)(env:Env):eE k (A.deeper env) :=
 ⟨r.hd,by have:=r.dp;show A.depth+1+3*k+5<_;omega,by have:=r.un;show A.units+3+16*k+200<_;omega⟩
theorem eE.depth {k:Nat}{A:Around}(r:eE k A):A.depth<recursionLimit:=by have:=r.dp;omega
theorem eE.units {k:Nat}{A:Around}(r:eE k A):A.units+64<cLine:=by have:=r.un;omega
def aOc:TA:=λ_ H Q=>Q [] H
def aLW (ta:TE)(tr:TA):TA:=λσ H Q=>ta σ H λx H1=>tr σ H1 λxs H2=>Q (x::xs) H2
section
variable {X:Cx}{e:Expr}{es:List Expr}{te:TE}{t:TA}{pos:Pos}
theorem aGp:PA X [] aOc:=λ_ _ _ _ H Q I h=>Calls.spliced_nil ⟨[],H,I,.nil,h⟩
theorem aAu (ha:PE X e te)(hr:PA X es t)(hs:starEach (e::es) X.env=(false,eval e X.env)::starEach es X.env:=by rfl):PA X (e::es) (aLW te t):=by intro pos pins s σ H Q I h;rw[hs];show wpAny _ _ (spliced ((false,eval e X.env)::backTo pos (starEach es X.env))) _ _ s;refine Calls.spliced_cons (thn (ha pins s σ H _ I h) λu s1 ⟨x,H1,I1,r1,q1⟩=>?_);exact thn (hr pos pins s1 σ H1 _ I1 q1) λus s2 ⟨xs,H2,I2,r2,q2⟩=>⟨x::xs,H2,I2,.cons r1 r2,q2⟩
def aOe (t:TA):TE:=λσ H Q=>t σ H λxs H1=>xs.length<=sizeLine/\∀p,H1 p=none->Q (.ref p) (upd H1 p (.tup xs))
def aNH (t:TA):TE:=λσ H Q=>t σ H λxs H1=>xs.length<=sizeLine/\∀p,H1 p=none->Q (.ref p) (upd H1 p (.lst xs))
theorem aJk {x1}(h:PA X es t):PE X (.Tuple es x1 pos) (aOe t):=by intro pins s σ H Q I hq;refine wpAny_Tuple_spliced (thn (h pos pins s σ H _ I hq) λus s1 ⟨xs,H1,I1,r,z,q⟩=>⟨by rw[<- r.length];exact z,?_⟩);have hf:H1 s1.heap.objs.size=none:=I1.hok.fresh (Nat.le_refl _);refine⟨.ref s1.heap.objs.size,upd H1 s1.heap.objs.size (.tup xs),I1.laid (t':=s1.toks) (λb u e=>Heap.get?_push_of_some _ e) (Nat.le_refl _) ?_,rfl,q _ hf⟩;exact⟨z,us,r,⟨_,Heap.get?_push_size _ rfl,rfl,_,rfl⟩⟩
theorem aKq (h:PA X es t):PE X (.List es pos) (aNH t):=by intro pins s σ H Q I hq;refine wpAny_List_spliced (thn (h pos pins s σ H _ I hq) λus s1 ⟨xs,H1,I1,r,z,q⟩=>⟨by rw[<- r.length];exact z,?_⟩);have hf:H1 s1.heap.objs.size=none:=I1.hok.fresh (Nat.le_refl _);refine⟨.ref s1.heap.objs.size,upd H1 s1.heap.objs.size (.lst xs),I1.laid (t':=s1.toks) (λb u e=>Heap.get?_push_of_some _ e) (Nat.le_refl _) ?_,rfl,q _ hf⟩;exact⟨z,us,0,r,Heap.get?_push_size _ rfl⟩
end
abbrev Sp:=List V->Hp->VK->XK->Prop
abbrev CXT:=List Env->Hp->Shared->XK->Value->Shared->Prop
structure aEa (P:Program)(w:World)(K:Frag)(mg:Str->Option Value)(base:Heap)(A:Around)(outer:List Env)(s:Shared)(H:Hp):Prop where
 frames:A.frames=some outer
 mod:Mod K mg base
 bs:∀b o,base.get? b=some o->s.heap.get? b=some o/\H b=none
 bsz:base.objs.size<=s.heap.objs.size
 funs:s.heap.FunFrames base outer
 frf:∀b∈frs outer,H b=none
 hok:HOk P w H s.heap
 bare:AllBare s.gens
def CE (outer:List Env)(P:Program)(w:World)(H:Hp)(s:Shared)(Q:VK)(u:Value)(s':Shared):Prop :=
 ∃v H',s'.os=s.os/\AllBare s'.gens/\Un (frs outer) [] H H' s.heap s'.heap/\HOk P w H' s'.heap/\RelV v u/\Q v H'
def CR (CX:CXT)(outer:List Env)(P:Program)(w:World)(H:Hp)(s:Shared)(Q:VK)(E:XK)(r:Result)(s':Shared):Prop :=
 match r with
 |.ok (.ret u)=>CE outer P w H s Q u s'
 |.ok _=>False
 |.error e=>CX outer H s E e s'
structure oC (P:Program)(w:World)(K:Frag)(mg:Str->Option Value)(base:Heap)(CX:CXT)(k:Nat)(f:Addr)(fd:FuncData)(ps:List Str)(sp:Sp):Prop where
 len:∀vs H Q E,sp vs H Q E->vs.length=ps.length
 run:∀(A:Around)(outer:List Env) (s:Shared) (H:Hp) (args:Args) (us:List Value) (vs:List V) (Q:VK) (E:XK),eE k A->aEa P w K mg base A outer s H->BindsTo s fd args (ps.zip us)->bZ vs us->sp vs H Q E ->
  codeAny (model P w) A (.call (.ref f) args) (CR CX outer P w H s Q E) s
theorem oC.mono {P:Program}{w:World}{K:Frag}{mg:Str->Option Value}{base:Heap}{CX:CXT}{j k:Nat}{f:Addr}{fd:FuncData}{ps:List Str}{sp:Sp}(F:oC P w K mg base CX j f fd ps sp)(h:j<=k) :
  oC P w K mg base CX k f fd ps sp:=⟨F.len,λA outer s H args us vs Q E hr=>F.run A outer s H args us vs Q E (hr.mono h)⟩
theorem oC.imp {P:Program}{w:World}{K:Frag}{mg:Str->Option Value}{base:Heap}{CX:CXT}{k:Nat}{f:Addr}{fd:FuncData}{ps:List Str}{sp sp':Sp}(F:oC P w K mg base CX k f fd ps sp)(h:∀vs H Q E,sp' vs H Q E->sp vs H Q E):oC P w K mg base CX k f fd ps sp' :=
 ⟨λvs H Q E q=>F.len vs H Q E (h _ _ _ _ q),λA outer s H args us vs Q E hr he hb hv hs=>F.run A outer s H args us vs Q E hr he hb hv (h _ _ _ _ hs)⟩
section
variable {X:Cx}{pins:List (Addr×Obj)}{σ:St}{H:Hp}{s s':Shared}
theorem Inv.env0 (I:Inv X pins σ H s):aEa X.prog X.w X.K X.mg X.base X.A X.stack s H :=
 ⟨I.ok.frames,I.ok.mod,I.bs,Nat.le_trans I.ok.bsz I.sz,I.stack,I.stkFree,I.hok,I.bare⟩
theorem Inv.after {Q:VK}{u:Value}(I:Inv X pins σ H s)(h:CE X.stack X.prog X.w H s Q u s'):EP X pins σ Q u s':=by obtain⟨v,H',os,bare,un,hok,r,q⟩:=h;obtain⟨hh,g,d,t,os'⟩:=s';obtain rfl:os'=s.os:=os;exact⟨v,H',I.call (h':=hh) (g':=g) (d':=d) (t':=t) (ch:=[]) un hok bare (λb z=>absurd z (by simp)),r,q⟩
end
def aL9 (sp:Sp)(dvs:List V)(E:XK)(t:TA):TE:=λσ H Q=>t σ H λvs H1=>sp (vs++dvs) H1 Q E
def uZ (K:Frag)(fd:FuncData)(ps:List Str)(ds:List Value):Prop :=
 ∀(s:Shared)(us:List Value),K.In s.heap->(us++ds).length=ps.length->BindsTo s fd ⟨us,[]⟩ (ps.zip (us++ds))
theorem uZ.all {K:Frag}{fd:FuncData}{ps:List Str}(h:∀us:List Value,us.length=ps.length->bindArgs fd ⟨us,[]⟩=pure (ps.zip us)):uZ K fd ps []:=λs us _ hl=>by rw[append_nil] at hl ⊢;exact .of_eq (h us hl)
def aAl (CX:CXT)(X:Cx)(E:XK):Prop:=∀(pins:List (Addr×Obj)) (σ:St) (H:Hp) (s:Shared) (e:Value) (s':Shared),Inv X pins σ H s->CX X.stack H s E e s'->X.xe e s'
section
variable {X:Cx}{CX:CXT}{k:Nat}{f C:Addr}{fd:FuncData}{ps:List Str}{sp:Sp}{dvs:List V}{ds:List Value}{E:XK}{x m:Str}{p pos apos:Pos}{e o:Expr}{es:List Expr}{ta:TE}{t:TA}
theorem aGh {pins:List (Addr×Obj)}{σ:St}{H:Hp}{s:Shared}{Q:VK}{us:List Value}{vs:List V}(F:oC X.prog X.w X.K X.mg X.base CX k f fd ps sp)(hr:eE k X.A)(hb:uZ X.K fd ps ds)(hd:bZ dvs ds)(hx:aAl CX X E)(I:Inv X pins σ H s)(r:bZ vs us)(h:sp (vs++dvs) H Q E):wpAny (model X.prog X.w) X.A (call (.ref f) us) (EP X pins σ Q) X.xe s:=by
 have r2:bZ (vs++dvs) (us++ds):=r.append hd;have hl:(us++ds).length=ps.length:=by rw[<- r2.length];exact F.len _ _ _ _ h
 refine wpAny_call (codeAny_mono (F.run X.A X.stack s H ⟨us,[]⟩ (us++ds) (vs++dvs) Q E hr I.env0 (hb s us I.kIn hl) r2 h) λr s' hq=>?_);cases r with
 |error e=>exact hx pins σ H s e s' I hq
 |ok fl =>
  cases fl with
  |ret u=>exact I.after hq
  |next=>exact False.elim hq
  |brk=>exact False.elim hq
  |cont=>exact False.elim hq
theorem aIb (F:oC X.prog X.w X.K X.mg X.base CX k f fd ps sp)(hr:eE k X.A)(hg:Gl X x)(hm:X.mg x=some (.ref f))(hk:keepIn X.K (.ref f)=true)(hb:uZ X.K fd ps ds)(hd:bZ dvs ds)(hx:aAl CX X E)(ha:PA X (e::es) t)(hdb:(x==("__debug__":Str))=false:=by decide)(he:starEach (e::es) X.env=(false,eval e X.env)::starEach es X.env:=by rfl)(hpl:(backTo pos (starEach es X.env)).any (·.1)=false:=by rfl) :
  PE X (.Call (.Name x p) (e::es) [] pos) (aL9 sp dvs E t):=by
 intro pins s σ H Q I h;refine wpAny_Call_Name_kw (aAm I hg hm ?_ hdb);refine callWith_K (h₀:=X.base) I.ok.mod.kin hk (thn (ha pos pins s σ H _ I h) λus s1 ⟨vs,H1,I1,r,q⟩=>⟨I1.kIn,?_⟩) he hpl;exact aGh F hr hb hd hx I1 r q
end
section
variable {X:Cx}{CX:CXT}{k:Nat}{f C:Addr}{fd:FuncData}{ps ks:List Str}{sp:Sp}{E:XK}{x m:Str}{p pos apos kpos:Pos}{e o:Expr}{es:List Expr}{kws:List Keyword}{te ta:TE}{t tk:TA}{nm:Option Str}
variable {g:List Value->List Value->List Value}{gV:List V->List V->List V}
end
structure aR (N P:List Str)(sc:Scope):Prop where
 kind:sc.kind=.function
 co:sc.isCoroutine=false
 gen:sc.isGenerator=false
 nd:N.Nodup
 pre:N.take P.length=P
 par:∀x∈P,sc.names.lookup x=some .local∨sc.names.lookup x=some .cell
 nofree:∀y∈sc.names,y.2 ≠ .free
theorem yY {kindOf:Str->Option NameKind}{x:Str}:∀{binds:List (Str×Value)}{m:Str->Option Value},(∀v,(x,v)∉binds)->bindL kindOf binds m x=m x
 |[],_,_=>rfl
 |(n,v)::r,m,h=>by
  unfold bindL;rw[yY λw hw=>h w (mem_cons_of_mem _ hw)];split
  ·have:x≠n:=by rintro rfl;exact h v mem_cons_self
   simp[this]
  ·rfl
theorem yT {kindOf:Str->Option NameKind}{x:Str}:∀{binds:List (Str×Value)}{m:Str->Option Value},(∀v,(x,v)∉binds)->bindC kindOf binds m x=m x
 |[],_,_=>rfl
 |(n,v)::r,m,h=>by
  unfold bindC;rw[yT λw hw=>h w (mem_cons_of_mem _ hw)];split
  ·rfl
  ·have:x≠n:=by rintro rfl;exact h v mem_cons_self
   simp[this]
theorem yL {kindOf:Str->Option NameKind}{x:Str}{v:Value}:∀{P:List Str}{vs:List Value} {i:Nat} {m:Str->Option Value},P.Nodup->P[i]?=some x->vs[i]?=some v->kindOf x=some .local ->
  bindL kindOf (P.zip vs) m x=some v
 |[],_,_,_,_,h,_,_=>by simp at h
 |_::_,[],_,_,_,_,h,_=>by simp at h
 |p::P,w::vs,0,m,nd,h1,h2,hk=>by simp at h1 h2;subst h1;subst h2;show bindL kindOf ((p,w)::P.zip vs) m p=_;unfold bindL;rw[yY λv hv=>(List.nodup_cons.mp nd).1 (List.of_mem_zip hv).1,if_pos hk];simp
 |p::P,w::vs,i+1,m,nd,h1,h2,hk=>by show bindL kindOf ((p,w)::P.zip vs) m x=_;unfold bindL;exact yL (i:=i) (List.nodup_cons.mp nd).2 (by simpa using h1) (by simpa using h2) hk
theorem yN {kindOf:Str->Option NameKind}{x:Str}{v:Value}:∀{P:List Str}{vs:List Value} {i:Nat} {m:Str->Option Value},P.Nodup->P[i]?=some x->vs[i]?=some v->kindOf x≠some .local ->
  bindC kindOf (P.zip vs) m x=some v
 |[],_,_,_,_,h,_,_=>by simp at h
 |_::_,[],_,_,_,_,h,_=>by simp at h
 |p::P,w::vs,0,m,nd,h1,h2,hk=>by simp at h1 h2;subst h1;subst h2;show bindC kindOf ((p,w)::P.zip vs) m p=_;unfold bindC;rw[yT λv hv=>(List.nodup_cons.mp nd).1 (List.of_mem_zip hv).1,if_neg hk];simp
 |p::P,w::vs,i+1,m,nd,h1,h2,hk=>by show bindC kindOf ((p,w)::P.zip vs) m x=_;unfold bindC;exact yN (i:=i) (List.nodup_cons.mp nd).2 (by simpa using h1) (by simpa using h2) hk
noncomputable def start (N:List Str)(vs:List V):St:=vs.map some++replicate (N.length-vs.length) none
noncomputable def tS (CX:CXT)(P:Program)(w:World)(K:Frag)(mg:Str->Option Value)(base:Heap)(N:List Str)(qual:Str)(scope:Scope)(f:Addr)(cd:Value)(A:Around)(outer:List Env)(s:Shared)(H:Hp)(E:XK):Cx where
 prog:=P
 w:=w
 K:=K
 mg:=mg
 base:=base
 A:=A.deeper (envOfC qual scope s.heap.objs.size f cd)
 N:=N
 s₀:=s
 H₀:=H
 env:=envOfC qual scope s.heap.objs.size f cd
 outer:=outer
 stack:=envOfC qual scope s.heap.objs.size f cd::outer
 ex:=[]
 calm:=true
 fn:=λ_=>true
 pn:=[]
 xe:=λe s'=>wpAny (model P w) (A.deeper (envOfC qual scope s.heap.objs.size f cd)) (leaving (envOfC qual scope s.heap.objs.size f cd) e) (λ_ s''=>CX outer H s E e s'') (λe' s''=>CX outer H s E e' s'') s'
theorem aA6 {sc:Scope}{n:Nat}{x:Str}(h:sc.names.lookup x=some .cell):∃c,(cellsFrom n sc.names []).lookup x=some c:=by have q:=PySem.W.cellsFrom_some sc.names n [] (.inl h);exact Option.isSome_iff_exists.mp q
theorem aEt {CX:CXT}{P:Program}{w:World}{K:Frag}{mg:Str->Option Value}{base:Heap}{N ps:List Str}{qual:Str}{scope:Scope}{f:Addr}{cd:Value}{A:Around}{outer:List Env}{s s1:Shared}{H:Hp}{E:XK}{us:List Value}{vs:List V}(S:aR N ps scope)(hd:A.handled=none)(e0:aEa P w K mg base A outer s H)(hl:vs.length=ps.length)(r:bZ vs us)(x:InCallC s s.heap.objs.size (bindL (envOfC qual scope s.heap.objs.size f cd).kindOf (ps.zip us) λ_=>none) (cellsFrom (s.heap.objs.size+1) scope.names []) (bindC (envOfC qual scope s.heap.objs.size f cd).kindOf (ps.zip us) λ_=>none) s1) :
  Inv (tS CX P w K mg base N qual scope f cd A outer s H E) [] (start N vs) H s1:=by
 have hpl:ps.length<=N.length:=by have:=congrArg List.length S.pre;rw[length_take] at this;omega
 obtain⟨h1,tk,rfl,hk⟩:=x.done;have noA:∀b:Addr,b∉(tS CX P w K mg base N qual scope f cd A outer s H E).ex:=λb z=>absurd (show b∈([]:List Addr) from z) (by simp);refine⟨⟨e0.mod,S.kind,rfl,rfl,Nat.le_refl _,λy z c h1 h2=>?_,λy hy=>?_,λy c _ h=>?_,λ_=>hd,Around.frames_deeper e0.frames,.inr ⟨rfl,rfl⟩,λb z=>absurd z (noA b),e0.bs,e0.bsz,λb _ _=>noA b,λb z=>absurd z (noA b),e0.funs,e0.frf⟩,
  rfl,e0.bare,Un.kept hk,⟨_,x.toInCall.ns,λi y v h1 h2 h3=>?_⟩,λy c h=>⟨_,x.cell y c h⟩,e0.hok.fresh (Nat.le_refl _),λy c h=>?_,λp hp=>absurd (show p∈([]:List (Addr×Obj)) from hp) (by simp),e0.hok.kept hk,?_⟩
 ·exact name_of_addr x.apart (PySem.mem_of_lookup h1) (PySem.mem_of_lookup h2)
 ·have hy:scope.names.lookup y=some .cell∨scope.names.lookup y=some .free:=hy;rcases hy with hy|hy
  ·exact aA6 hy
  ·exact absurd rfl (S.nofree _ (PySem.mem_of_lookup hy))
 ·exact Nat.le_of_lt (x.above y c (PySem.mem_of_lookup h))
 ·have hi:i<vs.length:=by
   unfold start at h2;by_cases hi:i<vs.length
   ·exact hi
   ·rw[List.getElem?_append_right (by simpa using hi)] at h2;rw[List.getElem?_replicate] at h2;split at h2<;>cases h2
  have ha:vs[i]?=some v:=by
   unfold start at h2;rw[List.getElem?_append_left (by simpa using hi),getElem?_map] at h2;cases e:vs[i]? with
   |none=>rw[e] at h2;cases h2
   |some a=>rw[e] at h2;cases h2;rfl
  obtain⟨u,hu,rv⟩:=r.get ha;have hp:ps[i]?=some y:=by rw[<- S.pre,List.getElem?_take_of_lt (by omega)];exact h1
  have ndP:ps.Nodup:=by rw[<- S.pre];exact S.nd.sublist (List.take_sublist _ _)
  refine⟨u,rv,?_⟩;rcases S.par y (mem_of_getElem? hp) with k|k
  ·exact .inl ⟨k,yL ndP hp hu k⟩
  ·obtain⟨c,e⟩:=aA6 (n:=s.heap.objs.size+1) k;refine .inr ⟨.inl k,c,e,?_⟩;have q:=x.cell y c e;rw[yN ndP hp hu (by show scope.names.lookup y≠_;rw[k];decide)] at q;exact q
 ·exact e0.hok.fresh (Nat.le_of_lt (x.above y c (PySem.mem_of_lookup h)))
 ·unfold start;show _=N.length;rw[length_append,length_map,List.length_replicate];omega
theorem aIH {CX:CXT}{P:Program}{w:World}{K:Frag}{mg:Str->Option Value}{base:Heap}{k:Nat}{f:Addr}{name qual:Str}{params:Arguments}{body:List Stmt}{scope:Scope}{dV kV doc pm cdv ct oc:Value}{an od:Option Addr}{osl:Array (Option Value)}{N ps:List Str}{sp:Sp}(lk:K.lookup f=some ⟨oc,od,.func (fnOf name qual params body scope dV kV doc pm an cdv ct),osl⟩)(hcd:codeIn K cdv qual=true)(S:aR N ps scope)(len:∀vs H Q E,sp vs H Q E->vs.length=ps.length)(hbody:∀(A:Around)(outer:List Env) (s:Shared) (H:Hp) (vs:List V) (Q:VK) (E:XK),eE k (A.deeper (envOfC qual scope s.heap.objs.size f cdv))->sp vs H Q E ->
   ∃t,PSs (tS CX P w K mg base N qual scope f cdv A outer s H E) body t/\t { nx:=λ_ H'=>Q .non H',rt:=Q } (start N vs) H) :
  oC P w K mg base CX (k+1) f (fnOf name qual params body scope dV kV doc pm an cdv ct) ps sp:=by
 refine⟨len,λA outer s H args us vs Q E hr e0 hb r hsp=>?_⟩;have hl:=len _ _ _ _ hsp;have KX:K.In s.heap:=e0.mod.kin.keeps λb o e=>(e0.bs b o e).1;have lim:s.heap.NoLimit:=e0.mod.nolimit.keeps λb o e=>(e0.bs b o e).1;have hkind:∀y∈ps.zip us,scope.names.lookup y.1=some .local∨(scope.names.lookup y.1=some .cell/\((cellsFrom (s.heap.objs.size+1) scope.names []).lookup y.1).isSome=true):=λ⟨n,v⟩ hy=>by
  rcases S.par n (List.of_mem_zip hy).1 with q|q
  ·exact .inl q
  ·exact .inr ⟨q,PySem.W.cellsFrom_some _ _ _ (.inl q)⟩
 refine codeAny_call_function hr.depth (KX _ _ lk) rfl S.co S.gen rfl (PySem.W.codeRec_of KX hcd) (hb _ _ _ _ ?_);refine wpAny_newFunctionEnv_cells S.kind hkind λenv he s1 x=>?_;subst he;refine⟨lim.keeps x.toInCall.keep,codeAny_func ?_⟩;obtain⟨t,ht,hq⟩:=hbody A outer s H vs Q E (hr.deeper _) hsp;have I:Inv (tS CX P w K mg base N qual scope f cdv A outer s H E) [] (start N vs) H s1:=aEt S hr.hd e0 hl r x;refine wpAny_mono (ht [] s1 (start N vs) H _ I hq) (λfl s' hs=>?_) λe s' hs=>hs;have fin:∀{σ':St}{H':Hp} {v:V} {u:Value},Inv (tS CX P w K mg base N qual scope f cdv A outer s H E) [] σ' H' s'->RelV v u->Q v H'->CE outer P w H s Q u s' :=
  λ{σ' H' v u} J rv q=>⟨v,H',J.os,J.bare,J.base,J.hok,rv,q⟩
 cases fl with
 |ret u =>
  obtain⟨v,σ',H',J,rv,q⟩:=hs;exact fin J rv q
 |next =>
  obtain⟨σ',H',J,q⟩:=hs;exact fin (v:=V.non) (u:=Value.none) J rfl q
 |brk =>
  obtain⟨_,_,_,q⟩:=hs;exact False.elim q
 |cont =>
  obtain⟨_,_,_,q⟩:=hs;exact False.elim q
section
variable {X:Cx}{x:Str}{p pos:Pos}{e:Expr}{es:List Expr}{t:TA}{id T:String}{r:List V->Hp->VK->Prop}
def tCB (r:List V->Hp->VK->Prop)(t:TA):TE:=λσ H Q=>t σ H λvs H1=>r vs H1 Q
theorem aFF (hc:sB X (.builtin id) r)(hg:Gl X x)(hm:X.mg x = none)(hv:bootBuiltins x = some (.builtin id))(ha:PA X (e :: es) t)(hn:x ≠ "__name__":=by decide)(hdb:(x==("__debug__":Str))=false:=by decide)(he:starEach (e::es) X.env=(false,eval e X.env)::starEach es X.env:=by rfl)(hpl:(backTo pos (starEach es X.env)).any (·.1)=false:=by rfl):PE X (.Call (.Name x p) (e::es) [] pos) (tCB r t):=by intro pins s σ H Q I h;refine wpAny_Call_Name_kw (xU I hg hm hv ?_ hn hdb);exact PyProof.Rows.callWith_builtin1 (thn (ha pos pins s σ H _ I h) λus s1 ⟨vs,H1,I1,r1,q1⟩=>hc pins s1 σ H1 vs us Q I1 r1 q1) he hpl
theorem aD6 (hc:sB X (.type T) r)(hg:Gl X x)(hm:X.mg x = none)(hv:bootBuiltins x = some (.type T))(ha:PA X (e :: es) t)(hn:x ≠ "__name__":=by decide)(hdb:(x==("__debug__":Str))=false:=by decide)(he:starEach (e::es) X.env=(false,eval e X.env)::starEach es X.env:=by rfl)(hpl:(backTo pos (starEach es X.env)).any (·.1)=false:=by rfl):PE X (.Call (.Name x p) (e::es) [] pos) (tCB r t):=by intro pins s σ H Q I h;refine wpAny_Call_Name_kw (xU I hg hm hv ?_ hn hdb);exact PyProof.Rows.callWith_type1 (thn (ha pos pins s σ H _ I h) λus s1 ⟨vs,H1,I1,r1,q1⟩=>hc pins s1 σ H1 vs us Q I1 r1 q1) he hpl
end
end L2
namespace HT
open PySem PyProof.Rows
theorem rcLt_int (A:Around)(s:Shared)(a:Int)(t:Tok)(c:Int)(u:Tok)(prog:Program)(w:World)(E:Value->Shared->Prop)(Q:Value->Shared->Prop)(h:Q (.bool (decide (a<c))) s) :
  wpAny (model prog w) A (richCompare .Lt (.int a t) (.int c u)) Q E s :=
 (PyProof.Rows.lt_int h:wpAny (model prog w) A (compareOp .Lt (.int a t) (.int c u)) Q E s)
section
open PySem.SeqAt
open PySem.AutoSeq1 (wpAny_loadPart')
open PySem.MeetsSeq PySem.MeetsSeq2 PySem.MeetsSeq3
end
section
variable {prog:Program}{w:World}{A:Around}{E:Value->Shared->Prop}{s:Shared}
theorem cat_tup {t b:Addr}{vs ws:List Value}{Q:Value->Shared->Prop}(ht:IsTup s.heap t vs.toArray)(hb:IsTup s.heap b ws.toArray)(hv:vs≠[])(h1:ws = []->Q (.ref t) s)(h2:ws≠[]->Q (.ref s.heap.objs.size) { s with heap:=s.heap.push { cls:=.type "tuple",data:=.seq (vs++ws).toArray } })(hsz:vs.length+ws.length<=sizeLine):wpAny (model prog w) A (binaryOp .Add (.ref t) (.ref b)) Q E s:=by
 obtain⟨⟨cls,dd,data,sl⟩,ho,hc,n,hd⟩:=id ht;obtain⟨⟨cls2,dd2,data2,sl2⟩,ho2,hc2,n2,hd2⟩:=id hb;simp only at hc hd hc2 hd2;subst hc hd hc2 hd2;have e:vs.toArray++ws.toArray=(vs++ws).toArray:=by simp
 by_cases hw:ws=[]
 ·exact concat_meets ⟨_,ho,rfl⟩ ⟨_,ho2,rfl⟩ noFill_tuple_add seq_tuple_add PySem.F.slot_tuple_add PySem.F.entry_tuple_add (PySem.F.args_tuple_add_2 _ _)
   (tuple_addW1 t b vs.toArray ws.toArray n n2 dd dd2 sl sl2 (by simpa using hv) (by simp[hw])) ⟨ho,ho2,h1 hw⟩
 ·refine concat_meets ⟨_,ho,rfl⟩ ⟨_,ho2,rfl⟩ noFill_tuple_add seq_tuple_add PySem.F.slot_tuple_add PySem.F.entry_tuple_add (PySem.F.args_tuple_add_2 _ _)
   (tuple_addW2 t b vs.toArray ws.toArray n n2 dd dd2 sl sl2 (by simpa using hv) (by simpa using hw) (by rw[size_toArray,size_toArray];exact hsz)) ⟨ho,ho2,?_⟩
  rw[e];exact h2 hw
noncomputable def sIx (n d:Nat):Option Int->Nat
 |none=>d
 |some v=>if v<0 then (v+(n:Int)).toNat else min v.toNat n
theorem sIx_none (n d:Nat):sIx n d none=d:=rfl
theorem sIx_nat (n d k:Nat):sIx n d (some (k:Int))=min k n:=by show(if (k:Int)<0 then ((k:Int)+(n:Int)).toNat else min (k:Int).toNat n)=min k n;rw[if_neg (by omega),Int.toNat_natCast]
theorem aK3 (n d:Nat)(hd:d<=n)(o:Option Int):sIx n d o<=n:=by
 cases o with
 |none=>exact hd
 |some v =>
  show(if v<0 then (v+(n:Int)).toNat else min v.toNat n)<=n;by_cases hv:v<0
  ·rw[if_pos hv];omega
  ·rw[if_neg hv];exact Nat.min_le_right _ _
theorem aDn (v:Int)(n d:Nat):(if v<0 then max (v+(n:Int)) 0 else min v (n:Int))=((sIx n d (some v):Nat):Int):=by
 show(if v<0 then max (v+(n:Int)) 0 else min v (n:Int))=(((if v<0 then (v+(n:Int)).toNat else min v.toNat n):Nat):Int);by_cases hv:v<0
 ·simp only[if_pos hv];omega
 ·simp only[if_neg hv];omega
theorem aCW (lo hi:Option Int)(n:Nat):Builtin.Slice.sliceAdjust lo hi 1 (n:Int)=(((sIx n 0 lo:Nat):Int),((sIx n n hi:Nat):Int)):=by
 have h1:¬((1:Int)<0):=by omega
 unfold Builtin.Slice.sliceAdjust;simp only[h1,if_false];refine Prod.ext ?_ ?_
 ·cases lo with
  |none=>rfl
  |some v=>exact aDn v n 0
 ·cases hi with
  |none=>rfl
  |some v=>exact aDn v n n
theorem aCc (i j:Nat):Builtin.Slice.slicePlaces (i:Int) (j:Int) 1=j-i:=by
 unfold Builtin.Slice.slicePlaces;have h1:(1:Int) > 0:=by omega
 simp only[h1,if_true,Int.ediv_one];split<;>omega
theorem wG {v:Value}{o:Option Int}{Q:Option Int->Shared->Prop}(p:IsPart v o)(h:Q o s):wpAny (model prog w) A (Builtin.Slice.slicePartIndex v) Q E s:=by
 cases p with
 |none=>exact slicePart_none h
 |int i t=>exact slicePart_int h
theorem uK {sl:Addr}{vl vu:Value}{lo hi:Option Int}{n:Nat}{Q:Int×Int×Nat->Shared->Prop}(hs:s.heap.IsSliceOf sl vl vu .none)(pl:IsPart vl lo)(pu:IsPart vu hi)(h:Q (((sIx n 0 lo:Nat):Int),1,sIx n n hi-sIx n 0 lo) s):wpAny (model prog w) A (Builtin.Slice.sliceApplied (.ref sl) (pure (n:Int))) Q E s:=by obtain⟨os,hos,hcs,hds⟩:=id hs;unfold Builtin.Slice.sliceApplied Builtin.Slice.sliceFields;refine wpAny_bind (wpAny_bind (wpAny_field hos hds (x:=vl) rfl (wpAny_bind (wpAny_field hos hds (x:=vu) rfl (wpAny_bind (wpAny_field hos hds (x:=.none) rfl (wpAny_pure ?_)))))));refine wpAny_bind (slicePart_none ?_);show wpAny _ _ (if ((1:Int)==0)=true then _ else _) _ _ s;rw[if_neg (by decide)];refine wpAny_bind (wG pl (wpAny_bind (wG pu (wpAny_bind (wpAny_pure ?_)))));show wpAny _ _ (match Builtin.Slice.sliceAdjust lo hi 1 (n:Int) with|(lo,hi)=>pure (lo,(1:Int),Builtin.Slice.slicePlaces lo hi 1)) _ _ s;rw[aCW lo hi n];show wpAny _ _ (pure (((sIx n 0 lo:Nat):Int),(1:Int),Builtin.Slice.slicePlaces ((sIx n 0 lo:Nat):Int) ((sIx n n hi:Nat):Int) 1)) _ _ s;rw[aCc];exact wpAny_pure h
theorem aE7 (xs:Array Value)(i k:Nat):((range k).filterMap λ(m:Nat)=>xs[((i:Int)+(m:Int)*1).toNat]?).toArray=((xs.toList.drop i).take k).toArray:=by
 have e:(λ(m:Nat)=>xs[((i:Int)+(m:Int)*1).toNat]?)=λm=>xs[i+m]?:=by
  funext m;have:((i:Int)+(m:Int)*1).toNat=i+m:=by omega
  rw[this]
 rw[e];have:=pick_run xs i k;rw[List.filterMap_map] at this;have e2:((λx=>xs[x]?) ∘ λx=>i+x)=λm=>xs[i+m]?:=rfl;rw[e2] at this;rw[this]
theorem getItem_tuple_cut {t sl:Addr}{items:Array Value}{vl vu:Value}{lo hi:Option Int}{Q:Value->Shared->Prop}(ht:IsTup s.heap t items)(hs:s.heap.IsSliceOf sl vl vu .none)(pl:IsPart vl lo)(pu:IsPart vu hi)(hw:¬(sIx items.size 0 lo=0/\sIx items.size items.size hi=items.size))(h:Q (.ref s.heap.objs.size) { s with heap:=s.heap.push { cls:=.type "tuple",data:=.seq ((items.toList.drop (sIx items.size 0 lo)).take (sIx items.size items.size hi-sIx items.size 0 lo)).toArray } })(hsz:items.size<=sizeLine):wpAny (model prog w) A (getItem (.ref t) (.ref sl)) Q E s:=by
 have htake:sizeOk (.seq ((items.toList.drop (sIx items.size 0 lo)).take (sIx items.size items.size hi-sIx items.size 0 lo)).toArray):=by show((items.toList.drop (sIx items.size 0 lo)).take (sIx items.size items.size hi-sIx items.size 0 lo)).toArray.size<=sizeLine;rw[size_toArray,length_take,length_drop,Array.length_toList];omega
 have hj:sIx items.size items.size hi<=items.size:=aK3 _ _ (Nat.le_refl _) hi;obtain⟨os,hos,hcs,hds⟩:=id hs;have hTs:s.TypeIs (.ref sl) "slice":=⟨os,hos,hcs⟩;unfold getItem;try with_reducible refine wpAny_holding ?_
 first|refine wpAny_bind (wpAny_pure ?_)|skip
 refine wpAny_bind (wpAny_sequenceKey ht.typeIs (by decide) ?_);refine wpAny_bind (wpAny_callSpecial?_slot (name:=Str.ofString "__getitem__") ht.typeIs PyProof.Rows.slot_tuple_getitem
  (wpAny_call_entry PyProof.Rows.slot_tuple_getitem ht.typeIs entry_tuple_getitem ?_ (args_tuple_getitem _ _)))
 show wpAny _ _ (Builtin.Tuple.tupleItemsOf (.ref t) >>= _) _ _ s;refine wpAny_bind (tupleItemsOf_ ht ?_);refine wpAny_bind (wpAny_typeOf hTs ?_);rw[if_pos (by decide)];refine wpAny_bind (uK hs pl pu ?_);have hno:¬((((sIx items.size 0 lo:Nat):Int)==0&&(1:Int)==1&&(sIx items.size items.size hi-sIx items.size 0 lo)==items.size)=true):=by intro q;rw[Bool.and_eq_true,Bool.and_eq_true] at q;have q1:((sIx items.size 0 lo:Nat):Int)=0:=eq_of_beq q.1.1;have q2:sIx items.size items.size hi-sIx items.size 0 lo=items.size:=eq_of_beq q.2;exact hw ⟨by omega,by omega⟩
 show wpAny _ _ (if (((sIx items.size 0 lo:Nat):Int)==0&&(1:Int)==1&&(sIx items.size items.size hi-sIx items.size 0 lo)==items.size)=true then _ else _) _ _ s;rw[if_neg hno,aE7];first
  |exact wpAny_bind (m:=Builtin.Tuple.tupleExact _) (wpAny_newObj_type (wpAny_pure ⟨_,rfl,wpAny_pure h⟩) htake)
  |exact wpAny_bind (m:=Builtin.Tuple.tupleExact _) (wpAny_newObj_type (wpAny_bind (wpAny_pure (wpAny_pure ⟨_,rfl,wpAny_pure h⟩))) htake)
  |exact wpAny_bind (wpAny_bind (m:=Builtin.Tuple.tupleExact _) (wpAny_newObj_type (wpAny_pure (wpAny_pure ⟨_,rfl,wpAny_pure h⟩)) htake))
  |exact wpAny_bind (wpAny_bind (m:=Builtin.Tuple.tupleExact _) (wpAny_newObj_type (wpAny_pure ⟨_,rfl,wpAny_pure h⟩) htake))
end
end HT
namespace L2
open PySem PySem.Spec PyProof.Rows
abbrev TO:=St->Hp->(Option Int->Hp->Prop)->Prop
def PO (X:Cx)(e:Option Expr)(t:TO):Prop :=
 ∀(pins:List (Addr×Obj)) (s:Shared) (σ:St) (H:Hp) (Q:Option Int->Hp->Prop),Inv X pins σ H s->t σ H Q ->
  wpAny (model X.prog X.w) X.A (evalPart e X.env) (λu s'=>∃o H',Inv X pins σ H' s'/\IsPart u o/\Q o H') X.xe s
def aHm:TO:=λ_ H Q=>Q none H
def aMu (t:TE):TO:=λσ H Q=>t σ H λx H1=>∃i,x=.int i/\Q (some i) H1
section
variable {X:Cx}{e:Expr}{te:TE}{lo hi:Option Expr}{tl th:TO}{pos p2:Pos}
theorem aGW:PO X none aHm:=by intro pins s σ H Q I h;rw[evalPart_none];exact wpAny_pure ⟨none,H,I,.none,h⟩
theorem aH9 (h:PE X e te):PO X (some e) (aMu te):=by intro pins s σ H Q I hw;rw[evalPart_some];refine thn (h pins s σ H _ I hw) λu s1 ⟨x,H1,I1,r1,q1⟩=>?_;obtain⟨i,rfl,q⟩:=q1;obtain⟨t,rfl⟩:=r1;exact⟨some i,H1,I1,.int i t,q⟩
def SlR (X:Cx)(r:V->Option Int->Option Int->Hp->VK->Prop):Prop :=
 ∀(pins:List (Addr×Obj)) (s:Shared) (σ:St) (H:Hp) (x:V) (v vl vu:Value) (lo hi:Option Int) (sl:Addr) (Q:VK),Inv X pins σ H s->RelV x v->s.heap.IsSliceOf sl vl vu .none->IsPart vl lo->IsPart vu hi->r x lo hi H Q ->
  ∃T id,typeLookup (.type T) "__getitem__"=pure (some (.builtin id))/\s.TypeIs v T/\wpAny (model X.prog X.w) X.A (getItem v (.ref sl)) (EP X pins σ Q) X.xe s
def tSl (r:V->Option Int->Option Int->Hp->VK->Prop)(te:TE)(tl th:TO):TE:=λσ H Q=>te σ H λx H1=>tl σ H1 λl H2=>th σ H2 λu H3=>r x l u H3 Q
theorem aBy {r:V->Option Int->Option Int->Hp->VK->Prop}(hr:SlR X r)(he:PE X e te)(hl:PO X lo tl)(hu:PO X hi th):PE X (.Subscript e (.Slice lo hi none p2) pos) (tSl r te tl th):=by intro pins s σ H Q I h;refine Subscript_ (thn (he pins s σ H _ I h) λv s1 ⟨x,H1,I1,r1,q1⟩=>?_);refine wpAny_Slice (thn (hl pins s1 σ H1 _ I1 q1) λvl s2 ⟨l,H2,I2,pl,q2⟩=>thn (hu pins s2 σ H2 _ I2 q2) λvu s3 ⟨u,H3,I3,pu,q3⟩=>?_);rw[evalPart_none];refine wpAny_pure ?_;have I4:Inv X pins σ H3 { s3 with heap:=s3.heap.push { cls:=.type "slice",data:=.fields #[vl,vu,.none] } }:=I3.kept (t':=s3.toks) λb ob q=>Heap.get?_push_of_some _ q;obtain⟨T,id,hT,ht,hg⟩:=hr pins { s3 with heap:=s3.heap.push { cls:=.type "slice",data:=.fields #[vl,vu,.none] } } σ H3 x v vl vu l u s3.heap.objs.size Q I4 r1 (Heap.IsSliceOf.new ..) pl pu q3;show wpAny (model X.prog X.w) X.A (subscriptTail e (.Slice lo hi none p2) v (.ref s3.heap.objs.size)) (EP X pins σ Q) X.xe { s3 with heap:=s3.heap.push { cls:=.type "slice",data:=.fields #[vl,vu,.none] } };exact tail_any (ops:=[.ref s3.heap.objs.size,v]) ht hT hg (by with_unfolding_all rfl)
noncomputable def aA9 (xs:List V)(lo hi:Option Int):List V:=(xs.drop (HT.sIx xs.length 0 lo)).take (HT.sIx xs.length xs.length hi-HT.sIx xs.length 0 lo)
theorem vC (xs:List V)(lo hi:Option Int):(aA9 xs lo hi).length<=xs.length:=by unfold aA9;rw[length_take,length_drop];omega
def aNQ (K:Frag):V->Option Int->Option Int->Hp->VK->Prop:=λx lo hi H Q=>∃a xs,x=.ref a/\SqT K H a xs /\
 ¬(HT.sIx xs.length 0 lo=0/\HT.sIx xs.length xs.length hi=xs.length)/\∀p,H p=none->Q (.ref p) (upd H p (.tup (aA9 xs lo hi)))
theorem aJB:SlR X (aNQ X.K):=by
 intro pins s σ H x v vl vu lo hi sl Q I rx hs pl pu h;obtain⟨a,xs,rfl,hx,hw,q⟩:=h;cases rx;obtain⟨its,r,ht,hz⟩:=I.tuple hx;have hlen:its.toArray.size=xs.length:=by rw[size_toArray];exact r.length.symm
 refine⟨"tuple",_,PyProof.Rows.slot_tuple_getitem.lookup,ht.typeIs,?_⟩;refine HT.getItem_tuple_cut ht hs pl pu (by rw[hlen];exact hw) ?_ (by rw[hlen];exact hz);rw[hlen];refine⟨.ref s.heap.objs.size,_,I.laid (t':=s.toks) (o:=.tup (aA9 xs lo hi)) (λb ob q=>Heap.get?_push_of_some _ q) (Nat.le_refl _) ?_,rfl,q _ (I.hok.fresh (Nat.le_refl _))⟩;exact⟨Nat.le_trans (vC xs lo hi) hz,_,(r.drop (HT.sIx xs.length 0 lo)).take (HT.sIx xs.length xs.length hi-HT.sIx xs.length 0 lo),IsTup.new _ _⟩
def aM2 (K:Frag):R2:=λx y H Q=>∃a b xs ys,x=.ref a/\y=.ref b/\SqT K H a xs/\SqT K H b ys/\xs≠[]/\xs.length+ys.length<=sizeLine /\
 (ys=[]->Q (.ref a) H)/\(ys≠[]->∀p,H p=none->Q (.ref p) (upd H p (.tup (xs++ys))))
theorem bZ.nil_iff {xs:List V}{us:List Value}(r:bZ xs us):us=[]↔xs=[]:=by
 cases r with
 |nil=>simp
 |cons _ _=>simp
theorem aIr:OpR X (binaryOp .Add) (aM2 X.K):=by intro pins s σ H x y v u Q I rx ry h;obtain⟨a,b,xs,ys,rfl,rfl,ha,hb,hx,hz,q1,q2⟩:=h;cases rx;cases ry;obtain⟨its,r1,p1,_⟩:=I.tuple ha;obtain⟨its2,r2,p2,_⟩:=I.tuple hb;refine HT.cat_tup p1 p2 (λz=>hx (r1.nil_iff.mp z)) (λz=>⟨.ref a,H,I,rfl,q1 (r2.nil_iff.mp z)⟩) (λz=>?_) (by rw[<- r1.length,<- r2.length];exact hz);refine⟨.ref s.heap.objs.size,_,I.laid (t':=s.toks) (o:=.tup (xs++ys)) (λb ob q=>Heap.get?_push_of_some _ q) (Nat.le_refl _) ?_,rfl,q2 (λw=>z (r2.nil_iff.mpr w)) _ (I.hok.fresh (Nat.le_refl _))⟩;exact⟨by rw[length_append];exact hz,_,r1.append r2,IsTup.new _ _⟩
end
noncomputable def ixN (n:Nat)(i:Int):Option Nat:=if 0<=i then (if i<n then some i.toNat else none) else if -(n:Int)<=i then some (i+n).toNat else none
noncomputable def atI {α:Type}(xs:List α)(i:Int):Option α:=(ixN xs.length i).bind λj=>xs[j]?
theorem aDp {n:Nat}{i:Int}{j:Nat}(h:ixN n i=some j):seqIndex? i n=some j/\j<n/\-(n:Int)<=i/\i<n:=by
 unfold ixN at h;by_cases h0:0<=i
 ·rw[if_pos h0] at h;by_cases h1:i<n
  ·rw[if_pos h1] at h;have e:i.toNat=j:=Option.some.inj h;exact⟨by rw[seqIndex_of h0 h1,e],by omega,by omega,h1⟩
  ·rw[if_neg h1] at h;cases h
 ·rw[if_neg h0] at h;by_cases h1:-(n:Int)<=i
  ·rw[if_pos h1] at h;have e:(i+n).toNat=j:=Option.some.inj h;exact⟨by rw[seqIndex_neg (by omega) h1,e],by omega,h1,by omega⟩
  ·rw[if_neg h1] at h;cases h
theorem aDM {α:Type}{xs:List α}{i:Int}{v:α}(h:atI xs i=some v):∃j,seqIndex? i xs.length=some j/\xs[j]?=some v/\j<xs.length/\-(xs.length:Int)<=i/\i<xs.length:=by
 unfold atI at h;cases e:ixN xs.length i with
 |none=>rw[e] at h;cases h
 |some j =>
  rw[e] at h;obtain⟨h1,h2,h3,h4⟩:=aDp e;exact⟨j,h1,h,h2,h3,h4⟩
theorem nX {α:Type}{xs:List α}{j:Nat}{v:α}(h:xs[j]?=some v):atI xs (j:Int)=some v:=by
 have hj:j<xs.length:=(List.getElem?_eq_some_iff.mp h).1;have e:ixN xs.length (j:Int)=some j:=by unfold ixN;rw[if_pos (by omega),if_pos (by omega)];simp
 unfold atI;rw[e];exact h
def tQ (b:Expr):Prop:=∀o i,subscripted b false o i=operate [o,i] (getItem o i)
def IxR (X:Cx)(r:R2):Prop :=
 ∀(value slice:Expr)(pins:List (Addr×Obj)) (s:Shared) (σ:St) (H:Hp) (x y:V) (v u:Value) (Q:VK),Inv X pins σ H s->RelV x v->RelV y u->r x y H Q ->
  subscripted slice false v u=operate [v,u] (getItem v u)->wpAny (model X.prog X.w) X.A (subscriptTail value slice v u) (EP X pins σ Q) X.xe s
def MtR (X:Cx)(id:String)(r:V->List V->Hp->VK->Prop):Prop :=
 ∀(pins:List (Addr×Obj)) (s:Shared) (σ:St) (H:Hp) (x:V) (xs:List V) (v:Value) (us:List Value) (Q:VK),Inv X pins σ H s->RelV x v->bZ xs us->r x xs H Q ->
  wpAny (model X.prog X.w) X.A (call (.builtin id) (v::us)) (EP X pins σ Q) X.xe s
section
variable {X:Cx}{a b:Expr}{ta tb:TE}{pos:Pos}
theorem aNq {r:R2}(hr:IxR X r)(ha:PE X a ta)(hb:PE X b tb)(hs:tQ b):PE X (.Subscript a b pos) (tOp r ta tb):=by intro pins s σ H Q I h;exact Subscript_ (aK4 ha hb I h λv u s2 x y H2 I2 rx ry q=>hr a b pins s2 σ H2 x y v u Q I2 rx ry q (hs _ _))
def aOg (K:Frag):R2:=λx y H Q=>∃p xs i v,x=.ref p/\y=.int i/\SqL K H p xs/\atI xs i=some v/\Q v H
def aN7 (K:Frag):R2:=λx y H Q=>∃p xs i v,x=.ref p/\y=.int i/\SqT K H p xs/\atI xs i=some v/\Q v H
theorem aDl:IxR X (aOg X.K):=by
 intro value slice pins s σ H x y v u Q I rx ry h hs;obtain⟨p,xs,i,z,rfl,rfl,hq,he,q⟩:=h;cases rx;obtain⟨t,rfl⟩:=ry;obtain⟨its,r,pl,hz⟩:=I.list hq;obtain⟨j,h1,h2,h3,h4,h5⟩:=aDM he;obtain⟨w,ew,rw'⟩:=r.get h2;have hl:=r.length;have hn:=aAX;have fin:EP X pins σ Q w s:=⟨z,H,I,rw',q⟩;by_cases h0:0<=i
 ·have hj:i.toNat=j:=by rw[seqIndex_of h0 h5] at h1;exact Option.some.inj h1
  exact item_listR pl.isList h0 (by omega) (by rw[hj];simpa using ew) fin hs
 ·have hj:(i+(its.toArray.size:Int)).toNat=j:=by rw[seqIndex_neg (by omega) h4] at h1;rw[size_toArray,<- hl];exact Option.some.inj h1
  exact subscriptTail_builtinR (x:=w) pl.isList.typeIs slot_list_getitem.lookup
   (wpAny_getItem_list_neg (Q:=λr s'=>r=w/\EP X pins σ Q r s') pl.isList (by omega) (by rw[size_toArray]<;>omega) (by omega) (by rw[hj];simpa using ew) ⟨rfl,fin⟩) hs
theorem aJG:IxR X (aN7 X.K):=by
 intro value slice pins s σ H x y v u Q I rx ry h hs;obtain⟨p,xs,i,z,rfl,rfl,hq,he,q⟩:=h;cases rx;obtain⟨t,rfl⟩:=ry;obtain⟨its,r,pl,hz⟩:=I.tuple hq;obtain⟨j,h1,h2,h3,h4,h5⟩:=aDM he;obtain⟨w,ew,rw'⟩:=r.get h2;have hl:=r.length;have hn:=aAX;have fin:EP X pins σ Q w s:=⟨z,H,I,rw',q⟩;exact subscriptTail_builtinR (x:=w) pl.typeIs slot_tuple_getitem.lookup
  (getItem_tuple (j:=j) (Q:=λr s'=>r=w/\EP X pins σ Q r s') pl (by omega) (by omega) (by rw[size_toArray,<- hl];exact h1) (by simpa using ew) ⟨rfl,fin⟩) hs
theorem aCU (its:List Value)(n j:Nat)(u:Value):Obj.mapSeq (·.setIfInBounds j u) { cls:=.type "list",data:=.seq its.toArray n } = { cls:=.type "list",data:=.seq (its.set j u).toArray n }:=by simp[Obj.mapSeq]
theorem Inv.lst {pins:List (Addr×Obj)}{σ:St}{H:Hp}{s:Shared}{p:Addr}{xs:List V}(I:Inv X pins σ H s)(h:H p=some (.lst xs)) :
  ∃(its:List Value)(n:Nat),bZ xs its/\s.heap.get? p = some { cls:=.type "list",data:=.seq its.toArray n }/\xs.length<=sizeLine:=by
 obtain⟨z,its,n,r,e⟩:=I.hok p _ h;exact⟨its,n,r,e,z⟩
theorem Inv.lstUpd {pins:List (Addr×Obj)}{σ:St}{H:Hp}{s:Shared}{p:Addr}{xs ys:List V}{its its':List Value}{n n':Nat}{f:Obj->Obj}(I:Inv X pins σ H s)(h:H p=some (.lst xs))(ho:s.heap.get? p = some { cls:=.type "list",data:=.seq its.toArray n })(hf:f { cls:=.type "list",data:=.seq its.toArray n } = { cls:=.type "list",data:=.seq its'.toArray n' })(r:bZ ys its')(hz:ys.length<=sizeLine)(t:Nat) :
  Inv X pins σ (upd H p (.lst ys)) { s with heap:=s.heap.update p f,toks:=t }:=by
 have e:(s.heap.update p f).get? p = some { cls:=.type "list",data:=.seq its'.toArray n' }:=by rw[Heap.get?_update_self f ho (by rw[hf]<;>rfl),hf]
 refine I.write (x:=p) (e:=p) (by rw[h];trivial) (.inl rfl) (λb u hb q=>(Heap.get?_update_other _ _ (Ne.symm hb)).trans q) ⟨_,e⟩ ?_;exact⟨hz,its',n',r,e⟩
def aMZ:V->V->V->Hp->(Hp->Prop)->Prop:=λo i v H Q=>∃p xs k j,o=.ref p/\i=.int k/\H p=some (.lst xs)/\ixN xs.length k=some j/\Q (upd H p (.lst (xs.set j v)))
theorem aFH:aLt X aMZ:=by
 intro pins s σ H o i v ov iv u Q I ro ri rv h;obtain⟨p,xs,k,j,rfl,rfl,hp,hj,q⟩:=h;cases ro;obtain⟨t,rfl⟩:=ri;obtain⟨its,n,r,ho,hz⟩:=I.lst hp;obtain⟨h1,h2,h3,h4⟩:=aDp hj;have hl:=r.length;have hn:=aAX;have I':Inv X pins σ (upd H p (.lst (xs.set j v))) { s with heap:=s.heap.update p (Obj.mapSeq (·.setIfInBounds j u)) } :=
  I.lstUpd hp ho (aCU its n j u) (r.set rv j) (by rw[List.length_set];exact hz) s.toks
 by_cases h0:0<=k
 ·have hk:k.toNat=j:=by rw[seqIndex_of h0 h4] at h1;exact Option.some.inj h1
  exact PySem.W.ki_setAt ho h0 (by omega) (by rw[size_toArray,<- hl];exact h4) (by rw[hk];exact⟨_,I',q⟩)
 ·have hk:(k+(its.toArray.size:Int)).toNat=j:=by rw[seqIndex_neg (by omega) h3] at h1;rw[size_toArray,<- hl];exact Option.some.inj h1
  exact PySem.W.ki_setBack ho (by omega) (by rw[size_toArray,<- hl];exact h3) (by omega) (by rw[hk];exact⟨_,I',q⟩)
theorem aA2 (lo hi:Option Int)(n:Nat):(sliceBounds lo hi none n).1=((HT.sIx n 0 lo:Nat):Int)/\(sliceBounds lo hi none n).2.1=((HT.sIx n n hi:Nat):Int)/\(sliceBounds lo hi none n).2.2=1:=by
 refine⟨?_,?_,rfl⟩
 ·cases lo with
  |none=>simp[sliceBounds,HT.sIx]
  |some i =>
   simp only[sliceBounds,HT.sIx,Option.getD_none,show(1:Int) > 0 by decide,if_true];by_cases h:i<0
   ·simp only[h,if_true]<;>omega
   ·simp only[h,if_false]<;>omega
 ·cases hi with
  |none=>simp[sliceBounds,HT.sIx]
  |some i =>
   simp only[sliceBounds,HT.sIx,Option.getD_none,show(1:Int) > 0 by decide,if_true];by_cases h:i<0
   ·simp only[h,if_true]<;>omega
   ·simp only[h,if_false]<;>omega
theorem yC (its:List Value)(lo hi:Option Int):slicePick its.toArray lo hi none=((its.drop (HT.sIx its.length 0 lo)).take (HT.sIx its.length its.length hi-HT.sIx its.length 0 lo)).toArray:=by obtain⟨h1,h2,h3⟩:=aA2 lo hi its.toArray.size;unfold slicePick;rw[h1,h2,h3];simp only[sliceRange_one,pick_run,size_toArray]<;>rfl
def aNK (K:Frag):V->Option Int->Option Int->Hp->VK->Prop:=λx lo hi H Q=>∃a xs,x=.ref a/\SqL K H a xs/\∀p,H p=none->Q (.ref p) (upd H p (.lst (aA9 xs lo hi)))
theorem aG3:SlR X (aNK X.K):=by intro pins s σ H x v vl vu lo hi sl Q I rx hs pl pu h;obtain⟨a,xs,rfl,hx,q⟩:=h;cases rx;obtain⟨its,r,ht,hz⟩:=I.list hx;have hlen:=r.length;refine⟨"list",_,slot_list_getitem.lookup,ht.isList.typeIs,?_⟩;refine wpAny_getItem_list_slice ht.isList hs pl pu .none (by simp) ?_ (by rw[size_toArray]<;>omega);rw[yC,<- hlen];refine⟨.ref s.heap.objs.size,_,I.laid (t':=s.toks) (o:=.lst (aA9 xs lo hi)) (λb ob q=>Heap.get?_push_of_some _ q) (Nat.le_refl _) ?_,rfl,q _ (I.hok.fresh (Nat.le_refl _))⟩;exact⟨Nat.le_trans (vC xs lo hi) hz,_,0,(r.drop (HT.sIx xs.length 0 lo)).take (HT.sIx xs.length xs.length hi-HT.sIx xs.length 0 lo),Heap.get?_push_size _ rfl⟩
noncomputable def aF9:V->Bool
 |.non=>true
 |.bl _=>true
 |.int _=>true
 |.str _=>true
 |_=>false
noncomputable def eqV:V->V->Bool
 |.non,.non=>true
 |.bl a,.bl b=>a==b
 |.bl a,.int b=>(if a then 1 else 0)==b
 |.int a,.bl b=>a==(if b then 1 else 0)
 |.int a,.int b=>a==b
 |.str a,.str b=>a==b
 |_,_=>false
theorem aFB {A:Around}{s:Shared}{y x:V}{u v:Value}(ry:RelV y u)(rx:RelV x v)(fy:aF9 y=true)(fx:aF9 x=true):SeqAt.EqAt A s u v (eqV y x):=by
 cases y with
 |non =>
  cases ry;cases x with
  |non=>cases rx;exact SeqAt.EqAt.same _
  |bl b=>cases rx;exact SeqAt.EqAt.none_bool b
  |int b=>obtain⟨t,rfl⟩:=rx;exact SeqAt.EqAt.none_int b t
  |str b=>obtain⟨t,rfl⟩:=rx;exact SeqAt.EqAt.none_str b t
  |_=>exact absurd (show false=true from fx) Bool.false_ne_true
 |bl a =>
  cases ry;cases x with
  |non=>cases rx;exact SeqAt.EqAt.bool_none a
  |bl b=>cases rx;exact SeqAt.EqAt.bool_bool a b
  |int b=>obtain⟨t,rfl⟩:=rx;exact SeqAt.EqAt.bool_int a b t
  |str b=>obtain⟨t,rfl⟩:=rx;exact SeqAt.EqAt.bool_str a b t
  |_=>exact absurd (show false=true from fx) Bool.false_ne_true
 |int a =>
  obtain⟨t',rfl⟩:=ry;cases x with
  |non=>cases rx;exact SeqAt.EqAt.int_none a t'
  |bl b=>cases rx;exact SeqAt.EqAt.int_bool a t' b
  |int b=>obtain⟨t,rfl⟩:=rx;exact SeqAt.EqAt.int_int a t' b t
  |str b=>obtain⟨t,rfl⟩:=rx;exact SeqAt.EqAt.int_str a t' b t
  |_=>exact absurd (show false=true from fx) Bool.false_ne_true
 |str a =>
  obtain⟨t',rfl⟩:=ry;cases x with
  |non=>cases rx;exact SeqAt.EqAt.str_none a t'
  |bl b=>cases rx;exact SeqAt.EqAt.str_bool a t' b
  |int b=>obtain⟨t,rfl⟩:=rx;exact SeqAt.EqAt.str_int a t' b t
  |str b=>obtain⟨t,rfl⟩:=rx;exact SeqAt.EqAt.str_str a t' b t
  |_=>exact absurd (show false=true from fx) Bool.false_ne_true
 |_=>exact absurd (show false=true from fy) Bool.false_ne_true
noncomputable def inV (x:V)(xs:List V):Bool:=xs.any λy=>eqV y x
theorem aAH:sB X (.builtin "len") (λxs H Q=>∃p ys,xs=[.ref p]/\(SqL X.K H p ys∨SqT X.K H p ys)/\Q (.int ys.length) H):=by
 intro pins s σ H xs us Q I r h;obtain⟨p,ys,rfl,hq,q⟩:=h;obtain⟨u,rfl,rx⟩:=uV r;cases rx;have hn:=aAX;rcases hq with hq|hq
 ·obtain⟨its,r',pl,hz⟩:=I.list hq;have hlen:=r'.length;exact Calls.call_len_list pl.isList (by simp only[size_toArray]<;>omega) ⟨.int ys.length,H,I.tok _,⟨s.toks+1,by rw[size_toArray,hlen]⟩,q⟩
 ·obtain⟨its,r',pl,hz⟩:=I.tuple hq;have hlen:=r'.length;exact len_tuple pl (by simp only[size_toArray]<;>omega) ⟨.int ys.length,H,I.tok _,⟨s.toks+1,by rw[size_toArray,hlen]⟩,q⟩
theorem aAR:sB X (.type "list") (λxs H Q=>∃p ys,xs=[.ref p]/\(SqL X.K H p ys∨SqT X.K H p ys)/\∀l,H l=none->Q (.ref l) (upd H l (.lst ys))):=by
 intro pins s σ H xs us Q I r h;obtain⟨p,ys,rfl,hq,q⟩:=h;obtain⟨u,rfl,rx⟩:=uV r;cases rx;have fin:∀(its:List Value),bZ ys its->ys.length<=sizeLine->∀(h':Heap)(c':Nat),(∀b o',s.heap.get? b=some o'->h'.get? b=some o') ->
   h'.get? s.heap.objs.size = some { cls:=.type "list",dict:=none,data:=.seq its.toArray c',slots:=#[] }->EP X pins σ Q (.ref s.heap.objs.size) { s with heap:=h' }:=λits r' hz h' c' kp e =>
  ⟨.ref s.heap.objs.size,_,I.laid (t':=s.toks) kp (Nat.le_refl _) (show jJ X.prog X.w _ h' _ (.lst ys) from⟨hz,its,c',r',e⟩),rfl,q _ (I.hok.fresh (Nat.le_refl _))⟩
 rcases hq with hq|hq
 ·obtain⟨its,r',pl,hz⟩:=I.list hq;have hlen:=r'.length;obtain⟨o,ho,hc,n,hd⟩:=pl.isList;exact call_list_seq p (.inl rfl) ho hc hd (λh' c' kp e=>fin its r' hz h' c' kp e) (by simp only[size_toArray]<;>omega)
 ·obtain⟨its,r',pl,hz⟩:=I.tuple hq;have hlen:=r'.length;obtain⟨o,ho,hc,n,hd⟩:=pl;exact call_list_seq p (.inr rfl) ho hc hd (λh' c' kp e=>fin its r' hz h' c' kp e) (by simp only[size_toArray]<;>omega)
def tyV (K:Frag)(T:String)(x:V)(H:Hp):Prop:=match x with
 |.str _=>T = "str"
 |.int _=>T = "int"
 |.ref p=>(T = "list"/\∃xs,SqL K H p xs)∨(T = "tuple"/\∃o,K.lookup p = some o/\o.cls = .type "tuple"/\o.dict=none) ∨
   (T = "dict"/\((∃kvs,H p = some (.dK kvs)) ∨ ∃kvs,H p = some (.dT kvs)))∨(T = "set"/\∃S n,H p=some (.set S n))
 |_=>False
theorem aLe {pins:List (Addr×Obj)}{σ:St}{H:Hp}{s:Shared}{T:String}{x:V}{v:Value}(I:Inv X pins σ H s)(r:RelV x v)(ty:tyV X.K T x H) :
  s.TypeIs v T/\∀a,v=.ref a->∃ob,s.heap.get? a=some ob/\ob.dict=none:=by
 cases x with
 |str z =>
  obtain⟨t,rfl⟩:=r;cases (show T = "str" from ty);exact⟨typeIs_str s z t,λ_ e=>nomatch e⟩
 |int i =>
  obtain⟨t,rfl⟩:=r;cases (show T = "int" from ty);exact⟨typeIs_int s i t,λ_ e=>nomatch e⟩
 |ref p =>
  cases r;rcases ty with⟨rfl,xs,hq⟩|⟨rfl,o,hk,hc,hd⟩|⟨rfl,hk⟩|⟨rfl,S,n,hk⟩
  ·obtain⟨its,_,pl,_⟩:=I.list hq;refine⟨pl.isList.typeIs,λa e=>?_⟩;cases e;obtain⟨o,n,e,c,hd,_⟩:=pl;exact⟨o,e,hd⟩
  ·refine⟨⟨o,I.kIn p o hk,hc⟩,λa e=>?_⟩;cases e;exact⟨o,I.kIn _ o hk,hd⟩
  ·have z:∃o,s.heap.get? p=some o/\o.ExactDict:=by
    rcases hk with⟨kvs,hk⟩|⟨kvs,hk⟩
    ·obtain⟨_,_,_,_,o,_,_,e,ex,_⟩:=I.hok p _ hk;exact⟨o,e,ex⟩
    ·obtain⟨_,_,_,_,o,_,_,e,ex,_⟩:=I.hok p _ hk;exact⟨o,e,ex⟩
   obtain⟨o,e,ex⟩:=z;refine⟨⟨o,e,ex.1⟩,λa e2=>?_⟩;cases e2;exact⟨o,e,ex.2.1⟩
  ·obtain⟨o,_,_,_,e,ex,_⟩:=I.hok p _ hk;refine⟨⟨o,e,ex.1⟩,λa e2=>?_⟩;cases e2;exact⟨o,e,ex.2.1⟩
 |_=>exact False.elim ty
def tBM (K:Frag)(T:String)(r:V->List V->Hp->VK->Prop)(to:TE)(t:TA):TE:=λσ H Q=>to σ H λx H1=>tyV K T x H1/\t σ H1 λxs H2=>r x xs H2 Q
variable {o e:Expr}{es:List Expr}{to:TE}{t:TA}{name:Str}{apos cpos:Pos}{T id:String}{r:V->List V->Hp->VK->Prop}
theorem aIw (pa:PlainAttrs T)(slot:Slot T name id)(hty:typeOf (.builtin id) = pure (.type "method_descriptor"))(hm:MtR X id r)(ho:PE X o to)(ha:PA X (e::es) t)(hbase:attributeBase o name X.env (eval o X.env)=eval o X.env:=by rfl)(hfew:((backTo cpos (starEach (e::es) X.env)).all (λx=>!x.1)&&(backToKw cpos (keywordEach [] X.env)).all (λx=>x.1.isSome)
  &&decide ((e::es).length+([]:List Keyword).length+(if ([]:List Keyword).isEmpty then 0 else 1)<30))=true:=by rfl)(hline:(apos.endLine==cpos.line)=true:=by rfl)(hs:starEach (e::es) X.env=(false,eval e X.env)::starEach es X.env:=by rfl)(hplain:(backTo cpos (starEach es X.env)).any (·.1)=false:=by rfl) :
  PE X (.Call (.Attribute o name apos) (e::es) [] cpos) (tBM X.K T r to t):=by
 intro pins s σ H Q I h;refine wpAny_Call_method_late hbase hfew hline rfl (thn (ho pins s σ H _ I h) λv s1 ⟨x,H1,I1,r1,ty,q1⟩=>?_);obtain⟨h1,h2⟩:=aLe I1 r1 ty;refine⟨T,id,pa,slot,hty,h1,h2,?_⟩;have hA:=ha cpos pins s1 σ H1 _ I1 q1;rw[hs] at hA ⊢;refine Calls.callWith_builtin (by show(false||(backTo cpos (starEach es X.env)).any (·.1))=false;rw[hplain]<;>rfl) (Calls.evalArgs_plain ?_);exact thn hA λus s2 ⟨vs,H2,I2,r2,q2⟩=>hm pins s2 σ H2 x vs v us Q I2 r1 r2 q2
end
def MtM (X:Cx)(id:String)(r:V->List V->Hp->VK->Prop):Prop :=
 ∀(pins:List (Addr×Obj)) (s:Shared) (σ:St) (H:Hp) (x:V) (xs:List V) (v:Value) (us:List Value) (Q:VK),Inv X pins σ H s->RelV x v->bZ xs us->r x xs H Q ->
  wpAny (model X.prog X.w) X.A (call (.builtin id) (v::us)) (EP X pins σ Q) X.xe s
theorem bZ.one:∀{x:V}{us:List Value},bZ [x] us->∃u,us=[u]/\RelV x u
 |_,_,.cons r .nil=>⟨_,rfl,r⟩
theorem bZ.two:∀{x y:V}{us:List Value},bZ [x,y] us->∃u v,us=[u,v]/\RelV x u/\RelV y v
 |_,_,_,.cons r (.cons q .nil)=>⟨_,_,rfl,r,q⟩
section
variable {X:Cx}{pins:List (Addr×Obj)}{σ:St}{H:Hp}{s:Shared}{l b:Addr}{xs ys zs:List V}
theorem Inv.lset {its its':List Value}{n:Nat}{f:Array Value->Array Value}{t':Nat}(I:Inv X pins σ H s)(hH:H l=some (.lst xs))(e:s.heap.get? l = some { cls:=.type "list",data:=.seq its.toArray n })(hf:f its.toArray=its'.toArray)(hv:bZ ys its')(hz:ys.length<=sizeLine) :
  Inv X pins σ (upd H l (.lst ys)) { s with heap:=s.heap.update l (Obj.mapSeq f),toks:=t' }:=by
 have q:=PySem.IsL.update e f;rw[hf] at q;refine I.write (x:=l) (e:=l) (by rw[hH];exact trivial) (.inl rfl) (λb' u hb hu=>(Heap.get?_update_other s.heap (Obj.mapSeq f) (Ne.symm hb)).trans hu) ⟨_,q⟩ ?_;exact⟨hz,its',_,hv,q⟩
theorem Inv.lnew {its:List Value}{t':Nat}(I:Inv X pins σ H s)(hv:bZ ys its)(hz:ys.length<=sizeLine) :
  Inv X pins σ (upd H s.heap.objs.size (.lst ys)) { s with heap:=s.heap.push { cls:=.type "list",data:=.seq its.toArray },toks:=t' } :=
 I.laid (λ_ _ q=>Heap.get?_push_of_some _ q) (Nat.le_refl _) ⟨hz,its,0,hv,Heap.get?_push_size _ rfl⟩
theorem Inv.fresh (I:Inv X pins σ H s):H s.heap.objs.size=none:=I.hok.fresh (Nat.le_refl _)
theorem Inv.lstM (I:Inv X pins σ H s)(hH:H l = some (.lst xs)):xs.length<=sizeLine/\∃(its:List Value)(n:Nat),bZ xs its/\xs.length = its.length/\s.heap.get? l = some { cls:=.type "list",data:=.seq its.toArray n }:=by obtain⟨z,its,n,r,e⟩:=I.hok l _ hH;exact⟨z,its,n,r,r.length,e⟩
theorem aBZ {n:Nat}(h:n<=sizeLine):Builtin.List.listTooLong n=false:=by unfold Builtin.List.listTooLong;exact decide_eq_false (by omega)
end
section
variable {X:Cx}
def aHS:V->List V->Hp->VK->Prop:=λx vs H Q=>∃l xs y,x=.ref l/\vs=[y]/\H l=some (.lst xs)/\xs.length<sizeLine/\Q .non (upd H l (.lst (xs++[y])))
theorem aD9:MtM X "list.append" aHS:=by intro pins s σ H x vs v us Q I rx rv h;obtain⟨l,xs,y,rfl,rfl,hH,hz,q⟩:=h;cases rx;obtain⟨u,rfl,ru⟩:=rv.one;obtain⟨z,its,n,r,hl,e⟩:=I.lstM hH;refine call_meets F.slot_list_append ⟨_,e,rfl⟩ F.entry_list_append (F.args_list_append_2 _ _) (PySem.list_append l its.toArray n u (by rw[size_toArray];omega)) ⟨e,?_⟩;refine⟨.non,_,I.lset (its':=its++[u]) hH e (by simp) (r.append (.cons ru .nil)) ?_,rfl,q⟩;rw[length_append,List.length_singleton];omega
def aIf:V->List V->Hp->VK->Prop:=λx vs H Q=>∃l b xs zs,x=.ref l/\vs=[.ref b]/\H l=some (.lst xs)/\H b=some (.lst zs)/\xs.length+zs.length<=sizeLine/\Q .non (upd H l (.lst (xs++zs)))
theorem aDT:MtM X "list.extend" aIf:=by
 intro pins s σ H x vs v us Q I rx rv h;obtain⟨l,b,xs,zs,rfl,rfl,hH,hB,hz,q⟩:=h;cases rx;obtain⟨u,rfl,ru⟩:=rv.one;cases ru;obtain⟨z,its,n,r,hl,e⟩:=I.lstM hH;obtain⟨z2,its2,n2,r2,hl2,e2⟩:=I.lstM hB;have hsz:its.toArray.size+its2.toArray.size<=sizeLine:=by rw[size_toArray,size_toArray];omega
 have hlong:¬(!its.toArray.isEmpty&&Builtin.List.listTooLong (its.toArray.size+its2.toArray.size))=true:=by rw[aBZ hsz,Bool.and_false];exact Bool.false_ne_true
 refine call_meets F.slot_list_extend ⟨_,e,rfl⟩ F.entry_list_extend (F.args_list_extend_2 _ _)
  (AutoSeq1.list_extend_list_list_0 l its.toArray n b its2.toArray n2 hlong (by rw[size_toArray];omega) (by omega)) ⟨e,e2,?_⟩
 refine⟨.non,_,I.lset (its':=its++its2) hH e (by simp) (r.append r2) ?_,rfl,q⟩;rw[length_append];omega
def aNv:R2:=λx y H Q=>∃l b xs zs,x=.ref l/\y=.ref b/\H l=some (.lst xs)/\H b=some (.lst zs)/\xs.length+zs.length<=sizeLine/\∀p,H p=none->Q (.ref p) (upd H p (.lst (xs++zs)))
theorem aJ6:OpR X (binaryOp .Add) aNv:=by
 intro pins s σ H x y v u Q I rx ry h;obtain⟨l,b,xs,zs,rfl,rfl,hH,hB,hz,q⟩:=h;cases rx;cases ry;obtain⟨z,its,n,r,hl,e⟩:=I.lstM hH;obtain⟨z2,its2,n2,r2,hl2,e2⟩:=I.lstM hB;refine PySem.P.add_list e e2 ?_ (by rw[size_toArray,size_toArray];omega);have ea:its.toArray++its2.toArray=(its++its2).toArray:=by simp
 rw[ea];exact⟨.ref _,_,I.lnew (t':=s.toks) (r.append r2) (by rw[length_append];omega),rfl,q _ I.fresh⟩
theorem len_rep {α:Type}(xs:List α)(k:Nat):(replicate k xs).flatten.length=k*xs.length:=by
 induction k with
 |zero=>simp
 |succ k ih=>rw[replicate_succ,flatten_cons,length_append,ih,Nat.succ_mul,Nat.add_comm]
end
section
variable {prog:Program}{w:World}{A:Around}{E:Value->Shared->Prop}{s:Shared}
end
section
variable {X:Cx}
end
end L2
namespace Att
open PySem PySem.W PySem.Calls PyProof.Rows
theorem vF {P:Params}{h:Heap}:∀(ns:List Int)(vs:List Value),WellAll P h vs (ns.map WData.int)->IntsAre vs ns:=by
 intro ns
 induction ns with
 |nil =>
  intro vs w;rw[List.map_nil] at w;cases w;exact .nil
 |cons n ns ih =>
  intro vs w;rw[map_cons] at w;cases w with
  |cons a b =>
   cases a;exact .cons _ _ (ih _ b)
theorem aD2 {l:OpenLaw}{n:Nat}(hn:l.most=some n){P:Params}{h:Heap}{args:List WData}{vals:List Value}(hpre:l.row.toRowW.claim.pre args=true)(hwl:WellAll P h vals args) :
  ∃a vs ns,vals = [Value.ref a]/\args = [WData.list (ns.map WData.int)]/\h.get? a = some { cls:=.type "list",data:=.seq vs.toArray }/\IntsAre vs ns/\ns.length<=n:=by
 have hsh:WShape.hasAll [] args [.list .int]=true:=(pre_splitW hpre).1;have hc:l.pre.holds [] { args:=args }=true:=(pre_splitW hpre).2;obtain⟨d,r,rfl,h1,h2⟩:=hasAllW_cons hsh;obtain rfl:=hasAllW_nil h2;obtain⟨xs,rfl,h3⟩:=hasW_list h1;obtain⟨ns,rfl⟩:=items_int h3;have hlen:ns.length<=n:=by
  unfold OpenLaw.pre at hc;have h4:(WTm.not (.lt (.lit (.int (n:Int))) (.len (.arg 0)))).holds [] { args:=[.list (ns.map .int)] }=true:=by have h4:=(holds_andW hc).1;rw[hn] at h4;exact h4
  have h5:=condW_of h4 (w_not (w_lt w_lit (w_len_list (w_arg rfl))));rw[length_map] at h5;refine Nat.le_of_not_lt λq=>?_;have q':(n:Int)<((ns.length:Nat):Int):=by omega
  first
   |(rw[decide_eq_true q'] at h5;exact absurd h5 (by decide))
   |(simp at h5;omega)
 cases hwl with
 |cons w1 w2 =>
  cases w2;cases w1 with
  |list ho hall=>exact⟨_,_,ns,rfl,rfl,ho,vF ns _ hall,hlen⟩
theorem aD0 (l:OpenLaw)(args:List WData):l.row.toRowW.claim.post args (.bool true) args=true :=
 postW_of (r:=l.row.toRowW) (X:=(true==true))
  (show WShape.has [] (.bool true) .bool=true by first|rfl|decide|simp[WShape.has,WShape.arms,WShape.armsAll])
  (show(WTm.eq .res (.lit (.bool true))).value [] { args:=args,res:=some (.bool true),after:=args }=some (.bool (true==true)) from w_eq_bool (w_res rfl) w_lit) rfl
theorem attach_call {l:OpenLaw}{n:Nat}{q:Program}{loose:List Str}{XP:(Str->Option Value)->Heap->Prop}{YP:World->Heap->Prop}{d:DefRec}(hn:l.most=some n)(hdf:d.params.defaults=[])(call:∀(w:World)(s₀ s₁:Shared) (mg mb:Str->Option Value) (fa:Addr) (o:Obj) (pm cd doc:Value) (a:Addr) (vs:List Value) (ns:List Int),
   Ground q loose [] XP w s₀ mg mb s₁.heap->YP w s₁.heap ->
   s₁.heap.get? fa=some o->o.data=.func (docDef d.name d.params d.body d.scope pm cd doc)->s₁.heap.CodeRec cd d.name->mg d.name=some (.ref fa) ->
   s₁.heap.get? a = some { cls:=.type "list",data:=.seq vs.toArray }->IntsAre vs ns->ns.length<=n->s₁.gens=#[] ->
   codeAny (model l.prog w) callerA (.call (.ref fa) ⟨[.ref a],[]⟩) (λr s'=>r=.ok (.ret (.bool true))/\OldK s₁.heap s'.heap/\s'.os=s₁.os/\AllBare s'.gens) s₁) :
  WalkO q loose XP YP l.row.toRowW d [] (λf vs=>PySem.call f vs):=by
 intro w s₀ s₁ mg mb G Y fa o pm cd doc dV kV ho hd hcd hD hmg hg args vals as hpre hlay hrd hwl hlo;obtain rfl:dV=.none:=Dflts.none hD hdf;obtain rfl:kV=.none:=Dflts.noKw hD;obtain⟨a,vs,ns,rfl,rfl,hobj,hints,hlen⟩:=aD2 hn hpre hwl;refine enter_call (codeAny_mono (call w s₀ s₁ mg mb fa o pm cd doc a vs ns G Y ho (fd_plain hd) hcd hmg hobj hints hlen hg) λr s' hq=>?_);obtain⟨rfl,h2,h3,h4⟩:=hq;exact⟨.inl ⟨.bool true,.bool true,[],rfl,λ_=>rfl,.bool true,aD0 l _,λ_=>⟨List.Pairwise.nil,λ_ hm=>(nomatch hm)⟩⟩,h2,h3,h4⟩
section
variable {prog:Program}{w:World}{A:Around}{E:Value->Shared->Prop}{s:Shared}{K:Frag}
end
end Att
namespace L2
open PySem PySem.Spec PyProof.Rows
theorem yV:∀{vs:List Value}{ns:List Int},IntsAre vs ns->bZ (ns.map V.int) vs
 |_,_,.nil=>.nil
 |_,_,.cons n t h=>.cons ⟨t,rfl⟩ (yV h)
noncomputable def mJ (s:Stmt):Arguments:=match s with
 |.FunctionDef _ a _ _ _ _ _ _ _ _=>a
 |_=>{ posonlyargs:=[],args:=[],vararg:=none,kwonlyargs:=[],kw_defaults:=[],kwarg:=none,defaults:=[] }
noncomputable def gK (s:Stmt):List Stmt:=match s with
 |.FunctionDef _ _ b _ _ _ _ _ _ _=>b
 |_=>[]
noncomputable def aI (s:Stmt):Scope:=match s with
 |.FunctionDef _ _ _ _ _ _ sc _ _ _=>sc
 |_=>{ kind:=.function,names:=[],isGenerator:=false,isCoroutine:=false }
noncomputable abbrev CX0:CXT:=λ_ _ _ _ _ _=>False
noncomputable abbrev E0:XK:=λ_ _ _=>False
theorem aIP {X:Cx}:aAl CX0 X E0:=λ_ _ _ _ _ _ _ h=>h.elim
structure Fun (K:Frag)(x qual:Str)(st:Stmt)(f:Addr)(fd:FuncData):Prop where
 ex:∃(oc:Value)(od:Option Addr) (kV doc pm:Value) (an:Option Addr) (cdv ct:Value) (osl:Array (Option Value)),
  fd=fnOf x qual (mJ st) (gK st) (aI st) .none kV doc pm an cdv ct/\K.lookup f=some ⟨oc,od,.func fd,osl⟩/\codeIn K cdv qual=true
 kp:keepIn K (.ref f)=true
section
variable {P:Program}{w:World}{K:Frag}{mg:Str->Option Value}{base:Heap}
theorem Fun.ok {x qual:Str}{st:Stmt}{f:Addr}{fd:FuncData}{N ps:List Str}{k:Nat}{sp:Sp}(F:Fun K x qual st f fd)(S:aR N ps (aI st))(len:∀vs H Q E,sp vs H Q E->vs.length=ps.length)(hbody:∀(cdv:Value)(A:Around) (outer:List Env) (s:Shared) (H:Hp) (vs:List V) (Q:VK) (E:XK),eE k (A.deeper (envOfC qual (aI st) s.heap.objs.size f cdv))->sp vs H Q E ->
   ∃t,PSs (tS CX0 P w K mg base N qual (aI st) f cdv A outer s H E).nox (gK st) t/\t { nx:=λ_ H'=>Q .non H',rt:=Q } (start N vs) H):oC P w K mg base CX0 (k+1) f fd ps sp:=by
 obtain⟨oc,od,kV,doc,pm,an,cdv,ct,osl,rfl,lk,hcd⟩:=F.ex;refine aIH lk hcd S len λA outer s H vs Q E hr hsp=>?_;obtain⟨t,h,q⟩:=hbody cdv A outer s H vs Q E hr hsp;exact⟨t,h.nox,q⟩
theorem Fun.binds {x qual:Str}{st:Stmt}{f:Addr}{fd:FuncData}{ps:List Str}(F:Fun K x qual st f fd)(h:∀(kV doc pm:Value)(an:Option Addr) (cdv ct:Value) (us:List Value),us.length=ps.length->bindArgs (fnOf x qual (mJ st) (gK st) (aI st) .none kV doc pm an cdv ct) ⟨us,[]⟩=pure (ps.zip us)):uZ K fd ps []:=by obtain⟨oc,od,kV,doc,pm,an,cdv,ct,osl,rfl,lk,hcd⟩:=F.ex;exact .all (h kV doc pm an cdv ct)
theorem fun_mk {x qual:Str}{st:Stmt}{f:Addr}{oc:Value}{od an:Option Addr}{osl:Array (Option Value)}{kV doc pm cdv ct:Value}(l:K.lookup f=some ⟨oc,od,.func (fnOf x qual (mJ st) (gK st) (aI st) .none kV doc pm an cdv ct),osl⟩)(c:codeIn K cdv qual=true)(k:keepIn K (.ref f)=true):Fun K x qual st f (fnOf x qual (mJ st) (gK st) (aI st) .none kV doc pm an cdv ct):=⟨⟨oc,od,kV,doc,pm,an,cdv,ct,osl,rfl,l,c⟩,k⟩
end
theorem dW {n:Nat}(h:n<=1000):n<sizeLine:=Nat.lt_of_le_of_lt h (by decide)
section
variable {X:Cx}
end
def aEn (H H':Hp):Prop:=∀b o,H b=some o->H' b=some o
theorem aEn.trans {H H1 H2:Hp}(a:aEn H H1)(b:aEn H1 H2):aEn H H2:=λc o h=>b c o (a c o h)
theorem aEn.seq {K:Frag}{H H':Hp}{a:Addr}{xs:List V}(e:aEn H H')(h:SqL K H a xs):SqL K H' a xs:=by
 rcases h with(h|⟨o,h⟩)|h
 ·exact .inl (.inl (e _ _ h))
 ·exact .inl (.inr ⟨o,e _ _ h⟩)
 ·exact .inr h
end L2
set_option maxHeartbeats 4000000
namespace Dd
open PySem PySem.Spec PyProof.Rows L2
inductive D where
 |non|bl (b:Bool)|int (i:Int)|str (x:Str)|tup (xs:List D)|fz (xs:List D)|ref (a:Addr)
def SqX (K:Frag)(H:Hp)(a:Addr)(xs:List V):Prop :=
 (∃o,H a=some (.frz o (.lst xs))) ∨
 ∃(its:Array Value)(n:Nat),K.lookup a = some { cls:=.type "list",data:=.seq its n }/\its.size<=sizeLine/\bZ xs its.toList
theorem SqX.sq {K:Frag}{H:Hp}{a:Addr}{xs:List V}(h:SqX K H a xs):SqL K H a xs:=by
 rcases h with⟨o,h⟩|⟨its,n,h,z,r⟩
 ·exact .inl (.inr ⟨o,h⟩)
 ·exact .inr ⟨_,its,n,h,rfl,rfl,rfl,z,r⟩
mutual
def Rep (K:Frag)(H:Hp):D->V->Prop
 |.non,v=>v=.non
 |.bl b,v=>v=.bl b
 |.int i,v=>v=.int i
 |.str x,v=>v=.str x
 |.ref a,v=>v=.ref a
 |.tup ds,v=>∃a xs,v=.ref a/\SqT K H a xs/\bR K H ds xs
 |.fz ds,v=>∃a xs,v=.ref a/\SqX K H a xs/\bR K H ds xs
def bR (K:Frag)(H:Hp):List D->List V->Prop
 |[],vs=>vs=[]
 |d::ds,vs=>∃v r,vs=v::r/\Rep K H d v/\bR K H ds r
end
structure Ext (H H':Hp):Prop where
 tup:∀a xs,H a=some (.tup xs)->H' a=some (.tup xs)
 frz:∀a o u,H a=some (.frz o u)->H' a=some (.frz o u)
theorem Ext.refl (H:Hp):Ext H H:=⟨λ_ _ h=>h,λ_ _ _ h=>h⟩
theorem Ext.trans {H H1 H2:Hp}(a:Ext H H1)(b:Ext H1 H2):Ext H H2:=⟨λc xs h=>b.tup c xs (a.tup c xs h),λc o u h=>b.frz c o u (a.frz c o u h)⟩
theorem Ext.new {H:Hp}{p:Addr}(h:H p=none)(o:HO):Ext H (upd H p o) :=
 ⟨λa xs e=>by rw[aM (aS e h)];exact e,λa ob u e=>by rw[aM (aS e h)];exact e⟩
theorem Ext.put {H:Hp}{p:Addr}{xs:List V}(h:H p=some (.lst xs))(o:HO):Ext H (upd H p o) :=
 ⟨λa ys e=>by rw[aM (vA e h (by intro z;cases z))];exact e,λa ob u e=>by rw[aM (vA e h (by intro z;cases z))];exact e⟩
section
variable {K:Frag}{H H':Hp}
theorem zX (e:Ext H H'){a:Addr}{xs:List V}(h:SqT K H a xs):SqT K H' a xs:=by
 rcases h with(h|⟨o,h⟩)|h
 ·exact .inl (.inl (e.tup _ _ h))
 ·exact .inl (.inr ⟨o,e.frz _ _ _ h⟩)
 ·exact .inr h
theorem jB (e:Ext H H'){a:Addr}{xs:List V}(h:SqX K H a xs):SqX K H' a xs:=by
 rcases h with⟨o,h⟩|h
 ·exact .inl ⟨o,e.frz _ _ _ h⟩
 ·exact .inr h
structure aCE (K:Frag)(H H':Hp):Prop where
 t:∀{a:Addr}{xs:List V},SqT K H a xs->SqT K H' a xs
 x:∀{a:Addr}{xs:List V},SqX K H a xs->SqX K H' a xs
mutual
theorem Rep.extS (e:aCE K H H'):∀{d:D}{v:V},Rep K H d v->Rep K H' d v
 |.non,_,h=>by unfold Rep at h ⊢;exact h
 |.bl _,_,h=>by unfold Rep at h ⊢;exact h
 |.int _,_,h=>by unfold Rep at h ⊢;exact h
 |.str _,_,h=>by unfold Rep at h ⊢;exact h
 |.ref _,_,h=>by unfold Rep at h ⊢;exact h
 |.tup ds,_,h=>by unfold Rep at h ⊢;obtain⟨a,xs,e1,sq,r⟩:=h;exact⟨a,xs,e1,e.t sq,bR.extS e r⟩
 |.fz ds,_,h=>by unfold Rep at h ⊢;obtain⟨a,xs,e1,sq,r⟩:=h;exact⟨a,xs,e1,e.x sq,bR.extS e r⟩
theorem bR.extS (e:aCE K H H'):∀{ds:List D}{vs:List V},bR K H ds vs->bR K H' ds vs
 |[],_,h=>by unfold bR at h ⊢;exact h
 |d::ds,_,h=>by unfold bR at h ⊢;obtain⟨v,r,e1,hv,hr⟩:=h;exact⟨v,r,e1,Rep.extS e hv,bR.extS e hr⟩
end
theorem Ext.s (e:Ext H H'):aCE K H H':=⟨zX e,jB e⟩
theorem Rep.ext (e:Ext H H'){d:D}{v:V}(h:Rep K H d v):Rep K H' d v:=h.extS e.s
theorem bR.ext (e:Ext H H'){ds:List D}{vs:List V}(h:bR K H ds vs):bR K H' ds vs:=h.extS e.s
theorem dI {i:Int}:Rep K H (.int i) (.int i):=by unfold Rep;rfl
theorem fK {b:Bool}:Rep K H (.bl b) (.bl b):=by unfold Rep;rfl
theorem aHJ {x:Str}:Rep K H (.str x) (.str x):=by unfold Rep;rfl
theorem sQ:Rep K H .non .non:=by unfold Rep;rfl
theorem dM {a:Addr}:Rep K H (.ref a) (.ref a):=by unfold Rep;rfl
theorem bF {i:Int}{v:V}(h:Rep K H (.int i) v):v=.int i:=by unfold Rep at h;exact h
theorem cM {b:Bool}{v:V}(h:Rep K H (.bl b) v):v=.bl b:=by unfold Rep at h;exact h
theorem dN {x:Str}{v:V}(h:Rep K H (.str x) v):v=.str x:=by unfold Rep at h;exact h
theorem eM {v:V}(h:Rep K H .non v):v=.non:=by unfold Rep at h;exact h
theorem aQ {a:Addr}{v:V}(h:Rep K H (.ref a) v):v=.ref a:=by unfold Rep at h;exact h
theorem bT {ds:List D}{v:V}(h:Rep K H (.tup ds) v):∃a xs,v=.ref a/\SqT K H a xs/\bR K H ds xs:=by unfold Rep at h;exact h
theorem mU {ds:List D}{v:V}(h:Rep K H (.fz ds) v):∃a xs,v=.ref a/\SqX K H a xs/\bR K H ds xs:=by unfold Rep at h;exact h
theorem iT {ds:List D}{a:Addr}{xs:List V}(sq:SqT K H a xs)(r:bR K H ds xs):Rep K H (.tup ds) (.ref a):=by unfold Rep;exact⟨a,xs,rfl,sq,r⟩
theorem cP:bR K H [] []:=by unfold bR;rfl
theorem bM {vs:List V}(h:bR K H [] vs):vs=[]:=by unfold bR at h;exact h
theorem bX {d:D}{ds:List D}{v:V}{vs:List V}(h:Rep K H d v)(r:bR K H ds vs):bR K H (d::ds) (v::vs):=by unfold bR;exact⟨v,vs,rfl,h,r⟩
theorem aP {d:D}{ds:List D}{vs:List V}(h:bR K H (d::ds) vs):∃v r,vs=v::r/\Rep K H d v/\bR K H ds r:=by unfold bR at h;exact h
theorem bR.length:∀{ds:List D}{vs:List V},bR K H ds vs->ds.length=vs.length
 |[],_,h=>by rw[bM h];rfl
 |d::ds,_,h=>by obtain⟨v,r,rfl,_,hr⟩:=aP h;rw[length_cons,length_cons,bR.length hr]
theorem bR.get:∀{ds:List D}{vs:List V} {i:Nat} {d:D},bR K H ds vs->ds[i]?=some d->∃v,vs[i]?=some v/\Rep K H d v
 |[],_,i,d,h,e=>by simp at e
 |d0::ds,_,0,d,h,e=>by obtain⟨v,r,rfl,hv,hr⟩:=aP h;simp at e;subst e;exact⟨v,rfl,hv⟩
 |d0::ds,_,i+1,d,h,e=>by obtain⟨v,r,rfl,hv,hr⟩:=aP h;exact bR.get (i:=i) hr (by simpa using e)
theorem bR.getV:∀{ds:List D}{vs:List V} {i:Nat} {v:V},bR K H ds vs->vs[i]?=some v->∃d,ds[i]?=some d/\Rep K H d v
 |[],_,i,v,h,e=>by rw[bM h] at e;simp at e
 |d0::ds,_,0,v,h,e=>by obtain⟨v0,r,rfl,hv,hr⟩:=aP h;simp at e;subst e;exact⟨d0,rfl,hv⟩
 |d0::ds,_,i+1,v,h,e=>by obtain⟨v0,r,rfl,hv,hr⟩:=aP h;exact bR.getV (i:=i) hr (by simpa using e)
theorem bR.set {d:D}{v:V}(h:Rep K H d v):∀{ds:List D}{vs:List V} (i:Nat),bR K H ds vs->bR K H (ds.set i d) (vs.set i v)
 |[],_,i,r=>by rw[bM r];exact cP
 |d0::ds,_,0,r=>by obtain⟨v0,r0,rfl,hv,hr⟩:=aP r;exact bX h hr
 |d0::ds,_,i+1,r=>by obtain⟨v0,r0,rfl,hv,hr⟩:=aP r;exact bX hv (bR.set h i hr)
theorem bR.append:∀{ds es:List D}{vs us:List V},bR K H ds vs->bR K H es us->bR K H (ds++es) (vs++us)
 |[],es,vs,us,h,q=>by rw[bM h];exact q
 |d::ds,es,_,us,h,q=>by obtain⟨v,r,rfl,hv,hr⟩:=aP h;exact bX hv (bR.append hr q)
theorem bR.take:∀{ds:List D}{vs:List V} (n:Nat),bR K H ds vs->bR K H (ds.take n) (vs.take n)
 |ds,vs,0,h=>by rw[List.take_zero,List.take_zero];exact cP
 |[],_,n+1,h=>by rw[bM h];exact cP
 |d::ds,_,n+1,h=>by obtain⟨v,r,rfl,hv,hr⟩:=aP h;exact bX hv (bR.take n hr)
theorem bR.drop:∀{ds:List D}{vs:List V} (n:Nat),bR K H ds vs->bR K H (ds.drop n) (vs.drop n)
 |ds,vs,0,h=>h
 |[],_,n+1,h=>by rw[bM h];exact cP
 |d::ds,_,n+1,h=>by obtain⟨v,r,rfl,hv,hr⟩:=aP h;exact bR.drop n hr
theorem zI:∀(ns:List Int),bR K H (ns.map D.int) (ns.map V.int)
 |[]=>cP
 |n::ns=>bX dI (zI ns)
end
inductive AK where
 |l (a:Addr)|d (a:Addr)|o (a:Addr)|x (a:Addr)
deriving DecidableEq
instance:Coe Addr AK:=⟨AK.l⟩
noncomputable abbrev DM:=AK->Option (List D)
noncomputable def bE (M:DM)(a:Addr)(ds:List D):DM:=λb=>if b=AK.l a then some ds else M b
noncomputable def tD (M:DM)(a:Addr)(ds:List D):DM:=λb=>if b=AK.d a then some ds else M b
noncomputable def aMJ (M:DM)(a:Addr)(ds:List D):DM:=λb=>if b=AK.o a then some ds else M b
noncomputable def putX (M:DM)(a:Addr)(ds:List D):DM:=λb=>if b=AK.x a then some ds else M b
theorem qF {M:DM}{a:Addr}{ds:List D}:putX M a ds (.x a)=some ds:=if_pos rfl
theorem gR {M:DM}{a:Addr}{b:AK}{ds:List D}(h:b≠AK.x a):putX M a ds b=M b:=if_neg h
theorem iL {M:DM}{a b:Addr}{ds:List D}:bE M a ds (.x b)=M (.x b):=if_neg λe=>nomatch e
theorem aGP {M:DM}{a b:Addr}{ds:List D}:tD M a ds (.x b)=M (.x b):=if_neg λe=>nomatch e
theorem aCw {M:DM}{a b:Addr}{ds:List D}:bE M a ds (.o b)=M (.o b):=if_neg λe=>nomatch e
theorem aF4 {M:DM}{a b:Addr}{ds:List D}:tD M a ds (.o b)=M (.o b):=if_neg λe=>nomatch e
theorem aK {M:DM}{a:Addr}{ds:List D}:bE M a ds a=some ds:=if_pos rfl
theorem bV {M:DM}{a b:Addr}{ds:List D}(h:b≠a):bE M a ds b=M b:=if_neg λe=>h (AK.l.inj e)
theorem fE {M:DM}{a:Addr}{b:AK}{ds:List D}(h:b≠AK.l a):bE M a ds b=M b:=if_neg h
theorem lL {M:DM}{a b:Addr}{ds:List D}:bE M a ds (.d b)=M (.d b):=if_neg λe=>nomatch e
theorem tT {M:DM}{a:Addr}{ds es:List D}:bE (bE M a ds) a es=bE M a es:=by funext b;unfold bE;split<;>rfl
theorem jU {M:DM}{a:Addr}{ds:List D}:tD M a ds (.d a)=some ds:=if_pos rfl
theorem aDj {M:DM}{a b:Addr}{ds:List D}(h:b≠a):tD M a ds (.d b)=M (.d b):=if_neg λe=>h (AK.d.inj e)
theorem xY {M:DM}{a:Addr}{b:AK}{ds:List D}(h:b≠AK.d a):tD M a ds b=M b:=if_neg h
theorem vU {M:DM}{a b:Addr}{ds:List D}:tD M a ds (.l b)=M (.l b):=if_neg λe=>nomatch e
theorem aV {M:DM}{a b:Addr}{o:List D}(h:M a=some o)(h':M b=none):a≠b:=by intro e;subst e;rw[h] at h';cases h'
theorem bS {M:DM}{a b:AK}{o:List D}(h:M a=some o)(h':M b=none):a≠b:=by intro e;subst e;rw[h] at h';cases h'
def dE (a:Addr)(es:List DictEntry):Heap->Prop:=λh=>(a==sysModules) = false/\es.length<=sizeLine/\∃ep,h.get? a = some { cls:=.type "dict",data:=.dict es.toArray ep }
def aEp (K:Frag)(H:Hp)(d:D)(e:DictEntry):Prop:=∃k v kv vv,d=.tup [.int e.hash,k,v]/\RelV kv e.key/\Rep K H k kv/\RelV vv e.val/\Rep K H v vv
theorem aEp.ext {K:Frag}{H H':Hp}{d:D}{e:DictEntry}(h:aEp K H d e)(x:Ext H H'):aEp K H' d e :=
 let ⟨k,v,kv,vv,a,b,c,f,g⟩:=h;⟨k,v,kv,vv,a,b,c.ext x,f,g.ext x⟩
abbrev pR (K:Frag)(H:Hp)(ds:List D)(es:List DictEntry):Prop:=Paired (aEp K H) ds es
theorem eV {K:Frag}{H H':Hp}{ds:List D}{es:List DictEntry}(h:pR K H ds es)(x:Ext H H'):pR K H' ds es:=Paired.mapP h λ_ _ r=>r.ext x
noncomputable def aDV (C:Addr)(gs:List (Str×D)):List D:=.ref C::gs.map λp=>.tup [.str p.1,p.2]
abbrev aGB (K:Frag)(H:Hp)(gs:List (Str×D))(fs:List (Str×V)):Prop:=Paired (λ(g:Str×D)(f:Str×V)=>g.1=f.1/\Rep K H g.2 f.2) gs fs
theorem iQ {K:Frag}{H H':Hp}{gs:List (Str×D)}{fs:List (Str×V)}(h:aGB K H gs fs)(x:Ext H H'):aGB K H' gs fs:=Paired.mapP h λ_ _ r=>⟨r.1,r.2.ext x⟩
def aEA (H:Hp)(a:Addr)(q:Str):Prop:=∃ps:Array Value,H a=some (.tbl ps)/\TriplesOk ps.toList/\∀pos v,codeAmong pos ps.toList=some v->∃c oc u vs t,v=.ref c/\H c=some (.frz oc u)/\oc.data=.fields vs/\vs[1]?=some (.str q t)
noncomputable def aGv (p1 p2:Pos):Arguments:={ posonlyargs:=[],args:=[⟨"one",none,p1⟩,⟨"other",none,p2⟩],vararg:=none,kwonlyargs:=[],kw_defaults:=[],kwarg:=none,defaults:=[] }
noncomputable def aED (p1 p2 p3 p4 p5 p6 p7 p8:Pos):Expr:=.Call (.Name "earlier" p1) [.Subscript (.Name "one" p2) (.Constant (.int 0) 0 p3) p4,.Subscript (.Name "other" p5) (.Constant (.int 0) 0 p6) p7] [] p8
noncomputable def qU:Scope:={ kind:=.function,names:=[("one",.local),("other",.local),("earlier",.free)],isGenerator:=false,isCoroutine:=false }
def aKH (H:Hp)(f g:Addr):Prop:=∃(q:Str)(a1 a2 b1 b2 b3 b4 b5 b6 b7 b8:Pos) (c c':Addr) (pm ct:Value) (oc oc':Obj) (u u':HO) (vs:Array Value) (t:Tok),
 H f = some (.frz { cls:=.type "function",data:=.func { name:="<lambda>",qualname:=q,params:=aGv a1 a2,body:=.expr (aED b1 b2 b3 b4 b5 b6 b7 b8),scope:=qU,globals:=mainGlobals,closure:=[("earlier",c)],defaults:=.none,kwdefaults:=.none,doc:=.none,pyModule:=pm,annotations:=none,code:=.ref c',closureTuple:=ct,builtins:=builtinsNs } } u) /\
 H c=some (.frz oc (.own f))/\oc.data=.cell (some (.ref g))/\H c'=some (.frz oc' u')/\oc'.data=.fields vs/\vs[1]?=some (.str q t)
def aKw (K:Frag)(H:Hp)(a:Addr)(es:List D):Prop:=∃o ens ep,o.data=.dict (toArray ens) ep/\H a=some (.frz o (.ext (dE a ens)))/\pR K H es ens
def sS (K:Frag)(H:Hp)(a:Addr):List D->Prop
 |[.str q]=>aEA H a q
 |[.ref g]=>aKH H a g
 |.bl _::es=>aKw K H a es
 |_=>False
theorem sS.ext {K:Frag}{H H':Hp}{a:Addr}{ds:List D}(h:sS K H a ds)(e:Ext H H')(tb:∀ps,H a=some (.tbl ps)->H' a=some (.tbl ps)):sS K H' a ds:=by
 unfold sS at h ⊢;split at h
 ·obtain⟨ps,h1,h2,h3⟩:=h;exact⟨ps,tb ps h1,h2,λpos v z=>let ⟨c,oc,u,vs,t,a,b,r⟩:=h3 pos v z;⟨c,oc,u,vs,t,a,e.frz _ _ _ b,r⟩⟩
 ·obtain⟨q,a1,a2,b1,b2,b3,b4,b5,b6,b7,b8,c,c',pm,ct,oc,oc',u,u',vs,t,h1,h4,h5,h6,h7⟩:=h;exact⟨q,a1,a2,b1,b2,b3,b4,b5,b6,b7,b8,c,c',pm,ct,oc,oc',u,u',vs,t,e.frz _ _ _ h1,e.frz _ _ _ h4,h5,e.frz _ _ _ h6,h7⟩
 ·obtain⟨o,ens,ep,h0,h1,h2⟩:=h;exact⟨o,ens,ep,h0,e.frz _ _ _ h1,eV h2 e⟩
 ·exact h
theorem sS.sth {K:Frag}{H:Hp}{a:Addr}{ds:List D}(h:sS K H a ds):(∃ps,H a=some (.tbl ps)) ∨ ∃o u,H a=some (.frz o u):=by
 unfold sS at h;split at h
 ·obtain⟨ps,h1,_⟩:=h;exact .inl ⟨ps,h1⟩
 ·obtain⟨_,_,_,_,_,_,_,_,_,_,_,_,_,_,_,_,_,_,_,_,_,h1,_⟩:=h;exact .inr ⟨_,_,h1⟩
 ·obtain⟨_,_,_,_,h1,_⟩:=h;exact .inr ⟨_,_,h1⟩
 ·exact h.elim
theorem sS.wr {K:Frag}{H:Hp}{a p:Addr}{o:HO}{ds:List D}(h:sS K H a ds)(e:Ext H (upd H p o))(n:∀ps,H p≠some (.tbl ps)):sS K (upd H p o) a ds :=
 h.ext e λps z=>by rw[aM (λw=>n ps (by rw[<- w];exact z))];exact z
structure bN (K:Frag)(M:DM)(H:Hp):Prop where
 l:∀(a:Addr) ds,M (.l a)=some ds->∃xs,H a=some (.lst xs)/\bR K H ds xs
 d:∀(a:Addr) ds,M (.d a)=some ds->∃es,H a=some (.ext (dE a es))/\pR K H ds es
 o:∀(a:Addr) ds,M (.o a)=some ds->∃C dx gs fs,ds=aDV C gs/\H a=some (.ins C dx fs)/\aGB K H gs fs
 x:∀(a:Addr) ds,M (.x a)=some ds->sS K H a ds
theorem Ext.putX {H:Hp}{p:Addr}{φ:Heap->Prop}(h:H p=some (.ext φ))(o:HO):Ext H (upd H p o) :=
 ⟨λa ys e=>by rw[aM (vA e h (by intro z;cases z))];exact e,λa ob u e=>by rw[aM (vA e h (by intro z;cases z))];exact e⟩
section
variable {K:Frag}{H H':Hp}{M M':DM}
theorem bN.fresh (h:bN K M H){p:Addr}(e:H p=none):M p=none:=by
 cases q:M p with
 |none=>rfl
 |some ds=>obtain⟨xs,z,_⟩:=h.l p ds q;rw[e] at z;cases z
theorem bN.freshD (h:bN K M H){p:Addr}(e:H p=none):M (.d p)=none:=by
 cases q:M (.d p) with
 |none=>rfl
 |some ds=>obtain⟨xs,z,_⟩:=h.d p ds q;rw[e] at z;cases z
theorem bN.freshX (h:bN K M H){p:Addr}(e:H p=none):M (.x p)=none:=by
 cases q:M (.x p) with
 |none=>rfl
 |some ds=>rcases (h.x p ds q).sth with⟨_,z⟩|⟨_,_,z⟩<;>(rw[e] at z;cases z)
theorem bN.new (h:bN K M H){p:Addr}(e:H p=none)(o:HO):bN K M (upd H p o) where
 l:=λa ds q=>by obtain⟨xs,z,r⟩:=h.l a ds q;exact⟨xs,by rw[aM (aS z e)];exact z,r.ext (Ext.new e o)⟩
 d:=λa ds q=>by obtain⟨xs,z,r⟩:=h.d a ds q;exact⟨xs,by rw[aM (aS z e)];exact z,eV r (Ext.new e o)⟩
 o:=λa ds q=>by obtain⟨C,dx,gs,fs,w,z,r⟩:=h.o a ds q;exact⟨C,dx,gs,fs,w,by rw[aM (aS z e)];exact z,iQ r (Ext.new e o)⟩
 x:=λa ds q=>(h.x a ds q).wr (Ext.new e o) λps z=>by rw[e] at z;cases z
theorem bN.lnew (h:bN K M H){p:Addr}(e:H p=none){xs:List V}{ds:List D}(r:bR K H ds xs):bN K (bE M p ds) (upd H p (.lst xs)) where
 l:=λa es q=>by
  by_cases ha:a=p
  ·subst ha;rw[aK] at q;cases q;exact⟨xs,bL,r.ext (Ext.new e _)⟩
  ·rw[bV ha] at q;obtain⟨ys,z,r2⟩:=h.l a es q;exact⟨ys,by rw[aM ha];exact z,r2.ext (Ext.new e _)⟩
 d:=λa es q=>by rw[lL] at q;obtain⟨ys,z,r2⟩:=h.d a es q;exact⟨ys,by rw[aM (aS z e)];exact z,eV r2 (Ext.new e _)⟩
 o:=λa es q=>by rw[aCw] at q;obtain⟨C,dx,gs,fs,w,z,r⟩:=h.o a es q;exact⟨C,dx,gs,fs,w,by rw[aM (aS z e)];exact z,iQ r (Ext.new e _)⟩
 x:=λa es q=>(h.x a es (by rw[iL] at q;exact q)).wr (Ext.new e _) λps z=>by rw[e] at z;cases z
theorem bN.put (h:bN K M H){p:Addr}{xs0:List V}(e:H p=some (.lst xs0)){xs:List V}{ds:List D}(r:bR K H ds xs):bN K (bE M p ds) (upd H p (.lst xs)) where
 l:=λa es q=>by
  by_cases ha:a=p
  ·subst ha;rw[aK] at q;cases q;exact⟨xs,bL,r.ext (Ext.put e _)⟩
  ·rw[bV ha] at q;obtain⟨ys,z,r2⟩:=h.l a es q;exact⟨ys,by rw[aM ha];exact z,r2.ext (Ext.put e _)⟩
 d:=λa es q=>by rw[lL] at q;obtain⟨ys,z,r2⟩:=h.d a es q;exact⟨ys,by rw[aM (vA z e (by intro z;cases z))];exact z,eV r2 (Ext.put e _)⟩
 o:=λa es q=>by rw[aCw] at q;obtain⟨C,dx,gs,fs,w,z,r⟩:=h.o a es q;exact⟨C,dx,gs,fs,w,by rw[aM (vA z e (by intro z;cases z))];exact z,iQ r (Ext.put e _)⟩
 x:=λa es q=>(h.x a es (by rw[iL] at q;exact q)).wr (Ext.put e _) λps z=>by rw[e] at z;cases z
theorem bN.knew (h:bN K M H){p:Addr}(e:H p=none){xs:List DictEntry}{ds:List D}(r:pR K H ds xs):bN K (tD M p ds) (upd H p (.ext (dE p xs))) where
 d:=λa es q=>by
  by_cases ha:a=p
  ·subst ha;rw[jU] at q;cases q;exact⟨xs,bL,eV r (Ext.new e _)⟩
  ·rw[aDj ha] at q;obtain⟨ys,z,r2⟩:=h.d a es q;exact⟨ys,by rw[aM ha];exact z,eV r2 (Ext.new e _)⟩
 l:=λa es q=>by rw[vU] at q;obtain⟨ys,z,r2⟩:=h.l a es q;exact⟨ys,by rw[aM (aS z e)];exact z,r2.ext (Ext.new e _)⟩
 o:=λa es q=>by rw[aF4] at q;obtain⟨C,dx,gs,fs,w,z,r⟩:=h.o a es q;exact⟨C,dx,gs,fs,w,by rw[aM (aS z e)];exact z,iQ r (Ext.new e _)⟩
 x:=λa es q=>(h.x a es (by rw[aGP] at q;exact q)).wr (Ext.new e _) λps z=>by rw[e] at z;cases z
theorem bN.kput (h:bN K M H){p:Addr}{φ:Heap->Prop}(e:H p=some (.ext φ)){xs:List DictEntry}{ds:List D}(r:pR K H ds xs):bN K (tD M p ds) (upd H p (.ext (dE p xs))) where
 d:=λa es q=>by
  by_cases ha:a=p
  ·subst ha;rw[jU] at q;cases q;exact⟨xs,bL,eV r (Ext.putX e _)⟩
  ·rw[aDj ha] at q;obtain⟨ys,z,r2⟩:=h.d a es q;exact⟨ys,by rw[aM ha];exact z,eV r2 (Ext.putX e _)⟩
 l:=λa es q=>by rw[vU] at q;obtain⟨ys,z,r2⟩:=h.l a es q;exact⟨ys,by rw[aM (vA z e (by intro z;cases z))];exact z,r2.ext (Ext.putX e _)⟩
 o:=λa es q=>by rw[aF4] at q;obtain⟨C,dx,gs,fs,w,z,r⟩:=h.o a es q;exact⟨C,dx,gs,fs,w,by rw[aM (vA z e (by intro z;cases z))];exact z,iQ r (Ext.putX e _)⟩
 x:=λa es q=>(h.x a es (by rw[aGP] at q;exact q)).wr (Ext.putX e _) λps z=>by rw[e] at z;cases z
def bK (M M':DM):Prop:=∀a o,M a=some o->M' a=some o
theorem bK.refl (M:DM):bK M M:=λ_ _ h=>h
theorem bK.trans {M1 M2 M3:DM}(a:bK M1 M2)(b:bK M2 M3):bK M1 M3:=λc o h=>b c o (a c o h)
theorem bK.new {M:DM}{p:Addr}(h:M p=none)(ds:List D):bK M (bE M p ds):=λa o e=>by rw[fE (bS e h)];exact e
theorem bK.newK {M:DM}{p:Addr}(h:M (.d p)=none)(ds:List D):bK M (tD M p ds):=λa o e=>by rw[xY (bS e h)];exact e
theorem bN.sub (h:bN K M' H)(s:bK M M'):bN K M H:=⟨λa ds q=>h.l a ds (s _ ds q),λa ds q=>h.d a ds (s _ ds q),λa ds q=>h.o a ds (s _ ds q),λa ds q=>h.x a ds (s _ ds q)⟩
end
noncomputable abbrev cW:=List (Option D)
structure fQ (K:Frag)(H:Hp)(ρ:cW)(σ:L2.St):Prop where
 len:ρ.length=σ.length
 get:∀(i:Nat) d,ρ[i]?=some (some d)->∃v,σ[i]?=some (some v)/\Rep K H d v
section
variable {K:Frag}{H H':Hp}{ρ:cW}{σ:L2.St}
theorem fQ.ext (h:fQ K H ρ σ)(e:Ext H H'):fQ K H' ρ σ:=⟨h.len,λi d q=>let ⟨v,a,b⟩:=h.get i d q;⟨v,a,b.ext e⟩⟩
theorem fQ.set (h:fQ K H ρ σ){d:D}{v:V}(r:Rep K H d v)(i:Nat):fQ K H (ρ.set i (some d)) (σ.set i (some v)):=by
 refine⟨by rw[List.length_set,List.length_set,h.len],λj d' q=>?_⟩;rw[List.getElem?_set] at q;by_cases hij:i=j
 ·subst hij;rw[if_pos rfl] at q;by_cases hl:i<ρ.length
  ·rw[if_pos hl] at q;cases q;exact⟨v,by rw[List.getElem?_set,if_pos rfl,if_pos (by rw[<- h.len];exact hl)],r⟩
  ·rw[if_neg hl] at q;cases q
 ·rw[if_neg hij] at q;obtain⟨u,a,b⟩:=h.get j d' q;exact⟨u,by rw[List.getElem?_set,if_neg hij];exact a,b⟩
end
abbrev DQ:=D->DM->Prop
abbrev DE:=cW->DM->DQ->Prop
abbrev DT:=cW->DM->(Bool->DM->Prop)->Prop
abbrev DA:=cW->DM->(List D->DM->Prop)->Prop
structure fR where
 nx:cW->DM->Prop
 rt:DQ
 bk:cW->DM->Prop:=λ_ _=>False
 ct:cW->DM->Prop:=λ_ _=>False
abbrev DS:=fR->cW->DM->Prop
abbrev DG:=D->cW->DM->(cW->DM->Prop)->Prop
abbrev DGs:=List D->cW->DM->(cW->DM->Prop)->Prop
noncomputable def LQ (K:Frag)(H:Hp)(Q:DQ):VK:=λv H'=>∃d M',Rep K H' d v/\bN K M' H'/\Ext H H'/\Q d M'
def LT (K:Frag)(H:Hp)(Q:Bool->DM->Prop):Bool->Hp->Prop:=λb H'=>∃M',bN K M' H'/\Ext H H'/\Q b M'
def LA (K:Frag)(H:Hp)(Q:List D->DM->Prop):List V->Hp->Prop:=λvs H'=>∃ds M',bR K H' ds vs/\bN K M' H'/\Ext H H'/\Q ds M'
def LN (K:Frag)(H:Hp)(Q:cW->DM->Prop):L2.St->Hp->Prop:=λσ' H'=>∃ρ' M',fQ K H' ρ' σ'/\bN K M' H'/\Ext H H'/\Q ρ' M'
structure nN (K:Frag)(H:Hp)(D:fR)(E:sX):Prop where
 nx:∀σ' H',LN K H D.nx σ' H'->E.nx σ' H'
 rt:∀v H',LQ K H D.rt v H'->E.rt v H'
 bk:∀σ' H',LN K H D.bk σ' H'->E.bk σ' H'
 ct:∀σ' H',LN K H D.ct σ' H'->E.ct σ' H'
def low (K:Frag)(t:DE):TE:=λσ H Q=>∃ρ M Q',fQ K H ρ σ/\bN K M H/\t ρ M Q'/\∀v H',LQ K H Q' v H'->Q v H'
def aJZ (K:Frag)(t:DT):TT:=λσ H Q=>∃ρ M Q',fQ K H ρ σ/\bN K M H/\t ρ M Q'/\∀v H',LT K H Q' v H'->Q v H'
def aMz (K:Frag)(t:DA):TA:=λσ H Q=>∃ρ M Q',fQ K H ρ σ/\bN K M H/\t ρ M Q'/\∀v H',LA K H Q' v H'->Q v H'
def aCh (K:Frag)(t:DS):TS:=λE σ H=>∃ρ M D,fQ K H ρ σ/\bN K M H/\t D ρ M/\nN K H D E
def vY (K:Frag)(g:DG):TG:=λv σ H Q=>∃d ρ M Q',Rep K H d v/\fQ K H ρ σ/\bN K M H/\g d ρ M Q'/\∀σ' H',LN K H Q' σ' H'->Q σ' H'
def aNn (K:Frag)(g:DGs):TGs:=λvs σ H Q=>∃ds ρ M Q',bR K H ds vs/\fQ K H ρ σ/\bN K M H/\g ds ρ M Q'/\∀σ' H',LN K H Q' σ' H'->Q σ' H'
abbrev PDE (X:Cx)(e:Expr)(t:DE):Prop:=PE X e (low X.K t)
abbrev PDT (X:Cx)(e:Expr)(t:DT):Prop:=PT X e (aJZ X.K t)
abbrev PDW (X:Cx)(e:Expr)(t:DT):Prop:=PW X e (aJZ X.K t)
abbrev PDA (X:Cx)(es:List Expr)(t:DA):Prop:=PA X es (aMz X.K t)
abbrev PDS (X:Cx)(st:Stmt)(t:DS):Prop:=PS X st (aCh X.K t)
abbrev mD (X:Cx)(st:List Stmt)(t:DS):Prop:=PSs X st (aCh X.K t)
abbrev PDG (X:Cx)(e:Expr)(g:DG):Prop:=PG X e (vY X.K g)
abbrev aBt (X:Cx)(es:List Expr)(g:DGs):Prop:=PGs X es (aNn X.K g)
section
variable {K:Frag}{H H1:Hp}
theorem LQ.back {Q:DQ}{v:V}{H2:Hp}(e:Ext H H1)(h:LQ K H1 Q v H2):LQ K H Q v H2:=let ⟨d,M,a,b,c,q⟩:=h;⟨d,M,a,b,e.trans c,q⟩
theorem LT.back {Q:Bool->DM->Prop}{v:Bool}{H2:Hp}(e:Ext H H1)(h:LT K H1 Q v H2):LT K H Q v H2:=let ⟨M,b,c,q⟩:=h;⟨M,b,e.trans c,q⟩
theorem LN.back {Q:cW->DM->Prop}{v:L2.St}{H2:Hp}(e:Ext H H1)(h:LN K H1 Q v H2):LN K H Q v H2:=let ⟨d,M,a,b,c,q⟩:=h;⟨d,M,a,b,e.trans c,q⟩
theorem nN.at {D:fR}{E:sX}(h:nN K H D E)(e:Ext H H1):nN K H1 D E :=
 ⟨λs H2 q=>h.nx s H2 (q.back e),λs H2 q=>h.rt s H2 (q.back e),λs H2 q=>h.bk s H2 (q.back e),λs H2 q=>h.ct s H2 (q.back e)⟩
end
section
variable {X:Cx}{e:Expr}{st:Stmt}{sts:List Stmt}
theorem dR {t u:TE}(h:PE X e t)(k:∀σ H Q,u σ H Q->t σ H Q):PE X e u:=λpins s σ H Q I q=>h pins s σ H Q I (k σ H Q q)
theorem aCy {t u:TT}(h:PT X e t)(k:∀σ H Q,u σ H Q->t σ H Q):PT X e u:=λpins s σ H Q I q=>h pins s σ H Q I (k σ H Q q)
theorem aGb {t u:TT}(h:PW X e t)(k:∀σ H Q,u σ H Q->t σ H Q):PW X e u:=λwh pins s σ H Q I q=>h wh pins s σ H Q I (k σ H Q q)
theorem aFw {es:List Expr}{t u:TA}(h:PA X es t)(k:∀σ H Q,u σ H Q->t σ H Q):PA X es u:=λpos pins s σ H Q I q=>h pos pins s σ H Q I (k σ H Q q)
theorem gF {t u:TS}(h:PS X st t)(k:∀D σ H,u D σ H->t D σ H):PS X st u:=λpins s σ H D I q=>h pins s σ H D I (k D σ H q)
theorem aAY {t u:TS}(h:PSs X sts t)(k:∀D σ H,u D σ H->t D σ H):PSs X sts u:=λpins s σ H D I q=>h pins s σ H D I (k D σ H q)
theorem aAE {t u:TG}(h:PG X e t)(k:∀v σ H Q,u v σ H Q->t v σ H Q):PG X e u:=λpins s σ H v w Q I r q=>h pins s σ H v w Q I r (k v σ H Q q)
theorem aDG {es:List Expr}{t u:TGs}(h:PGs X es t)(k:∀v σ H Q,u v σ H Q->t v σ H Q):PGs X es u:=λpins s σ H v w Q I r q=>h pins s σ H v w Q I r (k v σ H Q q)
end
section
variable {X:Cx}{a b c e:Expr}{es:List Expr}{ta tb tc te:DE}{tA tB:DT}{t:DA}{pos:Pos}
def aCo (i:Nat):DE:=λρ M Q=>match ρ[i]? with
 |some (some d)=>Q d M
 |_=>False
theorem aAA (i:Nat){x:Str}{pos:Pos}(hN:X.N[i]?=some x:=by rfl)(hv:Vis X.env.scope x:=by first|exact Or.inl rfl|exact Or.inr (Or.inl rfl)|exact Or.inr (Or.inr rfl))(hd:(x==("__debug__":Str))=false:=by decide)(hcd:(x==("__classdict__":Str))=false:=by decide):PDE X (.Name x pos) (aCo i) :=
 dR (aFG (i:=i) hN hv hd hcd) λσ H Q ⟨ρ,M,Q',re,hm,q,k⟩=>by
  unfold aCo at q;split at q
  ·rename_i d e;obtain⟨v,e1,r⟩:=re.get i d e;exact⟨v,e1,k v H ⟨d,M,r,hm,.refl H,q⟩⟩
  ·exact q.elim
def dC (d:D):DE:=λ_ M Q=>Q d M
theorem aCH {i j pos}:PDE X (.Constant (.int i) j pos) (dC (.int i)):=dR aJg λσ H Q ⟨ρ,M,Q',re,hm,q,k⟩=>k _ H ⟨_,M,dI,hm,.refl H,q⟩
theorem aL3 {i j pos}:PDE X (.Constant (.bool i) j pos) (dC (.bl i)):=dR aMl λσ H Q ⟨ρ,M,Q',re,hm,q,k⟩=>k _ H ⟨_,M,fK,hm,.refl H,q⟩
theorem aKG {j pos}:PDE X (.Constant .none j pos) (dC .non):=dR aLg λσ H Q ⟨ρ,M,Q',re,hm,q,k⟩=>k _ H ⟨_,M,sQ,hm,.refl H,q⟩
theorem aJF {x j pos}:PDE X (.Constant (.str x) j pos) (dC (.str x)):=dR aLq λσ H Q ⟨ρ,M,Q',re,hm,q,k⟩=>k _ H ⟨_,M,aHJ,hm,.refl H,q⟩
theorem aHX {x:Str}{d:D}{v:V}{u:Value}{pos:Pos}(hg:Gl X x)(hm:X.mg x=some u)(r:RelV v u)(hr:∀H,Rep X.K H d v)(hd:(x==("__debug__":Str))=false:=by decide):PDE X (.Name x pos) (dC d) :=
 dR (aH7 hg hm r hd) λσ H Q ⟨ρ,M,Q',re,hm,q,k⟩=>k _ H ⟨_,M,hr H,hm,.refl H,q⟩
abbrev D2:=D->D->DM->DQ->Prop
def OpL (K:Frag)(r:R2)(r':D2):Prop:=∀x y H M dx dy Q,Rep K H dx x->Rep K H dy y->bN K M H->r' dx dy M Q->r x y H (LQ K H Q)
def OpD (X:Cx)(f:Value->Value->Sem Value)(r':D2):Prop :=
 OpR X f λx y H Q=>∃dx dy M Q',Rep X.K H dx x/\Rep X.K H dy y/\bN X.K M H/\r' dx dy M Q'/\∀v H',LQ X.K H Q' v H'->Q v H'
theorem aDh {pins:List (Addr×Obj)}{σ:L2.St}{Q Q':VK}{u:Value}{s:Shared}(h:EP X pins σ Q u s)(k:∀v H,Q v H->Q' v H):EP X pins σ Q' u s:=let ⟨v,H,a,b,c⟩:=h;⟨v,H,a,b,k v H c⟩
theorem OpD.of {f:Value->Value->Sem Value}{r:R2}{r':D2}(h:OpR X f r)(l:OpL X.K r r'):OpD X f r':=λpins s σ H x y v u Q I rx ry ⟨dx,dy,M,Q',r1,r2,hm,q,k⟩ =>
 thn (h pins s σ H x y v u _ I rx ry (l x y H M dx dy Q' r1 r2 hm q)) λv s h=>aDh h k
def dOp (r:D2)(ta tb:DE):DE:=λρ M Q=>ta ρ M λx M1=>tb ρ M1 λy M2=>r x y M2 Q
theorem aAN {r':D2}{σ:L2.St}{H:Hp}{Q:VK}{R:V->V->Hp->VK->Prop}(hR:∀x y H1 Q1,(∃dx dy M Q',Rep X.K H1 dx x/\Rep X.K H1 dy y/\bN X.K M H1/\r' dx dy M Q'/\∀v H',LQ X.K H1 Q' v H'->Q1 v H')->R x y H1 Q1)(h:low X.K (dOp r' ta tb) σ H Q):low X.K ta σ H λx H1=>low X.K tb σ H1 λy H2=>R x y H2 Q:=by obtain⟨ρ,M,Q',re,hm,q,k⟩:=h;refine⟨ρ,M,_,re,hm,q,λx H1 ⟨dx,M1,rx,hm1,e1,q1⟩=>⟨ρ,M1,_,re.ext e1,hm1,q1,λy H2 ⟨dy,M2,ry,hm2,e2,q2⟩=>?_⟩⟩;exact hR x y H2 Q ⟨dx,dy,M2,Q',rx.ext e2,ry,hm2,q2,λv H' z=>k v H' (z.back (e1.trans e2))⟩
theorem aNe {op:Operator}{r:D2}(ho:OpD X (binaryOp op) r)(ha:PDE X a ta)(hb:PDE X b tb):PDE X (.BinOp a op b pos) (dOp r ta tb) :=
 dR (aMW ho ha hb) λσ H Q h=>aAN (λ_ _ _ _ z=>z) h
theorem aIY {op:CmpOp}{r:D2}(ho:OpD X (compareOp op) r)(ha:PDE X a ta)(hb:PDE X b tb)(hm:behindInMarks op b=false:=by exact aAV _):PDE X (.Compare a [op] [b] pos) (dOp r ta tb) :=
 dR (aHp ho ha hb hm) λσ H Q h=>aAN (λ_ _ _ _ z=>z) h
def zJ (t:DE):DT:=λρ M Q=>t ρ M λd M'=>match d with
 |.bl k=>Q k M'
 |_=>False
theorem aBE {σ:L2.St}{H:Hp}{Q:Bool->Hp->Prop}(h:aJZ X.K (zJ te) σ H Q):low X.K te σ H λx H'=>∃k,x=.bl k/\Q k H':=by
 obtain⟨ρ,M,Q',re,hm,q,k⟩:=h;refine⟨ρ,M,_,re,hm,q,λx H1 ⟨d,M1,rd,hm1,e1,q1⟩=>?_⟩;cases d with
 |bl c=>exact⟨c,cM rd,k c H1 ⟨M1,hm1,e1,q1⟩⟩
 |_=>exact q1.elim
theorem aJJ {op:CmpOp}{r:D2}(ho:OpD X (compareOp op) r)(ha:PDE X a ta)(hb:PDE X b tb)(hm:behindInMarks op b=false:=by exact aAV _):PDT X (.Compare a [op] [b] pos) (zJ (dOp r ta tb)) :=
 aCy (aHR ho ha hb hm) λσ H Q h=>aAN (R:=λx y H Q1=>∃dx dy M Q',Rep X.K H dx x/\Rep X.K H dy y/\bN X.K M H/\r dx dy M Q'/\∀v H',LQ X.K H Q' v H'->Q1 v H') (λ_ _ _ _ z=>z) (aBE h)
theorem aKI (h:PDE X e te)(he:∀whole,isTrue e X.env whole=(do let v <- whole;standAt e.pos;holding [v] (truthy v)):=by intro _;rfl):PDT X e (zJ te) :=
 aCy (aK0 h he) λσ H Q h=>aBE h
def aKT (t u:DT):DT:=λρ M Q=>t ρ M λc M1=>if c=true then u ρ M1 Q else Q false M1
def dOr (t u:DT):DT:=λρ M Q=>t ρ M λc M1=>if c=true then Q true M1 else u ρ M1 Q
def aJY (t:DT):DT:=λρ M Q=>t ρ M λc M1=>Q (!c) M1
variable {cN:List Expr}
theorem aHG (ha:PDT X a tA):PDW X (.BoolOp .And [a] pos) tA:=aIl ha
theorem aLn (ha:PDT X a tA):PDW X (.BoolOp .Or [a] pos) tA:=aJm ha
theorem aJ4 (ha:PDT X a tA)(hb:PDW X (.BoolOp .And (b::cN) pos) tB):PDW X (.BoolOp .And (a::b::cN) pos) (aKT tA tB) :=
 aGb (aKV ha hb) λσ H Q ⟨ρ,M,Q',re,hm,q,k⟩=>⟨ρ,M,_,re,hm,q,λc H1 ⟨M1,hm1,e1,q1⟩=>by
  cases c with
  |true=>exact⟨ρ,M1,_,re.ext e1,hm1,q1,λv H' z=>k v H' (z.back e1)⟩
  |false=>exact k false H1 ⟨M1,hm1,e1,q1⟩⟩
theorem aNd (ha:PDT X a tA)(hb:PDW X (.BoolOp .Or (b::cN) pos) tB):PDW X (.BoolOp .Or (a::b::cN) pos) (dOr tA tB) :=
 aGb (aLT ha hb) λσ H Q ⟨ρ,M,Q',re,hm,q,k⟩=>⟨ρ,M,_,re,hm,q,λc H1 ⟨M1,hm1,e1,q1⟩=>by
  cases c with
  |false=>exact⟨ρ,M1,_,re.ext e1,hm1,q1,λv H' z=>k v H' (z.back e1)⟩
  |true=>exact k true H1 ⟨M1,hm1,e1,q1⟩⟩
theorem aNB (h:PDW X e tA):PDT X e tA:=PW.pt h
theorem aK5 (ha:PDT X a tA):PDT X (.UnaryOp .Not a pos) (aJY tA) :=
 aCy (aKY ha) λσ H Q ⟨ρ,M,Q',re,hm,q,k⟩=>⟨ρ,M,_,re,hm,q,λc H1 ⟨M1,hm1,e1,q1⟩=>k (!c) H1 ⟨M1,hm1,e1,q1⟩⟩
def aEN (ta tb:DE):DE:=λρ M Q=>ta ρ M λx M1=>match x with
 |.bl c=>if c=true then tb ρ M1 Q else Q (.bl false) M1
 |_=>False
def aJr (ta tb:DE):DE:=λρ M Q=>ta ρ M λx M1=>match x with
 |.bl c=>if c=true then Q (.bl true) M1 else tb ρ M1 Q
 |_=>False
def aGA (ta:DE):DE:=λρ M Q=>ta ρ M λx M1=>match x with
 |.bl c=>Q (.bl (!c)) M1
 |_=>False
theorem aJl {op}(h:PDE X a ta):PDE X (.BoolOp op [a] pos) ta:=aJq h
theorem aJc (ha:PDE X a ta)(hb:PDE X (.BoolOp .And (b::cN) pos) tb):PDE X (.BoolOp .And (a::b::cN) pos) (aEN ta tb) :=
 dR (aKl ha hb) λσ H Q ⟨ρ,M,Q',re,hm,q,k⟩=>⟨ρ,M,_,re,hm,q,λx H1 ⟨d,M1,rd,hm1,e1,q1⟩=>by
  cases d with
  |bl c =>
   refine⟨c,cM rd,?_⟩;cases c with
   |true=>exact⟨ρ,M1,_,re.ext e1,hm1,q1,λv H' z=>k v H' (z.back e1)⟩
   |false=>exact k _ H1 ⟨_,M1,fK,hm1,e1,q1⟩
  |_=>exact q1.elim⟩
theorem aM5 (ha:PDE X a ta)(hb:PDE X (.BoolOp .Or (b::cN) pos) tb):PDE X (.BoolOp .Or (a::b::cN) pos) (aJr ta tb) :=
 dR (aNa ha hb) λσ H Q ⟨ρ,M,Q',re,hm,q,k⟩=>⟨ρ,M,_,re,hm,q,λx H1 ⟨d,M1,rd,hm1,e1,q1⟩=>by
  cases d with
  |bl c =>
   refine⟨c,cM rd,?_⟩;cases c with
   |false=>exact⟨ρ,M1,_,re.ext e1,hm1,q1,λv H' z=>k v H' (z.back e1)⟩
   |true=>exact k _ H1 ⟨_,M1,fK,hm1,e1,q1⟩
  |_=>exact q1.elim⟩
theorem aJn (ha:PDE X a ta):PDE X (.UnaryOp .Not a pos) (aGA ta) :=
 dR (aLw ha) λσ H Q ⟨ρ,M,Q',re,hm,q,k⟩=>⟨ρ,M,_,re,hm,q,λx H1 ⟨d,M1,rd,hm1,e1,q1⟩=>by
  cases d with
  |bl c=>exact⟨c,cM rd,k _ H1 ⟨_,M1,fK,hm1,e1,q1⟩⟩
  |_=>exact q1.elim⟩
def aKr (t:DT)(ta tb:DE):DE:=λρ M Q=>t ρ M λc M1=>if c=true then ta ρ M1 Q else tb ρ M1 Q
theorem aGa (hc:PDT X c tA)(ha:PDE X a ta)(hb:PDE X b tb):PDE X (.IfExp c a b pos) (aKr tA ta tb) :=
 dR (aFj hc ha hb) λσ H Q ⟨ρ,M,Q',re,hm,q,k⟩=>⟨ρ,M,_,re,hm,q,λc H1 ⟨M1,hm1,e1,q1⟩=>by
  cases c with
  |true=>exact⟨ρ,M1,_,re.ext e1,hm1,q1,λv H' z=>k v H' (z.back e1)⟩
  |false=>exact⟨ρ,M1,_,re.ext e1,hm1,q1,λv H' z=>k v H' (z.back e1)⟩⟩
def pK:DA:=λ_ M Q=>Q [] M
def hU (ta:DE)(tr:DA):DA:=λρ M Q=>ta ρ M λx M1=>tr ρ M1 λxs M2=>Q (x::xs) M2
theorem xR:PDA X [] pK:=aFw aGp λσ H Q ⟨ρ,M,Q',re,hm,q,k⟩=>k [] H ⟨[],M,cP,hm,.refl H,q⟩
theorem mW (ha:PDE X e te)(hr:PDA X es t)(hs:starEach (e::es) X.env=(false,eval e X.env)::starEach es X.env:=by rfl):PDA X (e::es) (hU te t) :=
 aFw (aAu ha hr hs) λσ H Q ⟨ρ,M,Q',re,hm,q,k⟩=>⟨ρ,M,_,re,hm,q,λx H1 ⟨dx,M1,rx,hm1,e1,q1⟩=>⟨ρ,M1,_,re.ext e1,hm1,q1,λxs H2 ⟨dxs,M2,rxs,hm2,e2,q2⟩ =>
  k _ H2 ⟨dx::dxs,M2,bX (rx.ext e2) rxs,hm2,e1.trans e2,q2⟩⟩⟩
def aKm (t:DA):DE:=λρ M Q=>t ρ M λxs M1=>xs.length<=1000/\Q (.tup xs) M1
def aJ5 (t:DA):DE:=λρ M Q=>t ρ M λxs M1=>xs.length<=1000/\∀p:Addr,M1 p=none->Q (.ref p) (bE M1 p xs)
theorem aJp {x1}(h:PDA X es t):PDE X (.Tuple es x1 pos) (aKm t) :=
 dR (aJk h) λσ H Q ⟨ρ,M,Q',re,hm,q,k⟩=>⟨ρ,M,_,re,hm,q,λxs H1 ⟨ds,M1,rs,hm1,e1,q1,q2⟩=>⟨by rw[<- rs.length];exact Nat.le_of_lt (dW q1),λp hp =>
  k _ _ ⟨.tup ds,M1,iT (.of bL) (rs.ext (Ext.new hp _)),hm1.new hp _,e1.trans (Ext.new hp _),q2⟩⟩⟩
theorem aJA (h:PDA X es t):PDE X (.List es pos) (aJ5 t) :=
 dR (aKq h) λσ H Q ⟨ρ,M,Q',re,hm,q,k⟩=>⟨ρ,M,_,re,hm,q,λxs H1 ⟨ds,M1,rs,hm1,e1,q1,q2⟩=>⟨by rw[<- rs.length];exact Nat.le_of_lt (dW q1),λp hp =>
  k _ _ ⟨.ref p,_,dM,hm1.lnew hp rs,e1.trans (Ext.new hp _),q2 p (hm1.fresh hp)⟩⟩⟩
end
section
variable {X:Cx}{st:Stmt}{cN:List Stmt}{t u:DS}{e:Expr}{te:DE}{pos:Pos}
def aGo:DS:=λE ρ M=>E.nx ρ M
def aKF (t u:DS):DS:=λE ρ M=>t { E with nx:=u E } ρ M
theorem aHW:mD X [] aGo:=aAY aG9 λE σ H ⟨ρ,M,D,re,hm,q,k⟩=>k.nx σ H ⟨ρ,M,re,hm,.refl H,q⟩
theorem aGc (h1:PDS X st t)(h2:mD X cN u):mD X (st::cN) (aKF t u) :=
 aAY (aBj h1 h2) λE σ H ⟨ρ,M,D,re,hm,q,k⟩=>⟨ρ,M,{ D with nx:=u D },re,hm,q,
  ⟨λσ' H' ⟨ρ',M',re',hm',ex,q'⟩=>⟨ρ',M',D,re',hm',q',k.at ex⟩,k.rt,k.bk,k.ct⟩⟩
theorem aG0 (h1:PDS X st t):mD X [st] t:=aHP h1
def aEQ (te:DE):DS:=λE ρ M=>te ρ M λ_ M1=>E.nx ρ M1
theorem aIa (he:PDE X e te)(hs:swapsWith e none pos.line X.env=pure false:=by rfl):PDS X (.Expr e pos) (aEQ te) :=
 gF (aHA he hs) λE σ H ⟨ρ,M,D,re,hm,q,k⟩=>⟨ρ,M,_,re,hm,q,λv H1 ⟨d,M1,rd,hm1,ex,q1⟩=>k.nx σ H1 ⟨ρ,M1,re.ext ex,hm1,ex,q1⟩⟩
def aKy (te:DE):DS:=λE ρ M=>te ρ M E.rt
theorem aI8 (he:PDE X e te):PDS X (.Return (some e) pos) (aKy te) :=
 gF (aKK he) λE σ H ⟨ρ,M,D,re,hm,q,k⟩=>⟨ρ,M,_,re,hm,q,k.rt⟩
def aJd (c:DT)(t u:DS):DS:=λE ρ M=>c ρ M λb M1=>if b=true then t E ρ M1 else u E ρ M1
theorem aMO {c:Expr}{a b:List Stmt}{tc:DT}(hc:PDT X c tc)(ha:mD X a t)(hb:mD X b u):PDS X (.If c a b pos) (aJd tc t u) :=
 gF (aMG hc ha hb) λE σ H ⟨ρ,M,D,re,hm,q,k⟩=>⟨ρ,M,_,re,hm,q,λb H1 ⟨M1,hm1,ex,q1⟩=>by
  cases b with
  |true=>exact⟨ρ,M1,D,re.ext ex,hm1,q1,k.at ex⟩
  |false=>exact⟨ρ,M1,D,re.ext ex,hm1,q1,k.at ex⟩⟩
def aCP:DS:=λ_ _ _=>False
theorem aEF:PDS X st aCP:=λ_ _ _ _ _ _ ⟨_,_,_,_,_,q,_⟩=>q.elim
end
section
variable {X:Cx}{pos:Pos}{e tg:Expr}{es:List Expr}{te:DE}
def gN (i:Nat):DG:=λd ρ M Q=>Q (ρ.set i (some d)) M
theorem aIj {i:Nat}{x:Str}(hN:X.N.Nodup)(hi:X.N[i]?=some x:=by rfl)(hx:Loc X.env.scope x:=by first|exact Or.inl rfl|exact Or.inr rfl)(hf:X.fn x=true∨X.env.scope.names.lookup x=some .local:=by first|exact .inl rfl|exact .inr rfl|assumption):PDG X (.Name x pos) (gN i) :=
 aAE (aIh (i:=i) hN hi hx hf) λv σ H Q ⟨d,ρ,M,Q',rd,re,hm,q,k⟩=>k _ H ⟨_,M,re.set rd i,hm,.refl H,q⟩
def gNl:DGs:=λds ρ M Q=>match ds with
 |[]=>Q ρ M
 |_=>False
def gCn (t:DG)(u:DGs):DGs:=λds ρ M Q=>match ds with
 |d::r=>t d ρ M λρ' M'=>u r ρ' M' Q
 |[]=>False
theorem aHx:aBt X [] gNl:=aDG aH1 λv σ H Q ⟨ds,ρ,M,Q',rd,re,hm,q,k⟩=>by
 cases ds with
 |nil=>exact⟨bM rd,k σ H ⟨ρ,M,re,hm,.refl H,q⟩⟩
 |cons _ _=>exact q.elim
theorem aFW {t:DG}{u:DGs}(h1:PDG X e t)(h2:aBt X es u)(hs:(assignEach (e::es) X.env).map (·.2)=assign e X.env::(assignEach es X.env).map (·.2):=by rfl):aBt X (e::es) (gCn t u) :=
 aDG (aFx h1 h2 hs) λv σ H Q ⟨ds,ρ,M,Q',rd,re,hm,q,k⟩=>by
  cases ds with
  |nil=>exact q.elim
  |cons d r =>
   obtain⟨x,xs,rfl,rx,rxs⟩:=aP rd;exact⟨x,xs,rfl,d,ρ,M,_,rx,re,hm,q,λσ' H' ⟨ρ',M',re',hm',ex,q'⟩=>⟨r,ρ',M',Q',rxs.ext ex,re',hm',q',λσ2 H2 z=>k σ2 H2 (z.back ex)⟩⟩
def gT (n:Nat)(t:DGs):DG:=λd ρ M Q=>match d with
 |.tup ds=>ds.length=n/\t ds ρ M Q
 |_=>False
theorem aJO {k:Nat}{t:DGs}{n:Nat}(hc:X.calm=true)(h:aBt X es t)(hn:(assignEach es X.env).length=n:=by rfl)(hst:(assignEach es X.env).findIdx? (·.1)=none:=by rfl):PDG X (.Tuple es k pos) (gT n t) :=
 aAE (aKA hc h hn hst) λv σ H Q ⟨d,ρ,M,Q',rd,re,hm,q,k⟩=>by
  cases d with
  |tup ds =>
   obtain⟨a,xs,rfl,sq,rs⟩:=bT rd;exact⟨a,xs,rfl,sq,by rw[<- rs.length];exact q.1,ds,ρ,M,Q',rs,re,hm,q.2,k⟩
  |_=>exact q.elim
def aEc (te:DE)(g:DG):DS:=λE ρ M=>te ρ M λx M1=>g x ρ M1 E.nx
theorem aHe {g:DG}{σ:L2.St}{H:Hp}{E:sX}(h:aCh X.K (aEc te g) E σ H):low X.K te σ H λx H1=>vY X.K g x σ H1 E.nx:=by obtain⟨ρ,M,D,re,hm,q,k⟩:=h;exact⟨ρ,M,_,re,hm,q,λv H1 ⟨d,M1,rd,hm1,ex,q1⟩=>⟨d,ρ,M1,_,rd,re.ext ex,hm1,q1,λσ' H' z=>k.nx σ' H' (z.back ex)⟩⟩
theorem aKv {g:DG}(he:PDE X e te)(hg:PDG X tg g)(hs:swapsWithSole [tg] e pos.line X.env=pure false:=by rfl)(hw:swappedStores [tg] e X.env=pure none:=by rfl)(h1:(assignEach [tg] X.env).map (·.2)=[assign tg X.env]:=by rfl):PDS X (.Assign [tg] e pos) (aEc te g) :=
 gF (aIT he hg hs hw h1) λE σ H h=>aHe h
theorem aKz {i:Nat}{x:Str}{pos':Pos}(hN:X.N.Nodup)(he:PDE X e te)(hi:X.N[i]?=some x:=by rfl)(hx:Loc X.env.scope x:=by first|exact Or.inl rfl|exact Or.inr rfl)(hs:swapsWith e (some (.Name x pos')) pos.line X.env=pure false:=by rfl)(hf:X.fn x=true∨X.env.scope.names.lookup x=some .local:=by first|exact .inl rfl|exact .inr rfl|assumption) :
  PDS X (.Assign [.Name x pos'] e pos) (aEc te (gN i)) :=
 gF (aJh (i:=i) hN hi hx he hs hf) λE σ H ⟨ρ,M,D,re,hm,q,k⟩=>⟨ρ,M,_,re,hm,q,λv H1 ⟨d,M1,rd,hm1,ex,q1⟩=>k.nx _ H1 ⟨_,M1,(re.ext ex).set rd i,hm1,ex,q1⟩⟩
def aLf (i j:Nat)(ta:DA):DS:=λE ρ M=>ta ρ M λds M1=>match ds with
 |[x,y]=>E.nx ((ρ.set i (some x)).set j (some y)) M1
 |_=>False
theorem aLs {i j:Nat}{x y:Str}{a b:Expr}{ta:DA}{px py pt:Pos}{kt k2 pt2}(hc:X.calm=true)(hN:X.N.Nodup)(ha:PDA X [a,b] ta)(hi:X.N[i]?=some x:=by rfl)(hj:X.N[j]?=some y:=by rfl)(hij:i≠j:=by decide)(hx:X.env.scope.names.lookup x=some .local:=by rfl)(hy:X.env.scope.names.lookup y=some .local:=by rfl)(hw:swappedStores [.Tuple [.Name x px,.Name y py] kt pt] (.Tuple [a,b] k2 pt2) X.env=pure (some [x,y]):=by rfl)(hs:swapsWithSole [.Tuple [.Name x px,.Name y py] kt pt] (.Tuple [a,b] k2 pt2) pos.line X.env=pure false:=by rfl) :
  PDS X (.Assign [.Tuple [.Name x px,.Name y py] kt pt] (.Tuple [a,b] k2 pt2) pos) (aLf i j ta) :=
 gF (aLh (i:=i) (j:=j) hc hN hi hj hij hx hy ha hw hs) λE σ H ⟨ρ,M,D,re,hm,q,k⟩=>⟨ρ,M,_,re,hm,q,λvs H1 ⟨ds,M1,rs,hm1,ex,q1⟩=>by
  match ds,q1 with
  |[d1,d2],q1 =>
   obtain⟨v1,r1,rfl,rv1,rr1⟩:=aP rs;obtain⟨v2,r2,rfl,rv2,rr2⟩:=aP rr1;obtain rfl:=bM rr2;exact⟨v1,v2,rfl,k.nx _ H1 ⟨_,M1,((re.ext ex).set rv1 i).set rv2 j,hm1,ex,q1⟩⟩
  |[],q1=>exact q1.elim
  |[_],q1=>exact q1.elim
  |_::_::_::_,q1=>exact q1.elim⟩
def aFr (to ti:DE):DG:=λd ρ M Q=>to ρ M λo M1=>ti ρ M1 λi M2=>match o,i with
 |.ref p,.int k=>∃ds j,M2 p=some ds/\ixN ds.length k=some j/\Q ρ (bE M2 p (ds.set j d))
 |_,_=>False
theorem aLz {o i:Expr}{to ti:DE}(ho:PDE X o to)(hi:PDE X i ti)(ha:∀v,assign (.Subscript o i pos) X.env v=(do
   let ov <- holding [v] (eval o X.env)
   let iv <- holding [v,ov] (eval i X.env)
   standAt pos
   holding [v,ov,iv] (setItem ov iv v)
   release [v,ov,iv] []):=by intro _;rfl):PDG X (.Subscript o i pos) (aFr to ti) :=
 aAE (aGD ho hi aFH ha) λv σ H Q ⟨d,ρ,M,Q',rd,re,hm,q,k⟩=>⟨ρ,M,_,re,hm,q,λov H1 ⟨dov,M1,rov,hm1,e1,q1⟩=>⟨ρ,M1,_,re.ext e1,hm1,q1,λiv H2 ⟨div,M2,riv,hm2,e2,q2⟩=>by
  cases dov with
  |ref p =>
   cases div with
   |int z =>
    obtain⟨ds,j,hp,hj,q2⟩:=q2;obtain rfl:=aQ rov;obtain rfl:=bF riv;obtain⟨xs,hx,rs⟩:=hm2.l p ds hp;exact⟨p,xs,z,j,rfl,rfl,hx,by rw[<- rs.length];exact hj,k _ _ ⟨ρ,_,((re.ext e1).ext e2).ext (Ext.put hx _),hm2.put hx (rs.set ((rd.ext e1).ext e2) j),(e1.trans e2).trans (Ext.put hx _),q2⟩⟩
   |_=>exact q2.elim
  |_=>exact q2.elim⟩⟩
end
section
variable {X:Cx}{pos:Pos}
def aCD (c:DT)(tb:DS):DS:=λE ρ M=>∃W:Nat->cW->DM->Prop,(∃m,W m ρ M)/\∀m ρ M,W m ρ M ->
 c ρ M λb M1=>if b=true then tb { E with nx:=λρ' M'=>∃m',m'<m/\W m' ρ' M',ct:=λρ' M'=>∃m',m'<m/\W m' ρ' M',bk:=E.nx } ρ M1 else E.nx ρ M1
theorem aGC {c:Expr}{body:List Stmt}{tc:DT}{tb:DS}(hp:PassesOwn (model X.prog X.w) X.A X.env X.xe)(hc:PDT X c tc)(hb:mD X body tb):PDS X (.While c body [] pos) (aCD tc tb) :=
 gF (aGK hp hc hb) λE σ H ⟨ρ,M,D,re,hm,⟨W,⟨m0,w0⟩,turn⟩,k⟩=>by
  refine⟨λm σ' H'=>∃ρ' M',fQ X.K H' ρ' σ'/\bN X.K M' H'/\Ext H H'/\W m ρ' M',⟨m0,ρ,M,re,hm,.refl H,w0⟩,?_⟩;rintro m σ1 H1 ⟨ρ1,M1,re1,hm1,e1,w1⟩;refine⟨ρ1,M1,_,re1,hm1,turn m ρ1 M1 w1,λb H2 ⟨M2,hm2,e2,q2⟩=>?_⟩;cases b with
  |false=>exact k.nx σ1 H2 ⟨ρ1,M2,re1.ext e2,hm2,e1.trans e2,q2⟩
  |true =>
   refine⟨λσ' H'=>∃m',m'<m/\∃ρ' M',fQ X.K H' ρ' σ'/\bN X.K M' H'/\Ext H H'/\W m' ρ' M',λσ' H' z=>z,?_⟩;refine⟨ρ1,M2,_,re1.ext e2,hm2,q2,?_⟩;have ex:=e1.trans e2;exact⟨λσ' H' ⟨ρ',M',a,b,c,m',l,d⟩=>⟨m',l,ρ',M',a,b,ex.trans c,d⟩,λv H' z=>k.rt v H' (z.back ex),λσ' H' z=>k.nx σ' H' (z.back ex),λσ' H' ⟨ρ',M',a,b,c,m',l,d⟩=>⟨m',l,ρ',M',a,b,ex.trans c,d⟩⟩
theorem tZ {c:DT}{tb:DS}{E:fR}{ρ:cW}{M:DM}(Pv:Nat->cW->DM->Prop)(m0:Nat)(h0:Pv m0 ρ M)(hs:∀m ρ M,Pv m ρ M->c ρ M λb M1=>if b=true then tb { E with nx:=λρ' M'=>∃m',m'<m/\Pv m' ρ' M',ct:=λρ' M'=>∃m',m'<m/\Pv m' ρ' M',bk:=E.nx } ρ M1 else E.nx ρ M1):aCD c tb E ρ M:=⟨Pv,⟨m0,h0⟩,hs⟩
def dIt (at':Option Addr)(ds:List D)(g:DG)(tb:DS):DS:=λE ρ M=>∃Pv:Nat->cW->DM->Prop,Pv 0 ρ M /\
 (∀i ρ M,i<=ds.length->Pv i ρ M->∀a,at'=some a->M a=some ds) /\
 (∀i d ρ M,ds[i]?=some d->Pv i ρ M->g d ρ M λρ2 M2=>tb { E with nx:=Pv (i+1),ct:=Pv (i+1),bk:=E.nx } ρ2 M2)/\∀ρ M,Pv ds.length ρ M->E.nx ρ M
def aEK (tl:DE)(g:DG)(tb:DS):DS:=λE ρ M=>tl ρ M λd M1=>match d with
 |.fz ds=>dIt none ds g tb E ρ M1
 |.ref a=>∃ds,M1 a=some ds/\dIt (some a) ds g tb E ρ M1
 |_=>False
variable {iter tg:Expr}{body:List Stmt}{tl:DE}{g:DG}{tb:DS}
theorem aFC {K:Frag}{a':Option Addr}{ds:List D}{E:sX}{Dn:fR}{σ:L2.St}{ρ:cW}{M:DM}{H0 H:Hp}{J:It}(ex0:Ext H0 H)(re:fQ K H ρ σ)(hm:bN K M H)(k:nN K H0 Dn E)(h:dIt a' ds g tb Dn ρ M)(seq:∀H',Ext H H'->(∀M',bN K M' H'->(∀a,a'=some a->M' a=some ds)->∃xs,bR K H' ds xs/\(∀i,xs.length<=i->J.stop i H')/\(∀i,i<xs.length->J.go i H')/\∀i x H2,J.yld i H' x H2->H2=H'/\xs[i]?=some x)) :
  ∃W:Nat->Nat->L2.St->Hp->Prop,(∃m,W 0 m σ H)/\∀i m σ H,W i m σ H ->
   (J.stop i H/\E.nx σ H)∨(J.go i H/\∃N:L2.St->Hp->Prop,(∀σ' H',N σ' H'->∃m',m'<m/\W (i+1) m' σ' H')/\∀x H',J.yld i H x H'->vY K g x σ H' λσ2 H2=>aCh K tb { E with nx:=N,ct:=N,bk:=E.nx } σ2 H2):=by
 obtain⟨Pv,p0,hat,step,done⟩:=h;refine⟨λi m σ' H'=>∃ρ' M',fQ K H' ρ' σ'/\bN K M' H'/\Ext H H'/\m=ds.length-i/\i<=ds.length/\Pv i ρ' M',⟨ds.length,ρ,M,re,hm,.refl H,rfl,Nat.zero_le _,p0⟩,?_⟩;rintro i m σ1 H1 ⟨ρ1,M1,re1,hm1,e1,rfl,hi,w1⟩;obtain⟨xs,rs,hst,hgo,hy⟩:=seq H1 e1 M1 hm1 (hat i ρ1 M1 hi w1);have hl:=rs.length;by_cases hlt:i<ds.length
 ·refine .inr ⟨hgo i (by omega),λσ' H'=>∃ρ' M',fQ K H' ρ' σ'/\bN K M' H'/\Ext H H'/\Pv (i+1) ρ' M',λσ' H' ⟨ρ',M',a,b,c,d⟩=>⟨ds.length-(i+1),by omega,ρ',M',a,b,c,rfl,hlt,d⟩,λx H' y=>?_⟩;obtain⟨rfl,hx⟩:=hy i x H' y;obtain⟨d,hd,rd⟩:=rs.getV hx;refine⟨d,ρ1,M1,_,rd,re1,hm1,step i d ρ1 M1 hd w1,λσ2 H2 ⟨ρ2,M2,re2,hm2,e2,q2⟩=>⟨ρ2,M2,_,re2,hm2,q2,?_⟩⟩;have ex:=e1.trans e2;exact⟨λσ' H' ⟨ρ',M',a,b,c,d⟩=>⟨ρ',M',a,b,ex.trans c,d⟩,λv H' z=>k.rt v H' (z.back (ex0.trans ex)),λσ' H' z=>k.nx σ' H' (z.back (ex0.trans ex)),λσ' H' ⟨ρ',M',a,b,c,d⟩=>⟨ρ',M',a,b,ex.trans c,d⟩⟩
 ·have e:i=ds.length:=by omega
  subst e;exact .inl ⟨hst _ (by omega),k.nx σ1 H1 ⟨ρ1,M1,re1,hm1,ex0.trans e1,done ρ1 M1 w1⟩⟩
def aMK (lo:Int)(n:Nat)(g:DG)(tb:DS):DS:=λE ρ M=>∃Pv:Nat->cW->DM->Prop,Pv 0 ρ M /\
 (∀i ρ M,i<n->Pv i ρ M->g (.int (lo+i)) ρ M λρ2 M2=>tb { E with nx:=Pv (i+1),ct:=Pv (i+1),bk:=E.nx } ρ2 M2)/\∀ρ M,Pv n ρ M->E.nx ρ M
def aFJ (ta:DA)(g:DG)(tb:DS):DS:=λE ρ M=>ta ρ M λds M1=>match ds with
 |[.int j]=>(-(2^62)<=j/\j<2^62)/\aMK 0 j.toNat g tb E ρ M1
 |_=>False
theorem aKS {K:Frag}{lo:Int}{n:Nat}{E:sX}{Dn:fR}{σ:L2.St}{ρ:cW}{M:DM}{H0 H:Hp}(ex0:Ext H0 H)(re:fQ K H ρ σ)(hm:bN K M H)(k:nN K H0 Dn E)(h:aMK lo n g tb Dn ρ M) :
  ∃W:Nat->Nat->L2.St->Hp->Prop,(∃m,W 0 m σ H)/\∀i m σ H,W i m σ H ->
   ((Itr lo n).stop i H/\E.nx σ H)∨((Itr lo n).go i H/\∃N:L2.St->Hp->Prop,(∀σ' H',N σ' H'->∃m',m'<m/\W (i+1) m' σ' H')/\∀x H',(Itr lo n).yld i H x H'->vY K g x σ H' λσ2 H2=>aCh K tb { E with nx:=N,ct:=N,bk:=E.nx } σ2 H2):=by
 obtain⟨Pv,p0,step,done⟩:=h;refine⟨λi m σ' H'=>∃ρ' M',fQ K H' ρ' σ'/\bN K M' H'/\Ext H H'/\m=n-i/\i<=n/\Pv i ρ' M',⟨n,ρ,M,re,hm,.refl H,rfl,Nat.zero_le _,p0⟩,?_⟩;rintro i m σ1 H1 ⟨ρ1,M1,re1,hm1,e1,rfl,hi,w1⟩;by_cases hlt:i<n
 ·refine .inr ⟨hlt,λσ' H'=>∃ρ' M',fQ K H' ρ' σ'/\bN K M' H'/\Ext H H'/\Pv (i+1) ρ' M',λσ' H' ⟨ρ',M',a,b,c,d⟩=>⟨n-(i+1),by omega,ρ',M',a,b,c,rfl,hlt,d⟩,λx H' y=>?_⟩;obtain⟨rfl,rfl⟩:=y;refine⟨_,ρ1,M1,_,dI,re1,hm1,step i ρ1 M1 hlt w1,λσ2 H2 ⟨ρ2,M2,re2,hm2,e2,q2⟩=>⟨ρ2,M2,_,re2,hm2,q2,?_⟩⟩;have ex:=e1.trans e2;exact⟨λσ' H' ⟨ρ',M',a,b,c,d⟩=>⟨ρ',M',a,b,ex.trans c,d⟩,λv H' z=>k.rt v H' (z.back (ex0.trans ex)),λσ' H' z=>k.nx σ' H' (z.back (ex0.trans ex)),λσ' H' ⟨ρ',M',a,b,c,d⟩=>⟨ρ',M',a,b,ex.trans c,d⟩⟩
 ·have e:i=n:=by omega
  subst e;exact .inl ⟨Nat.le_refl _,k.nx σ1 H1 ⟨ρ1,M1,re1,hm1,ex0.trans e1,done ρ1 M1 w1⟩⟩
end
section
variable {X:Cx}{pos:Pos}{iter tg:Expr}{body:List Stmt}{tl:DE}{g:DG}{tb:DS}{ta:DA}
theorem aHl (hp:PassesOwn (model X.prog X.w) X.A X.env X.xe)(hc:X.calm=true)(hi:PDE X iter tl)(hg:PDG X tg g)(hb:mD X body tb)(hs:∀x,foldedSetIterable iter X.env x=pure x:=by intro _;rfl):PDS X (.For tg iter body [] pos) (aEK tl g tb) :=
 gF (vZ hp hc (aAJ hi) hg hb hs) λE σ H ⟨ρ,M,Dn,re,hm,q,k⟩=>⟨ρ,M,_,re,hm,q,λv H1 ⟨d,M1,rd,hm1,ex,q1⟩=>by
  cases d with
  |fz ds =>
   obtain⟨a,xs,rfl,sq,rs⟩:=mU rd;exact⟨a,rfl,⟨xs,sq.sq⟩,aFC ex (re.ext ex) hm1 k q1 λH' e' M' hm' _=>⟨xs,rs.ext e',λi hi=>⟨xs,(jB e' sq).sq,hi⟩,λi hi=>⟨xs,xs[i],(jB e' sq).sq,by simp[hi]⟩,λi x H2 y=>⟨y.1,y.2 xs (jB e' sq).sq⟩⟩⟩
  |ref a =>
   obtain⟨ds,ha,q1⟩:=q1;obtain rfl:=aQ rd;obtain⟨xs,hx,rs⟩:=hm1.l a ds ha;refine⟨a,rfl,⟨xs,.of hx⟩,aFC ex (re.ext ex) hm1 k q1 λH' e' M' hm' hat=>?_⟩;obtain⟨ys,hy,rs'⟩:=hm'.l a ds (hat a rfl);exact⟨ys,rs',λi hi=>⟨ys,.of hy,hi⟩,λi hi=>⟨ys,ys[i],.of hy,by simp[hi]⟩,λi x H2 y=>⟨y.1,y.2 ys (.of hy)⟩⟩
  |_=>exact q1.elim⟩
theorem aG1 {a:Expr}{p pos':Pos}(hp:PassesOwn (model X.prog X.w) X.A X.env X.xe)(hc:X.calm = true)(hmg:X.mg "range" = none)(ha:PDA X [a] ta)(hg:PDG X tg g)(hb:mD X body tb)(hgl:Gl X "range":=by rfl)(hse:starEach [a] X.env=[(false,eval a X.env)]:=by rfl)(hs:∀x,foldedSetIterable (.Call (.Name "range" p) [a] [] pos') X.env x = pure x:=by intro _;rfl):PDS X (.For tg (.Call (.Name "range" p) [a] [] pos') body [] pos) (aFJ ta g tb) :=
 gF (vZ hp hc (zF hgl hmg ha hse) hg hb hs) λE σ H ⟨ρ,M,Dn,re,hm,q,k⟩=>⟨ρ,M,_,re,hm,q,λvs H1 ⟨ds,M1,rs,hm1,ex,q1⟩=>by
  rcases ds with _|⟨d,_|⟨d2,r⟩⟩
  ·exact q1.elim
  ·cases d with
   |int j =>
    obtain⟨⟨j1,j2⟩,q1⟩:=q1;obtain⟨v1,r1,rfl,rv1,rr1⟩:=aP rs;obtain rfl:=bM rr1;obtain rfl:=bF rv1;exact⟨j,rfl,j1,j2,aKS ex (re.ext ex) hm1 k q1⟩
   |_=>exact q1.elim
  ·cases d<;>exact q1.elim⟩
end
mutual
noncomputable def eqD:D->D->Bool
 |.tup xs,.tup ys=>iC xs ys
 |.non,.non=>true
 |.bl a,.bl b=>a==b
 |.bl a,.int b=>(if a then 1 else 0)==b
 |.int a,.bl b=>a==(if b then 1 else 0)
 |.int a,.int b=>a==b
 |.str a,.str b=>a==b
 |_,_=>false
noncomputable def iC:List D->List D->Bool
 |[],[]=>true
 |x::xs,y::ys=>eqD x y&&iC xs ys
 |_,_=>false
end
noncomputable def bU:Nat->D->Bool
 |_,.ref _=>false
 |_,.fz _=>false
 |0,.tup _=>false
 |n+1,.tup ds=>ds.all (bU n)
 |_,_=>true
noncomputable def tH:List D->List D->Nat->Bool
 |x::_,y::_,0=>eqD x y
 |_::xs,_::ys,j+1=>tH xs ys j
 |_,_,_=>true
theorem xQ (n:Nat)(e:Nat->Bool):(range (n+1)).all e=(e 0&&(range n).all λj=>e (j+1)):=by rw[List.range_succ_eq_map,all_cons,List.all_map];rfl
theorem iN:∀(xs ys:List D),iC xs ys=((range (min xs.length ys.length)).all (tH xs ys)&&xs.length==ys.length)
 |[],[]=>by simp[iC]
 |[],_::_=>by simp[iC]
 |_::_,[]=>by simp[iC]
 |x::xs,y::ys=>by
  have ih:=iN xs ys;have e1:min (x::xs).length (y::ys).length=min xs.length ys.length+1:=by simp only[length_cons];omega
  have e2:((x::xs).length==(y::ys).length)=(xs.length==ys.length):=by simp
  rw[e1,e2,xQ];show(eqD x y&&iC xs ys)=((eqD x y&&(range (min xs.length ys.length)).all λj=>tH xs ys j)&&xs.length==ys.length);rw[ih,Bool.and_assoc]
section
variable {X:Cx}{pins:List (Addr×Obj)}{σ:L2.St}{H:Hp}{s:Shared}
theorem yM {n:Nat}{d:D}(p:bU n d=true)(h:∀xs,d ≠ .tup xs):bU 0 d=true:=by
 cases d with
 |tup xs=>exact absurd rfl (h xs)
 |ref b=>cases n<;>exact absurd p Bool.false_ne_true
 |fz b=>cases n<;>exact absurd p Bool.false_ne_true
 |_=>rfl
theorem sJ {d d':D}{v:V}(p:bU 0 d=true)(p':bU 0 d'=true)(r:Rep X.K H d v)(r':Rep X.K H d' v):eqD d d'=true:=by
 cases d<;>cases d'<;>first
  |(exact absurd p Bool.false_ne_true)
  |(exact absurd p' Bool.false_ne_true)
  |(unfold Rep at r r';subst r;cases r'<;>simp[eqD])
theorem xA {d:D}{a:Addr}(p:bU 0 d=true)(r:Rep X.K H d (.ref a)):False:=by
 cases d<;>first
  |(exact absurd p Bool.false_ne_true)
  |(unfold Rep at r;cases r)
theorem aBA {n:Nat}(ih:∀{d d':D}{v:V},bU n d=true->bU n d'=true->Rep X.K H d v->Rep X.K H d' v->eqD d d'=true) :
  ∀{xs ys:List D}{us:List V},xs.all (bU n)=true->ys.all (bU n)=true->bR X.K H xs us->bR X.K H ys us->iC xs ys=true
 |[],[],_,_,_,_,_=>by simp[iC]
 |[],_::_,_,_,_,r,r'=>by rw[bM r] at r';obtain⟨_,_,z,_⟩:=aP r';cases z
 |_::_,[],_,_,_,r,r'=>by rw[bM r'] at r;obtain⟨_,_,z,_⟩:=aP r;cases z
 |x::xs,y::ys,_,p1,p2,r,r'=>by obtain⟨v0,r0,rfl,h1,h2⟩:=aP r;obtain⟨v0',r0',e0,h1',h2'⟩:=aP r';cases e0;rw[all_cons,Bool.and_eq_true] at p1 p2;show(eqD x y&&iC xs ys)=true;rw[ih p1.1 p2.1 h1 h1',aBA ih p1.2 p2.2 h2 h2'];rfl
theorem aH2 (I:Inv X pins σ H s):∀(n:Nat){d d':D} {v:V},bU n d=true->bU n d'=true->Rep X.K H d v->Rep X.K H d' v->eqD d d'=true:=by
 intro n
 induction n with
 |zero=>intro d d' v p p' r r';exact sJ p p' r r'
 |succ n ih =>
  intro d d' v p p' r r';by_cases h1:∃xs,d=.tup xs
  ·obtain⟨xs,rfl⟩:=h1;obtain⟨a,us,rfl,sq,rs⟩:=bT r;by_cases h2:∃ys,d'=.tup ys
   ·obtain⟨ys,rfl⟩:=h2;obtain⟨a',us',e1',sq',rs'⟩:=bT r';cases e1';obtain rfl:=I.tuple_inj sq sq';exact aBA ih p p' rs rs'
   ·exact(xA (yM p' λxs e=>h2 ⟨xs,e⟩) r').elim
  ·have p0:=yM p λxs e=>h1 ⟨xs,e⟩;by_cases h2:∃ys,d'=.tup ys
   ·obtain⟨ys,rfl⟩:=h2;obtain⟨a',us',rfl,sq',rs'⟩:=bT r';exact(xA p0 r).elim
   ·exact sJ p0 (yM p' λxs e=>h2 ⟨xs,e⟩) r r'
theorem iZ (I:Inv X pins σ H s){a:Addr}{xs:List V}(sq:SqT X.K H a xs):∃its:List Value,bZ xs its/\s.heap.IsTuple a its.toArray:=let ⟨its,r,p,_⟩:=I.tuple sq;⟨its,r,p⟩
theorem vR {d:D}{v:V}{n:Nat}(h:Rep X.K H d v)(p:bU 0 d=true):aF9 v=true:=by
 cases d with
 |non=>unfold Rep at h;subst h;rfl
 |bl b=>unfold Rep at h;subst h;rfl
 |int b=>unfold Rep at h;subst h;rfl
 |str b=>unfold Rep at h;subst h;rfl
 |tup b=>exact absurd p Bool.false_ne_true
 |ref b=>exact absurd p Bool.false_ne_true
 |fz b=>exact absurd p Bool.false_ne_true
theorem tN {A:Around}{n:Nat}(ih:∀{d d':D}{v v':V} {u u':Value},bU n d=true->bU n d'=true->Rep X.K H d v->Rep X.K H d' v'->RelV v u->RelV v' u'->SeqAt.EqAt A s u u' (eqD d d')) :
  ∀{xs ys:List D}{us us':List V} {its its':List Value},xs.all (bU n)=true->ys.all (bU n)=true->bR X.K H xs us->bR X.K H ys us'->bZ us its->bZ us' its'->∀j (h1:j<its.length) (h2:j<its'.length),SeqAt.EqAt A s its[j] its'[j] (tH xs ys j)
 |[],ys,us,us',its,its',_,_,r1,_,v1,_,j,h1,_=>by rw[bM r1] at v1;cases v1;exact absurd h1 (Nat.not_lt_zero _)
 |_::_,[],us,us',its,its',_,_,_,r2,_,v2,j,_,h2=>by rw[bM r2] at v2;cases v2;exact absurd h2 (Nat.not_lt_zero _)
 |x::xs,y::ys,us,us',its,its',p1,p2,r1,r2,v1,v2,j,h1,h2=>by
  obtain⟨a,ra,rfl,ha,hra⟩:=aP r1;obtain⟨b,rb,rfl,hb,hrb⟩:=aP r2;rw[all_cons,Bool.and_eq_true] at p1 p2;cases v1 with
  |cons q1 w1 =>
   cases v2 with
   |cons q2 w2 =>
    cases j with
    |zero=>exact ih p1.1 p2.1 ha hb q1 q2
    |succ j=>exact tN ih p1.2 p2.2 hra hrb w1 w2 j (Nat.lt_of_succ_lt_succ h1) (Nat.lt_of_succ_lt_succ h2)
theorem aGE {d d':D}{v v':V}(p:bU 0 d=true)(p':bU 0 d'=true)(r:Rep X.K H d v)(r':Rep X.K H d' v'):eqV v v'=eqD d d':=by
 cases d<;>cases d'<;>first
  |(exact absurd p Bool.false_ne_true)
  |(exact absurd p' Bool.false_ne_true)
  |(unfold Rep at r r';subst r;subst r';simp[eqD,eqV])
theorem aDq (I:Inv X pins σ H s):∀(n:Nat){A:Around} {d d':D} {v v':V} {u u':Value},A.units+n<cLine->bU n d=true->bU n d'=true->Rep X.K H d v->Rep X.K H d' v'->RelV v u->RelV v' u'->SeqAt.EqAt A s u u' (eqD d d'):=by
 intro n
 induction n with
 |zero =>
  intro A d d' v v' u u' hu p p' r r' q q';have:=aFB (A:=A) (s:=s) q q' (vR (n:=0) r p) (vR (n:=0) r' p');rw[aGE p p' r r'] at this;exact this
 |succ n ih =>
  intro A d d' v v' u u' hu p p' r r' q q';by_cases h1:∃xs,d=.tup xs
  ·obtain⟨xs,rfl⟩:=h1;obtain⟨a,us,rfl,sq,rs⟩:=bT r;obtain⟨its,rv,ht⟩:=iZ I sq;cases q;by_cases h2:∃ys,d'=.tup ys
   ·obtain⟨ys,rfl⟩:=h2;obtain⟨a',us',rfl,sq',rs'⟩:=bT r';obtain⟨its',rv',ht'⟩:=iZ I sq';cases q';by_cases hll:a=a'
    ·subst hll;rw[aH2 I (n+1) p p' r r'];exact SeqAt.EqAt.same _
    ·have e1:=rs.length;have e2:=rv.length;have e3:=rs'.length;have e4:=rv'.length;show SeqAt.EqAt A s (.ref a) (.ref a') (iC xs ys);rw[iN,show xs.length=its.toArray.size by rw[size_toArray];omega,show ys.length=its'.toArray.size by rw[size_toArray];omega];refine SeqAt.EqAt.of_refs hll (SeqAt.RcAt.tuples ht ht' (by omega) λj j1 j2=>?_);have hu':A.in1.units+n<cLine:=by show A.units+1+n<cLine;omega
     have:=tN (A:=A.in1) (s:=s) (λ{d d' v v' u u'} p p' r r' q q'=>ih hu' p p' r r' q q') p p' rs rs' rv rv' j (by simpa using j1) (by simpa using j2);simpa using this
   ·have p0:=yM p' (λxs e=>h2 ⟨xs,e⟩);cases d' with
    |non=>rw[eM r'] at q';cases q';exact SeqAt.EqAt.tuple_none ht (by omega)
    |bl b=>rw[cM r'] at q';cases q';exact SeqAt.EqAt.tuple_bool b ht (by omega)
    |int b=>rw[bF r'] at q';obtain⟨t,rfl⟩:=q';exact SeqAt.EqAt.tuple_int b t ht (by omega)
    |str b=>rw[dN r'] at q';obtain⟨t,rfl⟩:=q';exact SeqAt.EqAt.tuple_str b t ht (by omega)
    |tup b=>exact absurd p0 Bool.false_ne_true
    |ref b=>exact absurd p0 Bool.false_ne_true
    |fz b=>exact absurd p0 Bool.false_ne_true
  ·have p0:=yM p (λxs e=>h1 ⟨xs,e⟩);by_cases h2:∃ys,d'=.tup ys
   ·obtain⟨ys,rfl⟩:=h2;obtain⟨a',us',rfl,sq',rs'⟩:=bT r';obtain⟨its',rv',ht'⟩:=iZ I sq';cases q';cases d with
    |non=>rw[eM r] at q;cases q;exact SeqAt.EqAt.none_tuple ht' (by omega)
    |bl b=>rw[cM r] at q;cases q;exact SeqAt.EqAt.bool_tuple b ht' (by omega)
    |int b=>rw[bF r] at q;obtain⟨t,rfl⟩:=q;exact SeqAt.EqAt.int_tuple b t ht' (by omega)
    |str b=>rw[dN r] at q;obtain⟨t,rfl⟩:=q;exact SeqAt.EqAt.str_tuple b t ht' (by omega)
    |tup b=>exact absurd p0 Bool.false_ne_true
    |ref b=>exact absurd p0 Bool.false_ne_true
    |fz b=>exact absurd p0 Bool.false_ne_true
   ·have p0':=yM p' (λxs e=>h2 ⟨xs,e⟩);have:=aFB (A:=A) (s:=s) q q' (vR (n:=0) r p0) (vR (n:=0) r' p0');rw[aGE p0 p0' r r'] at this;exact this
theorem aLU (I:Inv X pins σ H s){A:Around}(hu:A.units+60<cLine){d d':D}{v v':V}{u u':Value}(p:bU 60 d=true)(p':bU 60 d'=true)(r:Rep X.K H d v)(r':Rep X.K H d' v')(q:RelV v u)(q':RelV v' u') :
  SeqAt.RcAt A s u u' (eqD d d')/\SeqAt.RcNeAt A s u u' (!eqD d d'):=by
 have hu0:A.units<cLine:=by omega
 cases d with
 |ref b=>exact absurd p Bool.false_ne_true
 |fz b=>exact absurd p Bool.false_ne_true
 |tup xs =>
  obtain⟨a,us,rfl,sq,rs⟩:=bT r;obtain⟨its,rv,ht⟩:=iZ I sq;cases q;cases d' with
  |ref b=>exact absurd p' Bool.false_ne_true
  |fz b=>exact absurd p' Bool.false_ne_true
  |non=>rw[eM r'] at q';cases q';exact⟨SeqAt.RcAt.tuple_none ht hu0,SeqAt.RcNeAt.tuple_none ht hu0⟩
  |bl b=>rw[cM r'] at q';cases q';exact⟨SeqAt.RcAt.tuple_bool b ht hu0,SeqAt.RcNeAt.tuple_bool b ht hu0⟩
  |int b=>rw[bF r'] at q';obtain⟨t,rfl⟩:=q';exact⟨SeqAt.RcAt.tuple_int b t ht hu0,SeqAt.RcNeAt.tuple_int b t ht hu0⟩
  |str b=>rw[dN r'] at q';obtain⟨t,rfl⟩:=q';exact⟨SeqAt.RcAt.tuple_str b t ht hu0,SeqAt.RcNeAt.tuple_str b t ht hu0⟩
  |tup ys =>
   obtain⟨a',us',rfl,sq',rs'⟩:=bT r';obtain⟨its',rv',ht'⟩:=iZ I sq';cases q';have e1:=rs.length;have e2:=rv.length;have e3:=rs'.length;have e4:=rv'.length;have hit:∀j (h1:j<its.toArray.size) (h2:j<its'.toArray.size),SeqAt.EqAt A.in1 s its.toArray[j] its'.toArray[j] (tH xs ys j):=λj j1 j2=>by
    have hu':A.in1.units+59<cLine:=by show A.units+1+59<cLine;omega
    have:=tN (A:=A.in1) (s:=s) (λ{d d' v v' u u'} p p' r r' q q'=>aDq I 59 hu' p p' r r' q q') p p' rs rs' rv rv' j (by simpa using j1) (by simpa using j2);simpa using this
   have hz:eqD (.tup xs) (.tup ys)=((range (min its.toArray.size its'.toArray.size)).all (tH xs ys)&&its.toArray.size==its'.toArray.size):=by show iC xs ys=_;rw[iN,show xs.length=its.toArray.size by rw[size_toArray];omega,show ys.length=its'.toArray.size by rw[size_toArray];omega]
   rw[hz];exact⟨SeqAt.RcAt.tuples ht ht' hu0 hit,SeqAt.RcNeAt.tuples ht ht' hu0 hit⟩
 |non =>
  rw[eM r] at q;cases q;cases d' with
  |ref b=>exact absurd p' Bool.false_ne_true
  |fz b=>exact absurd p' Bool.false_ne_true
  |non=>rw[eM r'] at q';cases q';exact⟨SeqAt.RcAt.none_none,SeqAt.RcNeAt.none_none⟩
  |bl b=>rw[cM r'] at q';cases q';exact⟨SeqAt.RcAt.none_bool b,SeqAt.RcNeAt.none_bool b⟩
  |int b=>rw[bF r'] at q';obtain⟨t,rfl⟩:=q';exact⟨SeqAt.RcAt.none_int b t,SeqAt.RcNeAt.none_int b t⟩
  |str b=>rw[dN r'] at q';obtain⟨t,rfl⟩:=q';exact⟨SeqAt.RcAt.none_str b t,SeqAt.RcNeAt.none_str b t⟩
  |tup ys =>
   obtain⟨a',us',rfl,sq',rs'⟩:=bT r';obtain⟨its',rv',ht'⟩:=iZ I sq';cases q';exact⟨SeqAt.RcAt.none_tuple ht' hu0,SeqAt.RcNeAt.none_tuple ht' hu0⟩
 |bl z =>
  rw[cM r] at q;cases q;cases d' with
  |ref b=>exact absurd p' Bool.false_ne_true
  |fz b=>exact absurd p' Bool.false_ne_true
  |non=>rw[eM r'] at q';cases q';exact⟨SeqAt.RcAt.bool_none z,SeqAt.RcNeAt.bool_none z⟩
  |bl b=>rw[cM r'] at q';cases q';exact⟨SeqAt.RcAt.bool_bool z b,SeqAt.RcNeAt.bool_bool z b⟩
  |int b=>rw[bF r'] at q';obtain⟨t,rfl⟩:=q';exact⟨SeqAt.RcAt.bool_int z b t,SeqAt.RcNeAt.bool_int z b t⟩
  |str b=>rw[dN r'] at q';obtain⟨t,rfl⟩:=q';exact⟨SeqAt.RcAt.bool_str z b t,SeqAt.RcNeAt.bool_str z b t⟩
  |tup ys =>
   obtain⟨a',us',rfl,sq',rs'⟩:=bT r';obtain⟨its',rv',ht'⟩:=iZ I sq';cases q';exact⟨SeqAt.RcAt.bool_tuple z ht' hu0,SeqAt.RcNeAt.bool_tuple z ht' hu0⟩
 |int z =>
  rw[bF r] at q;obtain⟨tz,rfl⟩:=q;cases d' with
  |ref b=>exact absurd p' Bool.false_ne_true
  |fz b=>exact absurd p' Bool.false_ne_true
  |non=>rw[eM r'] at q';cases q';exact⟨SeqAt.RcAt.int_none z tz,SeqAt.RcNeAt.int_none z tz⟩
  |bl b=>rw[cM r'] at q';cases q';exact⟨SeqAt.RcAt.int_bool z tz b,SeqAt.RcNeAt.int_bool z tz b⟩
  |int b=>rw[bF r'] at q';obtain⟨t,rfl⟩:=q';exact⟨SeqAt.RcAt.int_int z tz b t,SeqAt.RcNeAt.int_int z tz b t⟩
  |str b=>rw[dN r'] at q';obtain⟨t,rfl⟩:=q';exact⟨SeqAt.RcAt.int_str z tz b t,SeqAt.RcNeAt.int_str z tz b t⟩
  |tup ys =>
   obtain⟨a',us',rfl,sq',rs'⟩:=bT r';obtain⟨its',rv',ht'⟩:=iZ I sq';cases q';exact⟨SeqAt.RcAt.int_tuple z tz ht' hu0,SeqAt.RcNeAt.int_tuple z tz ht' hu0⟩
 |str z =>
  rw[dN r] at q;obtain⟨tz,rfl⟩:=q;cases d' with
  |ref b=>exact absurd p' Bool.false_ne_true
  |fz b=>exact absurd p' Bool.false_ne_true
  |non=>rw[eM r'] at q';cases q';exact⟨SeqAt.RcAt.str_none z tz,SeqAt.RcNeAt.str_none z tz⟩
  |bl b=>rw[cM r'] at q';cases q';exact⟨SeqAt.RcAt.str_bool z tz b,SeqAt.RcNeAt.str_bool z tz b⟩
  |int b=>rw[bF r'] at q';obtain⟨t,rfl⟩:=q';exact⟨SeqAt.RcAt.str_int z tz b t,SeqAt.RcNeAt.str_int z tz b t⟩
  |str b=>rw[dN r'] at q';obtain⟨t,rfl⟩:=q';exact⟨SeqAt.RcAt.str_str z tz b t,SeqAt.RcNeAt.str_str z tz b t⟩
  |tup ys =>
   obtain⟨a',us',rfl,sq',rs'⟩:=bT r';obtain⟨its',rv',ht'⟩:=iZ I sq';cases q';exact⟨SeqAt.RcAt.str_tuple z tz ht' hu0,SeqAt.RcNeAt.str_tuple z tz ht' hu0⟩
end
section
variable {X:Cx}{a b e o:Expr}{es:List Expr}{ta tb te to:DE}{t:DA}{pos:Pos}
def d2I (C:Int->Int->Prop)(g:Int->Int->D):D2:=λx y M Q=>match x,y with
 |.int i,.int j=>C i j/\Q (g i j) M
 |_,_=>False
def d2J (g:Int->Int->D):D2:=λx y M Q=>match x,y with
 |.int i,.int j=>Q (g i j) M
 |_,_=>False
theorem aHI {f:Value->Value->Sem Value}{C:Int->Int->Prop}{g:Int->Int->D}{g':Int->Int->V}(h:OpR X f (rI C g'))(hg:∀H i j,Rep X.K H (g i j) (g' i j)):OpD X f (d2I C g) :=
 OpD.of h λx y H M dx dy Q rx ry hm q=>by
  cases dx with
  |int i =>
   cases dy with
   |int j=>exact⟨i,j,bF rx,bF ry,q.1,_,M,hg H i j,hm,.refl H,q.2⟩
   |_=>exact q.elim
  |_=>exact q.elim
theorem aFa {f:Value->Value->Sem Value}{g:Int->Int->D}{g':Int->Int->V}(h:OpR X f (rI0 g'))(hg:∀H i j,Rep X.K H (g i j) (g' i j)):OpD X f (d2J g) :=
 OpD.of h λx y H M dx dy Q rx ry hm q=>by
  cases dx with
  |int i =>
   cases dy with
   |int j=>exact⟨i,j,bF rx,bF ry,_,M,hg H i j,hm,.refl H,q⟩
   |_=>exact q.elim
  |_=>exact q.elim
theorem hO:OpD X (binaryOp .Sub) (d2J λi j=>.int (i-j)):=aFa aI7 λ_ _ _=>dI
theorem aHu:OpR X (binaryOp .Mult) (rI IntMulOk λi j=>.int (i*j)):=opI λ_ _ _ _ _ _ _ hc q=>mul_int q hc
theorem bG:OpD X (binaryOp .Mult) (d2I IntMulOk λi j=>.int (i*j)):=aHI aHu λ_ _ _=>dI
def CFd (i j:Int):Prop:=j≠0/\j.natAbs.log2<9000
theorem aI2:OpR X (binaryOp .FloorDiv) (rI CFd λi j=>.int (i.fdiv j)):=opI λ_ _ _ _ _ _ _ hc q=>floordiv_int hc.1 q (.inl (PyProof.noPylong_of_log2 hc.2))
theorem eO:OpD X (binaryOp .FloorDiv) (d2I CFd λi j=>.int (i.fdiv j)):=aHI aI2 λ_ _ _=>dI
theorem oR:OpD X (binaryOp .Mod) (d2I (λ_ j=>j≠0) λi j=>.int (i.fmod j)):=aHI aHM λ_ _ _=>dI
theorem pL:OpD X (binaryOp .Pow) (d2I aNr λi j=>.int (i^j.toNat)):=aHI aJj λ_ _ _=>dI
theorem kM:OpD X (compareOp .Lt) (d2J λi j=>.bl (decide (i<j))):=aFa aMx λ_ _ _=>fK
theorem aM7:OpD X (compareOp .LtE) (d2J λi j=>.bl (decide (i<=j))):=aFa aLP λ_ _ _=>fK
theorem aDC:OpD X (compareOp .Gt) (d2J λi j=>.bl (decide (j<i))):=aFa aL1 λ_ _ _=>fK
theorem aL7:OpD X (compareOp .GtE) (d2J λi j=>.bl (decide (j<=i))):=aFa aMj λ_ _ _=>fK
def aMe:D2:=λx y M Q=>match x,y with
 |.int i,.int j=>Q (.int (i+j)) M
 |.ref a,.ref b=>∃xs ys,M a=some xs/\M b=some ys/\xs.length+ys.length<=1000/\∀p:Addr,M p=none->Q (.ref p) (bE M p (xs++ys))
 |.fz xs,.ref b=>∃ys,M b=some ys/\xs.length+ys.length<=1000/\∀p:Addr,M p=none->Q (.ref p) (bE M p (xs++ys))
 |.tup xs,.tup ys=>xs≠[]/\ys≠[]/\xs.length+ys.length<=1000/\Q (.tup (xs++ys)) M
 |_,_=>False
theorem aJL {pins:List (Addr×Obj)}{σ:L2.St}{H:Hp}{s:Shared}(I:Inv X pins σ H s){a:Addr}{xs:List V}(h:SqX X.K H a xs):xs.length<=sizeLine/\∃(its:List Value)(n:Nat),bZ xs its/\s.heap.get? a = some { cls:=.type "list",data:=.seq its.toArray n }:=by
 rcases h with⟨o,h⟩|⟨its,n,hk,hz,r⟩
 ·obtain⟨_,z,its,n,r,e⟩:=I.hok a _ h;exact⟨z,its,n,r,e⟩
 ·have e:=r.length;simp only[Array.length_toList] at e;exact⟨by omega,its.toList,n,r,by simpa using I.kIn a _ hk⟩
theorem fD:OpD X (binaryOp .Add) aMe:=by
 intro pins s σ H x y v u Q I rx ry ⟨dx,dy,M,Q',r1,r2,hm,q,k⟩;cases dx with
 |int i =>
  cases dy with
  |int j=>exact aJa pins s σ H x y v u Q I rx ry ⟨i,j,bF r1,bF r2,k _ H ⟨_,M,dI,hm,.refl H,q⟩⟩
  |_=>exact q.elim
 |ref a =>
  cases dy with
  |ref b =>
   obtain⟨xs,ys,ha,hb,hl,q⟩:=q;obtain⟨us,hu,ru⟩:=hm.l a xs ha;obtain⟨ws,hw,rw'⟩:=hm.l b ys hb;refine aJ6 pins s σ H x y v u Q I rx ry ⟨a,b,us,ws,aQ r1,aQ r2,hu,hw,?_,λp hp=>k _ _ ⟨.ref p,_,dM,hm.lnew hp (ru.append rw'),Ext.new hp _,q p (hm.fresh hp)⟩⟩;rw[<- ru.length,<- rw'.length];exact Nat.le_of_lt (dW hl)
  |_=>exact q.elim
 |fz xs =>
  cases dy with
  |ref b =>
   obtain⟨ys,hb,hl,q⟩:=q;obtain⟨a,us,rfl,sq,ru⟩:=mU r1;obtain⟨ws,hw,rw'⟩:=hm.l b ys hb;obtain rfl:=aQ r2;cases rx;cases ry;obtain⟨z,its,n,r,e⟩:=aJL I sq;obtain⟨z2,its2,n2,r3,hl2,e2⟩:=I.lstM hw;have l1:=r.length;have l2:=r3.length;have l3:=ru.length;have l4:=rw'.length;have hz:=dW hl;refine PySem.P.add_list e e2 ?_ (by rw[size_toArray,size_toArray];omega);have ea:its.toArray++its2.toArray=(its++its2).toArray:=by simp
   rw[ea];refine⟨.ref _,_,I.lnew (t':=s.toks) (r.append r3) (by rw[length_append];omega),rfl,k _ _ ⟨.ref _,_,dM,hm.lnew I.fresh (ru.append rw'),Ext.new I.fresh _,q _ (hm.fresh I.fresh)⟩⟩
  |_=>exact q.elim
 |tup xs =>
  cases dy with
  |tup ys =>
   obtain⟨h1,h2,hl,q⟩:=q;obtain⟨a,us,rfl,sq,ru⟩:=bT r1;obtain⟨b,ws,rfl,sq2,rw'⟩:=bT r2;have l3:=ru.length;have l4:=rw'.length;refine aIr pins s σ H _ _ v u Q I rx ry ?_;have n1:us≠[]:=λz=>by rw[z] at l3;exact h1 (List.length_eq_zero_iff.mp l3)
   have n2:ws≠[]:=λz=>by rw[z] at l4;exact h2 (List.length_eq_zero_iff.mp l4)
   exact⟨a,b,us,ws,rfl,rfl,sq,sq2,n1,by rw[<- l3,<- l4];exact Nat.le_of_lt (dW hl),λz=>absurd z n2,λ_ p hp=>k _ _ ⟨.tup _,M,iT (.of bL) ((ru.append rw').ext (Ext.new hp _)),hm.new hp _,Ext.new hp _,q⟩⟩
  |_=>exact q.elim
 |_=>exact q.elim
def dEq (g:Bool->Bool):D2:=λx y M Q=>match x,y with
 |.ref a,.ref b=>∃xs ys,M a=some xs/\M b=some ys/\(a≠b)/\xs.all (bU 59)=true/\ys.all (bU 59)=true/\Q (.bl (g (iC xs ys))) M
 |x,y=>bU 60 x=true/\bU 60 y=true/\Q (.bl (g (eqD x y))) M
theorem aFc {pins:List (Addr×Obj)}{σ:L2.St}{H:Hp}{s:Shared}(I:Inv X pins σ H s){A:Around}(hu:A.units+60<cLine){a b:Addr}{us ws:List V}{xs ys:List D}(ha:H a=some (.lst us))(hb:H b=some (.lst ws))(ru:bR X.K H xs us)(rw':bR X.K H ys ws)(p:xs.all (bU 59)=true)(p':ys.all (bU 59)=true):SeqAt.RcAt A s (.ref a) (.ref b) (iC xs ys)/\SeqAt.RcNeAt A s (.ref a) (.ref b) (!iC xs ys):=by
 obtain⟨z,its,n,r,hl,e⟩:=I.lstM ha;obtain⟨z2,its2,n2,r3,hl2,e2⟩:=I.lstM hb;have i1:s.heap.IsList a its.toArray:=⟨_,e,rfl,_,rfl⟩;have i2:s.heap.IsList b its2.toArray:=⟨_,e2,rfl,_,rfl⟩;have l3:=ru.length;have l4:=rw'.length;have hu0:A.units<cLine:=by omega
 by_cases hz:its.toArray.size=its2.toArray.size
 ·have hz':=hz;rw[size_toArray,size_toArray] at hz';have hit:∀j (h1:j<its.toArray.size) (h2:j<its2.toArray.size),SeqAt.EqAt A.in1 s its.toArray[j] its2.toArray[j] (tH xs ys j):=λj j1 j2=>by
   have hu':A.in1.units+59<cLine:=by show A.units+1+59<cLine;omega
   have:=tN (A:=A.in1) (s:=s) (λ{d d' v v' u u'} p p' r r' q q'=>aDq I 59 hu' p p' r r' q q') p p' ru rw' r r3 j (by simpa using j1) (by simpa using j2);simpa using this
  have hz2:iC xs ys=(range its.toArray.size).all (tH xs ys):=by rw[iN,show min xs.length ys.length=its.toArray.size by rw[size_toArray];omega,show(xs.length==ys.length)=true by simp;omega,Bool.and_true]
  rw[hz2];exact⟨SeqAt.RcAt.lists i1 i2 hz hu0 hit,SeqAt.RcNeAt.lists i1 i2 hz hu0 hit⟩
 ·have hz':=hz;rw[size_toArray,size_toArray] at hz';have hz2:iC xs ys=false:=by rw[iN,show(xs.length==ys.length)=false by simp;omega,Bool.and_false]
  rw[hz2];exact⟨SeqAt.RcAt.lists_lengths i1 i2 (by simpa using hz) hu0,SeqAt.RcNeAt.lists_lengths i1 i2 (by simpa using hz) hu0⟩
theorem aE5 (hu:X.A.units+60<cLine):OpD X (compareOp .Eq) (dEq id)/\OpD X (compareOp .NotEq) (dEq not):=by
 have key:∀{pins:List (Addr×Obj)}{s:Shared} {σ:L2.St} {H:Hp} {x y:V} {v u:Value} {dx dy:D} {M:DM} {Q':DQ} {g:Bool->Bool},Inv X pins σ H s->RelV x v->RelV y u->Rep X.K H dx x->Rep X.K H dy y->bN X.K M H->dEq g dx dy M Q' ->
   ∃b,SeqAt.RcAt X.A s v u b/\SeqAt.RcNeAt X.A s v u (!b)/\Q' (.bl (g b)) M:=by
  intro pins s σ H x y v u dx dy M Q' g I rx ry r1 r2 hm q;have gen:bU 60 dx=true->bU 60 dy=true->Q' (.bl (g (eqD dx dy))) M->∃b,SeqAt.RcAt X.A s v u b/\SeqAt.RcNeAt X.A s v u (!b)/\Q' (.bl (g b)) M:=λp p' q=>let ⟨h1,h2⟩:=aLU I hu p p' r1 r2 rx ry;⟨_,h1,h2,q⟩
  cases dx with
  |ref a =>
   cases dy with
   |ref b =>
    obtain⟨xs,ys,ha,hb,_,p,p',q⟩:=q;obtain⟨us,hu',ru⟩:=hm.l a xs ha;obtain⟨ws,hw,rw'⟩:=hm.l b ys hb;obtain rfl:=aQ r1;obtain rfl:=aQ r2;cases rx;cases ry;obtain⟨h1,h2⟩:=aFc I hu hu' hw ru rw' p p';exact⟨_,h1,h2,q⟩
   |_=>exact gen q.1 q.2.1 q.2.2
  |_=>exact gen q.1 q.2.1 q.2.2
 refine⟨λpins s σ H x y v u Q I rx ry ⟨dx,dy,M,Q',r1,r2,hm,q,k⟩=>?_,λpins s σ H x y v u Q I rx ry ⟨dx,dy,M,Q',r1,r2,hm,q,k⟩=>?_⟩
 ·obtain⟨b,h1,_,q⟩:=key I rx ry r1 r2 hm q;exact h1 X.prog X.w X.xe _ ⟨.bl b,H,I,rfl,k _ H ⟨.bl b,M,fK,hm,.refl H,q⟩⟩
 ·obtain⟨b,_,h2,q⟩:=key I rx ry r1 r2 hm q;exact h2 X.prog X.w X.xe _ ⟨.bl (!b),H,I,rfl,k _ H ⟨.bl (!b),M,fK,hm,.refl H,q⟩⟩
theorem dD {k:Nat}(hr:eE k X.A):OpD X (compareOp .Eq) (dEq id):=(aE5 (by have:=hr.un;omega)).1
theorem uS {k:Nat}(hr:eE k X.A):OpD X (compareOp .NotEq) (dEq not):=(aE5 (by have:=hr.un;omega)).2
def aKJ (ta:DE):DE:=λρ M Q=>ta ρ M λx M1=>match x with
 |.int i=>Q (.int (-i)) M1
 |_=>False
theorem aJw (ha:PDE X a ta):PDE X (.UnaryOp .USub a pos) (aKJ ta) :=
 dR (aMA aJM ha) λσ H Q ⟨ρ,M,Q',re,hm,q,k⟩=>⟨ρ,M,_,re,hm,q,λx H1 ⟨d,M1,rd,hm1,ex,q1⟩=>by
  cases d with
  |int i=>exact⟨i,bF rd,k _ H1 ⟨_,M1,dI,hm1,ex,q1⟩⟩
  |_=>exact q1.elim⟩
def mZ:D2:=λx y M Q=>match x,y with
 |.tup ds,.int i=>match atI ds i with
  |some d=>Q d M
  |none=>False
 |.fz ds,.int i=>match atI ds i with
  |some d=>Q d M
  |none=>False
 |.ref a,.int i=>∃ds d,M a=some ds/\atI ds i=some d/\Q d M
 |_,_=>False
theorem xM {K:Frag}{H:Hp}{ds:List D}{xs:List V}{i:Int}{d:D}(r:bR K H ds xs)(h:atI ds i=some d):∃v,atI xs i=some v/\Rep K H d v:=by
 unfold atI at h ⊢;rw[<- r.length];cases e:ixN ds.length i with
 |none=>rw[e] at h;cases h
 |some j =>
  rw[e] at h;exact r.get h
theorem ixd:IxR X λx y H Q=>∃dx dy M Q',Rep X.K H dx x/\Rep X.K H dy y/\bN X.K M H/\mZ dx dy M Q'/\∀v H',LQ X.K H Q' v H'->Q v H':=by
 intro value slice pins s σ H x y v u Q I rx ry ⟨dx,dy,M,Q',r1,r2,hm,q,k⟩ hs;cases dx with
 |tup ds =>
  cases dy with
  |int i =>
   obtain⟨a,us,rfl,sq,ru⟩:=bT r1;obtain rfl:=bF r2;cases e:atI ds i with
   |none=>exact absurd q (by show ¬(match atI ds i with|some d=>Q' d M|none=>False);rw[e];exact id)
   |some d =>
    have q':Q' d M:=by have z:(match atI ds i with|some d=>Q' d M|none=>False):=q;rw[e] at z;exact z
    obtain⟨w,hw,rw'⟩:=xM ru e;exact aJG value slice pins s σ H _ _ v u Q I rx ry ⟨a,us,i,w,rfl,rfl,sq,hw,k _ H ⟨d,M,rw',hm,.refl H,q'⟩⟩ hs
  |_=>exact q.elim
 |fz ds =>
  cases dy with
  |int i =>
   obtain⟨a,us,rfl,sq,ru⟩:=mU r1;obtain rfl:=bF r2;cases e:atI ds i with
   |none=>exact absurd q (by show ¬(match atI ds i with|some d=>Q' d M|none=>False);rw[e];exact id)
   |some d =>
    have q':Q' d M:=by have z:(match atI ds i with|some d=>Q' d M|none=>False):=q;rw[e] at z;exact z
    obtain⟨w,hw,rw'⟩:=xM ru e;exact aDl value slice pins s σ H _ _ v u Q I rx ry ⟨a,us,i,w,rfl,rfl,sq.sq,hw,k _ H ⟨d,M,rw',hm,.refl H,q'⟩⟩ hs
  |_=>exact q.elim
 |ref a =>
  cases dy with
  |int i =>
   obtain⟨ds,d,ha,e,q'⟩:=q;obtain rfl:=aQ r1;obtain rfl:=bF r2;obtain⟨us,hu,ru⟩:=hm.l a ds ha;obtain⟨w,hw,rw'⟩:=xM ru e;exact aDl value slice pins s σ H _ _ v u Q I rx ry ⟨a,us,i,w,rfl,rfl,.of hu,hw,k _ H ⟨d,M,rw',hm,.refl H,q'⟩⟩ hs
  |_=>exact q.elim
 |_=>exact q.elim
theorem aGn (ha:PDE X a ta)(hb:PDE X b tb)(hs:tQ b:=by exact λ_ _=>rfl):PDE X (.Subscript a b pos) (dOp mZ ta tb) :=
 dR (aNq ixd ha hb hs) λσ H Q h=>aAN (λ_ _ _ _ z=>z) h
abbrev DO:=cW->DM->(Option Int->DM->Prop)->Prop
def zW (K:Frag)(t:DO):TO:=λσ H Q=>∃ρ M Q',fQ K H ρ σ/\bN K M H/\t ρ M Q'/\∀i H',(∃M',bN K M' H'/\Ext H H'/\Q' i M')->Q i H'
noncomputable def aJo:DO:=λ_ M Q=>Q none M
noncomputable def dPt (t:DE):DO:=λρ M Q=>t ρ M λx M1=>match x with
 |.int i=>Q (some i) M1
 |_=>False
theorem aIo:PO X none (zW X.K aJo):=λpins s σ H Q I ⟨ρ,M,Q',re,hm,q,k⟩=>aGW pins s σ H Q I (k none H ⟨M,hm,.refl H,q⟩)
theorem aHQ (h:PDE X e te):PO X (some e) (zW X.K (dPt te)):=λpins s σ H Q I ⟨ρ,M,Q',re,hm,q,k⟩=>aH9 h pins s σ H Q I ⟨ρ,M,_,re,hm,q,λv H1 ⟨d,M1,rd,hm1,ex,q1⟩=>by
 cases d with
 |int i=>exact⟨i,bF rd,k (some i) H1 ⟨M1,hm1,ex,q1⟩⟩
 |_=>exact q1.elim⟩
noncomputable def cutD (xs:List D)(lo hi:Option Int):List D:=(xs.drop (HT.sIx xs.length 0 lo)).take (HT.sIx xs.length xs.length hi-HT.sIx xs.length 0 lo)
theorem wC {K:Frag}{H:Hp}{ds:List D}{xs:List V}(r:bR K H ds xs)(lo hi:Option Int):bR K H (cutD ds lo hi) (aA9 xs lo hi):=by unfold cutD aA9;rw[r.length];exact(r.drop _).take _
def aM3 (x:D)(lo hi:Option Int)(M:DM)(Q:DQ):Prop:=match x with
 |.fz ds=>∀p:Addr,M p=none->Q (.ref p) (bE M p (cutD ds lo hi))
 |.ref a=>∃ds,M a=some ds/\∀p:Addr,M p=none->Q (.ref p) (bE M p (cutD ds lo hi))
 |_=>False
def dSl (te:DE)(tl th:DO):DE:=λρ M Q=>te ρ M λx M1=>tl ρ M1 λl M2=>th ρ M2 λh M3=>aM3 x l h M3 Q
variable {lo hi:Option Expr}{tl th:DO}{p2:Pos}
theorem aEY (he:PDE X e te)(hl:PO X lo (zW X.K tl))(hu:PO X hi (zW X.K th)):PDE X (.Subscript e (.Slice lo hi none p2) pos) (dSl te tl th) :=
 dR (aBy aG3 he hl hu) λσ H Q ⟨ρ,M,Q',re,hm,q,k⟩=>⟨ρ,M,_,re,hm,q,λv H1 ⟨d,M1,rd,hm1,e1,q1⟩=>⟨ρ,M1,_,re.ext e1,hm1,q1,λl H2 ⟨M2,hm2,e2,q2⟩=>⟨ρ,M2,_,(re.ext e1).ext e2,hm2,q2,λh H3 ⟨M3,hm3,e3,q3⟩=>by
  have rd3:=(rd.ext e2).ext e3;have ex:=(e1.trans e2).trans e3;cases d with
  |fz ds =>
   obtain⟨a,us,rfl,sq,ru⟩:=mU rd3;exact⟨a,us,rfl,sq.sq,λp hp=>k _ _ ⟨.ref p,_,dM,hm3.lnew hp (wC ru l h),ex.trans (Ext.new hp _),q3 p (hm3.fresh hp)⟩⟩
  |ref a =>
   obtain⟨ds,ha,q3⟩:=q3;obtain rfl:=aQ rd;obtain⟨us,hu,ru⟩:=hm3.l a ds ha;exact⟨a,us,rfl,.of hu,λp hp=>k _ _ ⟨.ref p,_,dM,hm3.lnew hp (wC ru l h),ex.trans (Ext.new hp _),q3 p (hm3.fresh hp)⟩⟩
  |_=>exact q3.elim⟩⟩⟩
abbrev DSp:=List D->DM->DQ->Prop
def sT (K:Frag)(sp:DSp):Sp:=λvs H Q _=>∃ds M Q',bR K H ds vs/\bN K M H/\sp ds M Q'/\∀v H',LQ K H Q' v H'->Q v H'
def rZ (sp:DSp)(t:DA):DE:=λρ M Q=>t ρ M λds M1=>sp ds M1 Q
variable {CX:CXT}{k:Nat}{f:Addr}{fd:FuncData}{ps:List Str}{sp:DSp}{E:XK}{x:Str}{p:Pos}
theorem aHy (F:oC X.prog X.w X.K X.mg X.base CX k f fd ps (sT X.K sp))(hr:eE k X.A)(hm:X.mg x=some (.ref f))(hk:keepIn X.K (.ref f)=true)(hb:uZ X.K fd ps [])(hx:aAl CX X E)(ha:PDA X (e::es) t)(hg:Gl X x:=by rfl)(hdb:(x==("__debug__":Str))=false:=by decide)(he:starEach (e::es) X.env=(false,eval e X.env)::starEach es X.env:=by rfl)(hpl:(backTo pos (starEach es X.env)).any (·.1)=false:=by rfl) :
  PDE X (.Call (.Name x p) (e::es) [] pos) (rZ sp t) :=
 dR (aIb F hr hg hm hk hb .nil hx ha hdb he hpl) λσ H Q ⟨ρ,M,Q',re,hm,q,k⟩=>⟨ρ,M,_,re,hm,q,λvs H1 ⟨ds,M1,rs,hm1,ex,q1⟩=>⟨ds,M1,Q',by rw[append_nil];exact rs,hm1,q1,λv H' z=>k v H' (z.back ex)⟩⟩
def iF (X:Cx)(fv:Value)(r:DSp):Prop:=sB X fv λvs H Q=>∃ds M Q',bR X.K H ds vs/\bN X.K M H/\r ds M Q'/\∀v H',LQ X.K H Q' v H'->Q v H'
theorem iF.of {fv:Value}{r:List V->Hp->VK->Prop}{r':DSp}(h:sB X fv r)(l:∀vs H M ds Q,bR X.K H ds vs->bN X.K M H->r' ds M Q->r vs H (LQ X.K H Q)):iF X fv r':=λpins s σ H xs us Q I rs ⟨ds,M,Q',r1,hm,q,k⟩ =>
 thn (h pins s σ H xs us _ I rs (l xs H M ds Q' r1 hm q)) λv s h=>aDh h k
theorem aGH {r:DSp}{σ:L2.St}{H:Hp}{Q:VK}(h:low X.K (rZ r t) σ H Q):aMz X.K t σ H λvs H1=>∃ds M Q',bR X.K H1 ds vs/\bN X.K M H1/\r ds M Q'/\∀v H',LQ X.K H1 Q' v H'->Q v H':=by obtain⟨ρ,M,Q',re,hm,q,k⟩:=h;exact⟨ρ,M,_,re,hm,q,λvs H1 ⟨ds,M1,rs,hm1,ex,q1⟩=>⟨ds,M1,Q',rs,hm1,q1,λv H' z=>k v H' (z.back ex)⟩⟩
theorem aGq {id:String}{r:DSp}(hc:iF X (.builtin id) r)(hm:X.mg x = none)(ha:PDA X (e :: es) t)(hv:bootBuiltins x = some (.builtin id):=by rfl)(hg:Gl X x:=by rfl)(hn:x ≠ "__name__":=by decide)(hdb:(x==("__debug__":Str))=false:=by decide)(he:starEach (e::es) X.env=(false,eval e X.env)::starEach es X.env:=by rfl)(hpl:(backTo pos (starEach es X.env)).any (·.1)=false:=by rfl):PDE X (.Call (.Name x p) (e::es) [] pos) (rZ r t) :=
 dR (aFF hc hg hm hv ha hn hdb he hpl) λσ H Q h=>aGH h
theorem aDN {T:String}{r:DSp}(hc:iF X (.type T) r)(hm:X.mg x = none)(ha:PDA X (e :: es) t)(hv:bootBuiltins x = some (.type T):=by rfl)(hg:Gl X x:=by rfl)(hn:x ≠ "__name__":=by decide)(hdb:(x==("__debug__":Str))=false:=by decide)(he:starEach (e::es) X.env=(false,eval e X.env)::starEach es X.env:=by rfl)(hpl:(backTo pos (starEach es X.env)).any (·.1)=false:=by rfl):PDE X (.Call (.Name x p) (e::es) [] pos) (rZ r t) :=
 dR (aD6 hc hg hm hv ha hn hdb he hpl) λσ H Q h=>aGH h
end
section
variable {X:Cx}{a b e o:Expr}{es:List Expr}{ta tb te to:DE}{t:DA}{pos:Pos}
def aNg:DSp:=λds M Q=>match ds with
 |[.int i]=>Q (.int (if i<0 then -i else i)) M
 |_=>False
theorem iE {K:Frag}{H:Hp}{d:D}{vs:List V}(h:bR K H [d] vs):∃v,vs=[v]/\Rep K H d v:=by obtain⟨v,r,rfl,rv,rr⟩:=aP h;obtain rfl:=bM rr;exact⟨v,rfl,rv⟩
theorem aAs {K:Frag}{H:Hp}{d d2:D}{vs:List V}(h:bR K H [d,d2] vs):∃v v2,vs=[v,v2]/\Rep K H d v/\Rep K H d2 v2:=by obtain⟨v,r,rfl,rv,rr⟩:=aP h;obtain⟨v2,rfl,rv2⟩:=iE rr;exact⟨v,v2,rfl,rv,rv2⟩
theorem aCY:iF X (.builtin "abs") aNg:=iF.of aER λvs H M ds Q rs hm q=>by
 rcases ds with _|⟨d,_|⟨d2,r⟩⟩
 ·exact q.elim
 ·cases d with
  |int i =>
   obtain⟨v,rfl,rv⟩:=iE rs;obtain rfl:=bF rv;exact⟨i,rfl,_,M,dI,hm,.refl H,q⟩
  |_=>exact q.elim
 ·cases d<;>exact q.elim
def aLK:DSp:=λds M Q=>match ds with
 |[.int i]=>Q (.int i) M
 |[.bl k]=>Q (.int (if k then 1 else 0)) M
 |_=>False
theorem aCl:iF X (.type "int") aLK:=iF.of aD8 λvs H M ds Q rs hm q=>by
 rcases ds with _|⟨d,_|⟨d2,r⟩⟩
 ·exact q.elim
 ·cases d with
  |int i =>
   obtain⟨v,rfl,rv⟩:=iE rs;obtain rfl:=bF rv;exact .inl ⟨i,rfl,_,M,dI,hm,.refl H,q⟩
  |bl i =>
   obtain⟨v,rfl,rv⟩:=iE rs;obtain rfl:=cM rv;exact .inr ⟨i,rfl,_,M,dI,hm,.refl H,q⟩
  |_=>exact q.elim
 ·cases d<;>exact q.elim
def wK:DSp:=λds M Q=>match ds with
 |[.tup xs]=>Q (.int xs.length) M
 |[.fz xs]=>Q (.int xs.length) M
 |[.ref a]=>∃xs,M a=some xs/\Q (.int xs.length) M
 |_=>False
theorem mN:iF X (.builtin "len") wK:=iF.of aAH λvs H M ds Q rs hm q=>by
 rcases ds with _|⟨d,_|⟨d2,r⟩⟩
 ·exact q.elim
 ·cases d with
  |tup xs =>
   obtain⟨v,rfl,rv⟩:=iE rs;obtain⟨a,us,rfl,sq,ru⟩:=bT rv;exact⟨a,us,rfl,.inr sq,_,M,by rw[<- ru.length];exact dI,hm,.refl H,q⟩
  |fz xs =>
   obtain⟨v,rfl,rv⟩:=iE rs;obtain⟨a,us,rfl,sq,ru⟩:=mU rv;exact⟨a,us,rfl,.inl sq.sq,_,M,by rw[<- ru.length];exact dI,hm,.refl H,q⟩
  |ref a =>
   obtain⟨v,rfl,rv⟩:=iE rs;obtain rfl:=aQ rv;obtain⟨xs,ha,q⟩:=q;obtain⟨us,hu,ru⟩:=hm.l a xs ha;exact⟨a,us,rfl,.inl (.of hu),_,M,by rw[<- ru.length];exact dI,hm,.refl H,q⟩
  |_=>exact q.elim
 ·cases d<;>exact q.elim
def aA4 (to te:DE):DE:=λρ M Q=>to ρ M λx M1=>match x with
 |.ref p=>(∃ds,M1 p=some ds)/\hU te pK ρ M1 λys M2=>∃ds y,ys=[y]/\M2 p=some ds/\ds.length<1000/\Q .non (bE M2 p (ds++[y]))
 |_=>False
theorem aEv {apos cpos:Pos}(ho:PDE X o to)(he:PDE X e te)(hse:starEach [e] X.env=(false,eval e X.env)::starEach [] X.env:=by rfl)(hbase:attributeBase o "append" X.env (eval o X.env)=eval o X.env:=by rfl)(hfew:((backTo cpos (starEach [e] X.env)).all (λx=>!x.1)&&(backToKw cpos (keywordEach [] X.env)).all (λx=>x.1.isSome)
  &&decide ([e].length+([]:List Keyword).length+(if ([]:List Keyword).isEmpty then 0 else 1)<30))=true:=by rfl)(hline:(apos.endLine==cpos.line)=true:=by rfl)(hplain:(backTo cpos (starEach [] X.env)).any (·.1)=false:=by rfl) :
  PDE X (.Call (.Attribute o "append" apos) [e] [] cpos) (aA4 to te) :=
 dR (aIw PySem.F.plainAttrs_list PySem.F.slot_list_append PySem.F.type_list_append aD9 ho (mW he xR hse) hbase hfew hline hse hplain) λσ H Q ⟨ρ,M,Q',re,hm,q,k⟩=>⟨ρ,M,_,re,hm,q,λv H1 ⟨d,M1,rd,hm1,e1,q1⟩=>by
  cases d with
  |ref p =>
   obtain rfl:=aQ rd;obtain⟨⟨ds0,h0⟩,q1⟩:=q1;obtain⟨us0,hu0,_⟩:=hm1.l p ds0 h0;refine⟨.inl ⟨rfl,us0,.of hu0⟩,ρ,M1,_,re.ext e1,hm1,q1,λvs H2 ⟨dvs,M2,rs,hm2,e2,ds,y,ey,hp,hl,q2⟩=>?_⟩;subst ey;obtain⟨w,rfl,rw'⟩:=iE rs;obtain⟨us,hu,ru⟩:=hm2.l p ds hp;exact⟨p,us,w,rfl,rfl,hu,by rw[<- ru.length];exact dW (Nat.le_of_lt hl),k _ _ ⟨.non,_,sQ,hm2.put hu (ru.append (bX rw' cP)),(e1.trans e2).trans (Ext.put hu _),q2⟩⟩
  |_=>exact q1.elim⟩
noncomputable def tyD:D->Option String
 |.non=>some "NoneType"
 |.bl _=>some "bool"
 |.int _=>some "int"
 |.str _=>some "str"
 |.tup _=>some "tuple"
 |.fz _=>some "list"
 |.ref _=>none
end
noncomputable def kD (N:List Str)(ds:List D):cW:=ds.map some++replicate (N.length-ds.length) none
noncomputable def Dn (Q:DQ):DQ:=λd M=>∃M',bK M' M/\Q d M'
section
variable {P:Program}{w:World}{K:Frag}{mg:Str->Option Value}{base:Heap}
theorem wN {H:Hp}{ds:List D}{vs:List V}(r:bR K H ds vs)(N:List Str):fQ K H (kD N ds) (L2.start N vs):=by
 have hl:=r.length;refine⟨by unfold kD L2.start;simp only[length_append,length_map,List.length_replicate,hl],λi d q=>?_⟩;unfold kD at q;unfold L2.start;by_cases hi:i<ds.length
 ·rw[List.getElem?_append_left (by simpa using hi),getElem?_map] at q;rw[List.getElem?_append_left (by simpa[<- hl] using hi),getElem?_map];cases e:ds[i]? with
  |none=>rw[e] at q;cases q
  |some d' =>
   rw[e] at q;cases q;obtain⟨v,e2,rv⟩:=r.get e;exact⟨v,by rw[e2];rfl,rv⟩
 ·rw[List.getElem?_append_right (by simpa using hi),List.getElem?_replicate] at q;split at q<;>cases q
theorem Fun.okD {x qual:Str}{st:Stmt}{f:Addr}{fd:FuncData}{N ps:List Str}{k:Nat}{sp:DSp}(F:L2.Fun K x qual st f fd)(S:aR N ps (aI st))(len:∀ds M Q,sp ds M Q->ds.length=ps.length)(hbody:∀(cdv:Value)(A:Around) (outer:List Env) (s:Shared) (H:Hp) (ds:List D) (M:DM) (Q:DQ) (E:XK),eE k (A.deeper (envOfC qual (aI st) s.heap.objs.size f cdv))->sp ds M Q ->
   ∃t,mD (tS CX0 P w K mg base N qual (aI st) f cdv A outer s H E).nox (gK st) t/\t { nx:=λ_ M'=>Dn Q .non M',rt:=Dn Q } (kD N ds) M):oC P w K mg base CX0 (k+1) f fd ps (sT K sp):=by
 refine F.ok S (λvs H Q E ⟨ds,M,Q',rs,hm,q,_⟩=>by rw[<- rs.length];exact len ds M Q' q) λcdv A outer s H vs Q E hr ⟨ds,M,Q',rs,hm,q,k'⟩=>?_;obtain⟨t,h1,h2⟩:=hbody cdv A outer s H ds M Q' E hr q;have fin:∀v H',LQ K H (Dn Q') v H'->Q v H':=λv H' ⟨d,M1,rd,hm1,ex,M2,sub,q2⟩=>k' v H' ⟨d,M2,rd,hm1.sub sub,ex,q2⟩;refine⟨_,h1,kD N ds,M,_,wN rs N,hm,h2,⟨λσ' H' ⟨ρ',M',_,hm',ex,q'⟩=>fin _ H' ⟨.non,M',sQ,hm',ex,q'⟩,fin,λσ' H' ⟨_,_,_,_,_,z⟩=>z.elim,λσ' H' ⟨_,_,_,_,_,z⟩=>z.elim⟩⟩
end
def cR (K:Frag)(mg:Str->Option Value)(x:Str)(st:Stmt)(ps:List Str):Prop:=∃f fd,L2.Fun K x x st f fd/\mg x=some (.ref f)/\uZ K fd ps []
def Has (P:Program)(w:World)(K:Frag)(mg:Str->Option Value)(base:Heap)(k:Nat)(x:Str)(ps:List Str)(sp:DSp):Prop :=
 ∃f fd,oC P w K mg base CX0 k f fd ps (sT K sp)/\mg x=some (.ref f)/\keepIn K (.ref f)=true/\uZ K fd ps []
def aDO (K:Frag)(mg:Str->Option Value)(x:Str)(d:D):Prop:=∃u v,mg x=some u/\RelV v u/\∀H,Rep K H d v
section
variable {P:Program}{w:World}{K:Frag}{mg:Str->Option Value}{base:Heap}
theorem Has.mk {x:Str}{st:Stmt}{N ps:List Str}{k:Nat}{sp:DSp}(h:cR K mg x st ps)(S:aR N ps (aI st))(len:∀ds M Q,sp ds M Q->ds.length=ps.length)(hbody:∀(f:Addr)(cdv:Value) (A:Around) (outer:List Env) (s:Shared) (H:Hp) (ds:List D) (M:DM) (Q:DQ) (E:XK),eE k (A.deeper (envOfC x (aI st) s.heap.objs.size f cdv))->sp ds M Q ->
   ∃t,mD (tS CX0 P w K mg base N x (aI st) f cdv A outer s H E).nox (gK st) t/\t { nx:=λ_ M'=>Dn Q .non M',rt:=Dn Q } (kD N ds) M):Has P w K mg base (k+1) x ps sp:=by
 obtain⟨f,fd,F,hm,hb⟩:=h;exact⟨f,fd,Fun.okD F S len λcdv A outer s H ds M Q E hr q=>hbody f cdv A outer s H ds M Q E hr q,hm,F.kp,hb⟩
theorem Has.imp {x:Str}{ps:List Str}{k:Nat}{sp sp':DSp}(h:Has P w K mg base k x ps sp)(i:∀ds M Q,sp' ds M Q->sp ds M Q):Has P w K mg base k x ps sp':=by obtain⟨f,fd,F,hm,hk,hb⟩:=h;exact⟨f,fd,F.imp λvs H Q E ⟨ds,M,Q',a,b,c,d⟩=>⟨ds,M,Q',a,b,i _ _ _ c,d⟩,hm,hk,hb⟩
end
section
variable {X:Cx}{a b c e:Expr}{es:List Expr}{ta tb te:DE}{t:DA}{pos p:Pos}{x:Str}{ps:List Str}{sp:DSp}{k j:Nat}
theorem aE6 (h:Has X.prog X.w X.K X.mg X.base k x ps sp)(hr:eE j X.A)(hkj:k<=j)(ha:PDA X (e::es) t)(hg:Gl X x:=by rfl)(hdb:(x==("__debug__":Str))=false:=by decide)(he:starEach (e::es) X.env=(false,eval e X.env)::starEach es X.env:=by rfl)(hpl:(backTo pos (starEach es X.env)).any (·.1)=false:=by rfl) :
  PDE X (.Call (.Name x p) (e::es) [] pos) (rZ sp t):=by
 obtain⟨f,fd,F,hm,hk,hb⟩:=h;exact aHy F (hr.mono hkj) hm hk hb aIP ha hg hdb he hpl
theorem aFS {d:D}(h:aDO X.K X.mg x d)(hg:Gl X x:=by rfl)(hd:(x==("__debug__":Str))=false:=by decide):PDE X (.Name x pos) (dC d):=by obtain⟨u,v,hm,rv,hr⟩:=h;exact aHX hg hm rv hr hd
def aHv (i:Nat)(te:DE)(g:Int->Int->Int):DS:=λE ρ M=>match ρ[i]? with
 |some (some (.int z))=>te ρ M λy M1=>match y with
  |.int j=>E.nx (ρ.set i (some (.int (g z j)))) M1
  |_=>False
 |_=>False
theorem aHF {i:Nat}{op:Operator}{g:Int->Int->Int}{pos':Pos}(ho:PIp X op (ipI g))(hN:X.N.Nodup)(he:PDE X e te)(hi:X.N[i]?=some x:=by rfl)(hx:Loc X.env.scope x:=by first|exact Or.inl rfl|exact Or.inr rfl)(hf:X.fn x=true∨X.env.scope.names.lookup x=some .local:=by first|exact .inl rfl|exact .inr rfl|assumption) :
  PDS X (.AugAssign (.Name x pos') op e pos) (aHv i te g) :=
 gF (aGG (i:=i) hN hi hx he ho hf) λE σ H ⟨ρ,M,Dn,re,hm,q,k⟩=>by
  unfold aHv at q;split at q
  ·rename_i z e1;obtain⟨v,e2,rv⟩:=re.get i _ e1;obtain rfl:=bF rv;refine⟨_,e2,ρ,M,_,re,hm,q,λw H1 ⟨d,M1,rd,hm1,ex,q1⟩=>?_⟩;cases d with
   |int j=>exact⟨z,j,rfl,bF rd,k.nx _ H1 ⟨_,M1,(re.ext ex).set dI i,hm1,ex,q1⟩⟩
   |_=>exact q1.elim
  ·exact q.elim
end
theorem dif {c A B:Prop}[Decidable c](h1:c->A)(h2:¬c->B):if decide c=true then A else B:=by
 by_cases h:c
 ·rw[decide_eq_true h];exact h1 h
 ·rw[decide_eq_false h];exact h2 h
theorem zB {b:Bool}{A B:Prop}(h1:b=true->A)(h2:b=false->B):if b=true then A else B:=by
 cases b
 ·exact h2 rfl
 ·exact h1 rfl
section
variable {prog:Program}{w:World}{A:Around}{E:Value->Shared->Prop}{s:Shared}
theorem xP {h h':Heap}{it t:Addr}{items:Array Value}(ht:h.IsList t items)(hs:Heap.SameBut it h h')(hne:t≠it):h'.IsList t items:=by obtain⟨o,e,r⟩:=ht;exact⟨o,(hs.2 t hne).trans e,r⟩
theorem uX {h:Heap}{t:Addr}{items:Array Value}(ht:h.IsList t items)(o:Obj):(h.push o).IsList t items:=by obtain⟨o',e,r⟩:=ht;exact⟨o',Heap.get?_push_of_some _ e,r⟩
theorem yO {it t:Addr}{items:Array Value}(hne:t≠it):∀(n i:Nat)(s:Shared) (Q:List Value->Shared->Prop),s.heap.IsListIter it t i->s.heap.IsList t items->i+n<=items.size ->
  (∀h',h'.IsListIter it t (i+n)->Heap.SameBut it s.heap h'->Q ((items.toList.drop i).take n) { s with heap:=h' })->wpAny (model prog w) A (draw (.ref it) n) Q E s
 |0,i,s,Q,hit,_,_,hQ=>by show wpAny _ _ (pure []) Q E s;exact wpAny_pure (by simpa using hQ s.heap hit (Heap.SameBut.refl ..))
 |n+1,i,s,Q,hit,ht,hle,hQ=>by
  have hlt:i<items.size:=by omega
  show wpAny _ _ (pyNext (.ref it) >>= _) Q E s;refine wpAny_bind (wpAny_pyNext_list_item hit ht (x:=items[i]) (by simp[hlt]) λh₁ hit₁ hs₁=>?_);refine wpAny_bind (wpAny_holding (yO hne n (i+1) _ _ hit₁ (xP ht hs₁ hne) (by omega) λh₂ hit₂ hs₂=>wpAny_pure ?_));have hd:items.toList.drop i=items[i]::items.toList.drop (i+1):=by simp[List.drop_eq_getElem_cons,hlt]
  have:=hQ h₂ (by rw[show i+(n+1)=i+1+n by omega];exact hit₂) (hs₁.trans hs₂);rw[hd,List.take_succ_cons] at this;exact this
theorem uE {t:Addr}{items:Array Value}{Q:List Value->Shared->Prop}(hh:A.handled=none)(ht:s.heap.IsList t items)(hQ:∀h',Heap.ExtBut s.heap.objs.size s.heap h'->Q items.toList { s with heap:=h' }):wpAny (model prog w) A (unpackItems (.ref t) items.size none) Q E s:=by
 have hlt:t≠s.heap.objs.size:=by obtain⟨o,ho,_⟩:=ht;exact Nat.ne_of_lt (Heap.lt_size ho)
 unfold unpackItems;refine wpAny_bind ?_
 ·unfold notIterableAtAll;refine wpAny_bind (wpAny_specialOf ht.typeIs slot_list_iter.lookup ?_);refine wpAny_pure ?_;simp only[Bool.false_eq_true,if_false];refine wpAny_bind (wpAny_holding (wpAny_pyIter_list ht ?_));refine wpAny_bind (wpAny_holding (yO hlt items.size 0 _ _ ⟨_,Heap.get?_push_size _ rfl,rfl,rfl⟩ (uX ht _) (by omega) λh₁ hit₁ hs₁=>?_));have hall:List.take items.size (List.drop 0 items.toList)=items.toList:=by rw[List.drop_zero];exact List.take_of_length_le (by simp)
  rw[hall];rw[if_neg (by simp)];have ht₁:h₁.IsList t items:=xP (uX ht _) hs₁ hlt;refine wpAny_bind (wpAny_holding (wpAny_pyNext_list_end hh hit₁ ht₁ (by simp) λh₂ he₂=>?_));simp only[Option.isSome_none,Bool.false_eq_true,if_false];refine wpAny_pure (hQ h₂ λb o hb e=>he₂ b o hb (hs₁.extBut b o hb (Heap.get?_push_of_some _ e)))
theorem sF {env:Env}{elts:List Expr}{x1}{pos:Pos}{t:Addr}{items:Array Value}{Q:Unit->Shared->Prop}(hh:A.handled=none)(ht:s.heap.IsList t items)(hn:(assignEach elts env).length=items.size)(hstar:(assignEach elts env).findIdx? (·.1)=none)(h:∀h',Heap.ExtBut s.heap.objs.size s.heap h'->wpAny (model prog w) A (assignInOrder ((assignEach elts env).map (·.2)) items.toList) Q E { s with heap:=h' }) :
  wpAny (model prog w) A (assign (.Tuple elts x1 pos) env (.ref t)) Q E s:=by
 rw[assign_Tuple];refine wpAny_bind (wpAny_standAt ?_);unfold unpack;rw[hn,hstar];exact wpAny_bind (wpAny_holding (uE hh ht h))
end
section
variable {X:Cx}{pos:Pos}{e a b:Expr}{es:List Expr}{te ta tb:DE}
def gU (n:Nat)(t:DGs):DG:=λd ρ M Q=>match d with
 |.tup ds=>ds.length=n/\t ds ρ M Q
 |.ref a=>∃ds,M a=some ds/\ds.length=n/\t ds ρ M Q
 |_=>False
theorem aLo {k:Nat}{t:DGs}{n:Nat}(hc:X.calm=true)(h:aBt X es t)(hn:(assignEach es X.env).length=n:=by rfl)(hst:(assignEach es X.env).findIdx? (·.1)=none:=by rfl):PDG X (.Tuple es k pos) (gU n t):=by
 intro pins s σ H v u Q I r ⟨d,ρ,M,Q',rd,re,hm,q,k'⟩;cases d with
 |tup ds=>exact aJO hc h hn hst pins s σ H v u Q I r ⟨.tup ds,ρ,M,Q',rd,re,hm,q,k'⟩
 |ref p =>
  obtain⟨ds,hp,hl,q⟩:=q;obtain rfl:=aQ rd;cases r;obtain⟨us,hu,ru⟩:=hm.l p ds hp;obtain⟨z,its,nn,rv,hlen,e1⟩:=I.lstM hu;have l1:=ru.length;refine sF (I.ok.hd hc) ⟨_,e1,rfl,_,rfl⟩ (by rw[hn,size_toArray];omega) hst λh' hx=>?_;have I1:Inv X pins σ H { s with heap:=h' }:=I.kept (t':=s.toks) λb o e=>hx b o (Nat.ne_of_lt (Heap.lt_size e)) e;exact h pins _ σ H us _ Q I1 (by simpa using rv) ⟨ds,ρ,M,Q',ru,re,hm,q,k'⟩
 |_=>exact q.elim
noncomputable def isV:D->D->Option Bool
 |.non,.non=>some true
 |.bl a,.bl b=>some (a==b)
 |.non,.bl _=>some false
 |.bl _,.non=>some false
 |.int _,.non=>some false
 |.str _,.non=>some false
 |.tup _,.non=>some false
 |.ref _,.non=>some false
 |.fz _,.non=>some false
 |.tup _,.bl _=>some false
 |_,_=>none
def aKj (g:Bool->Bool):D2:=λx y M Q=>match isV x y with
 |some k=>Q (.bl (g k)) M
 |none=>False
theorem aKN {K:Frag}{H:Hp}{x y:V}{v u:Value}{dx dy:D}{k:Bool}(rx:RelV x v)(ry:RelV y u)(r1:Rep K H dx x)(r2:Rep K H dy y)(h:isV dx dy=some k):plainIs v u=true/\(v==u)=k:=by
 cases dx<;>cases dy<;>first
  |(cases (show(none:Option Bool)=some k from h))
  |(
    first
    |(rw[eM r1] at rx;cases rx)
    |(rw[cM r1] at rx;cases rx)
    |(rw[bF r1] at rx;obtain⟨t,rfl⟩:=rx)
    |(rw[dN r1] at rx;obtain⟨t,rfl⟩:=rx)
    |(rw[aQ r1] at rx;cases rx)
    |(obtain⟨a,us,rfl,_,_⟩:=bT r1;cases rx)
    |(obtain⟨a,us,rfl,_,_⟩:=mU r1;cases rx)
    first
    |(rw[eM r2] at ry;cases ry)
    |(rw[cM r2] at ry;cases ry)
    simp only[isV,Option.some.injEq] at h;subst h;constructor<;>first|rfl|(rename_i b1 b2;cases b1<;>cases b2<;>rfl))
theorem aMT:OpD X (compareOp .Is) (aKj id):=λpins s σ H x y v u Q I rx ry ⟨dx,dy,M,Q',r1,r2,hm,q,k⟩=>by
 unfold aKj at q;split at q
 ·rename_i b e;obtain⟨h1,h2⟩:=aKN rx ry r1 r2 e;exact wpAny_is_plain h1 (by rw[h2];exact⟨.bl b,H,I,rfl,k _ H ⟨_,M,fK,hm,.refl H,q⟩⟩)
 ·exact q.elim
end
section
variable {M:DM}{Q:DQ}{g:Bool->Bool}{ds:List D}{i:Int}{a:Addr}{α:Type}{x0 x1 x2 x3 x4 x5:α}{l:List α}
theorem ixT:mZ (.tup ds) (.int i) M Q=(match atI ds i with|some d=>Q d M|none=>False):=rfl
theorem ixF:mZ (.fz ds) (.int i) M Q=(match atI ds i with|some d=>Q d M|none=>False):=rfl
theorem aOm:mZ (.ref a) (.int i) M Q=(∃ds d,M a=some ds/\atI ds i=some d/\Q d M):=rfl
theorem aJ0:atI [x0] 0=some x0:=rfl
theorem aLb:atI [x0] (-1)=some x0:=rfl
theorem aJf:atI [x0,x1] 0=some x0:=rfl
theorem aLi:atI [x0,x1] 1=some x1:=rfl
theorem aKt:atI [x0,x1] (-1)=some x1:=rfl
theorem aKU:atI [x0,x1,x2] 0=some x0:=rfl
theorem aKu:atI [x0,x1,x2] 1=some x1:=rfl
theorem aI4:atI [x0,x1,x2] 2=some x2:=rfl
theorem aLm:atI [x0,x1,x2] (-1)=some x2:=rfl
theorem aJV:atI [x0,x1,x2,x3] 0=some x0:=rfl
theorem aKZ:atI [x0,x1,x2,x3] 1=some x1:=rfl
theorem aK7:atI [x0,x1,x2,x3] 2=some x2:=rfl
theorem aKP:atI [x0,x1,x2,x3] 3=some x3:=rfl
theorem aKL:atI [x0,x1,x2,x3] (-1)=some x3:=rfl
theorem aIU:atI [x0,x1,x2,x3,x4] 0=some x0:=rfl
theorem aJN:atI [x0,x1,x2,x3,x4] 1=some x1:=rfl
theorem aKa:atI [x0,x1,x2,x3,x4] 2=some x2:=rfl
theorem aLr:atI [x0,x1,x2,x3,x4] 3=some x3:=rfl
theorem aLk:atI [x0,x1,x2,x3,x4] 4=some x4:=rfl
theorem aJe:atI [x0,x1,x2,x3,x4] (-1)=some x4:=rfl
theorem aJy:atI [x0,x1,x2,x3,x4,x5] 0=some x0:=rfl
theorem aKi:atI [x0,x1,x2,x3,x4,x5] 1=some x1:=rfl
theorem aLc:atI [x0,x1,x2,x3,x4,x5] 2=some x2:=rfl
theorem aKk:atI [x0,x1,x2,x3,x4,x5] 3=some x3:=rfl
theorem aKe:atI [x0,x1,x2,x3,x4,x5] 4=some x4:=rfl
theorem aKo:atI [x0,x1,x2,x3,x4,x5] 5=some x5:=rfl
theorem aJt:atI [x0,x1,x2,x3,x4,x5] (-1)=some x5:=rfl
theorem aKD {n:Nat}{t:DGs}{ρ:cW}{R:cW->DM->Prop}:gU n t (.tup ds) ρ M R=(ds.length=n/\t ds ρ M R):=rfl
theorem aLl {n:Nat}{t:DGs}{ρ:cW}{R:cW->DM->Prop}:gU n t (.ref a) ρ M R=(∃ds,M a=some ds/\ds.length=n/\t ds ρ M R):=rfl
theorem dL {i j:Int}:dEq g (.int i) (.int j) M Q=Q (.bl (g (decide (i=j)))) M:=by
 show(bU 60 (.int i)=true/\bU 60 (.int j)=true/\Q (.bl (g (eqD (.int i) (.int j)))) M)=_;have e:eqD (.int i) (.int j)=decide (i=j):=by show(i==j)=_;by_cases h:i=j<;>simp[h]
 rw[e];exact propext ⟨λh=>h.2.2,λh=>⟨rfl,rfl,h⟩⟩
theorem cV {x y:Str}:dEq g (.str x) (.str y) M Q=Q (.bl (g (decide (x=y)))) M:=by
 show(bU 60 (.str x)=true/\bU 60 (.str y)=true/\Q (.bl (g (eqD (.str x) (.str y)))) M)=_;have e:eqD (.str x) (.str y)=decide (x=y):=by show(x==y)=_;by_cases h:x=y<;>simp[h]
 rw[e];exact propext ⟨λh=>h.2.2,λh=>⟨rfl,rfl,h⟩⟩
end
end Dd
namespace L2
open PySem PySem.Spec PyProof.Rows
noncomputable def clo (cells:List (Str×Addr)):List (Str×NameKind)->List (Str×Addr)->List (Str×Addr)
 |[],cs=>cs
 |(n,k)::r,cs=>clo cells r (if k == .free then (n,(cells.lookup n).getD 0)::cs else cs)
noncomputable def aCa (env:Env)(x:Str×NameKind)(r:List (Str×Addr)):Sem (ForInStep (List (Str×Addr))) :=
 if (x.2==NameKind.free)=true then do let a <- cellOf env x.1;pure (ForInStep.yield ((x.1,a)::r)) else pure (ForInStep.yield r)
theorem aBH {env:Env}:∀(names:List (Str×NameKind)) (cs:List (Str×Addr)),(∀y∈names,y.2=.free->∃c,env.cells.lookup y.1=some c)->(forIn names cs (aCa env):Sem (List (Str×Addr)))=pure (clo env.cells names cs)
 |[],cs,_=>rfl
 |(n,k)::r,cs,hh=>by
  rw[List.forIn_cons];have ih:=λcs=>aBH (env:=env) r cs λz hz=>hh z (mem_cons_of_mem _ hz);cases hk:k==NameKind.free with
  |true =>
   have hf:k=.free:=by simpa using hk
   obtain⟨c,hc⟩:=hh (n,k) mem_cons_self hf;have hc:env.cells.lookup n=some c:=hc;have e:aCa env (n,k) cs=pure (ForInStep.yield ((n,c)::cs)):=by unfold aCa;rw[if_pos hk];show(cellOf env n >>= _)=_;unfold cellOf;rw[hc];rfl
   rw[e];refine Eq.trans (b:=(forIn r ((n,c)::cs) (aCa env):Sem (List (Str×Addr)))) rfl ?_;rw[ih];show _=pure (clo env.cells r (if k == .free then (n,(env.cells.lookup n).getD 0)::cs else cs));rw[hk,if_pos rfl,hc];rfl
  |false =>
   have e:aCa env (n,k) cs=pure (ForInStep.yield cs):=by unfold aCa;rw[if_neg (by rw[hk];decide)]
   rw[e];refine Eq.trans (b:=(forIn r cs (aCa env):Sem (List (Str×Addr)))) rfl ?_;rw[ih];show _=pure (clo env.cells r (if k == .free then (n,(env.cells.lookup n).getD 0)::cs else cs));rw[hk,if_neg (by decide)]
theorem aB9 {scope:Scope}{env:Env}(h:∀y∈scope.names,y.2=.free->∃c,env.cells.lookup y.1=some c):closureFor scope env=pure (clo env.cells scope.names []):=by have e:closureFor scope env=((forIn scope.names [] (aCa env):Sem (List (Str×Addr))) >>= λcs=>pure cs):=rfl;rw[e,aBH _ _ h];rfl
theorem aDk {cells:List (Str×Addr)}{x:Str}{c:Addr}:∀{names:List (Str×NameKind)}{cs:List (Str×Addr)},(∀y∈names,y.2=.free->∃c,cells.lookup y.1=some c)->(cs.lookup x=some c->cells.lookup x=some c)->(clo cells names cs).lookup x=some c->cells.lookup x=some c
 |[],cs,_,h,e=>h e
 |(n,k)::r,cs,hh,h,e=>by
  unfold clo at e;refine aDk (λy hy=>hh y (mem_cons_of_mem _ hy)) (λe2=>?_) e;cases hk:k==NameKind.free with
  |false=>rw[hk,if_neg (by decide)] at e2;exact h e2
  |true =>
   rw[hk,if_pos rfl] at e2;have hk':k=.free:=by simpa using hk
   obtain⟨c',hc'⟩:=hh (n,k) mem_cons_self hk';have hc':cells.lookup n=some c':=hc';rw[lookup_cons] at e2;cases hx:x==n with
   |true =>
    rw[hx] at e2;have:x=n:=by simpa using hx
    subst this;rw[hc'] at e2 ⊢;exact e2
   |false=>rw[hx] at e2;exact h e2
theorem zR {cells:List (Str×Addr)}{x:Str}:∀{names:List (Str×NameKind)}{cs:List (Str×Addr)},((x,NameKind.free)∈names ∨ ∃c,cs.lookup x=some c)->∃c,(clo cells names cs).lookup x=some c
 |[],cs,h=>by
  rcases h with h|h
  ·exact nomatch h
  ·exact h
 |(n,k)::r,cs,h=>by
  unfold clo;refine zR ?_;have ins:∀{v:Addr},(∃c,cs.lookup x=some c)->∃c,((n,v)::cs).lookup x=some c:=λ{v} ⟨c,e⟩=>by
   rw[lookup_cons];cases x==n with
   |true=>exact⟨_,rfl⟩
   |false=>exact⟨c,e⟩
  rcases h with h|h
  ·rcases List.mem_cons.mp h with e|e
   ·cases e;refine .inr ⟨_,by rw[if_pos (by rfl),lookup_cons,beq_self_eq_true]⟩
   ·exact .inl e
  ·cases hk:k==NameKind.free with
   |true=>rw[if_pos rfl];exact .inr (ins h)
   |false=>rw[if_neg (by decide)];exact .inr h
theorem vD {g:Str->NameKind->NameKind}{x:Str}:∀{names:List (Str×NameKind)},(names.map λp=>(p.1,g p.1 p.2)).lookup x=(names.lookup x).map (g x)
 |[]=>rfl
 |(n,k)::r=>by
  rw[map_cons,lookup_cons,lookup_cons];cases hx:x==n with
  |true =>
   have:x=n:=by simpa using hx
   subst this;rfl
  |false=>exact vD
theorem pO {scope:Scope}{env:Env}{x:Str}:(relabel scope env).names.lookup x=(scope.names.lookup x).map λk=>if (k==NameKind.free&&env.scope.kind == .function&&env.kindOf x==some .cell)=true then .cell else k:=by rw[<- vD (g:=λx k=>if (k==NameKind.free&&env.scope.kind == .function&&env.kindOf x==some .cell)=true then .cell else k)];unfold relabel;dsimp only;congr 1;refine List.map_congr_left λp _=>?_;obtain⟨n,k⟩:=p;dsimp only;split<;>rfl
noncomputable abbrev Cx.blk (X:Cx)(N':List Str)(scope:Scope)(C:Addr)(s:Shared)(H:Hp)(fp:List Addr)(pins:List (Addr×Obj)):Cx :=
 { X with N:=N',s₀:=s,H₀:=H,env:=compEnvC scope (clo X.env.cells scope.names []) C X.env,outer:=X.stack,ex:=fp,fn:=λ_=>false,pn:=X.pn++pins,xe:=λ_ _=>False }
structure fZ (X:Cx)(N':List Str)(fr:List (Option Nat))(scope:Scope):Prop where
 kind:scope.kind=.function
 nocell:∀y∈scope.names,y.2 ≠ .cell
 names:∀y∈scope.names,y.2=.local->scope.names.lookup y.1=some .local
 free:∀y∈scope.names,y.2=.free->X.env.scope.names.lookup y.1=some .cell
 len:fr.length=N'.length
 at':∀(i j:Nat)(x:Str),N'[i]?=some x->fr[i]?=some (some j)->X.N[j]?=some x/\scope.names.lookup x=some .free
structure oE (oN:List Str)(osc:Scope)(N':List Str)(fr:List (Option Nat))(scope:Scope):Prop where
 kind:scope.kind=.function
 nocell:∀y∈scope.names,y.2 ≠ .cell
 names:∀y∈scope.names,y.2=.local->scope.names.lookup y.1=some .local
 free:∀y∈scope.names,y.2=.free->osc.names.lookup y.1=some .cell
 len:fr.length=N'.length
 at':∀p∈N'.zip fr,∀j∈p.2,oN[j]?=some p.1/\scope.names.lookup p.1=some .free
theorem oE.scope {X:Cx}{oN:List Str}{osc:Scope}{N':List Str}{fr:List (Option Nat)}{scope:Scope}(B:oE oN osc N' fr scope)(hN:X.N=oN)(ho:X.env.scope=osc):fZ X N' fr scope:=by
 subst hN ho;refine⟨B.kind,B.nocell,B.names,B.free,B.len,λi j x h1 h2=>?_⟩;have:(x,some j)∈N'.zip fr:=by refine mem_of_getElem? (i:=i) ?_;rw[List.getElem?_zip_eq_some];exact⟨h1,h2⟩
 exact B.at' _ this j rfl
noncomputable def tJ (fr:List (Option Nat))(σ:St):St:=fr.map λo=>match o with
 |some j=>(σ[j]?).join
 |none=>none
section
variable {X:Cx}{pins:List (Addr×Obj)}{σ:St}{H:Hp}{s:Shared}{N':List Str}{fr:List (Option Nat)}{scope:Scope}{C:Addr}{fp:List Addr}
theorem fZ.hasC (S:fZ X N' fr scope)(ok:X.Ok):∀y∈scope.names,y.2=.free->∃c,X.env.cells.lookup y.1=some c:=λy hy e=>ok.has y.1 (.inl (S.free y hy e))
theorem fZ.sub (S:fZ X N' fr scope)(ok:X.Ok){x:Str}{c:Addr}(h:(clo X.env.cells scope.names []).lookup x=some c):X.env.cells.lookup x=some c:=aDk (S.hasC ok) (λz=>by cases z) h
theorem aDL (S:fZ X N' fr scope)(I:Inv X pins σ H s){h':Heap}{m:Str->Option Value}(k:∀x c v,(clo X.env.cells scope.names []).lookup x=some c->s.heap.IsCell c v->h'.IsCell c v) :
  ∀(i:Nat)(x:Str) (v:V),N'[i]?=some x->(tJ fr σ)[i]?=some (some v)->∃u,RelV v u/\aMf (compEnvC scope (clo X.env.cells scope.names []) C X.env) h' m x u:=by
 intro i x v hx hv;unfold tJ at hv;rw[getElem?_map] at hv;cases hf:fr[i]? with
 |none=>rw[hf] at hv;cases hv
 |some o =>
  rw[hf] at hv;cases o with
  |none=>cases hv
  |some j =>
   have hv:(σ[j]?).join=some v:=Option.some.inj hv;obtain⟨hN,hfree⟩:=S.at' i j x hx hf;have hσ:σ[j]?=some (some v):=by
    cases e:σ[j]? with
    |none=>rw[e] at hv;cases hv
    |some o=>rw[e] at hv;rw[show o=some v from hv]
   have hmem:(x,NameKind.free)∈scope.names:=PySem.mem_of_lookup hfree;have hcell:=S.free _ hmem rfl;obtain⟨mm,_,hl⟩:=I.loc;obtain⟨u,r,l⟩:=hl j x v hN hσ (.inr (.inl hcell));refine⟨u,r,.inr ⟨.inl ?_,?_⟩⟩
   ·show(relabel scope X.env).names.lookup x=some .cell;rw[pO,hfree];have h1:X.env.scope.kind=.function:=I.ok.kind;have h2:X.env.kindOf x=some .cell:=hcell;rw[h1,h2];rfl
   ·rcases l with⟨k1,_⟩|⟨_,c,e,z⟩
    ·have:X.env.scope.names.lookup x=some .local:=k1;rw[hcell] at this;cases this
    ·obtain⟨c',e'⟩:=zR (cells:=X.env.cells) (x:=x) (names:=scope.names) (cs:=[]) (.inl hmem);have e2:=S.sub I.ok e';rw[e] at e2;cases e2;exact⟨c,e',k x c _ e' z⟩
theorem aHo (S:fZ X N' fr scope)(I:Inv X pins σ H s)(hf:∀b∈fp,yG X pins H b)(ho:∀b∈fp,∃o,s.heap.get? b=some o){s1:Shared}{m:Str->Option Value}(hos:s1.os=s.os)(hg:s1.gens=s.gens)(hC:s.heap.objs.size<=C)(k:∀b o,s.heap.get? b=some o->s1.heap.get? b=some o)(hn:s1.heap.Ns C m) :
  Inv (X.blk N' scope C s H fp pins) [] (tJ fr σ) H s1:=by
 have lt:∀b o,s.heap.get? b=some o->b≠C:=λb o e=>Nat.ne_of_lt (Nat.lt_of_lt_of_le (Heap.lt_size e) hC);have stk:∀b,b≠X.env.locals->b∉X.fs->b∉frs X.stack:=λb h1 h2 hb=>(List.mem_cons.mp (I.stkSub b hb)).elim h1 h2;have cellK:∀x c v,(clo X.env.cells scope.names []).lookup x=some c->s.heap.IsCell c v->s1.heap.IsCell c v:=λx c v _ ⟨o,e,d⟩=>⟨o,k c o e,d⟩;refine⟨⟨I.ok.mod,S.kind,I.ok.glob,I.ok.blt,hC,λx y c h1 h2=>I.ok.inj x y c (S.sub I.ok h1) (S.sub I.ok h2),λx hx=>?_,(λx c z=>by cases z),I.ok.hd,I.ok.frames,.inl rfl,λb hb=>?_,I.bs,Nat.le_trans I.ok.bsz I.sz,λb o e hb=>?_,λb hb=>?_,I.stack,I.stkFree⟩,
  hos,by rw[hg];exact I.bare,Un.kept k,⟨m,hn,λi x v h1 h2 _=>aDL S I cellK i x v h1 h2⟩,λx c e=>?_,I.hok.fresh hC,λx c e=>I.freeC x c (S.sub I.ok e),λp hp=>?_,I.hok.kept k,?_⟩
 ·have hx:(relabel scope X.env).names.lookup x=some .cell∨(relabel scope X.env).names.lookup x=some .free:=hx;rw[pO] at hx;have hfree:(x,NameKind.free)∈scope.names:=by
   cases e:scope.names.lookup x with
   |none=>rw[e] at hx;rcases hx with z|z<;>cases z
   |some kk =>
    rw[e] at hx;have hm:=PySem.mem_of_lookup e;cases kk with
    |free=>exact hm
    |cell=>exact absurd rfl (S.nocell _ hm)
    |_=>rcases hx with z|z<;>cases z
  exact zR (.inl hfree)
 ·obtain⟨o,e⟩:=ho b hb;obtain⟨_,_,_,_,f4,_⟩:=hf b hb;exact⟨lt b o e,λx c z=>f4 x c (S.sub I.ok z)⟩
 ·obtain⟨_,_,_,f3,_⟩:=hf b hb;rcases f3 with z|z
  ·exact I.ok.noex b o e z
  ·exact absurd (Nat.lt_of_lt_of_le (Heap.lt_size e) (Nat.le_trans I.ok.bsz z)) (Nat.lt_irrefl _)
 ·obtain⟨_,f1,f2,_⟩:=hf b hb;exact stk b f1 f2
 ·obtain⟨v,z⟩:=I.cell x c (S.sub I.ok e);exact⟨v,cellK x c v e z⟩
 ·rw[append_nil] at hp;obtain⟨e,n,ne,nf,d⟩:=I.pin p hp;exact⟨k p.1 p.2 e,n,lt p.1 p.2 e,stk p.1 ne nf,d⟩
 ·unfold tJ;rw[length_map];exact S.len
theorem aDW (S:fZ X N' fr scope){s1:Shared}{H1:Hp}{σ1:St}{pl:List (Addr×Obj)}(I:Inv X pins σ H s)(J:Inv (X.blk N' scope C s H fp pins) pl σ1 H1 s1):Inv (X.blk N' scope C s H fp pins) pl (tJ fr σ) H1 s1:=by
 obtain⟨m,hn,_⟩:=id J.loc;refine⟨J.ok,J.os,J.bare,J.base,⟨m,hn,λi x v h1 h2 _=>aDL S I (λx c v e z=>?_) i x v h1 h2⟩,J.cell,J.free,J.freeC,J.pin,J.hok,?_⟩
 ·obtain⟨o,eo,d⟩:=z;have e':=S.sub I.ok e;have hfree:=I.freeC x c e';have nex:c∉fp:=λhb=>(J.ok.exf c hb).2 x c e rfl;by_cases hfs:c∈frs X.stack
  ·obtain⟨sl,q⟩:=J.base.slot c o eo hfree hfs nex;exact⟨_,q,d⟩
  ·exact⟨o,J.base.keep c o eo hfree hfs nex,d⟩
 ·unfold tJ;rw[length_map];exact S.len
end
section
variable {prog:Program}{w:World}{A:Around}{R:Result->Shared->Prop}{s:Shared}
theorem pY {elt target iter:Expr}{scope:Scope}{pos:Pos}{it acc:Value}{env:Env}(I:Nat->Shared->Prop)(turn:∀n s,I n s->wpAny (model prog w) A (pyNext it) (λr s₁=>match r with
   |none=>R (.ok .next) s₁
   |some v=>wpAny (model prog w) A (letOwnedTupleGo target it v) (λ_ s₁'=>wpAny (model prog w) A (assign target env v) (λ_ s₂=>wpAny (model prog w) A (eval elt env) (λx s₃ =>
     wpAny (model prog w) A (call (.builtin "list.append") [acc,x]) (λ_ s₄=>∃m,m<n/\I m s₄) (λ_ _=>False) s₃)
     (λ_ _=>False) s₂) (λ_ _=>False) s₁') (λ_ _=>False) s₁) (λ_ _=>False) s)(n:Nat)(h:I n s):codeAny (model prog w) A (.compLoop (.ListComp elt [⟨target,iter,[],0⟩] scope pos) 0 it acc env) R s:=by
 refine codeAny_loop rfl I (λn s hI=>?_) n h;show wpAny _ _ ((compTurn (.ListComp elt [⟨target,iter,[],0⟩] scope pos) 0 it acc env).onRaise (λx=>do noteFrame x env;theTreesLotGoes x)) _ _ s;refine wpAny_noted ?_;rw[compTurn_list1];refine wpAny_bind (wpAny_standAt (wpAny_bind (wpAny_mono (turn n s hI) (λr s₁ h₁=>?_) λ_ _ h'=>h'.elim)));cases r with
 |none=>exact wpAny_pure h₁
 |some v =>
  exact wpAny_bind (wpAny_mono h₁ (λ_ s₁' h₁'=>wpAny_bind (wpAny_mono h₁' (λ_ s₂ h₂=>wpAny_bind (wpAny_bind (wpAny_mono h₂ (λx s₃ h₃=>wpAny_bind (wpAny_mono h₃
   (λ_ s₄ h₄=>wpAny_pure (wpAny_pure ⟨rfl,h₄⟩)) λ_ _ h'=>h'.elim)) λ_ _ h'=>h'.elim))) λ_ _ h'=>h'.elim)) λ_ _ h'=>h'.elim)
end
theorem Inv.track {X:Cx}{pins:List (Addr×Obj)}{σ:St}{H:Hp}{s:Shared}{d:Addr}{ys:List V}(I:Inv X pins σ H s)(hn:H d=none)(hs:X.s₀.heap.objs.size<=d)(hL:d≠X.env.locals)(hc:∀x c,X.env.cells.lookup x=some c->c≠d)(hp:∀p∈X.pn++pins,p.1≠d)(new:jJ X.prog X.w (upd H d (.lst ys)) s.heap d (.lst ys)):Inv X pins σ (upd H d (.lst ys)) s:=by
 have ne0:∀b o,X.s₀.heap.get? b=some o->b≠d:=λb o e=>Nat.ne_of_lt (Nat.lt_of_lt_of_le (Heap.lt_size e) hs);refine⟨I.ok,I.os,I.bare,⟨I.base.keep,I.base.slot,λb o e n hx=>?_,I.base.there,λb xs e=>?_,λb o u e=>?_,λb ps e=>?_⟩,I.loc,I.cell,?_,λx c e=>?_,λp hpp=>?_,λb u e=>?_,I.len⟩
 ·rw[aM (ne0 b o e)];exact I.base.free b o e n hx
 ·have:=I.base.tups b xs e;rw[aM (aS this hn)];exact this
 ·have:=I.base.frzs b o u e;rw[aM (aS this hn)];exact this
 ·obtain⟨more,q⟩:=I.base.tbls b ps e;exact⟨more,by rw[aM (aS q hn)];exact q⟩
 ·rw[aM (Ne.symm hL)];exact I.free
 ·rw[aM (hc x c e)];exact I.freeC x c e
 ·obtain⟨e,n,r⟩:=I.pin p hpp;exact⟨e,by rw[aM (hp p hpp)];exact n,r⟩
 ·by_cases hb:b=d
  ·subst hb;rw[bL] at e;cases e;exact new
  ·rw[aM hb] at e;exact(I.hok b u e).stay (λc v _ q=>q) (λc q=>by rw[aM (aS q hn)];exact q) λc xs q=>by rw[aM (aS q hn)];exact q
def tLc (wi:TI)(fr:List (Option Nat))(g:TG)(te:TE):TE:=λσ H Q=>wi σ H λJ H1=>∃W:Nat->Nat->List V->Hp->Prop,(∃m,W 0 m [] H1)/\∀i m ys H,W i m ys H ->
 (J.stop i H/\ys.length<=sizeLine/\∀p,H p=none->Q (.ref p) (upd H p (.lst ys))) ∨
 (J.go i H/\ys.length<=sizeLine/\∀x H',J.yld i H x H'->g x (tJ fr σ) H' λσ2 H2=>te σ2 H2 λy H3=>∃m',m'<m/\W (i+1) m' (ys++[y]) H3)
structure CF (X:Cx)(pins:List (Addr×Obj))(H:Hp)(C:Addr):Prop where
 none:H C=none
 loc:C≠X.env.locals
 sz:X.s₀.heap.objs.size<=C
 cel:∀x c,X.env.cells.lookup x=some c->c≠C
 pin:∀p∈X.pn++pins,p.1≠C
theorem aDa {X:Cx}{elt iter tg:Expr}{scope:Scope}{pos pos2:Pos}{N':List Str}{fr:List (Option Nat)}{wi:TI}{g:TG}{te:TE}(S:fZ X N' fr scope)(hc:X.calm=true)(hi:PI X tg iter wi)(hg:∀C s H fp pins,PG (X.blk N' scope C s H fp pins) tg g)(he:∀C s H fp pins,PE (X.blk N' scope C s H fp pins) elt te)(hs:∀x,foldedSetIterable iter X.env x=pure x){pins:List (Addr×Obj)}{s:Shared}{σ:St}{H:Hp}{Q:VK}(I:Inv X pins σ H s)(h:tLc wi fr g te σ H Q)(use:Option (Value->Sem Unit))(Post:Value->Shared->Prop)(fin:∀D C H' s4 m,Inv X pins σ H' s4->s4.heap.Ns C m->CF X pins H' C->Q (.ref D) H'->compPost (model X.prog X.w) X.A X.xe use Post (.ref D) C (.ok .next) s4) :
  wpAny (model X.prog X.w) X.A (comprehension (.ListComp elt [⟨tg,iter,[],0⟩] scope pos) scope X.env pos2 (newList []) false (eval iter X.env) use) Post X.xe s:=by
 refine wpAny_comprehension_free (use:=use) rfl hs (aB9 (S.hasC I.ok)) S.kind S.names ?_;show wpAny _ _ (eval iter X.env) _ _ s;refine thn (hi pins s σ H _ I h) λv s1 h1=>thn h1 λitv s2 h2=>?_;obtain⟨it,fp,tn,J,H2,e,I2,T,st2,f2,W,⟨m0,w0⟩,turn⟩:=h2;subst e;refine wpAny_newObj_type (wpAny_newFunctionEnv S.nocell (by intro y hy;simp at hy) (λh₁ hns₁ hsb₁=>?_) S.kind);dsimp only at hns₁ hsb₁ ⊢;generalize hHp:s2.heap.push { cls:=.type "list",dict:=none,data:=.seq ([]:List Value).toArray }=HP at hns₁ hsb₁ ⊢;have hC:HP.objs.size=s2.heap.objs.size+1:=by rw[<- hHp,Heap.size_push]
 generalize hCe:HP.objs.size=C at hns₁ hsb₁ ⊢;generalize hDe:s2.heap.objs.size=D at hC ⊢;have hDC:D≠C:=by omega
 have hCle:s2.heap.objs.size<=C:=by omega
 have old:∀b o,s2.heap.get? b=some o->h₁.get? b=some o:=λb o e=>hsb₁.extBut b o (Nat.ne_of_lt (Nat.lt_of_lt_of_le (Heap.lt_size e) hCle)) (Heap.get?_push_of_some _ (hHp ▸ Heap.get?_push_of_some _ e));have hD1:h₁.PlainList D #[]:=⟨_,by refine hsb₁.extBut _ _ hDC (Heap.get?_push_of_some _ ?_);rw[<- hHp,<- hDe];exact Heap.get?_push_size _ rfl⟩
 have ltf:∀b∈fp,b<D:=λb hb=>by obtain⟨o,e,_⟩:=T.obj _ _ st2 b hb;exact Nat.lt_of_lt_of_eq (Heap.lt_size e) hDe
 have J0:=aHo (s1:={ s2 with heap:=h₁,toks:=s2.toks+([]:List (Str×Value)).length }) S I2 f2 (λb hb=>let ⟨o,e,_⟩:=T.obj _ _ st2 b hb;⟨o,e⟩) rfl rfl hCle old hns₁;have ltC:∀b,b<D->b≠C:=λb hb=>Nat.ne_of_lt (Nat.lt_of_lt_of_le hb (by rw[<- hDe];exact hCle));have old2:∀b o,s2.heap.get? b=some o->b<D:=λb o e=>Nat.lt_of_lt_of_eq (Heap.lt_size e) hDe;have neD:∀b o,s2.heap.get? b=some o->b≠D:=λb o e=>Nat.ne_of_lt (old2 b o e);have hDs:s2.heap.objs.size<=D:=Nat.le_of_eq hDe;have hDfs:D∉frs X.stack:=λhb=>by
  rcases List.mem_cons.mp (I2.stkSub D hb) with z|z
  ·have:=I2.lt;rw[<- z] at this;exact absurd (Nat.lt_of_lt_of_le this hDs) (Nat.lt_irrefl _)
  ·exact I2.nofs hDs z
 have cellD:∀x c,X.env.cells.lookup x=some c->c≠D/\c≠C:=λx c e=>by obtain⟨v,o,ho,_⟩:=I2.cell x c e;exact⟨neD c o ho,ltC c (old2 c o ho)⟩
 have pinD:∀p∈X.pn++pins,p.1≠D/\p.1≠C:=λp hp=>by have e:=(I2.pin p hp).1;exact⟨neD _ _ e,ltC _ (old2 _ _ e)⟩
 have fpok:∀(pl:List (Addr×Obj)) (H':Hp),(∀b∈fp,H' b=none)->(∀p∈pl,∀b∈fp,p.1≠b)->∀b∈fp,yG (X.blk N' scope C s2 H2 fp pins) pl H' b:=λpl H' hn hpl b hb=>by
  refine⟨hn b hb,ltC b (ltf b hb),J0.ok.exfs b hb,.inl hb,(J0.ok.exf b hb).2,λp hp=>?_⟩;rcases List.mem_append.mp hp with z|z
  ·exact(f2 b hb).2.2.2.2.2 p z
  ·exact hpl p z b hb
 have loop:codeAny (model X.prog X.w) X.A (.compLoop (.ListComp elt [⟨tg,iter,[],0⟩] scope pos) 0 (.ref it) (.ref D) (compEnvC scope (clo X.env.cells scope.names []) C X.env))
   (compPost (model X.prog X.w) X.A X.xe use Post (.ref D) C) { s2 with heap:=h₁,toks:=s2.toks+([]:List (Str×Value)).length }:=by
  refine pY (λn s'=>∃i H' ys its,Inv (X.blk N' scope C s2 H2 fp pins) [] (tJ fr σ) H' s'/\tn i s'.heap/\(∀b∈fp,H' b=none)/\s'.heap.PlainList D its/\H' D=none/\bZ ys its.toList/\W i n ys H') ?_ m0
   ⟨0,H2,[],#[],J0,T.keep _ _ _ st2 λb hb o e=>old b o e,λb hb=>(f2 b hb).1,hD1,I2.hok.fresh hDs,.nil,w0⟩
  rintro n s3 ⟨i,H3,ys,its,I3,st3,fr3,⟨nn,pl3⟩,hD3,rv3,w3⟩;have I3p:Inv (X.blk N' scope C s2 H2 fp pins) [(D,{ cls:=.type "list",data:=.seq its nn })] (tJ fr σ) H3 s3:=I3.pins_of λp hp=>by have e:=List.mem_singleton.mp hp;subst e;exact⟨pl3,hD3,hDC,hDfs,λv z=>by cases z⟩
  have pf:∀p∈[((D,{ cls:=.type "list",data:=.seq its nn }):Addr×Obj)],∀b∈fp,p.1≠b:=λp hp b hb=>by have e:=List.mem_singleton.mp hp;subst e;exact(Nat.ne_of_lt (ltf b hb)).symm
  rcases turn i n ys H3 w3 with⟨stop,hz,q⟩|⟨go,hz,step⟩
  ·refine thn (T.done (X.blk N' scope C s2 H2 fp pins) rfl rfl rfl hc i _ s3 _ H3 (λ_ _=>False) I3p (fpok _ H3 fr3 pf) st3 stop) λr s4 ⟨hr,I4⟩=>?_;subst hr;obtain⟨mm,hn4,_⟩:=id I4.loc;have pD:=(I4.pin _ (mem_append_right _ mem_cons_self)).1;have IX:Inv X pins σ H3 s4:=I2.call' I4.os I4.base I4.hok I4.bare λb hb=>⟨(f2 b hb).2.2.2.1,(f2 b hb).2.1,(f2 b hb).2.2.2.2.1,(f2 b hb).2.2.2.2.2⟩;have CL:C≠X.env.locals:=(Nat.ne_of_lt (Nat.lt_of_lt_of_le I2.lt hCle)).symm;have DL:D≠X.env.locals:=(Nat.ne_of_lt (Nat.lt_of_lt_of_le I2.lt hDs)).symm;refine fin D C (upd H3 D (.lst ys)) s4 mm (IX.track hD3 (Nat.le_trans I2.sz hDs) DL (λx c e=>(cellD x c e).1) (λp hp=>(pinD p hp).1) ⟨hz,its.toList,nn,rv3,pD⟩) hn4 ⟨by rw[aM (Ne.symm hDC)];exact I4.free,CL,Nat.le_trans I2.sz hCle,λx c e=>(cellD x c e).2,λp hp=>(pinD p hp).2⟩ (q D hD3)
  ·refine thn (T.item (X.blk N' scope C s2 H2 fp pins) rfl rfl rfl hc i _ s3 _ H3 (λ_ _=>False) I3p (fpok _ H3 fr3 pf) st3 go) λr s4 ⟨u,hr,h4⟩=>?_;subst hr;refine thn h4 λ_ s5 ⟨x,H5,I5,r5,y5,st5,fr5⟩=>?_;have I5':=I5.pinned (fpok _ H5 fr5 pf) (T.obj _ _ st5);refine thn (hg C s2 H2 fp pins _ s5 _ H5 x u _ I5' r5 (step x H5 y5)) λ_ s6 ⟨σ6,H6,I6,q6⟩=>?_;refine thn (he C s2 H2 fp pins _ s6 σ6 H6 _ I6 q6) λyv s7 ⟨y,H7,I7,ry,m',hm,w7⟩=>?_;obtain⟨pD,nD,_⟩:=I7.pin _ (mem_append_right _ (mem_append_left _ mem_cons_self));have lz:its.size<=sizeLine:=by
    have e:ys.length=its.size:=by rw[rv3.length];simp
    rw[<- e];exact hz
   refine wpAny_list_append_plain (hsz:=lz) ⟨nn,pD⟩ λh8 pl8 sb8=>?_;have I7a:Inv (X.blk N' scope C s2 H2 fp pins) [] σ6 H7 s7:=I7.pins_of λp hp=>nomatch hp;have I8:Inv (X.blk N' scope C s2 H2 fp pins) [] σ6 H7 { s7 with heap:=h8,toks:=s7.toks }:=I7a.turned (it:=D) (λb o hb e=>sb8.extBut b o hb e) nD hDC (.inr hDs) (λx c e=>(cellD x c (S.sub I2.ok e)).1) λp hp=>by rw[append_nil] at hp;exact(pinD p hp).1
   refine⟨m',hm,i+1,H7,ys++[y],its.push yv,aDW S I2 I8,?_,λb hb=>?_,pl8,nD,?_,w7⟩
   ·refine T.keep _ _ _ st5 λb hb o e=>sb8.extBut b o (Nat.ne_of_lt (ltf b hb)) (I7.pin (b,o) (mem_append_right _ (mem_append_right _ (mX hb e)))).1
   ·obtain⟨o,e,d⟩:=T.obj _ _ st5 b hb;exact(I7.pin (b,o) (mem_append_right _ (mem_append_right _ (mX hb e)))).2.1
   ·rw[Array.toList_push];exact rv3.append (.cons ry .nil)
 exact codeAny_compStart_list loop (T.self _ _ _ _ _ (T.keep _ _ _ st2 λb hb o e=>old b o e) loop)
theorem aNi {X:Cx}{elt iter tg:Expr}{scope:Scope}{pos:Pos}{N':List Str}{fr:List (Option Nat)}{wi:TI}{g:TG}{te:TE}(S:fZ X N' fr scope)(hc:X.calm=true)(hi:PI X tg iter wi)(hg:∀C s H fp pins,PG (X.blk N' scope C s H fp pins) tg g)(he:∀C s H fp pins,PE (X.blk N' scope C s H fp pins) elt te)(hs:∀x,foldedSetIterable iter X.env x=pure x:=by intro _;rfl) :
  PE X (.ListComp elt [⟨tg,iter,[],0⟩] scope pos) (tLc wi fr g te):=by
 intro pins s σ H Q I h;rw[eval_ListComp];refine aDa S hc hi hg he hs I h none (EP X pins σ Q) λD C H' s4 m J hn F q=>⟨m,hn,λh' sb=>?_⟩;exact⟨.ref D,H',J.turned (t':=s4.toks) (it:=C) (λb o hb e=>sb.extBut b o hb e) F.none F.loc (.inr F.sz) F.cel F.pin,rfl,q⟩
theorem aBC {X:Cx}{elt iter tg:Expr}{scope:Scope}{pos spos py:Pos}{N':List Str}{fr:List (Option Nat)}{wi:TI}{g:TG}{te:TE}{i:Nat}{y:Str}(S:fZ X N' fr scope)(hc:X.calm=true)(hN:X.N.Nodup)(hi:PI X tg iter wi)(hg:∀C s H fp pins,PG (X.blk N' scope C s H fp pins) tg g)(he:∀C s H fp pins,PE (X.blk N' scope C s H fp pins) elt te)(hy:X.N[i]?=some y)(hx:Loc X.env.scope y)(hsw:swapsWith (.ListComp elt [⟨tg,iter,[],0⟩] scope pos) (some (.Name y py)) spos.line X.env=pure true)(hf:X.fn y=true∨X.env.scope.names.lookup y=some .local)(hs:∀x,foldedSetIterable iter X.env x=pure x) :
  PS X (.Assign [.Name y py] (.ListComp elt [⟨tg,iter,[],0⟩] scope pos) spos) (λD σ H=>tLc wi fr g te σ H λv H'=>D.nx (σ.set i (some v)) H'):=by
 intro pins s σ H D I h;rw[exec_Assign_Name_used _ _ _ _ hsw];refine wpAny_bind (wpAny_standAt (wpAny_bind ?_));show wpAny _ X.A (do let _ <- comprehension (.ListComp elt [⟨tg,iter,[],0⟩] scope pos) scope X.env _ (newList []) false (eval iter X.env) (some (assign (.Name y py) X.env))) _ _ s;refine wpAny_bind (wpAny_mono (aDa S hc hi hg he hs I h (some (assign (.Name y py) X.env)) (λ_ s'=>SP X pins D .next s') λD' C H' s4 m J hn F q=>?_) (λ_ s' hq=>wpAny_pure (wpAny_pure hq)) λ_ _ e=>e);show wpAny _ X.A (assign (.Name y py) X.env (.ref D')) _ _ s4;refine wpAny_assign_Name (zL J hN hy hx (v:=.ref D') rfl (λs5 I5 ⟨a,sb,ha⟩=>?_) hf);have hCa:C≠a:=by
  rcases ha with rfl|ha
  ·exact F.loc
  ·exact(F.cel y a ha).symm
 refine⟨m,hn.sameBut sb hCa,λh' sb'=>?_⟩;exact⟨_,H',I5.turned (t':=s5.toks) (it:=C) (λb o hb e=>sb'.extBut b o hb e) F.none F.loc (.inr F.sz) F.cel F.pin,q⟩
end L2
namespace Dd
open PySem PySem.Spec PyProof.Rows L2
noncomputable def wV (fr:List (Option Nat))(ρ:cW):cW:=fr.map λo=>match o with
 |some j=>(ρ[j]?).join
 |none=>none
section
variable {K:Frag}{H:Hp}{ρ:cW}{σ:L2.St}
theorem aB2 (re:fQ K H ρ σ)(fr:List (Option Nat)):fQ K H (wV fr ρ) (tJ fr σ):=by
 refine⟨by unfold wV tJ;rw[length_map,length_map],λi d e=>?_⟩;unfold wV at e;unfold tJ;rw[getElem?_map] at e ⊢;cases hf:fr[i]? with
 |none=>rw[hf] at e;cases e
 |some o =>
  rw[hf] at e;cases o with
  |none=>cases e
  |some j =>
   have e:(ρ[j]?).join=some d:=Option.some.inj e;have e2:ρ[j]?=some (some d):=by
    cases h:ρ[j]? with
    |none=>rw[h] at e;cases e
    |some o=>rw[h] at e;rw[show o=some d from e]
   obtain⟨v,hv,r⟩:=re.get j d e2;refine⟨v,?_,r⟩;show some (σ[j]?).join=some (some v);rw[hv];rfl
end
def aIs (at':Option Addr)(ds:List D)(ρ0:cW)(g:DG)(te:DE)(M:DM)(Q:DQ):Prop:=ds.length<=1000/\∃Pv:Nat->List D->DM->Prop,Pv 0 [] M /\
 (∀i ys M,i<=ds.length->Pv i ys M->∀a,at'=some a->M a=some ds) /\
 (∀i d ys M,ds[i]?=some d->Pv i ys M->g d ρ0 M λρ2 M2=>te ρ2 M2 λy M3=>Pv (i+1) (ys++[y]) M3) /\
 ∀ys M,ys.length=ds.length->Pv ds.length ys M->∀p:Addr,M p=none->Q (.ref p) (bE M p ys)
def aIE (lo:Int)(n:Nat)(ρ0:cW)(g:DG)(te:DE)(M:DM)(Q:DQ):Prop:=n<=1000/\∃Pv:Nat->List D->DM->Prop,Pv 0 [] M /\
 (∀(i:Nat) ys M,i<n->Pv i ys M->g (.int (lo+i)) ρ0 M λρ2 M2=>te ρ2 M2 λy M3=>Pv (i+1) (ys++[y]) M3) /\
 ∀ys M,ys.length=n->Pv n ys M->∀p:Addr,M p=none->Q (.ref p) (bE M p ys)
def aGQ (tl:DE)(fr:List (Option Nat))(g:DG)(te:DE):DE:=λρ M Q=>tl ρ M λd M1=>match d with
 |.fz ds=>aIs none ds (wV fr ρ) g te M1 Q
 |.ref a=>∃ds,M1 a=some ds/\aIs (some a) ds (wV fr ρ) g te M1 Q
 |_=>False
def aIV (ta:DA)(fr:List (Option Nat))(g:DG)(te:DE):DE:=λρ M Q=>ta ρ M λds M1=>match ds with
 |[.int j]=>(-(2^62)<=j/\j<2^62)/\aIE 0 j.toNat (wV fr ρ) g te M1 Q
 |_=>False
section
variable {X:Cx}{g:DG}{te:DE}
theorem zT {K:Frag}{a':Option Addr}{ds:List D}{fr:List (Option Nat)}{σ:L2.St}{ρ:cW}{M:DM}{H0 H:Hp}{J:It}{Q:VK}{Q':DQ}(ex0:Ext H0 H)(re:fQ K H ρ σ)(hm:bN K M H)(h:aIs a' ds (wV fr ρ) g te M Q')(kq:∀v H',LQ K H0 Q' v H'->Q v H')(seq:∀H',Ext H H'->(∀M',bN K M' H'->(∀a,a'=some a->M' a=some ds)->∃xs,bR K H' ds xs/\(∀i,xs.length<=i->J.stop i H')/\(∀i,i<xs.length->J.go i H')/\∀i x H2,J.yld i H' x H2->H2=H'/\xs[i]?=some x)) :
  ∃W:Nat->Nat->List V->Hp->Prop,(∃m,W 0 m [] H)/\∀i m ys H,W i m ys H ->
   (J.stop i H/\ys.length<=sizeLine/\∀p,H p=none->Q (.ref p) (upd H p (.lst ys))) ∨
   (J.go i H/\ys.length<=sizeLine/\∀x H',J.yld i H x H'->vY K g x (tJ fr σ) H' λσ2 H2=>low K te σ2 H2 λy H3=>∃m',m'<m/\W (i+1) m' (ys++[y]) H3):=by
 obtain⟨hl,Pv,p0,hat,step,done⟩:=h;refine⟨λi m ysV H'=>∃ys M',bR K H' ys ysV/\bN K M' H'/\Ext H H'/\m=ds.length-i/\i<=ds.length/\ys.length=i/\Pv i ys M',⟨ds.length,[],M,cP,hm,.refl H,rfl,Nat.zero_le _,rfl,p0⟩,?_⟩;rintro i m ysV H1 ⟨ys,M1,ry,hm1,e1,rfl,hi,ly,w1⟩;obtain⟨xs,rs,hst,hgo,hy⟩:=seq H1 e1 M1 hm1 (hat i ys M1 hi w1);have hll:=rs.length;have lz:ysV.length<=sizeLine:=by rw[<- ry.length];exact Nat.le_of_lt (dW (by omega))
 by_cases hlt:i<ds.length
 ·refine .inr ⟨hgo i (by omega),lz,λx H' y=>?_⟩;obtain⟨rfl,hx⟩:=hy i x H' y;obtain⟨d,hd,rd⟩:=rs.getV hx;refine⟨d,wV fr ρ,M1,_,rd,aB2 (re.ext e1) fr,hm1,step i d ys M1 hd w1,λσ2 H2 ⟨ρ2,M2,re2,hm2,e2,q2⟩=>?_⟩;refine⟨ρ2,M2,_,re2,hm2,q2,λv H3 ⟨dy,M3,rdy,hm3,e3,q3⟩=>?_⟩;exact⟨ds.length-(i+1),by omega,ys++[dy],M3,(ry.ext (e2.trans e3)).append (bX rdy cP),hm3,(e1.trans e2).trans e3,rfl,hlt,by rw[length_append,ly];rfl,q3⟩
 ·have e:i=ds.length:=by omega
  subst e;exact .inl ⟨hst _ (by omega),lz,λp hp=>kq _ _ ⟨.ref p,_,dM,hm1.lnew hp ry,(ex0.trans e1).trans (Ext.new hp _),done ys M1 ly w1 p (hm1.fresh hp)⟩⟩
theorem aG2 {K:Frag}{lo:Int}{n:Nat}{fr:List (Option Nat)}{σ:L2.St}{ρ:cW}{M:DM}{H0 H:Hp}{Q:VK}{Q':DQ}(ex0:Ext H0 H)(re:fQ K H ρ σ)(hm:bN K M H)(h:aIE lo n (wV fr ρ) g te M Q')(kq:∀v H',LQ K H0 Q' v H'->Q v H') :
  ∃W:Nat->Nat->List V->Hp->Prop,(∃m,W 0 m [] H)/\∀i m ys H,W i m ys H ->
   ((Itr lo n).stop i H/\ys.length<=sizeLine/\∀p,H p=none->Q (.ref p) (upd H p (.lst ys))) ∨
   ((Itr lo n).go i H/\ys.length<=sizeLine/\∀x H',(Itr lo n).yld i H x H'->vY K g x (tJ fr σ) H' λσ2 H2=>low K te σ2 H2 λy H3=>∃m',m'<m/\W (i+1) m' (ys++[y]) H3):=by
 obtain⟨hl,Pv,p0,step,done⟩:=h;refine⟨λi m ysV H'=>∃ys M',bR K H' ys ysV/\bN K M' H'/\Ext H H'/\m=n-i/\i<=n/\ys.length=i/\Pv i ys M',⟨n,[],M,cP,hm,.refl H,rfl,Nat.zero_le _,rfl,p0⟩,?_⟩;rintro i m ysV H1 ⟨ys,M1,ry,hm1,e1,rfl,hi,ly,w1⟩;have lz:ysV.length<=sizeLine:=by rw[<- ry.length];exact Nat.le_of_lt (dW (by omega))
 by_cases hlt:i<n
 ·refine .inr ⟨hlt,lz,λx H' y=>?_⟩;obtain⟨rfl,rfl⟩:=y;refine⟨_,wV fr ρ,M1,_,dI,aB2 (re.ext e1) fr,hm1,step i ys M1 hlt w1,λσ2 H2 ⟨ρ2,M2,re2,hm2,e2,q2⟩=>?_⟩;refine⟨ρ2,M2,_,re2,hm2,q2,λv H3 ⟨dy,M3,rdy,hm3,e3,q3⟩=>?_⟩;exact⟨n-(i+1),by omega,ys++[dy],M3,(ry.ext (e2.trans e3)).append (bX rdy cP),hm3,(e1.trans e2).trans e3,rfl,hlt,by rw[length_append,ly];rfl,q3⟩
 ·have e:i=n:=by omega
  subst e;exact .inl ⟨Nat.le_refl _,lz,λp hp=>kq _ _ ⟨.ref p,_,dM,hm1.lnew hp ry,(ex0.trans e1).trans (Ext.new hp _),done ys M1 ly w1 p (hm1.fresh hp)⟩⟩
variable {elt iter tg:Expr}{scope:Scope}{pos:Pos}{N':List Str}{fr:List (Option Nat)}{tl:DE}{ta:DA}{oN:List Str}{osc:Scope}
theorem aKX (B:oE oN osc N' fr scope)(hc:X.calm=true)(hi:PDE X iter tl)(hg:∀C s H fp pins,PG (X.blk N' scope C s H fp pins) tg (vY X.K g))(he:∀C s H fp pins,PE (X.blk N' scope C s H fp pins) elt (low X.K te))(hN:X.N=oN:=by rfl)(ho:X.env.scope=osc:=by rfl)(hs:∀x,foldedSetIterable iter X.env x=pure x:=by intro _;rfl) :
  PDE X (.ListComp elt [⟨tg,iter,[],0⟩] scope pos) (aGQ tl fr g te) :=
 dR (aNi (B.scope hN ho) hc (aAJ hi) hg he hs) λσ H Q ⟨ρ,M,Q',re,hm,q,k⟩=>⟨ρ,M,_,re,hm,q,λv H1 ⟨d,M1,rd,hm1,ex,q1⟩=>by
  cases d with
  |fz ds =>
   obtain⟨a,xs,rfl,sq,rs⟩:=mU rd;exact⟨a,rfl,⟨xs,sq.sq⟩,zT ex (re.ext ex) hm1 q1 k λH' e' M' hm' _=>⟨xs,rs.ext e',λi hi=>⟨xs,(jB e' sq).sq,hi⟩,λi hi=>⟨xs,xs[i],(jB e' sq).sq,by simp[hi]⟩,λi x H2 y=>⟨y.1,y.2 xs (jB e' sq).sq⟩⟩⟩
  |ref a =>
   obtain⟨ds,ha,q1⟩:=q1;obtain rfl:=aQ rd;obtain⟨xs,hx,rs⟩:=hm1.l a ds ha;refine⟨a,rfl,⟨xs,.of hx⟩,zT ex (re.ext ex) hm1 q1 k λH' e' M' hm' hat=>?_⟩;obtain⟨ys,hy,rs'⟩:=hm'.l a ds (hat a rfl);exact⟨ys,rs',λi hi=>⟨ys,.of hy,hi⟩,λi hi=>⟨ys,ys[i],.of hy,by simp[hi]⟩,λi x H2 y=>⟨y.1,y.2 ys (.of hy)⟩⟩
  |_=>exact q1.elim⟩
def wL (i:Nat)(t:DE):DS:=λE ρ M=>t ρ M λx M1=>E.nx (ρ.set i (some x)) M1
theorem aEj {i:Nat}{y:Str}{spos py:Pos}(B:oE oN osc N' fr scope)(hc:X.calm=true)(hNd:X.N.Nodup)(hi:PDE X iter tl)(hg:∀C s H fp pins,PG (X.blk N' scope C s H fp pins) tg (vY X.K g))(he:∀C s H fp pins,PE (X.blk N' scope C s H fp pins) elt (low X.K te))(hy:X.N[i]?=some y:=by rfl)(hx:Loc X.env.scope y:=by first|exact Or.inl rfl|exact Or.inr rfl)(hsw:swapsWith (.ListComp elt [⟨tg,iter,[],0⟩] scope pos) (some (.Name y py)) spos.line X.env=pure true:=by rfl)(hf:X.fn y=true∨X.env.scope.names.lookup y=some .local:=by first|exact .inl rfl|exact .inr rfl|assumption)(hN:X.N=oN:=by rfl)(ho:X.env.scope=osc:=by rfl)(hs:∀x,foldedSetIterable iter X.env x=pure x:=by intro _;rfl) :
  PDS X (.Assign [.Name y py] (.ListComp elt [⟨tg,iter,[],0⟩] scope pos) spos) (wL i (aGQ tl fr g te)) :=
 gF (aBC (i:=i) (B.scope hN ho) hc hNd (aAJ hi) hg he hy hx hsw hf hs) λE σ H ⟨ρ,M,D,re,hm,q,kk⟩=>⟨ρ,M,_,re,hm,q,λv H1 ⟨d,M1,rd,hm1,ex,q1⟩=>by
  have k:∀v H',LQ X.K H (λx M1=>D.nx (ρ.set i (some x)) M1) v H'->E.nx (σ.set i (some v)) H':=λv H' ⟨d,M',rd',hm',e',q'⟩=>kk.nx _ H' ⟨_,M',(re.ext e').set rd' i,hm',e',q'⟩;cases d with
  |fz ds =>
   obtain⟨a,xs,rfl,sq,rs⟩:=mU rd;exact⟨a,rfl,⟨xs,sq.sq⟩,zT ex (re.ext ex) hm1 q1 k λH' e' M' hm' _=>⟨xs,rs.ext e',λi hi=>⟨xs,(jB e' sq).sq,hi⟩,λi hi=>⟨xs,xs[i],(jB e' sq).sq,by simp[hi]⟩,λi x H2 y=>⟨y.1,y.2 xs (jB e' sq).sq⟩⟩⟩
  |ref a =>
   obtain⟨ds,ha,q1⟩:=q1;obtain rfl:=aQ rd;obtain⟨xs,hx,rs⟩:=hm1.l a ds ha;refine⟨a,rfl,⟨xs,.of hx⟩,zT ex (re.ext ex) hm1 q1 k λH' e' M' hm' hat=>?_⟩;obtain⟨ys,hy,rs'⟩:=hm'.l a ds (hat a rfl);exact⟨ys,rs',λi hi=>⟨ys,.of hy,hi⟩,λi hi=>⟨ys,ys[i],.of hy,by simp[hi]⟩,λi x H2 y=>⟨y.1,y.2 ys (.of hy)⟩⟩
  |_=>exact q1.elim⟩
theorem aEm {a:Expr}{p pos':Pos}{i:Nat}{y:Str}{spos py:Pos}(B:oE oN osc N' fr scope)(hc:X.calm = true)(hNd:X.N.Nodup)(hmg:X.mg "range"=none)(ha:PDA X [a] ta)(hg:∀C s H fp pins,PG (X.blk N' scope C s H fp pins) tg (vY X.K g))(he:∀C s H fp pins,PE (X.blk N' scope C s H fp pins) elt (low X.K te))(hy:X.N[i]?=some y:=by rfl)(hx:Loc X.env.scope y:=by first|exact Or.inl rfl|exact Or.inr rfl)(hsw:swapsWith (.ListComp elt [⟨tg,.Call (.Name "range" p) [a] [] pos',[],0⟩] scope pos) (some (.Name y py)) spos.line X.env = pure true:=by rfl)(hf:X.fn y = true∨X.env.scope.names.lookup y = some .local:=by first|exact .inl rfl|exact .inr rfl|assumption)(hN:X.N = oN:=by rfl)(ho:X.env.scope = osc:=by rfl)(hgl:Gl X "range":=by rfl)(hse:starEach [a] X.env=[(false,eval a X.env)]:=by rfl)(hs:∀x,foldedSetIterable (.Call (.Name "range" p) [a] [] pos') X.env x=pure x:=by intro _;rfl) :
  PDS X (.Assign [.Name y py] (.ListComp elt [⟨tg,.Call (.Name "range" p) [a] [] pos',[],0⟩] scope pos) spos) (wL i (aIV ta fr g te)) :=
 gF (aBC (i:=i) (B.scope hN ho) hc hNd (zF hgl hmg ha hse) hg he hy hx hsw hf hs) λE σ H ⟨ρ,M,D,re,hm,q,kk⟩=>⟨ρ,M,_,re,hm,q,λvs H1 ⟨ds,M1,rs,hm1,ex,q1⟩=>by
  have k:∀v H',LQ X.K H (λx M1=>D.nx (ρ.set i (some x)) M1) v H'->E.nx (σ.set i (some v)) H':=λv H' ⟨d,M',rd',hm',e',q'⟩=>kk.nx _ H' ⟨_,M',(re.ext e').set rd' i,hm',e',q'⟩;rcases ds with _|⟨d,_|⟨d2,r⟩⟩
  ·exact q1.elim
  ·cases d with
   |int j =>
    obtain⟨⟨j1,j2⟩,q1⟩:=q1;obtain⟨v1,r1,rfl,rv1,rr1⟩:=aP rs;obtain rfl:=bM rr1;obtain rfl:=bF rv1;exact⟨j,rfl,j1,j2,aG2 ex (re.ext ex) hm1 q1 k⟩
   |_=>exact q1.elim
  ·cases d<;>exact q1.elim⟩
end
end Dd
namespace L2
open PySem PySem.Spec PyProof.Rows
variable {X:Cx}
end L2
namespace Dd
open PySem PySem.Spec PyProof.Rows L2
variable {X:Cx}
theorem aBJ {K:Frag}{H:Hp}:∀{bs:List Bool}{vs:List V},bR K H (bs.map D.bl) vs->vs=bs.map V.bl
 |[],_,h=>bM h
 |b::bs,_,h=>by obtain⟨v,r,rfl,hv,hr⟩:=aP h;rw[cM hv,aBJ hr];rfl
section
variable {g:DG}{te:DE}{tb:DS}{Q:DQ}{ρ0:cW}
def goF (g:DG)(tb:DS)(E:fR):List D->cW->DM->Prop
 |[],ρ,M=>E.nx ρ M
 |d::r,ρ,M=>g d ρ M λρ2 M2=>tb { E with nx:=goF g tb E r,ct:=goF g tb E r,bk:=E.nx } ρ2 M2
theorem aL0 {E:fR}{ds:List D}{ρ:cW}{M:DM}(h:goF g tb E ds ρ M):dIt none ds g tb E ρ M:=by
 refine⟨λi ρ M=>goF g tb E (ds.drop i) ρ M,h,λ_ _ _ _ _ a e=>(by cases e),λi d ρ M hd hp=>?_,λρ M hp=>?_⟩
 ·obtain⟨hi,e⟩:=List.getElem?_eq_some_iff.mp hd;have hp:goF g tb E (ds.drop i) ρ M:=hp;rw[List.drop_eq_getElem_cons hi,e] at hp;exact hp
 ·have hp:goF g tb E (ds.drop ds.length) ρ M:=hp;rw[List.drop_length] at hp;exact hp
end
section
variable {e:Expr}{te:DE}{pos:Pos}
end
section
variable {X:Cx}{e:Expr}{te:DE}{pos p2:Pos}{lo hi:Option Expr}{tl th:DO}
def aIK (x:D)(lo hi:Option Int)(M:DM)(Q:DQ):Prop:=match x with
 |.tup ds=>¬(HT.sIx ds.length 0 lo=0/\HT.sIx ds.length ds.length hi=ds.length)/\Q (.tup (cutD ds lo hi)) M
 |_=>False
def aLy (te:DE)(tl th:DO):DE:=λρ M Q=>te ρ M λx M1=>tl ρ M1 λl M2=>th ρ M2 λh M3=>aIK x l h M3 Q
theorem aEg (he:PDE X e te)(hl:PO X lo (zW X.K tl))(hu:PO X hi (zW X.K th)):PDE X (.Subscript e (.Slice lo hi none p2) pos) (aLy te tl th) :=
 dR (aBy aJB he hl hu) λσ H Q ⟨ρ,M,Q',re,hm,q,k⟩=>⟨ρ,M,_,re,hm,q,λv H1 ⟨d,M1,rd,hm1,e1,q1⟩=>⟨ρ,M1,_,re.ext e1,hm1,q1,λl H2 ⟨M2,hm2,e2,q2⟩=>⟨ρ,M2,_,(re.ext e1).ext e2,hm2,q2,λh H3 ⟨M3,hm3,e3,q3⟩=>by
  have rd3:=(rd.ext e2).ext e3;have ex:=(e1.trans e2).trans e3;cases d with
  |tup ds =>
   obtain⟨a,us,rfl,sq,ru⟩:=bT rd3;have l1:=ru.length;refine⟨a,us,rfl,sq,by rw[<- l1];exact q3.1,λp hp=>k _ _ ⟨.tup _,M3,iT (.of bL) ((wC ru l h).ext (Ext.new hp _)),hm3.new hp _,ex.trans (Ext.new hp _),q3.2⟩⟩
  |_=>exact q3.elim⟩⟩⟩
theorem xT {K:Frag}{H:Hp}:∀{ns:List Int}{vs:List V} {its:List Value},bR K H (ns.map D.int) vs->bZ vs its->IntsAre its ns
 |[],_,_,h,r=>by rw[bM h] at r;cases r;exact .nil
 |n::ns,_,_,h,r=>by
  obtain⟨v,rr,rfl,hv,hr⟩:=aP h;rw[bF hv] at r;cases r with
  |cons q w =>
   obtain⟨t,rfl⟩:=q;exact .cons _ _ (xT hr w)
theorem xL {K:Frag}{H:Hp}:∀{ns:List Str}{vs:List V} {its:List Value},bR K H (ns.map D.str) vs->bZ vs its->StrsAre its ns
 |[],_,_,h,r=>by rw[bM h] at r;cases r;exact .nil
 |n::ns,_,_,h,r=>by
  obtain⟨v,rr,rfl,hv,hr⟩:=aP h;rw[dN hv] at r;cases r with
  |cons q w =>
   obtain⟨t,rfl⟩:=q;exact .cons _ _ (xL hr w)
end
end Dd
namespace L2
open PySem PySem.Spec PyProof.Rows
open PySem.AutoSeq1 (wpAny_loadPart')
section
variable {X:Cx}{a n:Expr}{ta:TE}{tn:TA}{pos:Pos}
end
end L2
namespace Dd
open PySem PySem.Spec PyProof.Rows L2
section
variable {X:Cx}{a n:Expr}{ta:DE}{tn:DA}{pos p pos':Pos}
end
section
variable {X:Cx}{a b c e o:Expr}{es:List Expr}{ta tb tc te to:DE}{pos:Pos}
def aII:DSp:=λds M Q=>match ds with
 |[.tup xs]=>∀p:Addr,M p=none->Q (.ref p) (bE M p xs)
 |[.fz xs]=>∀p:Addr,M p=none->Q (.ref p) (bE M p xs)
 |[.ref a]=>∃xs,M a=some xs/\∀p:Addr,M p=none->Q (.ref p) (bE M p xs)
 |_=>False
theorem aDo:iF X (.type "list") aII:=iF.of aAR λvs H M ds Q rs hm q=>by
 rcases ds with _|⟨d,_|⟨d2,r⟩⟩
 ·exact q.elim
 ·obtain⟨v,rfl,rv⟩:=iE rs;cases d with
  |tup xs =>
   obtain⟨a,us,rfl,sq,ru⟩:=bT rv;exact⟨a,us,rfl,.inr sq,λl hl=>⟨.ref l,_,dM,hm.lnew hl ru,Ext.new hl _,q l (hm.fresh hl)⟩⟩
  |fz xs =>
   obtain⟨a,us,rfl,sq,ru⟩:=mU rv;exact⟨a,us,rfl,.inl sq.sq,λl hl=>⟨.ref l,_,dM,hm.lnew hl ru,Ext.new hl _,q l (hm.fresh hl)⟩⟩
  |ref a =>
   obtain rfl:=aQ rv;obtain⟨xs,ha,q⟩:=q;obtain⟨us,hu,ru⟩:=hm.l a xs ha;exact⟨a,us,rfl,.inl (.of hu),λl hl=>⟨.ref l,_,dM,hm.lnew hl ru,Ext.new hl _,q l (hm.fresh hl)⟩⟩
  |_=>exact q.elim
 ·cases d<;>exact q.elim
def aAO (to te:DE):DE:=λρ M Q=>to ρ M λx M1=>match x with
 |.ref p=>(∃ds,M1 p=some ds)/\hU te pK ρ M1 λys M2=>∃ds q es,ys=[.ref q]/\M2 p=some ds/\M2 q=some es/\ds.length+es.length<=1000/\Q .non (bE M2 p (ds++es))
 |_=>False
theorem aEC {apos cpos:Pos}(ho:PDE X o to)(he:PDE X e te)(hse:starEach [e] X.env=(false,eval e X.env)::starEach [] X.env:=by rfl)(hbase:attributeBase o "extend" X.env (eval o X.env)=eval o X.env:=by rfl)(hfew:((backTo cpos (starEach [e] X.env)).all (λx=>!x.1)&&(backToKw cpos (keywordEach [] X.env)).all (λx=>x.1.isSome)
  &&decide ([e].length+([]:List Keyword).length+(if ([]:List Keyword).isEmpty then 0 else 1)<30))=true:=by rfl)(hline:(apos.endLine==cpos.line)=true:=by rfl)(hplain:(backTo cpos (starEach [] X.env)).any (·.1)=false:=by rfl) :
  PDE X (.Call (.Attribute o "extend" apos) [e] [] cpos) (aAO to te) :=
 dR (aIw PySem.F.plainAttrs_list PySem.F.slot_list_extend PySem.F.type_list_extend aDT ho (mW he xR hse) hbase hfew hline hse hplain) λσ H Q ⟨ρ,M,Q',re,hm,q,k⟩=>⟨ρ,M,_,re,hm,q,λv H1 ⟨d,M1,rd,hm1,e1,q1⟩=>by
  cases d with
  |ref p =>
   obtain rfl:=aQ rd;obtain⟨⟨ds0,h0⟩,q1⟩:=q1;obtain⟨us0,hu0,_⟩:=hm1.l p ds0 h0;refine⟨.inl ⟨rfl,us0,.of hu0⟩,ρ,M1,_,re.ext e1,hm1,q1,λvs H2 ⟨dvs,M2,rs,hm2,e2,ds,qa,es,ey,hp,hq,hl,q2⟩=>?_⟩;subst ey;obtain⟨w,rfl,rw'⟩:=iE rs;obtain rfl:=aQ rw';obtain⟨us,hu,ru⟩:=hm2.l p ds hp;obtain⟨us2,hu2,ru2⟩:=hm2.l qa es hq;exact⟨p,qa,us,us2,rfl,rfl,hu,hu2,by rw[<- ru.length,<- ru2.length];exact Nat.le_of_lt (dW hl),k _ _ ⟨.non,_,sQ,hm2.put hu (ru.append ru2),(e1.trans e2).trans (Ext.put hu _),q2⟩⟩
  |_=>exact q1.elim⟩
end
mutual
theorem aBe:∀(n:Nat)(d:D),bU n d=true->eqD d d=true
 |n,.non,_=>rfl
 |n,.bl b,_=>by simp[eqD]
 |n,.int i,_=>by simp[eqD]
 |n,.str x,_=>by simp[eqD]
 |n,.ref a,h=>by cases n<;>exact absurd h Bool.false_ne_true
 |n,.fz a,h=>by cases n<;>exact absurd h Bool.false_ne_true
 |0,.tup xs,h=>absurd h Bool.false_ne_true
 |n+1,.tup xs,h=>zC n xs h
theorem zC:∀(n:Nat)(ds:List D),ds.all (bU n)=true->iC ds ds=true
 |n,[],_=>rfl
 |n,d::ds,h=>by rw[all_cons,Bool.and_eq_true] at h;show(eqD d d&&iC ds ds)=true;rw[aBe n d h.1,zC n ds h.2];rfl
end
theorem aE3 {g:Bool->Bool}{d:D}{M:DM}{Q:DQ}(h:bU 60 d=true)(q:Q (.bl (g true)) M):dEq g d d M Q:=by
 cases d with
 |ref a=>exact absurd h Bool.false_ne_true
 |_=>exact⟨h,h,by rw[aBe 60 _ h];exact q⟩
theorem ifF {b:Bool}{A B:Prop}(h:b=false)(q:B):if b=true then A else B:=by subst h;exact q
theorem ifT {b:Bool}{A B:Prop}(h:b=true)(q:A):if b=true then A else B:=by subst h;exact q
end Dd
set_option maxHeartbeats 400000
namespace L2
open PySem PySem.Spec PyProof.Rows
end L2
namespace Dd
open PySem PySem.Spec PyProof.Rows L2
section
variable {X:Cx}{e k:Expr}{te tk:DE}{pos p2:Pos}
end
end Dd
namespace Zp
open PySem PySem.Spec PyProof.Rows
section
variable {prog:Program}{w:World}{A:Around}{E:Value->Shared->Prop}{s:Shared}
theorem aFv {it t:Addr}{i:Nat}{items:Array Value}{x:Value}{Q:Value->Shared->Prop}(hit:s.heap.IsTupleIter it t i)(ht:s.heap.IsTuple t items)(hx:items[i]?=some x)(hQ:∀h',h'.IsTupleIter it t (i+1)->Heap.SameBut it s.heap h'->Q x { s with heap:=h' }):wpAny (model prog w) A (Builtin.SmallTypes.nextOf (.ref it)) Q E s:=by obtain⟨o,ho,hc,hd⟩:=id hit;obtain⟨ol,hol,_,nl,hdl⟩:=ht;unfold Builtin.SmallTypes.nextOf;refine wpAny_bind (wpAny_callSpecial?_slot (name:=Str.ofString "__next__") hit.typeIs F.slot_tuple_iterator_next (wpAny_call_entry F.slot_tuple_iterator_next hit.typeIs F.entry_tuple_iterator_next ?_ (F.args_tuple_iterator_next_1 _)));show wpAny _ _ (field (.ref it) 0 >>= _) _ _ s;refine wpAny_bind (wpAny_field ho hd (x:=.ref t) rfl ?_);show wpAny _ _ (if (Value.ref t==Value.none)=true then _ else _) _ _ s;rw[if_neg (show ¬((Value.ref t==Value.none)=true) from Bool.false_ne_true)];show wpAny _ _ (field (.ref it) 1 >>= _) _ _ s;refine wpAny_bind (wpAny_field ho hd (x:=.int i 0) rfl ?_);show wpAny _ _ (seqItems? (.ref t) >>= _) _ _ s;refine wpAny_bind (wpAny_seqItems hol hdl ?_);simp only[Int.toNat_natCast,hx];refine wpAny_bind (wpAny_setField ho hd (by simp) (wpAny_pure ⟨x,rfl,wpAny_pure (hQ _ ⟨_,Heap.get?_update_self _ ho (Obj.isFreed_of_fields (Obj.data_mapFields hd _)),(Obj.cls_mapFields ..).trans hc,by rw[Obj.data_mapFields hd];simp[rawInt]⟩ (Heap.SameBut.update ..))⟩))
theorem aLF {it t:Addr}{i:Nat}{items:Array Value}{Q:Value->Shared->Prop}(hh:A.handled=none)(hit:s.heap.IsTupleIter it t i)(ht:s.heap.IsTuple t items)(hx:items[i]?=none)(hE:∀h' e,Heap.ExtBut it s.heap h'->(∃o,h'.get? e = some o/\o.cls = .type "StopIteration")->E (.ref e) { s with heap:=h' }):wpAny (model prog w) A (Builtin.SmallTypes.nextOf (.ref it)) Q E s:=by
 obtain⟨o,ho,hc,hd⟩:=id hit;obtain⟨ol,hol,_,nl,hdl⟩:=ht;unfold Builtin.SmallTypes.nextOf;refine wpAny_bind (wpAny_callSpecial?_slot (name:=Str.ofString "__next__") hit.typeIs F.slot_tuple_iterator_next (wpAny_call_entry F.slot_tuple_iterator_next hit.typeIs F.entry_tuple_iterator_next ?_ (F.args_tuple_iterator_next_1 _)));show wpAny _ _ (field (.ref it) 0 >>= _) _ _ s;refine wpAny_bind (wpAny_field ho hd (x:=.ref t) rfl ?_);show wpAny _ _ (if (Value.ref t==Value.none)=true then _ else _) _ _ s;rw[if_neg (show ¬((Value.ref t==Value.none)=true) from Bool.false_ne_true)];show wpAny _ _ (field (.ref it) 1 >>= _) _ _ s;refine wpAny_bind (wpAny_field ho hd (x:=.int i 0) rfl ?_);show wpAny _ _ (seqItems? (.ref t) >>= _) _ _ s;refine wpAny_bind (wpAny_seqItems hol hdl ?_);simp only[Int.toNat_natCast,hx];refine wpAny_bind (wpAny_rule (wpAny_bind (wpAny_setField ho hd (by simp) ?_)));show wpAny _ _ (newExc (.type "StopIteration") [] >>= _) _ _ _;refine wpAny_bind ?_;simp only[newExc,newTuple];refine wpAny_bind (wpAny_newObj_type ?_ (by size_fits));refine wpAny_bind (m:=firstArgMember _ _) (wpAny_of_eq (a:=Value.none) (by first|rfl|(simp only[firstArgMember];rfl)) ?_);refine wpAny_newObj_type ?_ (by size_fits);simp only[raiseNew];refine wpAny_bind (wpAny_handled ?_);(first|rw[show A.in1.handled=none from hh]|rw[hh])
 refine wpAny_bind (wpAny_pure (wpAny_throw (hE _ _ (((Heap.SameBut.update ..).extBut.push _).push _) ⟨_,Heap.get?_push_size _ rfl,rfl⟩)))
theorem aFZ {z TI TO i1 i2 l1 l2:Addr}{k1 k2:Nat}{xs ys:Array Value}{x y a b:Value}{Q:Value->Shared->Prop}(D:ZipApart z TI TO i1 i2 l1 l2)(hz:IsZip s.heap z TI TO .none)(hTI:IsPair s.heap TI (.ref i1) (.ref i2))(hTO:IsPair s.heap TO a b)(h1:s.heap.IsTupleIter i1 l1 k1)(h2:s.heap.IsTupleIter i2 l2 k2)(hl1:s.heap.IsTuple l1 xs)(hl2:s.heap.IsTuple l2 ys)(hx:xs[k1]?=some x)(hy:ys[k2]?=some y)(hQ:∀h',IsZip h' z TI TO (rawInt s.heap.objs.size)->IsPair h' TO x y->h'.IsTupleIter i1 l1 (k1+1)->h'.IsTupleIter i2 l2 (k2+1)->IsPair h' s.heap.objs.size x y->h'.objs.size=s.heap.objs.size+1->(∀c o,c≠z->c≠TO->c≠i1->c≠i2->s.heap.get? c=some o->h'.get? c=some o)->Q (.ref s.heap.objs.size) { s with heap:=h' }) :
  wpAny (model prog w) A (Builtin.«zip.__next__» ⟨[.ref z],[]⟩) (λfin s'=>∃v,fin=.done (.ret v)/\Q v s') E s:=by
 show wpAny _ _ (field (.ref z) 2 >>= _) _ _ _;refine wpAny_bind (wpAny_field hz rfl (x:=.bool false) rfl ?_);show wpAny _ _ (field (.ref z) 3 >>= _) _ _ _;refine wpAny_bind (wpAny_field hz rfl (x:=.ref TI) rfl ?_);refine wpAny_bind (wpAny_seqItems hTI rfl ?_);show wpAny _ _ (Builtin.SmallTypes.ownedTupleIsFree (.ref z) >>= _) _ _ _;refine wpAny_bind ?_;unfold Builtin.SmallTypes.ownedTupleIsFree;refine wpAny_bind (wpAny_field hz rfl (x:=.none) rfl (wpAny_pure ?_));simp only[if_true];refine wpAny_bind (wpAny_rule ?_);refine wpAny_bind (wpAny_field hz rfl (x:=.ref TO) rfl ?_);refine wpAny_bind (wpAny_setField_rec hz (by simp) λh₁ hz₁ hs₁=>?_);replace hz₁:IsZip h₁ z TI TO .ellipsis:=hz₁
 refine wpAny_bind ?_;simp only[List.zipIdx_cons,List.zipIdx_nil,List.forIn_cons,List.forIn_nil];refine wpAny_bind (wpAny_bind (wpAny_onRaise ?_));show wpAny _ _ (Builtin.SmallTypes.nextOf (.ref i1) >>= _) _ _ _;refine wpAny_bind (aFv (h1.extBut hs₁.extBut D.i1z) (hl1.extBut hs₁.extBut D.l1z) hx λh₂ h1₂ hs₂=>wpAny_pure ?_);have hTO₂:IsPair h₂ TO a b:=hs₂.extBut _ _ D.TOi1 (hs₁.extBut _ _ D.TOz hTO);refine wpAny_bind (wpAny_seqItems hTO₂ rfl ?_);refine wpAny_bind (wpAny_updateSeq_pair hTO₂ λh₃ hTO₃ hs₃=>?_);replace hTO₃:IsPair h₃ TO x b:=hTO₃;refine wpAny_bind (wpAny_letGo (wpAny_pure ?_))
 refine wpAny_bind (wpAny_bind (wpAny_onRaise ?_));show wpAny _ _ (Builtin.SmallTypes.nextOf (.ref i2) >>= _) _ _ _;refine wpAny_bind (aFv (((h2.extBut hs₁.extBut D.i2z).extBut hs₂.extBut D.i12.symm).extBut hs₃.extBut D.TOi2.symm) (((hl2.extBut hs₁.extBut D.l2z).extBut hs₂.extBut D.l2i1).extBut hs₃.extBut D.l2TO) hy λh₄ h2₄ hs₄=>wpAny_pure ?_);have hTO₄:IsPair h₄ TO x b:=hs₄.extBut _ _ D.TOi2 hTO₃;refine wpAny_bind (wpAny_seqItems hTO₄ rfl ?_);refine wpAny_bind (wpAny_updateSeq_pair hTO₄ λh₅ hTO₅ hs₅=>?_);replace hTO₅:IsPair h₅ TO x y:=hTO₅;refine wpAny_bind (wpAny_letGo (wpAny_pure (wpAny_pure ?_)))
 refine wpAny_bind (wpAny_seqItems hTO₅ rfl ?_);refine wpAny_bind (wpAny_newTuple ?_);have hsz:h₅.objs.size=s.heap.objs.size:=by rw[hs₅.1,hs₄.1,hs₃.1,hs₂.1,hs₁.1]
 have hz₅:IsZip h₅ z TI TO .ellipsis:=hs₅.extBut _ _ D.TOz.symm (hs₄.extBut _ _ D.i2z.symm (hs₃.extBut _ _ D.TOz.symm (hs₂.extBut _ _ D.i1z.symm hz₁)));have hk₅:∀c o,c≠z->c≠TO->c≠i1->c≠i2->s.heap.get? c=some o->h₅.get? c=some o:=λc o c1 c2 c3 c4 e=>hs₅.extBut _ _ c2 (hs₄.extBut _ _ c4 (hs₃.extBut _ _ c2 (hs₂.extBut _ _ c3 (hs₁.extBut _ _ c1 e))));have h1₅:h₅.IsTupleIter i1 l1 (k1+1):=((h1₂.extBut hs₃.extBut D.TOi1.symm).extBut hs₄.extBut D.i12).extBut hs₅.extBut D.TOi1.symm;have h2₅:h₅.IsTupleIter i2 l2 (k2+1):=h2₄.extBut hs₅.extBut D.TOi2.symm;have hzlt:z<h₅.objs.size:=Heap.lt_size hz₅;show wpAny _ _ (Builtin.SmallTypes.ownedTupleHandOut (.ref z) (.ref h₅.objs.size) >>= _) _ _ _;refine wpAny_bind ?_;unfold Builtin.SmallTypes.ownedTupleHandOut;have hz₆:IsZip (h₅.push { cls:=.type "tuple",data:=.seq #[x,y] }) z TI TO .ellipsis:=Heap.get?_push_of_some _ hz₅;refine wpAny_bind (wpAny_setField_rec hz₆ (by simp) λh₇ hz₇ hs₇=>?_);replace hz₇:IsZip h₇ z TI TO (rawInt h₅.objs.size):=hz₇
 refine wpAny_setField_rec hz₇ (by simp) λh₈ hz₈ hs₈=>?_;replace hz₈:IsZip h₈ z TI TO (rawInt h₅.objs.size):=hz₈
 have up:∀c o,c≠z->h₅.get? c=some o->h₈.get? c=some o:=λc o c1 e=>hs₈.extBut _ _ c1 (hs₇.extBut _ _ c1 (Heap.get?_push_of_some _ e));have hT₈:IsPair h₈ h₅.objs.size x y:=hs₈.extBut _ _ (Nat.ne_of_gt hzlt) (hs₇.extBut _ _ (Nat.ne_of_gt hzlt) (Heap.get?_push_size _ rfl));have hz8:h₈.objs.size=h₅.objs.size+1:=by rw[hs₈.1,hs₇.1,Heap.size_push]
 rw[hsz] at hz₈ hT₈ hz8;refine wpAny_pure ⟨_,rfl,?_⟩;show Q (.ref h₅.objs.size) _;rw[hsz];exact hQ h₈ hz₈ (up _ _ D.TOz hTO₅) (h1₅.at λo e=>up _ o D.i1z e) (h2₅.at λo e=>up _ o D.i2z e) hT₈ hz8 λc o c1 c2 c3 c4 e=>up c o c1 (hk₅ c o c1 c2 c3 c4 e)
theorem aHq {z TI TO i1 i2 l1 l2:Addr}{k1 k2:Nat}{xs ys:Array Value}{a b:Value}{Q:Fin->Shared->Prop}(hh:A.handled=none)(D:ZipApart z TI TO i1 i2 l1 l2)(hz:IsZip s.heap z TI TO .none)(hTI:IsPair s.heap TI (.ref i1) (.ref i2))(hTO:IsPair s.heap TO a b)(h1:s.heap.IsTupleIter i1 l1 k1)(h2:s.heap.IsTupleIter i2 l2 k2)(hl1:s.heap.IsTuple l1 xs)(hl2:s.heap.IsTuple l2 ys)(hend:xs[k1]?=none∨ys[k2]?=none)(hE:∀h' e,(∀c o,c≠z->c≠TO->c≠i1->c≠i2->s.heap.get? c = some o->h'.get? c = some o)->(∃o,h'.get? e = some o/\o.cls = .type "StopIteration")->E (.ref e) { s with heap:=h' }) :
  wpAny (model prog w) A (Builtin.«zip.__next__» ⟨[.ref z],[]⟩) Q E s:=by
 show wpAny _ _ (field (.ref z) 2 >>= _) _ _ _;refine wpAny_bind (wpAny_field hz rfl (x:=.bool false) rfl ?_);show wpAny _ _ (field (.ref z) 3 >>= _) _ _ _;refine wpAny_bind (wpAny_field hz rfl (x:=.ref TI) rfl ?_);refine wpAny_bind (wpAny_seqItems hTI rfl ?_);show wpAny _ _ (Builtin.SmallTypes.ownedTupleIsFree (.ref z) >>= _) _ _ _;refine wpAny_bind ?_;unfold Builtin.SmallTypes.ownedTupleIsFree;refine wpAny_bind (wpAny_field hz rfl (x:=.none) rfl (wpAny_pure ?_));simp only[if_true];refine wpAny_bind (wpAny_rule ?_);refine wpAny_bind (wpAny_field hz rfl (x:=.ref TO) rfl ?_);refine wpAny_bind (wpAny_setField_rec hz (by simp) λh₁ hz₁ hs₁=>?_);replace hz₁:IsZip h₁ z TI TO .ellipsis:=hz₁
 refine wpAny_bind ?_;simp only[List.zipIdx_cons,List.zipIdx_nil,List.forIn_cons,List.forIn_nil];refine wpAny_bind (wpAny_bind (wpAny_onRaise ?_));show wpAny _ _ (Builtin.SmallTypes.nextOf (.ref i1) >>= _) _ _ _;cases hx:xs[k1]? with
 |none =>
  refine wpAny_bind (aLF hh (h1.extBut hs₁.extBut D.i1z) (hl1.extBut hs₁.extBut D.l1z) hx λh₂ e hs₂ he=>?_);obtain⟨oe,hoe,hce⟩:=he;have hz₂:IsZip h₂ z TI TO .ellipsis:=hs₂ _ _ D.i1z.symm hz₁;have hez:e≠z:=λx=>by (subst x;rw[hz₂] at hoe;cases hoe;simp at hce)
  exact wpAny_setField_rec hz₂ (by simp) λh₃ _ hs₃=>hE h₃ e (λc o c1 _ c3 _ x=>hs₃.extBut _ _ c1 (hs₂ _ _ c3 (hs₁.extBut _ _ c1 x))) ⟨oe,hs₃.extBut _ _ hez hoe,hce⟩
 |some x =>
  have hy:ys[k2]?=none:=by (rcases hend with h|h;rw[hx] at h;cases h;exact h)
  refine wpAny_bind (aFv (h1.extBut hs₁.extBut D.i1z) (hl1.extBut hs₁.extBut D.l1z) hx λh₂ h1₂ hs₂=>wpAny_pure ?_);have hTO₂:IsPair h₂ TO a b:=hs₂.extBut _ _ D.TOi1 (hs₁.extBut _ _ D.TOz hTO);refine wpAny_bind (wpAny_seqItems hTO₂ rfl ?_);refine wpAny_bind (wpAny_updateSeq_pair hTO₂ λh₃ hTO₃ hs₃=>?_);refine wpAny_bind (wpAny_letGo (wpAny_pure ?_));refine wpAny_bind (wpAny_bind (wpAny_onRaise ?_));show wpAny _ _ (Builtin.SmallTypes.nextOf (.ref i2) >>= _) _ _ _;refine wpAny_bind (aLF hh (((h2.extBut hs₁.extBut D.i2z).extBut hs₂.extBut D.i12.symm).extBut hs₃.extBut D.TOi2.symm) (((hl2.extBut hs₁.extBut D.l2z).extBut hs₂.extBut D.l2i1).extBut hs₃.extBut D.l2TO) hy λh₄ e hs₄ he=>?_);obtain⟨oe,hoe,hce⟩:=he;have hz₄:IsZip h₄ z TI TO .ellipsis:=hs₄ _ _ D.i2z.symm (hs₃.extBut _ _ D.TOz.symm (hs₂.extBut _ _ D.i1z.symm hz₁));have hez:e≠z:=λx=>by (subst x;rw[hz₄] at hoe;cases hoe;simp at hce)
  exact wpAny_setField_rec hz₄ (by simp) λh₅ _ hs₅=>hE h₅ e (λc o c1 c2 c3 c4 x=>hs₅.extBut _ _ c1 (hs₄ _ _ c4 (hs₃.extBut _ _ c2 (hs₂.extBut _ _ c3 (hs₁.extBut _ _ c1 x))))) ⟨oe,hs₅.extBut _ _ hez hoe,hce⟩
theorem pyNextItemT {z TI TO i1 i2 l1 l2:Addr}{k1 k2:Nat}{xs ys:Array Value}{x y a b:Value}{Q:Option Value->Shared->Prop}(D:ZipApart z TI TO i1 i2 l1 l2)(hz:IsZip s.heap z TI TO .none)(hTI:IsPair s.heap TI (.ref i1) (.ref i2))(hTO:IsPair s.heap TO a b)(h1:s.heap.IsTupleIter i1 l1 k1)(h2:s.heap.IsTupleIter i2 l2 k2)(hl1:s.heap.IsTuple l1 xs)(hl2:s.heap.IsTuple l2 ys)(hx:xs[k1]?=some x)(hy:ys[k2]?=some y)(hQ:∀h',IsZip h' z TI TO (rawInt s.heap.objs.size)->IsPair h' TO x y->h'.IsTupleIter i1 l1 (k1+1)->h'.IsTupleIter i2 l2 (k2+1)->IsPair h' s.heap.objs.size x y->h'.objs.size=s.heap.objs.size+1->(∀c o,c≠z->c≠TO->c≠i1->c≠i2->s.heap.get? c=some o->h'.get? c=some o)->Q (some (.ref s.heap.objs.size)) { s with heap:=h' }) :
  wpAny (model prog w) A (pyNext (.ref z)) Q E s:=by
 have hT:s.TypeIs (.ref z) "zip":=⟨_,hz,rfl⟩;unfold pyNext;exact wpAny_bind (wpAny_attempt (wpAny_callSpecial?_slot (name:=Str.ofString "__next__") hT F.slot_zip_next (wpAny_call_entry F.slot_zip_next hT F.entry_zip_next (aFZ D hz hTI hTO h1 h2 hl1 hl2 hx hy λh' a1 a2 a3 a4 a5 a6 a7=>wpAny_pure (hQ h' a1 a2 a3 a4 a5 a6 a7)) (F.args_zip_next_1 _))))
theorem pyNextEndT {z TI TO i1 i2 l1 l2:Addr}{k1 k2:Nat}{xs ys:Array Value}{a b:Value}{Q:Option Value->Shared->Prop}(hh:A.handled=none)(D:ZipApart z TI TO i1 i2 l1 l2)(hz:IsZip s.heap z TI TO .none)(hTI:IsPair s.heap TI (.ref i1) (.ref i2))(hTO:IsPair s.heap TO a b)(h1:s.heap.IsTupleIter i1 l1 k1)(h2:s.heap.IsTupleIter i2 l2 k2)(hl1:s.heap.IsTuple l1 xs)(hl2:s.heap.IsTuple l2 ys)(hend:xs[k1]?=none∨ys[k2]?=none)(hQ:∀h',(∀c o,c≠z->c≠TO->c≠i1->c≠i2->s.heap.get? c=some o->h'.get? c=some o)->Q none { s with heap:=h' }):wpAny (model prog w) A (pyNext (.ref z)) Q E s:=by have hT:s.TypeIs (.ref z) "zip":=⟨_,hz,rfl⟩;unfold pyNext;refine wpAny_bind (wpAny_attempt (wpAny_callSpecial?_slot (name:=Str.ofString "__next__") hT F.slot_zip_next (wpAny_call_entry F.slot_zip_next hT F.entry_zip_next (aHq hh D hz hTI hTO h1 h2 hl1 hl2 hend λh' e hk he=>?_) (F.args_zip_next_1 _))));obtain⟨o,ho,hc⟩:=he;exact wpAny_bind (wpAny_isInstance (T:="StopIteration") (b:=true) ⟨o,ho,hc⟩ isSubtype_stop (wpAny_pure (hQ _ hk)))
end
noncomputable abbrev zT1 (h:Heap)(l1:Addr):Heap:=h.push { cls:=.type "tuple_iterator",data:=.fields #[.ref l1,.int 0 0] }
noncomputable abbrev zT2 (h:Heap)(l1 l2:Addr):Heap:=(zT1 h l1).push { cls:=.type "tuple_iterator",data:=.fields #[.ref l2,.int 0 0] }
noncomputable abbrev zT3 (h:Heap)(l1 l2:Addr):Heap:=(zT2 h l1 l2).push { cls:=.type "tuple",data:=.seq #[.ref h.objs.size,.ref (zT1 h l1).objs.size] }
noncomputable abbrev zT4 (h:Heap)(l1 l2:Addr):Heap:=(zT3 h l1 l2).push { cls:=.type "tuple",data:=.seq #[.none,.none] }
noncomputable abbrev zT5 (h:Heap)(l1 l2:Addr):Heap:=(zT4 h l1 l2).push { cls:=.type "zip",data:=.fields #[.none,.bool false,.bool false,.ref (zT2 h l1 l2).objs.size,.ref (zT3 h l1 l2).objs.size] }
theorem aH8 (l1 l2:Addr)(xs ys:Array Value):Meets (Builtin.«zip.__new__» ⟨[.type "zip",.ref l1,.ref l2],[]⟩) (λ_ R s=>s.heap.IsTuple l1 xs/\s.heap.IsTuple l2 ys/\R (.ok (.ret (.ref (zT4 s.heap l1 l2).objs.size))) { s with heap:=zT5 s.heap l1 l2 }) :=
 .of_wp λprog w A R s h=>by
  obtain⟨hp,g,d,tk,os⟩:=s;obtain⟨hl1,hl2,h⟩:=h;have hsub:=sub_zip;have hL1:Heap.IsTuple (Shared.heap ⟨hp,g,d,tk,os⟩) l1 xs:=hl1;have hL2:Heap.IsTuple (Shared.heap ⟨hp.push { cls:=.type "tuple_iterator",data:=.fields #[.ref l1,.int 0 0] },g,d,tk,os⟩) l2 ys:=Heap.IsTuple.push hl2 _
  wp_walk using wpAny_pyIter_tuple hL1,wpAny_pyIter_tuple hL2
  exact⟨_,rfl,h⟩
theorem callZipT {prog:Program}{w:World}{A:Around}{E:Value->Shared->Prop}{s:Shared}{l1 l2:Addr}{xs ys:Array Value}{Q:Value->Shared->Prop}(hl1:s.heap.IsTuple l1 xs)(hl2:s.heap.IsTuple l2 ys)(h:∀h',IsZip h' (s.heap.objs.size+4) (s.heap.objs.size+2) (s.heap.objs.size+3) .none->IsPair h' (s.heap.objs.size+2) (.ref s.heap.objs.size) (.ref (s.heap.objs.size+1))->IsPair h' (s.heap.objs.size+3) .none .none->h'.IsTupleIter s.heap.objs.size l1 0->h'.IsTupleIter (s.heap.objs.size+1) l2 0->h'.objs.size=s.heap.objs.size+5 ->
   (∀c o,s.heap.get? c = some o->h'.get? c = some o)->Q (.ref (s.heap.objs.size+4)) { s with heap:=h' }):wpAny (model prog w) A (call (.type "zip") [.ref l1,.ref l2]) Q E s:=by
 refine callType_new F.called_zip (by decide) (F.typeCall_zip_2 _ _) (F.newCall_zip_2 _ _) (λobj=>F.args_object_init_3 obj _ _) F.entry_zip_new (aH8 l1 l2 xs ys) ⟨hl1,hl2,?_⟩;have z1:(zT1 s.heap l1).objs.size=s.heap.objs.size+1:=Heap.size_push ..;have z2:(zT2 s.heap l1 l2).objs.size=s.heap.objs.size+2:=by rw[Heap.size_push,z1]
 have z3:(zT3 s.heap l1 l2).objs.size=s.heap.objs.size+3:=by rw[Heap.size_push,z2]
 have z4:(zT4 s.heap l1 l2).objs.size=s.heap.objs.size+4:=by rw[Heap.size_push,z3]
 have z5:(zT5 s.heap l1 l2).objs.size=s.heap.objs.size+5:=by rw[Heap.size_push,z4]
 have g5:(zT5 s.heap l1 l2).get? (zT4 s.heap l1 l2).objs.size=some _:=Heap.get?_push_size _ rfl;have g4:(zT5 s.heap l1 l2).get? (zT3 s.heap l1 l2).objs.size=some _:=Heap.get?_push_of_some _ (Heap.get?_push_size _ rfl);have g3:(zT5 s.heap l1 l2).get? (zT2 s.heap l1 l2).objs.size=some _:=Heap.get?_push_of_some _ (Heap.get?_push_of_some _ (Heap.get?_push_size _ rfl));have g2:(zT5 s.heap l1 l2).get? (zT1 s.heap l1).objs.size=some _:=Heap.get?_push_of_some _ (Heap.get?_push_of_some _ (Heap.get?_push_of_some _ (Heap.get?_push_size _ rfl)));have g1:(zT5 s.heap l1 l2).get? s.heap.objs.size=some _:=Heap.get?_push_of_some _ (Heap.get?_push_of_some _ (Heap.get?_push_of_some _ (Heap.get?_push_of_some _ (Heap.get?_push_size _ rfl))));show _/\_;rw[z2,z3,z4] at g5;rw[z1,z2] at g3;rw[z3] at g4;rw[z1] at g2;rw[z4];exact⟨⟨_,g5,rfl⟩,h _ g5 g3 g4 ⟨_,g1,rfl,rfl⟩ ⟨_,g2,rfl,rfl⟩ z5 λc o x=>Heap.get?_push_of_some _ (Heap.get?_push_of_some _ (Heap.get?_push_of_some _ (Heap.get?_push_of_some _ (Heap.get?_push_of_some _ x))))⟩
end Zp
namespace L2
open PySem PySem.Spec PyProof.Rows
theorem Inv.turnedT {X:Cx}{pins:List (Addr×Obj)}{σ:St}{H:Hp}{s:Shared}{h':Heap}{fp:List Addr}{p:Addr}{xs:List V}{its:List Value}(I:Inv X pins σ H s)(k:∀b o,b∉fp->s.heap.get? b=some o->h'.get? b=some o)(hf:∀b∈fp,yG X pins H b)(hp:s.heap.objs.size<=p)(hz:xs.length<=sizeLine)(hv:bZ xs its)(ht:IsTup h' p its.toArray)(th:∀b∈fp,∃o,h'.get? b=some o) :
  Inv X pins σ (upd H p (.tup xs)) { s with heap:=h' }:=by
 have hn:H p=none:=I.hok.fresh hp;have nf:∀b u,H b=some u->b∉fp:=λb u e hb=>by rw[(hf b hb).1] at e;cases e
 have np:∀b o,s.heap.get? b=some o->b≠p:=λb o e=>Nat.ne_of_lt (Nat.lt_of_lt_of_le (Heap.lt_size e) hp);refine I.step (g':=s.gens) (d':=s.drawn) (t':=s.toks) (ch:=fp) (λb hb=>⟨(hf b hb).2.2.2.1,(hf b hb).2.1,(hf b hb).2.2.2.2.1,(hf b hb).2.2.2.2.2⟩) (λb o _ _ hc e _=>k b o hc e) (λb o _ _ hc e _=>⟨o.slots,k b o hc e⟩) (λb o _ e n=>by rw[aM (np b o e)];exact n)
  (λb o hc e=>⟨o,k b o hc e⟩) (λb ys e=>by rw[aM (aS e hn)];exact e) (λb o u e=>by rw[aM (aS e hn)];exact e) (λb ps e=>⟨#[],by rw[aM (aS e hn),e];simp⟩) (λm hm=>?_) (λb u e=>?_) I.bare
 ·obtain⟨o,es,ep,ho,r⟩:=hm;exact⟨o,es,ep,k _ o (λhb=>(hf _ hb).2.1 rfl) ho,r⟩
 ·by_cases hb:b=p
  ·subst hb;rw[bL] at e;cases e;exact⟨hz,its,hv,ht⟩
  ·rw[aM hb] at e;refine(I.hok b u e).stay (λc v hc q=>k c v ?_ q) (λc q=>by rw[aM (aS q hn)];exact q) λc xs q=>by rw[aM (aS q hn)];exact q
   rcases hc with z|z
   ·rw[z];exact nf b u e
   ·exact nf c _ z
theorem Inv.turnedL {X:Cx}{pins:List (Addr×Obj)}{σ:St}{H:Hp}{s:Shared}{h':Heap}{fp:List Addr}(I:Inv X pins σ H s)(k:∀b o,b∉fp->s.heap.get? b=some o->h'.get? b=some o)(hf:∀b∈fp,yG X pins H b) :
  Inv X pins σ H { s with heap:=h' }:=by
 have nf:∀b u,H b=some u->b∉fp:=λb u e hb=>by rw[(hf b hb).1] at e;cases e
 refine I.step (g':=s.gens) (d':=s.drawn) (t':=s.toks) (ch:=fp) (λb hb=>⟨(hf b hb).2.2.2.1,(hf b hb).2.1,(hf b hb).2.2.2.2.1,(hf b hb).2.2.2.2.2⟩) (λb o _ _ hc e _=>k b o hc e) (λb o _ _ hc e _=>⟨o.slots,k b o hc e⟩) (λb o _ e n=>n)
  (λb o hc e=>⟨o,k b o hc e⟩) (λb ys e=>e) (λb o u e=>e) (λb ps e=>⟨#[],by rw[e];simp⟩) (λm hm=>?_) (λb u e=>?_) I.bare
 ·obtain⟨o,es,ep,ho,r⟩:=hm;exact⟨o,es,ep,k _ o (λhb=>(hf _ hb).2.1 rfl) ho,r⟩
 ·refine(I.hok b u e).stay (λc v hc q=>k c v ?_ q) (λc q=>q) λc xs q=>q;rcases hc with z|z
  ·rw[z];exact nf b u e
  ·exact nf c _ z
noncomputable def Itz (K:Frag)(l1 l2:Addr):It :=
 ⟨
  λi H=>∃xs ys x y,SqT K H l1 xs/\SqT K H l2 ys/\xs[i]?=some x/\ys[i]?=some y,
  λi H v H'=>∃p x y,v=.ref p/\H p=none/\H'=upd H p (.tup [x,y])/\∀xs ys,SqT K H l1 xs->SqT K H l2 ys->xs[i]?=some x/\ys[i]?=some y,
  λi H=>∃xs ys,SqT K H l1 xs/\SqT K H l2 ys/\(xs.length<=i∨ys.length<=i)⟩
theorem aEH {P:Program}{w:World}{K:Frag}{elts:List Expr}{kk:Nat}{tpos:Pos}{z TI TO i1 i2 l1 l2:Addr}(D:ZipApart z TI TO i1 i2 l1 l2) :
  aEh P w K (.Tuple elts kk tpos) (Itz K l1 l2) [z,TI,TO,i1,i2] z (λi h=>IsZip h z TI TO .none/\IsPair h TI (.ref i1) (.ref i2)/\(∃a b,IsPair h TO a b)/\h.IsTupleIter i1 l1 i/\h.IsTupleIter i2 l2 i) where
 mem:=by simp
 obj:=λi h st b hb=>by
  obtain⟨hz,hTI,⟨a,c,hTO⟩,⟨o1,e1,c1,d1⟩,⟨o2,e2,c2,d2⟩⟩:=st;simp only[mem_cons,not_mem_nil,or_false] at hb;rcases hb with rfl|rfl|rfl|rfl|rfl
  ·exact⟨_,hz,λv z=>by cases z⟩
  ·exact⟨_,hTI,λv z=>by cases z⟩
  ·exact⟨_,hTO,λv z=>by cases z⟩
  ·exact⟨o1,e1,λv z=>by rw[d1] at z;cases z⟩
  ·exact⟨o2,e2,λv z=>by rw[d2] at z;cases z⟩
 keep:=λi h h' st k=>by obtain⟨hz,hTI,⟨a,c,hTO⟩,t1,t2⟩:=st;exact⟨k z (by simp) _ hz,k TI (by simp) _ hTI,⟨a,c,k TO (by simp) _ hTO⟩,t1.at λo e=>k i1 (by simp) o e,t2.at λo e=>k i2 (by simp) o e⟩
 item:=by
  intro X hP hw hK hc i pins s σ H E I hf st hg;subst hP hw hK;obtain⟨xs,ys,x,y,hq1,hq2,hx,hy⟩:=hg;obtain⟨hz,hTI,⟨a,c,hTO⟩,t1,t2⟩:=st;obtain⟨its1,rv1,p1,hz1⟩:=I.tuple hq1;obtain⟨its2,rv2,p2,hz2⟩:=I.tuple hq2;obtain⟨u1,hu1,ru1⟩:=rv1.get hx;obtain⟨u2,hu2,ru2⟩:=rv2.get hy;refine Zp.pyNextItemT D hz hTI hTO t1 t2 (show s.heap.IsTuple l1 its1.toArray from p1) (show s.heap.IsTuple l2 its2.toArray from p2) (x:=u1) (y:=u2) (by simpa using hu1) (by simpa using hu2) λh' a1 a2 a3 a4 a5 a6 a7=>?_;refine⟨_,rfl,wpAny_letOwnedTupleGo_zip (s:={ s with heap:=h' }) a1 λh2 b1 b2=>?_⟩;have ltz:=Heap.lt_size hz;have nz:s.heap.objs.size≠z:=Nat.ne_of_gt ltz;have k2:∀b o,b∉[z,TI,TO,i1,i2]->s.heap.get? b=some o->h2.get? b=some o:=λb o hb e=>b2.extBut _ _ (λq=>hb (by simp[q])) (a7 b o (λq=>hb (by simp[q])) (λq=>hb (by simp[q])) (λq=>hb (by simp[q])) (λq=>hb (by simp[q])) e);have hTI2:IsPair h2 TI (.ref i1) (.ref i2):=b2.extBut _ _ D.TIz (a7 _ _ D.TIz D.TITO D.TIi1 D.TIi2 hTI);have hTO2:IsPair h2 TO u1 u2:=b2.extBut _ _ D.TOz a2;have e1:h2.IsTupleIter i1 l1 (i+1):=a3.extBut b2.extBut D.i1z;have e2:h2.IsTupleIter i2 l2 (i+1):=a4.extBut b2.extBut D.i2z;have I2:Inv X pins σ (upd H s.heap.objs.size (.tup [x,y])) { s with heap:=h2 }:=I.turnedT (its:=[u1,u2]) k2 hf (Nat.le_refl _) (by show 2<=sizeLine;decide) (.cons ru1 (.cons ru2 .nil)) ⟨_,b2.extBut _ _ nz a5,rfl,_,rfl⟩ λb hb=>by
   simp only[mem_cons,not_mem_nil,or_false] at hb;rcases hb with rfl|rfl|rfl|rfl|rfl
   ·exact⟨_,b1⟩
   ·exact⟨_,hTI2⟩
   ·exact⟨_,hTO2⟩
   ·obtain⟨o,e,_⟩:=e1;exact⟨o,e⟩
   ·obtain⟨o,e,_⟩:=e2;exact⟨o,e⟩
  refine⟨.ref s.heap.objs.size,_,I2,rfl,⟨_,x,y,rfl,I.hok.fresh (Nat.le_refl _),rfl,λxs' ys' q1 q2=>by rw[I.tuple_inj q1 hq1,I.tuple_inj q2 hq2];exact⟨hx,hy⟩⟩,⟨b1,hTI2,⟨_,_,hTO2⟩,e1,e2⟩,λb hb=>?_⟩;rw[aM]
  ·exact(hf b hb).1
  ·intro q;subst q;simp only[mem_cons,not_mem_nil,or_false] at hb;obtain⟨o1,g1,_⟩:=t1;obtain⟨o2,g2,_⟩:=t2;rcases hb with q|q|q|q|q
   ·exact nz q
   ·exact absurd (Heap.lt_size hTI) (by rw[<- q];exact Nat.lt_irrefl _)
   ·exact absurd (Heap.lt_size hTO) (by rw[<- q];exact Nat.lt_irrefl _)
   ·exact absurd (Heap.lt_size g1) (by rw[<- q];exact Nat.lt_irrefl _)
   ·exact absurd (Heap.lt_size g2) (by rw[<- q];exact Nat.lt_irrefl _)
 done:=by
  intro X hP hw hK hc i pins s σ H E I hf st hg;subst hP hw hK;obtain⟨xs,ys,hq1,hq2,hend⟩:=hg;obtain⟨hz,hTI,⟨a,c,hTO⟩,t1,t2⟩:=st;obtain⟨its1,rv1,p1,hz1⟩:=I.tuple hq1;obtain⟨its2,rv2,p2,hz2⟩:=I.tuple hq2;have w1:=rv1.length;have w2:=rv2.length;refine Zp.pyNextEndT (I.ok.hd hc) D hz hTI hTO t1 t2 (show s.heap.IsTuple l1 its1.toArray from p1) (show s.heap.IsTuple l2 its2.toArray from p2) ?_ λh' k=>⟨rfl,I.turnedL (λb o hb e=>k b o (λq=>hb (by simp[q])) (λq=>hb (by simp[q])) (λq=>hb (by simp[q])) (λq=>hb (by simp[q])) e) hf⟩;rcases hend with q|q
  ·exact .inl (by simp;omega)
  ·exact .inr (by simp;omega)
 self:=λ_ _ _ _ _ st h=>wpAny_pyIter_zip st.1 h
theorem aJQ (n l1 l2:Nat)(h1:l1<n)(h2:l2<n):ZipApart (n+4) (n+2) (n+3) n (n+1) l1 l2:=by have ad:∀{a b:Nat},a≠b->@Ne Addr a b:=λh=>h;constructor<;>exact ad (by omega)
noncomputable def aNE (K:Frag)(ta:TA):TI:=λσ H R=>ta σ H λvs H1=>∃a b,vs=[.ref a,.ref b]/\(∃xs,SqT K H1 a xs)/\(∃ys,SqT K H1 b ys)/\R (Itz K a b) H1
theorem aKp {X:Cx}{elts:List Expr}{kk:Nat}{tpos:Pos}{a b:Expr}{ta:TA}{p pos:Pos}(hg:Gl X "zip")(hm:X.mg "zip"=none)(ha:PA X [a,b] ta)(hs:starEach [a,b] X.env=[(false,eval a X.env),(false,eval b X.env)]:=by rfl)(hs2:starEach [b] X.env=[(false,eval b X.env)]:=by rfl) :
  PI X (.Tuple elts kk tpos) (.Call (.Name "zip" p) [a,b] [] pos) (aNE X.K ta):=by
 intro pins s σ H R I h;refine Call_ (xU I hg hm (show bootBuiltins "zip" = some (.type "zip") from rfl) (PyProof.Rows.callWith_type1 (thn (ha pos pins s σ H _ I h) λus s1 ⟨vs,H1,I1,r1,q1⟩=>?_) (by rw[hs,hs2]) (by rw[hs2];rfl)));obtain⟨l1,l2,rfl,⟨xs,hq1⟩,⟨ys,hq2⟩,q⟩:=q1;obtain⟨u1,u2,rfl,e1,e2⟩:=r1.two;cases e1;cases e2;obtain⟨its1,rv1,p1,hz1⟩:=I1.tuple hq1;obtain⟨its2,rv2,p2,hz2⟩:=I1.tuple hq2;have lt1:l1<s1.heap.objs.size:=by obtain⟨o,ho,_⟩:=id p1;exact Heap.lt_size ho
 have lt2:l2<s1.heap.objs.size:=by obtain⟨o,ho,_⟩:=id p2;exact Heap.lt_size ho
 refine Zp.callZipT (show s1.heap.IsTuple l1 its1.toArray from p1) (show s1.heap.IsTuple l2 its2.toArray from p2) λh' b1 b2 b3 b4 b5 b6 b7=>?_;refine wpAny_pyIter_zip (s:={ s1 with heap:=h' }) b1 ?_;have D:ZipApart (s1.heap.objs.size+4) (s1.heap.objs.size+2) (s1.heap.objs.size+3) s1.heap.objs.size (s1.heap.objs.size+1) l1 l2:=aJQ _ _ _ lt1 lt2;refine⟨s1.heap.objs.size+4,[s1.heap.objs.size+4,s1.heap.objs.size+2,s1.heap.objs.size+3,s1.heap.objs.size,s1.heap.objs.size+1],_,_,H1,rfl,I1.kept (t':=s1.toks) b7,aEH D,⟨b1,b2,⟨_,_,b3⟩,b4,b5⟩,λb hb=>?_,q⟩;have hb':s1.heap.objs.size<=b:=by simp only[mem_cons,not_mem_nil,or_false] at hb;rcases hb with rfl|rfl|rfl|rfl|rfl<;>omega
 exact I1.fpOk hb' (I1.hok.fresh hb')
end L2
namespace Dd
open PySem PySem.Spec PyProof.Rows L2
section
variable {X:Cx}{pos:Pos}{iter tg:Expr}{body:List Stmt}{tl:DE}{g:DG}{tb:DS}{ta:DA}
theorem aJX {K:Frag}{ds:List D}{E:sX}{Dn:fR}{σ:L2.St}{ρ:cW}{M:DM}{H0 H:Hp}{J:It}(ex0:Ext H0 H)(re:fQ K H ρ σ)(hm:bN K M H)(k:nN K H0 Dn E)(h:dIt none ds g tb Dn ρ M)(seq:∀H',Ext H H'->(∀i,ds.length<=i->J.stop i H')/\(∀i,i<ds.length->J.go i H')/\∀i x H2,J.yld i H' x H2->Ext H' H2/\(∀M',bN K M' H'->bN K M' H2)/\(i<ds.length->∃d,ds[i]?=some d/\Rep K H2 d x)) :
  ∃W:Nat->Nat->L2.St->Hp->Prop,(∃m,W 0 m σ H)/\∀i m σ H,W i m σ H ->
   (J.stop i H/\E.nx σ H)∨(J.go i H/\∃N:L2.St->Hp->Prop,(∀σ' H',N σ' H'->∃m',m'<m/\W (i+1) m' σ' H')/\∀x H',J.yld i H x H'->vY K g x σ H' λσ2 H2=>aCh K tb { E with nx:=N,ct:=N,bk:=E.nx } σ2 H2):=by
 obtain⟨Pv,p0,hat,step,done⟩:=h;refine⟨λi m σ' H'=>∃ρ' M',fQ K H' ρ' σ'/\bN K M' H'/\Ext H H'/\m=ds.length-i/\i<=ds.length/\Pv i ρ' M',⟨ds.length,ρ,M,re,hm,.refl H,rfl,Nat.zero_le _,p0⟩,?_⟩;rintro i m σ1 H1 ⟨ρ1,M1,re1,hm1,e1,rfl,hi,w1⟩;obtain⟨hst,hgo,hy⟩:=seq H1 e1;by_cases hlt:i<ds.length
 ·refine .inr ⟨hgo i hlt,λσ' H'=>∃ρ' M',fQ K H' ρ' σ'/\bN K M' H'/\Ext H H'/\Pv (i+1) ρ' M',λσ' H' ⟨ρ',M',a,b,c,d⟩=>⟨ds.length-(i+1),by omega,ρ',M',a,b,c,rfl,hlt,d⟩,λx H' y=>?_⟩;obtain⟨ey,hmy,hd⟩:=hy i x H' y;obtain⟨d,hd,rd⟩:=hd hlt;refine⟨d,ρ1,M1,_,rd,re1.ext ey,hmy _ hm1,step i d ρ1 M1 hd w1,λσ2 H2 ⟨ρ2,M2,re2,hm2,e2,q2⟩=>⟨ρ2,M2,_,re2,hm2,q2,?_⟩⟩;have ex:=(e1.trans ey).trans e2;exact⟨λσ' H' ⟨ρ',M',a,b,c,d⟩=>⟨ρ',M',a,b,ex.trans c,d⟩,λv H' z=>k.rt v H' (z.back (ex0.trans ex)),λσ' H' z=>k.nx σ' H' (z.back (ex0.trans ex)),λσ' H' ⟨ρ',M',a,b,c,d⟩=>⟨ρ',M',a,b,ex.trans c,d⟩⟩
 ·have e:i=ds.length:=by omega
  subst e;exact .inl ⟨hst _ (Nat.le_refl _),k.nx σ1 H1 ⟨ρ1,M1,re1,hm1,ex0.trans e1,done ρ1 M1 w1⟩⟩
noncomputable def aAt:List D->List D->List D
 |x::xs,y::ys=>.tup [x,y]::aAt xs ys
 |_,_=>[]
theorem aBq:∀(xs ys:List D),(aAt xs ys).length=min xs.length ys.length
 |[],ys=>by simp[aAt]
 |_::_,[]=>by simp[aAt]
 |x::xs,y::ys=>by show(aAt xs ys).length+1=_;rw[aBq xs ys,length_cons,length_cons];omega
theorem aBi:∀{xs ys:List D}{i:Nat} {x y:D},xs[i]?=some x->ys[i]?=some y->(aAt xs ys)[i]?=some (.tup [x,y])
 |[],_,_,_,_,h,_=>by simp at h
 |_::_,[],_,_,_,_,h=>by simp at h
 |a::xs,b::ys,0,x,y,h,h'=>by simp at h h';subst h h';rfl
 |a::xs,b::ys,i+1,x,y,h,h'=>by show(aAt xs ys)[i]?=_;exact aBi (by simpa using h) (by simpa using h')
def aFV (ta:DA)(g:DG)(tb:DS):DS:=λE ρ M=>ta ρ M λds M1=>match ds with
 |[.tup xs,.tup ys]=>dIt none (aAt xs ys) g tb E ρ M1
 |_=>False
theorem aHz {elts:List Expr}{kk:Nat}{tpos:Pos}{a b:Expr}{p pos':Pos}(hp:PassesOwn (model X.prog X.w) X.A X.env X.xe)(hc:X.calm = true)(hmg:X.mg "zip" = none)(ha:PDA X [a,b] ta)(hg:PDG X (.Tuple elts kk tpos) g)(hb:mD X body tb)(hgl:Gl X "zip":=by rfl)(hse:starEach [a,b] X.env=[(false,eval a X.env),(false,eval b X.env)]:=by rfl)(hse2:starEach [b] X.env=[(false,eval b X.env)]:=by rfl)(hs:∀x,foldedSetIterable (.Call (.Name "zip" p) [a,b] [] pos') X.env x = pure x:=by intro _;rfl):PDS X (.For (.Tuple elts kk tpos) (.Call (.Name "zip" p) [a,b] [] pos') body [] pos) (aFV ta g tb) :=
 gF (vZ hp hc (aKp hgl hmg ha hse hse2) hg hb hs) λE σ H ⟨ρ,M,Dn,re,hm,q,k⟩=>⟨ρ,M,_,re,hm,q,λvs H1 ⟨ds,M1,rs,hm1,ex,q1⟩=>by
  rcases ds with _|⟨d,_|⟨d2,_|⟨d3,r⟩⟩⟩
  ·exact q1.elim
  ·cases d<;>exact q1.elim
  ·cases d with
   |tup xs =>
    cases d2 with
    |tup ys =>
     obtain⟨v1,v2,rfl,rv1,rv2⟩:=aAs rs;obtain⟨l1,us,rfl,sq1,r1⟩:=bT rv1;obtain⟨l2,ws,rfl,sq2,r2⟩:=bT rv2;refine⟨l1,l2,rfl,⟨us,sq1⟩,⟨ws,sq2⟩,aJX ex (re.ext ex) hm1 k q1 λH' e'=>?_⟩;have t1:=zX e' sq1;have t2:=zX e' sq2;have n1:=r1.length;have n2:=r2.length;have n3:=aBq xs ys;refine⟨λi hi=>⟨us,ws,t1,t2,by omega⟩,λi hi=>⟨us,ws,us[i]'(by omega),ws[i]'(by omega),t1,t2,by simp,by simp⟩,λi x H2 ⟨pp,vx,vy,e1,hn,e2,all⟩=>?_⟩;subst e1 e2;refine⟨Ext.new hn _,λM' h=>h.new hn _,λhi=>?_⟩;obtain⟨a1,a2⟩:=all us ws t1 t2;obtain⟨dx,hdx,rdx⟩:=(r1.ext e').getV a1;obtain⟨dy,hdy,rdy⟩:=(r2.ext e').getV a2;exact⟨_,aBi hdx hdy,iT (.of bL) (bX (rdx.ext (Ext.new hn _)) (bX (rdy.ext (Ext.new hn _)) cP))⟩
    |_=>exact q1.elim
   |_=>exact q1.elim
  ·cases d<;>first|exact q1.elim|(cases d2<;>exact q1.elim)⟩
def foZ (ds:List D)(g:DG)(tb:DS)(E:fR)(ρ:cW)(M:DM):Prop:=match ds with
 |[.tup xs,.tup ys]=>dIt none (aAt xs ys) g tb E ρ M
 |_=>False
theorem aE4 {E:fR}{ρ:cW}{M:DM}:aFV ta g tb E ρ M=ta ρ M λds M1=>foZ ds g tb E ρ M1:=rfl
end
end Dd
set_option maxHeartbeats 1000000
namespace Dd
open PySem PySem.Spec PyProof.Rows L2
section
variable {X:Cx}{pins:List (Addr×Obj)}{σ:L2.St}{H H':Hp}{s:Shared}{h':Heap}
end
def Tr (h:Heap)(e:Addr)(cls:Value)(T:Addr)(fl:Value):Prop :=
 ∃oe vs oT ts,h.get? e=some oe/\(oe.cls=cls/\oe.dict=none)/\oe.data=.fields vs/\vs[1]?=some (.ref T)/\T≠e/\h.get? T=some oT/\oT.data=.fields ts/\ts[3]?=some fl
section
variable {X:Cx}{pins:List (Addr×Obj)}{σ:L2.St}{H:Hp}{s:Shared}{M:Model}{A:Around}{E:Value->Shared->Prop}{e T:Addr}{cls:Value}
end
noncomputable def CXr (P:Program)(w:World):CXT:=λouter H s E e s'=>∃(a:Addr)(cls:Value) (T:Addr) (H':Hp),e=Value.ref a/\s'.os=s.os/\AllBare s'.gens/\Un (frs outer) [] H H' s.heap s'.heap/\HOk P w H' s'.heap /\
 Tr s'.heap a cls T .none/\s.heap.get? a=none/\s.heap.get? T=none/\H' a=none/\H' T=none/\E cls none H'
section
variable {X:Cx}{x:Str}{V:DM->Prop}{e:Expr}{es:List Expr}{t:DA}{np cpos pos:Pos}
end
section
variable {P:Program}{w:World}{K:Frag}{mg:Str->Option Value}{base:Heap}
end
section
variable {X:Cx}{pins:List (Addr×Obj)}{σ:L2.St}{H:Hp}{s:Shared}{a:Addr}{o:Obj}
end
noncomputable def fR.un (D:fR)(j:Nat):fR:={ nx:=λρ M=>D.nx (ρ.set j none) M,rt:=D.rt,bk:=λρ M=>D.bk (ρ.set j none) M,ct:=λρ M=>D.ct (ρ.set j none) M }
section
variable {X:Cx}{a:Expr}{e:Expr}{es:List Expr}{t:DA}{x f n cm:Str}{ps:List Str}{sp:DSp}{cond:List D->DM->Prop}{C Cm:Addr}{k1 k2 k i j:Nat}{ts:Addr->DS}{b0:Stmt}{suite:List Stmt}{px pf pc pa pcm ph pos:Pos}
end
section
open PySem.W PySem.Calls
end
section
variable {X:Cx}{n c:Str}{C Cc a:Addr}{o:Obj}{p p1 p2 pos:Pos}{j:Nat}
end
section
open PySem.W PySem.Calls
variable {prog:Program}{w:World}{A:Around}{E:Value->Shared->Prop}{s:Shared}{K:Frag}{x C D:Addr}{ox:Obj}
end
section
variable {X:Cx}{a C:Addr}{o:Obj}
end
section
open PySem.SeqAt
open PySem.AutoSeq1 (wpAny_loadPart')
open PySem.MeetsSeq PySem.MeetsSeq2 PySem.MeetsSeq3
end
section
variable {X:Cx}{j:Nat}
end
def aKb (t u:DS):DS:=λD ρ M=>∃R:cW->DM->Prop,t { D with nx:=R } ρ M/\∀ρ' M',R ρ' M'->u D ρ' M'
section
variable {X:Cx}{st:Stmt}{cN:List Stmt}{t u:DS}
theorem aIv (h1:PDS X st t)(h2:mD X cN u):mD X (st::cN) (aKb t u) :=
 aAY (aBj h1 h2) λE σ H ⟨ρ,M,D,re,hm,⟨R,q,k2⟩,k⟩ =>
  ⟨ρ,M,{ D with nx:=R },re,hm,q,⟨λσ' H' ⟨ρ',M',re',hm',ex,r⟩=>⟨ρ',M',D,re',hm',k2 ρ' M' r,k.at ex⟩,k.rt,k.bk,k.ct⟩⟩
end
section
variable {X:Cx}{e:Expr}{es:List Expr}{t:DA}{x f cm:Str}{ps:List Str}{sp:DSp}{cond:List D->DM->Prop}{C Cm:Addr}{k1 k2 k i:Nat}{ts:DS}{b0:Stmt}{suite:List Stmt}{px pf pc pa pcm ph pos:Pos}
end
@[irreducible] def ZE (X:Cx)(e:Expr)(t:DE):Prop:=PDE X e t
theorem ZE.o {X:Cx}{e:Expr}{t:DE}(h:ZE X e t):PDE X e t:=by unfold ZE at h;exact h
theorem ZE.i {X:Cx}{e:Expr}{t:DE}(h:PDE X e t):ZE X e t:=by unfold ZE;exact h
@[irreducible] def ZT (X:Cx)(e:Expr)(t:DT):Prop:=PDT X e t
theorem ZT.o {X:Cx}{e:Expr}{t:DT}(h:ZT X e t):PDT X e t:=by unfold ZT at h;exact h
theorem ZT.i {X:Cx}{e:Expr}{t:DT}(h:PDT X e t):ZT X e t:=by unfold ZT;exact h
@[irreducible] def ZW (X:Cx)(e:Expr)(t:DT):Prop:=PDW X e t
theorem ZW.o {X:Cx}{e:Expr}{t:DT}(h:ZW X e t):PDW X e t:=by unfold ZW at h;exact h
theorem ZW.i {X:Cx}{e:Expr}{t:DT}(h:PDW X e t):ZW X e t:=by unfold ZW;exact h
@[irreducible] def ZA (X:Cx)(e:List Expr)(t:DA):Prop:=PDA X e t
theorem ZA.o {X:Cx}{e:List Expr}{t:DA}(h:ZA X e t):PDA X e t:=by unfold ZA at h;exact h
theorem ZA.i {X:Cx}{e:List Expr}{t:DA}(h:PDA X e t):ZA X e t:=by unfold ZA;exact h
@[irreducible] def ZS (X:Cx)(e:Stmt)(t:DS):Prop:=PDS X e t
theorem ZS.o {X:Cx}{e:Stmt}{t:DS}(h:ZS X e t):PDS X e t:=by unfold ZS at h;exact h
theorem ZS.i {X:Cx}{e:Stmt}{t:DS}(h:PDS X e t):ZS X e t:=by unfold ZS;exact h
@[irreducible] def ZSs (X:Cx)(e:List Stmt)(t:DS):Prop:=mD X e t
theorem ZSs.o {X:Cx}{e:List Stmt}{t:DS}(h:ZSs X e t):mD X e t:=by unfold ZSs at h;exact h
theorem ZSs.i {X:Cx}{e:List Stmt}{t:DS}(h:mD X e t):ZSs X e t:=by unfold ZSs;exact h
@[irreducible] def ZG (X:Cx)(e:Expr)(t:DG):Prop:=PDG X e t
theorem ZG.o {X:Cx}{e:Expr}{t:DG}(h:ZG X e t):PDG X e t:=by unfold ZG at h;exact h
theorem ZG.i {X:Cx}{e:Expr}{t:DG}(h:PDG X e t):ZG X e t:=by unfold ZG;exact h
@[irreducible] def ZGs (X:Cx)(e:List Expr)(t:DGs):Prop:=aBt X e t
theorem ZGs.o {X:Cx}{e:List Expr}{t:DGs}(h:ZGs X e t):aBt X e t:=by unfold ZGs at h;exact h
theorem ZGs.i {X:Cx}{e:List Expr}{t:DGs}(h:aBt X e t):ZGs X e t:=by unfold ZGs;exact h
@[irreducible] def ZO (X:Cx)(e:Option Expr)(t:DO):Prop:=PO X e (zW X.K t)
theorem ZO.o {X:Cx}{e:Option Expr}{t:DO}(h:ZO X e t):PO X e (zW X.K t):=by unfold ZO at h;exact h
theorem ZO.i {X:Cx}{e:Option Expr}{t:DO}(h:PO X e (zW X.K t)):ZO X e t:=by unfold ZO;exact h
section
variable {K:Frag}{H H':Hp}
end
section
variable {K:Frag}{H H':Hp}{M M':DM}
end
section
variable {K:Frag}{H H':Hp}{ρ:cW}{σ:L2.St}
end
section
variable {K:Frag}{H H1:Hp}
end
section
variable {X:Cx}{e:Expr}{st:Stmt}{sts:List Stmt}
end
section
variable {X:Cx}{a b c e:Expr}{es:List Expr}{ta tb tc te:DE}{tA tB:DT}{t:DA}{pos:Pos}
theorem aB (i:Nat){x:Str}{pos:Pos}(hN:X.N[i]?=some x:=by rfl)(hv:Vis X.env.scope x:=by first|exact Or.inl rfl|exact Or.inr (Or.inl rfl)|exact Or.inr (Or.inr rfl))(hd:(x==("__debug__":Str))=false:=by decide)(hcd:(x==("__classdict__":Str))=false:=by decide):ZE X (.Name x pos) (aCo i):=.i (aAA i hN hv hd hcd)
theorem aC {i j pos}:ZE X (.Constant (.int i) j pos) (dC (.int i)):=.i (aCH (i:=i) (j:=j) (pos:=pos))
theorem aAh {i j pos}:ZE X (.Constant (.bool i) j pos) (dC (.bl i)):=.i (aL3 (i:=i) (j:=j) (pos:=pos))
theorem sI {j pos}:ZE X (.Constant .none j pos) (dC .non):=.i (aKG (j:=j) (pos:=pos))
theorem cU {x j pos}:ZE X (.Constant (.str x) j pos) (dC (.str x)):=.i (aJF)
theorem aJ {op:Operator}{r:D2}(ho:OpD X (binaryOp op) r)(ha:ZE X a ta)(hb:ZE X b tb):ZE X (.BinOp a op b pos) (dOp r ta tb):=.i (aNe (op:=op) ho ha.o hb.o)
theorem gI {op:CmpOp}{r:D2}(ho:OpD X (compareOp op) r)(ha:ZE X a ta)(hb:ZE X b tb)(hm:behindInMarks op b=false:=by exact aAV _):ZE X (.Compare a [op] [b] pos) (dOp r ta tb):=.i (aIY (op:=op) ho ha.o hb.o hm)
theorem aX {op:CmpOp}{r:D2}(ho:OpD X (compareOp op) r)(ha:ZE X a ta)(hb:ZE X b tb)(hm:behindInMarks op b=false:=by exact aAV _):ZT X (.Compare a [op] [b] pos) (zJ (dOp r ta tb)):=.i (aJJ (op:=op) ho ha.o hb.o hm)
theorem iJ (h:ZE X e te)(he:∀whole,isTrue e X.env whole=(do let v <- whole;standAt e.pos;holding [v] (truthy v)):=by intro _;rfl):ZT X e (zJ te):=.i (aKI h.o he)
variable {cN:List Expr}
theorem jE (ha:ZT X a tA):ZW X (.BoolOp .And [a] pos) tA:=.i (aHG ha.o)
theorem zV (ha:ZT X a tA):ZW X (.BoolOp .Or [a] pos) tA:=.i (aLn ha.o)
theorem jS (ha:ZT X a tA)(hb:ZW X (.BoolOp .And (b::cN) pos) tB):ZW X (.BoolOp .And (a::b::cN) pos) (aKT tA tB):=.i (aJ4 ha.o hb.o)
theorem aC2 (ha:ZT X a tA)(hb:ZW X (.BoolOp .Or (b::cN) pos) tB):ZW X (.BoolOp .Or (a::b::cN) pos) (dOr tA tB):=.i (aNd ha.o hb.o)
theorem pG (h:ZW X e tA):ZT X e tA:=.i (aNB h.o)
theorem vN (ha:ZT X a tA):ZT X (.UnaryOp .Not a pos) (aJY tA):=.i (aK5 ha.o)
theorem aDJ {op}(h:ZE X a ta):ZE X (.BoolOp op [a] pos) ta:=.i (aJl (op:=op) h.o)
theorem aDw (ha:ZE X a ta)(hb:ZE X (.BoolOp .And (b::cN) pos) tb):ZE X (.BoolOp .And (a::b::cN) pos) (aEN ta tb):=.i (aJc ha.o hb.o)
theorem aJ7 (ha:ZE X a ta)(hb:ZE X (.BoolOp .Or (b::cN) pos) tb):ZE X (.BoolOp .Or (a::b::cN) pos) (aJr ta tb):=.i (aM5 ha.o hb.o)
theorem aAg (ha:ZE X a ta):ZE X (.UnaryOp .Not a pos) (aGA ta):=.i (aJn ha.o)
theorem lR (hc:ZT X c tA)(ha:ZE X a ta)(hb:ZE X b tb):ZE X (.IfExp c a b pos) (aKr tA ta tb):=.i (aGa hc.o ha.o hb.o)
theorem aD :ZA X [] pK:=.i (xR)
theorem aA (ha:ZE X e te)(hr:ZA X es t)(hs:starEach (e::es) X.env=(false,eval e X.env)::starEach es X.env:=by rfl):ZA X (e::es) (hU te t):=.i (mW ha.o hr.o hs)
theorem aY {x1}(h:ZA X es t):ZE X (.Tuple es x1 pos) (aKm t):=.i (aJp h.o)
theorem fP (h:ZA X es t):ZE X (.List es pos) (aJ5 t):=.i (aJA h.o)
end
section
variable {X:Cx}{st:Stmt}{cN:List Stmt}{t u:DS}{e:Expr}{te:DE}{pos:Pos}
theorem aZ :ZSs X [] aGo:=.i (aHW)
theorem aF (h1:ZS X st t)(h2:ZSs X cN u):ZSs X (st::cN) (aKF t u):=.i (aGc h1.o h2.o)
theorem aH (h1:ZS X st t):ZSs X [st] t:=.i (aG0 h1.o)
theorem jG (he:ZE X e te)(hs:swapsWith e none pos.line X.env=pure false:=by rfl):ZS X (.Expr e pos) (aEQ te):=.i (aIa he.o hs)
theorem aL (he:ZE X e te):ZS X (.Return (some e) pos) (aKy te):=.i (aI8 he.o)
theorem bO {c:Expr}{a b:List Stmt}{tc:DT}(hc:ZT X c tc)(ha:ZSs X a t)(hb:ZSs X b u):ZS X (.If c a b pos) (aJd tc t u):=.i (aMO hc.o ha.o hb.o)
theorem zN :ZS X st aCP:=.i (aEF)
end
section
variable {X:Cx}{pos:Pos}{e tg:Expr}{es:List Expr}{te:DE}
theorem aO {i:Nat}{x:Str}(hN:X.N.Nodup)(hi:X.N[i]?=some x:=by rfl)(hx:Loc X.env.scope x:=by first|exact Or.inl rfl|exact Or.inr rfl)(hf:X.fn x=true∨X.env.scope.names.lookup x=some .local:=by first|exact .inl rfl|exact .inr rfl|assumption):ZG X (.Name x pos) (gN i):=.i (aIj (i:=i) hN hi hx hf)
theorem dG :ZGs X [] gNl:=.i (aHx)
theorem aU {t:DG}{u:DGs}(h1:ZG X e t)(h2:ZGs X es u)(hs:(assignEach (e::es) X.env).map (·.2)=assign e X.env::(assignEach es X.env).map (·.2):=by rfl):ZGs X (e::es) (gCn t u):=.i (aFW h1.o h2.o hs)
theorem cQ {g:DG}(he:ZE X e te)(hg:ZG X tg g)(hs:swapsWithSole [tg] e pos.line X.env=pure false:=by rfl)(hw:swappedStores [tg] e X.env=pure none:=by rfl)(h1:(assignEach [tg] X.env).map (·.2)=[assign tg X.env]:=by rfl):ZS X (.Assign [tg] e pos) (aEc te g):=.i (aKv he.o hg.o hs hw h1)
theorem aN {i:Nat}{x:Str}{pos':Pos}(hN:X.N.Nodup)(he:ZE X e te)(hi:X.N[i]?=some x:=by rfl)(hx:Loc X.env.scope x:=by first|exact Or.inl rfl|exact Or.inr rfl)(hs:swapsWith e (some (.Name x pos')) pos.line X.env=pure false:=by rfl)(hf:X.fn x=true∨X.env.scope.names.lookup x=some .local:=by first|exact .inl rfl|exact .inr rfl|assumption):ZS X (.Assign [.Name x pos'] e pos) (aEc te (gN i)):=.i (aKz (i:=i) hN he.o hi hx hs hf)
theorem aDF {i j:Nat}{x y:Str}{a b:Expr}{ta:DA}{px py pt:Pos}{kt k2 pt2}(hc:X.calm=true)(hN:X.N.Nodup)(ha:ZA X [a,b] ta)(hi:X.N[i]?=some x:=by rfl)(hj:X.N[j]?=some y:=by rfl)(hij:i≠j:=by decide)(hx:X.env.scope.names.lookup x=some .local:=by rfl)(hy:X.env.scope.names.lookup y=some .local:=by rfl)(hw:swappedStores [.Tuple [.Name x px,.Name y py] kt pt] (.Tuple [a,b] k2 pt2) X.env=pure (some [x,y]):=by rfl)(hs:swapsWithSole [.Tuple [.Name x px,.Name y py] kt pt] (.Tuple [a,b] k2 pt2) pos.line X.env=pure false:=by rfl):ZS X (.Assign [.Tuple [.Name x px,.Name y py] kt pt] (.Tuple [a,b] k2 pt2) pos) (aLf i j ta):=.i (aLs (i:=i) (j:=j) hc hN ha.o hi hj hij hx hy hw hs)
theorem kX {o i:Expr}{to ti:DE}(ho:ZE X o to)(hi:ZE X i ti)(ha:∀v,assign (.Subscript o i pos) X.env v=(do
   let ov <- holding [v] (eval o X.env)
   let iv <- holding [v,ov] (eval i X.env)
   standAt pos
   holding [v,ov,iv] (setItem ov iv v)
   release [v,ov,iv] []):=by intro _;rfl):ZG X (.Subscript o i pos) (aFr to ti):=.i (aLz ho.o hi.o ha)
end
section
variable {X:Cx}{pos:Pos}
theorem qG {c:Expr}{body:List Stmt}{tc:DT}{tb:DS}(hp:PassesOwn (model X.prog X.w) X.A X.env X.xe)(hc:ZT X c tc)(hb:ZSs X body tb):ZS X (.While c body [] pos) (aCD tc tb):=.i (aGC hp hc.o hb.o)
variable {iter tg:Expr}{body:List Stmt}{tl:DE}{g:DG}{tb:DS}
end
section
variable {X:Cx}{pos:Pos}{iter tg:Expr}{body:List Stmt}{tl:DE}{g:DG}{tb:DS}{ta:DA}
theorem qC (hp:PassesOwn (model X.prog X.w) X.A X.env X.xe)(hc:X.calm=true)(hi:ZE X iter tl)(hg:ZG X tg g)(hb:ZSs X body tb)(hs:∀x,foldedSetIterable iter X.env x=pure x:=by intro _;rfl):ZS X (.For tg iter body [] pos) (aEK tl g tb):=.i (aHl hp hc hi.o hg.o hb.o hs)
theorem aGJ {a:Expr}{p pos':Pos}(hp:PassesOwn (model X.prog X.w) X.A X.env X.xe)(hc:X.calm = true)(hmg:X.mg "range" = none)(ha:ZA X [a] ta)(hg:ZG X tg g)(hb:ZSs X body tb)(hgl:Gl X "range":=by rfl)(hse:starEach [a] X.env = [(false,eval a X.env)]:=by rfl)(hs:∀x,foldedSetIterable (.Call (.Name "range" p) [a] [] pos') X.env x = pure x:=by intro _;rfl):ZS X (.For tg (.Call (.Name "range" p) [a] [] pos') body [] pos) (aFJ ta g tb):=.i (aG1 hp hc hmg ha.o hg.o hb.o hgl hse hs)
end
section
variable {X:Cx}{pins:List (Addr×Obj)}{σ:L2.St}{H:Hp}{s:Shared}
end
section
variable {X:Cx}{a b e o:Expr}{es:List Expr}{ta tb te to:DE}{t:DA}{pos:Pos}
theorem cZ (ha:ZE X a ta):ZE X (.UnaryOp .USub a pos) (aKJ ta):=.i (aJw ha.o)
theorem aG (ha:ZE X a ta)(hb:ZE X b tb)(hs:tQ b:=by exact λ_ _=>rfl):ZE X (.Subscript a b pos) (dOp mZ ta tb):=.i (aGn ha.o hb.o hs)
theorem iD :ZO X none aJo:=.i (aIo)
theorem gB (h:ZE X e te):ZO X (some e) (dPt te):=.i (aHQ h.o)
variable {lo hi:Option Expr}{tl th:DO}{p2:Pos}
theorem lY (he:ZE X e te)(hl:ZO X lo tl)(hu:ZO X hi th):ZE X (.Subscript e (.Slice lo hi none p2) pos) (dSl te tl th):=.i (aEY he.o hl.o hu.o)
variable {CX:CXT}{k:Nat}{f:Addr}{fd:FuncData}{ps:List Str}{sp:DSp}{E:XK}{x:Str}{p:Pos}
theorem cO {id:String}{r:DSp}(hc:iF X (.builtin id) r)(hm:X.mg x = none)(ha:ZA X (e :: es) t)(hv:bootBuiltins x = some (.builtin id):=by rfl)(hg:Gl X x:=by rfl)(hn:x ≠ "__name__":=by decide)(hdb:(x==("__debug__":Str))=false:=by decide)(he:starEach (e::es) X.env=(false,eval e X.env)::starEach es X.env:=by rfl)(hpl:(backTo pos (starEach es X.env)).any (·.1)=false:=by rfl):ZE X (.Call (.Name x p) (e::es) [] pos) (rZ r t):=.i (aGq (id:=id) hc hm ha.o hv hg hn hdb he hpl)
theorem iV {T:String}{r:DSp}(hc:iF X (.type T) r)(hm:X.mg x = none)(ha:ZA X (e :: es) t)(hv:bootBuiltins x = some (.type T):=by rfl)(hg:Gl X x:=by rfl)(hn:x ≠ "__name__":=by decide)(hdb:(x==("__debug__":Str))=false:=by decide)(he:starEach (e::es) X.env=(false,eval e X.env)::starEach es X.env:=by rfl)(hpl:(backTo pos (starEach es X.env)).any (·.1)=false:=by rfl):ZE X (.Call (.Name x p) (e::es) [] pos) (rZ r t):=.i (aDN (T:=T) hc hm ha.o hv hg hn hdb he hpl)
end
section
variable {X:Cx}{a b e o:Expr}{es:List Expr}{ta tb te to:DE}{t:DA}{pos:Pos}
theorem iX {apos cpos:Pos}(ho:ZE X o to)(he:ZE X e te)(hse:starEach [e] X.env = (false,eval e X.env) :: starEach [] X.env:=by rfl)(hbase:attributeBase o "append" X.env (eval o X.env)=eval o X.env:=by rfl)(hfew:((backTo cpos (starEach [e] X.env)).all (λx=>!x.1)&&(backToKw cpos (keywordEach [] X.env)).all (λx=>x.1.isSome)
  &&decide ([e].length+([]:List Keyword).length+(if ([]:List Keyword).isEmpty then 0 else 1)<30)) = true:=by rfl)(hline:(apos.endLine==cpos.line) = true:=by rfl)(hplain:(backTo cpos (starEach [] X.env)).any (·.1) = false:=by rfl):ZE X (.Call (.Attribute o "append" apos) [e] [] cpos) (aA4 to te):=.i (aEv ho.o he.o hse hbase hfew hline hplain)
end
section
variable {P:Program}{w:World}{K:Frag}{mg:Str->Option Value}{base:Heap}
end
section
variable {P:Program}{w:World}{K:Frag}{mg:Str->Option Value}{base:Heap}
end
section
variable {X:Cx}{a b c e:Expr}{es:List Expr}{ta tb te:DE}{t:DA}{pos p:Pos}{x:Str}{ps:List Str}{sp:DSp}{k j:Nat}
theorem aE (h:Has X.prog X.w X.K X.mg X.base k x ps sp)(hr:eE j X.A)(hkj:k<=j)(ha:ZA X (e::es) t)(hg:Gl X x:=by rfl)(hdb:(x==("__debug__":Str))=false:=by decide)(he:starEach (e::es) X.env=(false,eval e X.env)::starEach es X.env:=by rfl)(hpl:(backTo pos (starEach es X.env)).any (·.1)=false:=by rfl):ZE X (.Call (.Name x p) (e::es) [] pos) (rZ sp t):=.i (aE6 h hr hkj ha.o hg hdb he hpl)
theorem qN {d:D}(h:aDO X.K X.mg x d)(hg:Gl X x:=by rfl)(hd:(x==("__debug__":Str))=false:=by decide):ZE X (.Name x pos) (dC d):=.i (aFS h hg hd)
theorem aFb {i:Nat}{op:Operator}{g:Int->Int->Int}{pos':Pos}(ho:PIp X op (ipI g))(hN:X.N.Nodup)(he:ZE X e te)(hi:X.N[i]?=some x:=by rfl)(hx:Loc X.env.scope x:=by first|exact Or.inl rfl|exact Or.inr rfl)(hf:X.fn x=true∨X.env.scope.names.lookup x=some .local:=by first|exact .inl rfl|exact .inr rfl|assumption):ZS X (.AugAssign (.Name x pos') op e pos) (aHv i te g):=.i (aHF (i:=i) (op:=op) ho hN he.o hi hx hf)
end
section
variable {prog:Program}{w:World}{A:Around}{E:Value->Shared->Prop}{s:Shared}
end
section
variable {X:Cx}{pos:Pos}{e a b:Expr}{es:List Expr}{te ta tb:DE}
theorem eD {k:Nat}{t:DGs}{n:Nat}(hc:X.calm=true)(h:ZGs X es t)(hn:(assignEach es X.env).length=n:=by rfl)(hst:(assignEach es X.env).findIdx? (·.1)=none:=by rfl):ZG X (.Tuple es k pos) (gU n t):=.i (aLo (n:=n) hc h.o hn hst)
end
section
variable {M:DM}{Q:DQ}{g:Bool->Bool}{ds:List D}{i:Int}{a:Addr}{α:Type}{x0 x1 x2 x3 x4 x5:α}{l:List α}
end
section
variable {K:Frag}{H:Hp}{ρ:cW}{σ:L2.St}
end
section
variable {X:Cx}{g:DG}{te:DE}
variable {elt iter tg:Expr}{scope:Scope}{pos:Pos}{N':List Str}{fr:List (Option Nat)}{tl:DE}{ta:DA}{oN:List Str}{osc:Scope}
theorem mP (B:oE oN osc N' fr scope)(hc:X.calm=true)(hi:ZE X iter tl)(hg:∀C s H fp pins,ZG (X.blk N' scope C s H fp pins) tg g)(he:∀C s H fp pins,ZE (X.blk N' scope C s H fp pins) elt te)(hN:X.N=oN:=by rfl)(ho:X.env.scope=osc:=by rfl)(hs:∀x,foldedSetIterable iter X.env x=pure x:=by intro _;rfl):ZE X (.ListComp elt [⟨tg,iter,[],0⟩] scope pos) (aGQ tl fr g te):=.i (aKX B hc hi.o (λC s H fp pins=>(hg C s H fp pins).o) (λC s H fp pins=>(he C s H fp pins).o) hN ho hs)
theorem aCM {i:Nat}{y:Str}{spos py:Pos}(B:oE oN osc N' fr scope)(hc:X.calm=true)(hNd:X.N.Nodup)(hi:ZE X iter tl)(hg:∀C s H fp pins,ZG (X.blk N' scope C s H fp pins) tg g)(he:∀C s H fp pins,ZE (X.blk N' scope C s H fp pins) elt te)(hy:X.N[i]?=some y:=by rfl)(hx:Loc X.env.scope y:=by first|exact Or.inl rfl|exact Or.inr rfl)(hsw:swapsWith (.ListComp elt [⟨tg,iter,[],0⟩] scope pos) (some (.Name y py)) spos.line X.env=pure true:=by rfl)(hf:X.fn y=true∨X.env.scope.names.lookup y=some .local:=by first|exact .inl rfl|exact .inr rfl|assumption)(hN:X.N=oN:=by rfl)(ho:X.env.scope=osc:=by rfl)(hs:∀x,foldedSetIterable iter X.env x=pure x:=by intro _;rfl):ZS X (.Assign [.Name y py] (.ListComp elt [⟨tg,iter,[],0⟩] scope pos) spos) (wL i (aGQ tl fr g te)):=.i (aEj (i:=i) B hc hNd hi.o (λC s H fp pins=>(hg C s H fp pins).o) (λC s H fp pins=>(he C s H fp pins).o) hy hx hsw hf hN ho hs)
theorem wJ {a:Expr}{p pos':Pos}{i:Nat}{y:Str}{spos py:Pos}(B:oE oN osc N' fr scope)(hc:X.calm = true)(hNd:X.N.Nodup)(hmg:X.mg "range" = none)(ha:ZA X [a] ta)(hg:∀C s H fp pins,ZG (X.blk N' scope C s H fp pins) tg g)(he:∀C s H fp pins,ZE (X.blk N' scope C s H fp pins) elt te)(hy:X.N[i]? = some y:=by rfl)(hx:Loc X.env.scope y:=by first|exact Or.inl rfl|exact Or.inr rfl)(hsw:swapsWith (.ListComp elt [⟨tg,.Call (.Name "range" p) [a] [] pos',[],0⟩] scope pos) (some (.Name y py)) spos.line X.env = pure true:=by rfl)(hf:X.fn y = true∨X.env.scope.names.lookup y = some .local:=by first|exact .inl rfl|exact .inr rfl|assumption)(hN:X.N = oN:=by rfl)(ho:X.env.scope = osc:=by rfl)(hgl:Gl X "range":=by rfl)(hse:starEach [a] X.env = [(false,eval a X.env)]:=by rfl)(hs:∀x,foldedSetIterable (.Call (.Name "range" p) [a] [] pos') X.env x = pure x:=by intro _;rfl):ZS X (.Assign [.Name y py] (.ListComp elt [⟨tg,.Call (.Name "range" p) [a] [] pos',[],0⟩] scope pos) spos) (wL i (aIV ta fr g te)):=.i (aEm (i:=i) B hc hNd hmg ha.o (λC s H fp pins=>(hg C s H fp pins).o) (λC s H fp pins=>(he C s H fp pins).o) hy hx hsw hf hN ho hgl hse hs)
end
variable {X:Cx}
section
variable {g:DG}{te:DE}{tb:DS}{Q:DQ}{ρ0:cW}
end
section
variable {e:Expr}{te:DE}{pos:Pos}
end
section
variable {X:Cx}{e:Expr}{te:DE}{pos p2:Pos}{lo hi:Option Expr}{tl th:DO}
theorem kC (he:ZE X e te)(hl:ZO X lo tl)(hu:ZO X hi th):ZE X (.Subscript e (.Slice lo hi none p2) pos) (aLy te tl th):=.i (aEg he.o hl.o hu.o)
end
section
variable {X:Cx}{a n:Expr}{ta:DE}{tn:DA}{pos p pos':Pos}
end
section
variable {X:Cx}{a b c e o:Expr}{es:List Expr}{ta tb tc te to:DE}{pos:Pos}
theorem wM {apos cpos:Pos}(ho:ZE X o to)(he:ZE X e te)(hse:starEach [e] X.env = (false,eval e X.env) :: starEach [] X.env:=by rfl)(hbase:attributeBase o "extend" X.env (eval o X.env)=eval o X.env:=by rfl)(hfew:((backTo cpos (starEach [e] X.env)).all (λx=>!x.1)&&(backToKw cpos (keywordEach [] X.env)).all (λx=>x.1.isSome)
  &&decide ([e].length+([]:List Keyword).length+(if ([]:List Keyword).isEmpty then 0 else 1)<30)) = true:=by rfl)(hline:(apos.endLine==cpos.line) = true:=by rfl)(hplain:(backTo cpos (starEach [] X.env)).any (·.1) = false:=by rfl):ZE X (.Call (.Attribute o "extend" apos) [e] [] cpos) (aAO to te):=.i (aEC ho.o he.o hse hbase hfew hline hplain)
end
section
variable {X:Cx}{e k:Expr}{te tk:DE}{pos p2:Pos}
end
section
variable {X:Cx}{pos:Pos}{iter tg:Expr}{body:List Stmt}{tl:DE}{g:DG}{tb:DS}{ta:DA}
theorem aEU {elts:List Expr}{kk:Nat}{tpos:Pos}{a b:Expr}{p pos':Pos}(hp:PassesOwn (model X.prog X.w) X.A X.env X.xe)(hc:X.calm = true)(hmg:X.mg "zip" = none)(ha:ZA X [a,b] ta)(hg:ZG X (.Tuple elts kk tpos) g)(hb:ZSs X body tb)(hgl:Gl X "zip":=by rfl)(hse:starEach [a,b] X.env = [(false,eval a X.env),(false,eval b X.env)]:=by rfl)(hse2:starEach [b] X.env = [(false,eval b X.env)]:=by rfl)(hs:∀x,foldedSetIterable (.Call (.Name "zip" p) [a,b] [] pos') X.env x = pure x:=by intro _;rfl):ZS X (.For (.Tuple elts kk tpos) (.Call (.Name "zip" p) [a,b] [] pos') body [] pos) (aFV ta g tb):=.i (aHz hp hc hmg ha.o hg.o hb.o hgl hse hse2 hs)
end
section
variable {X:Cx}{x:Str}{V:DM->Prop}{e:Expr}{es:List Expr}{t:DA}{np cpos pos:Pos}
end
section
variable {P:Program}{w:World}{K:Frag}{mg:Str->Option Value}{base:Heap}
end
section
variable {X:Cx}{pins:List (Addr×Obj)}{σ:L2.St}{H:Hp}{s:Shared}{a:Addr}{o:Obj}
end
section
variable {X:Cx}{a:Expr}{e:Expr}{es:List Expr}{t:DA}{x f n cm:Str}{ps:List Str}{sp:DSp}{cond:List D->DM->Prop}{C Cm:Addr}{k1 k2 k i j:Nat}{ts:Addr->DS}{b0:Stmt}{suite:List Stmt}{px pf pc pa pcm ph pos:Pos}
end
section
end
section
variable {X:Cx}{n c:Str}{C Cc a:Addr}{o:Obj}{p p1 p2 pos:Pos}{j:Nat}
end
section
variable {prog:Program}{w:World}{A:Around}{E:Value->Shared->Prop}{s:Shared}{K:Frag}{x C D:Addr}{ox:Obj}
end
section
variable {X:Cx}{a C:Addr}{o:Obj}
end
section
end
section
variable {X:Cx}{j:Nat}
end
section
variable {X:Cx}{st:Stmt}{cN:List Stmt}{t u:DS}
theorem sO (h1:ZS X st t)(h2:ZSs X cN u):ZSs X (st::cN) (aKb t u):=.i (aIv h1.o h2.o)
end
section
variable {X:Cx}{e:Expr}{es:List Expr}{t:DA}{x f cm:Str}{ps:List Str}{sp:DSp}{cond:List D->DM->Prop}{C Cm:Addr}{k1 k2 k i:Nat}{ts:DS}{b0:Stmt}{suite:List Stmt}{px pf pc pa pcm ph pos:Pos}
end
section
variable {P:Program}{w:World}{K:Frag}{mg:Str->Option Value}{base:Heap}
theorem Fun.okZ {x qual:Str}{st:Stmt}{f:Addr}{fd:FuncData}{N ps:List Str}{k:Nat}{sp:DSp}(F:L2.Fun K x qual st f fd)(S:aR N ps (aI st))(len:∀ds M Q,sp ds M Q->ds.length=ps.length)(hbody:∀(cdv:Value)(A:Around) (outer:List Env) (s:Shared) (H:Hp) (ds:List D) (M:DM) (Q:DQ) (E:XK),eE k (A.deeper (envOfC qual (aI st) s.heap.objs.size f cdv))->sp ds M Q ->
   ∃t,ZSs (tS CX0 P w K mg base N qual (aI st) f cdv A outer s H E).nox (gK st) t/\t { nx:=λ_ M'=>Dn Q .non M',rt:=Dn Q } (kD N ds) M):oC P w K mg base CX0 (k+1) f fd ps (sT K sp) :=
 Fun.okD F S len λcdv A outer s H ds M Q E hr h=>let ⟨t,h1,h2⟩:=hbody cdv A outer s H ds M Q E hr h;⟨t,h1.o,h2⟩
theorem Has.mkZ {x:Str}{st:Stmt}{N ps:List Str}{k:Nat}{sp:DSp}(h:cR K mg x st ps)(S:aR N ps (aI st))(len:∀ds M Q,sp ds M Q->ds.length=ps.length)(hbody:∀(f:Addr)(cdv:Value) (A:Around) (outer:List Env) (s:Shared) (H:Hp) (ds:List D) (M:DM) (Q:DQ) (E:XK),eE k (A.deeper (envOfC x (aI st) s.heap.objs.size f cdv))->sp ds M Q ->
   ∃t,ZSs (tS CX0 P w K mg base N x (aI st) f cdv A outer s H E).nox (gK st) t/\t { nx:=λ_ M'=>Dn Q .non M',rt:=Dn Q } (kD N ds) M):Has P w K mg base (k+1) x ps sp :=
 Has.mk h S len λf cdv A outer s H ds M Q E hr h=>let ⟨t,h1,h2⟩:=hbody f cdv A outer s H ds M Q E hr h;⟨t,h1.o,h2⟩
end
section
variable {P:Program}{w:World}{K:Frag}{mg:Str->Option Value}{base:Heap}
end
end Dd
namespace Mz
open PySem
def Bd (n:Nat)(x:Int):Prop:=x.natAbs<2^n
theorem Bd.mono {m n:Nat}{x:Int}(h:Bd m x)(l:m<=n):Bd n x:=Nat.lt_of_lt_of_le h (Nat.pow_le_pow_right (by decide) l)
theorem Bd.neg {n:Nat}{x:Int}(h:Bd n x):Bd n (-x):=by unfold Bd at *;rw[Int.natAbs_neg];exact h
theorem Bd.add {m:Nat}{x y:Int}(h:Bd m x)(h2:Bd m y):Bd (m+1) (x+y):=by unfold Bd at *;have:=Int.natAbs_add_le x y;rw[Nat.pow_succ];omega
theorem Bd.sub {m:Nat}{x y:Int}(h:Bd m x)(h2:Bd m y):Bd (m+1) (x-y):=by rw[Int.sub_eq_add_neg];exact h.add h2.neg
theorem Bd.mul {m n:Nat}{x y:Int}(h:Bd m x)(h2:Bd n y):Bd (m+n) (x*y):=by unfold Bd at *;rw[Int.natAbs_mul,Nat.pow_add];exact Nat.mul_lt_mul'' h h2
theorem Bd.of {n:Nat}{x:Int}(h1:-(2^n:Nat)<x)(h2:x<(2^n:Nat)):Bd n x:=by unfold Bd;omega
theorem Bd.log {n:Nat}{x:Int}(h:Bd n x)(h0:0<n):x.natAbs.log2<n:=by
 rcases Nat.eq_zero_or_pos x.natAbs with e|e
 ·rw[e];simpa using h0
 ·exact(Nat.log2_lt (Nat.ne_of_gt e)).mpr h
theorem Bd.bits {n:Nat}{x:Int}(h:Bd n x):Builtin.Int.intBits x<=n+1:=by
 unfold Builtin.Int.intBits;split
 ·exact Nat.zero_le _
 ·rcases Nat.eq_zero_or_pos n with e|e
  ·subst e;have:x.natAbs<1:=h;have:x.natAbs=0:=by omega
   rw[this];decide
  ·have:=h.log e;omega
theorem cB {m n:Nat}{x y:Int}(h:Bd m x)(h2:Bd n y)(l:m+n<=100000000:=by decide):IntMulOk x y:=IntMulOk.of_le h.bits h2.bits (by omega)
theorem aAj {x y:Int}(h:Bd 63 x):IntMulOk x y:=IntMulOk.of_left (by have:=h.bits;omega)
theorem tW {x y:Int}(h:Bd 63 y):IntMulOk x y:=IntMulOk.of_right (by have:=h.bits;omega)
theorem aDt {a b:Int}(h:b≠0):(a.fmod b).natAbs<b.natAbs:=by
 rcases Int.lt_or_lt_of_ne h with hb|hb
 ·have e:=Int.fmod_eq_emod (a:=a) (b:=b);have h1:=Int.emod_nonneg a h;have h2:=Int.emod_lt_of_neg a hb;by_cases hd:b∣a
  ·rw[if_pos (.inr hd)] at e;have:=Int.emod_eq_zero_of_dvd hd;omega
  ·rw[if_neg (by omega)] at e;have h3:a % b≠0:=λz=>hd (Int.dvd_of_emod_eq_zero z);omega
 ·have h1:=Int.fmod_nonneg_of_pos a hb;have h2:=Int.fmod_lt_of_pos a hb;omega
theorem aBd (a b:Int):Int.gcd b (a.fmod b)=Int.gcd a b:=by rw[Int.fmod_def,Int.mul_comm b,Int.gcd_sub_mul_right_right,Int.gcd_comm]
noncomputable def sg (t b:Int):Int:=if b<0 then -(Int.gcd t b:Int) else (Int.gcd t b:Int)
noncomputable def fT (t b:Int):Int:=t.fdiv (sg t b)
noncomputable def fB (t b:Int):Int:=b.fdiv (sg t b)
theorem kO {t b:Int}(h:b≠0):0<Int.gcd t b:=Nat.pos_of_ne_zero λz=>h (Int.gcd_eq_zero_iff.mp z).2
theorem aM8 {t b:Int}(h:b≠0):sg t b≠0:=by have:=kO (t:=t) h;unfold sg;split<;>omega
theorem pW (t b:Int):sg t b∣t:=by
 have h:=Int.gcd_dvd_left t b;unfold sg;split
 ·exact Int.neg_dvd.mpr h
 ·exact h
theorem pC (t b:Int):sg t b∣b:=by
 have h:=Int.gcd_dvd_right t b;unfold sg;split
 ·exact Int.neg_dvd.mpr h
 ·exact h
theorem aJP {t b:Int}(h:b≠0):fT t b*sg t b=t:=by unfold fT;rw[Int.fdiv_eq_ediv_of_dvd (pW t b)];exact Int.ediv_mul_cancel (pW t b)
theorem aGx {t b:Int}(h:b≠0):fB t b*sg t b=b:=by unfold fB;rw[Int.fdiv_eq_ediv_of_dvd (pC t b)];exact Int.ediv_mul_cancel (pC t b)
theorem aI6 {t b:Int}(h:b≠0):0<fB t b:=by
 have e:=aGx (t:=t) h;have hg:=kO (t:=t) h;rcases Int.lt_trichotomy (fB t b) 0 with z|z|z
 ·exfalso;unfold sg at e;split at e
  ·rename_i hb;have:=Int.mul_pos_of_neg_of_neg z (show -(Int.gcd t b:Int)<0 by omega);omega
  ·rename_i hb;have:=Int.mul_neg_of_neg_of_pos z (show 0<(Int.gcd t b:Int) by omega);omega
 ·rw[z] at e;omega
 ·exact z
theorem aLp {t b:Int}(h:b≠0):fT t b*b=fB t b*t:=by
 have e1:=aJP (t:=t) h;have e2:=aGx (t:=t) h;have:fT t b*(fB t b*sg t b)=fB t b*(fT t b*sg t b):=by grind
 rw[e1,e2] at this;exact this
theorem zO (t b:Int):(sg t b).natAbs=Int.gcd t b:=by unfold sg;split<;>simp
theorem aOh {t b:Int}(h:b≠0):Int.gcd (fT t b) (fB t b)=1:=by unfold fT fB;rw[Int.fdiv_eq_ediv_of_dvd (pW t b),Int.fdiv_eq_ediv_of_dvd (pC t b),Int.gcd_ediv (pW t b) (pC t b),zO];exact Nat.div_self (kO h)
theorem Bd.fT {n:Nat}{t b:Int}(h:Bd n t):Bd n (fT t b):=by unfold Bd at *;unfold Mz.fT;rw[Int.fdiv_eq_ediv_of_dvd (pW t b)];exact Nat.lt_of_le_of_lt (Int.natAbs_ediv_le_natAbs _ _) h
theorem Bd.fB {n:Nat}{t b:Int}(h:Bd n b):Bd n (fB t b):=by unfold Bd at *;unfold Mz.fB;rw[Int.fdiv_eq_ediv_of_dvd (pC t b)];exact Nat.lt_of_le_of_lt (Int.natAbs_ediv_le_natAbs _ _) h
theorem Bd.sg {n:Nat}{t b:Int}(h:Bd n b)(h0:b≠0):Bd n (sg t b):=by unfold Bd at *;rw[zO];have:=Nat.le_of_dvd (by omega) (Int.natAbs_dvd_natAbs.mpr (Int.gcd_dvd_right t b));simp at this;omega
theorem xS {a b c:Int}(h:b∣a*c)(g:Int.gcd b a=1):b∣c:=by
 have h':b.natAbs∣a.natAbs*c.natAbs:=by rw[<- Int.natAbs_mul];exact Int.natAbs_dvd_natAbs.mpr h
 exact Int.natAbs_dvd_natAbs.mp (Nat.Coprime.dvd_of_dvd_mul_left g h')
theorem qZ {t b t' b':Int}(h:0<b)(h':0<b')(g:Int.gcd t b=1)(g':Int.gcd t' b'=1)(e:t*b'=t'*b):t=t'/\b=b':=by
 have d1:b∣b':=by have:b∣t*b':=⟨t',by rw[e];exact Int.mul_comm _ _⟩;exact xS this (by rw[Int.gcd_comm];exact g)
 have d2:b'∣b:=by have:b'∣t'*b:=⟨t,by rw[<- e];exact Int.mul_comm _ _⟩;exact xS this (by rw[Int.gcd_comm];exact g')
 have e1:b=b':=Int.le_antisymm (Int.le_of_dvd h' d1) (Int.le_of_dvd h d2);subst e1;exact⟨Int.eq_of_mul_eq_mul_right (by omega) e,rfl⟩
theorem den_pos (q:Rat):(0:Int)<(q.den:Int):=by have:=q.den_pos;omega
theorem cA (q:Rat):(q.den:Int)≠0:=by have:=q.den_pos;omega
theorem iR (q:Rat):((q.den:Int):Rat)≠0:=by
 intro h;have:(q.den:Int)=0:=by exact_mod_cast h
 exact cA q this
theorem aHn (q:Rat):(q.num:Rat)/((q.den:Int):Rat)=q:=by have h:=Rat.num_divInt_den q;rw[Rat.divInt_eq_div] at h;exact h
theorem dH (q:Rat):(q.num:Rat)=q*((q.den:Int):Rat):=by have h:=aHn q;have h2:=iR q;grind
theorem aDB {t b:Int}(h:b≠0):fT t b=((t:Rat)/(b:Rat)).num/\fB t b=((((t:Rat)/(b:Rat)).den:Nat):Int):=by
 have hb:(b:Rat)≠0:=by exact_mod_cast h
 refine qZ (aI6 h) (den_pos _) (aOh h) ?_ ?_
 ·have:=((t:Rat)/(b:Rat)).reduced;unfold Nat.Coprime at this;rw[<- this];rfl
 ·have e1:=aLp (t:=t) h;have e2:=dH ((t:Rat)/(b:Rat));have e3:((fT t b:Int):Rat)*b=(fB t b:Int)*(t:Rat):=by rw[<- Rat.intCast_mul,<- Rat.intCast_mul,e1]
  have e4:((fT t b:Int):Rat)*((((t:Rat)/(b:Rat)).den:Int):Rat)=((((t:Rat)/(b:Rat)).num:Int):Rat)*(fB t b:Int):=by rw[e2];grind
  rw[<- Rat.intCast_mul,<- Rat.intCast_mul] at e4;exact Rat.intCast_inj.mp e4
def BQ (n:Nat)(q:Rat):Prop:=Bd n q.num/\Bd n (q.den:Int)
theorem BQ.mono {m n:Nat}{q:Rat}(h:BQ m q)(l:m<=n):BQ n q:=⟨h.1.mono l,h.2.mono l⟩
theorem BQ.make {n:Nat}{t b:Int}(h:b≠0)(h1:Bd n t)(h2:Bd n b):BQ n ((t:Rat)/(b:Rat)):=by obtain⟨e1,e2⟩:=aDB (t:=t) h;exact⟨e1 ▸ h1.fT,e2 ▸ h2.fB⟩
theorem aMH (p q:Rat):(((p.num*q.den+q.num*p.den:Int)):Rat)/((p.den*q.den:Int):Rat)=p+q:=by have h1:=iR p;have h2:=iR q;have e1:=dH p;have e2:=dH q;rw[Rat.intCast_add,Rat.intCast_mul,Rat.intCast_mul,Rat.intCast_mul,e1,e2];grind
theorem aNh (p q:Rat):(((p.num*q.den-q.num*p.den:Int)):Rat)/((p.den*q.den:Int):Rat)=p-q:=by have h1:=iR p;have h2:=iR q;have e1:=dH p;have e2:=dH q;rw[Rat.intCast_sub,Rat.intCast_mul,Rat.intCast_mul,Rat.intCast_mul,e1,e2];grind
theorem aMP (p q:Rat):(((p.num*q.num:Int)):Rat)/((p.den*q.den:Int):Rat)=p*q:=by have h1:=iR p;have h2:=iR q;have e1:=dH p;have e2:=dH q;rw[Rat.intCast_mul,Rat.intCast_mul,e1,e2];grind
theorem aNZ (p q:Rat)(h:q≠0):(((p.num*q.den:Int)):Rat)/((p.den*q.num:Int):Rat)=p/q:=by have h1:=iR p;have h2:=iR q;have e1:=dH p;have e2:=dH q;rw[Rat.intCast_mul,Rat.intCast_mul,e1,e2];grind
theorem BQ.add {m n:Nat}{p q:Rat}(h:BQ m p)(h2:BQ n q):BQ (m+n+1) (p+q):=by rw[<- aMH];exact .make (Int.mul_ne_zero (cA p) (cA q)) ((h.1.mul h2.2).add ((h2.1.mul h.2).mono (by omega))) ((h.2.mul h2.2).mono (by omega))
theorem BQ.sub {m n:Nat}{p q:Rat}(h:BQ m p)(h2:BQ n q):BQ (m+n+1) (p-q):=by rw[<- aNh];exact .make (Int.mul_ne_zero (cA p) (cA q)) ((h.1.mul h2.2).sub ((h2.1.mul h.2).mono (by omega))) ((h.2.mul h2.2).mono (by omega))
theorem BQ.mul {m n:Nat}{p q:Rat}(h:BQ m p)(h2:BQ n q):BQ (m+n) (p*q):=by rw[<- aMP];exact .make (Int.mul_ne_zero (cA p) (cA q)) (h.1.mul h2.1) (h.2.mul h2.2)
theorem kE {q:Rat}:q.num=0↔q=0:=Rat.num_eq_zero
theorem BQ.div {m n:Nat}{p q:Rat}(h:BQ m p)(h2:BQ n q)(h0:q≠0):BQ (m+n) (p/q):=by rw[<- aNZ p q h0];exact .make (Int.mul_ne_zero (cA p) (λz=>h0 (kE.mp z))) (h.1.mul h2.2) (h.2.mul h2.1)
theorem BQ.neg {m:Nat}{p:Rat}(h:BQ m p):BQ m (-p):=⟨by rw[Rat.neg_num];exact h.1.neg,by rw[Rat.neg_den];exact h.2⟩
theorem BQ.int {m:Nat}{z:Int}(h:Bd m z)(h0:0<m):BQ m (z:Rat):=⟨by rw[Rat.num_intCast];exact h,by rw[Rat.den_intCast];unfold Bd;exact Nat.one_lt_two_pow (by omega)⟩
theorem ltQ (p q:Rat):(p.num*q.den<q.num*p.den)↔p<q:=(Rat.lt_iff p q).symm
theorem aIt {q:Rat}:0<q.num↔0<q:=by have:=Rat.lt_iff 0 q;simp at this;exact this.symm
theorem pH {q:Rat}:q.num<0↔q<0:=by have:=Rat.lt_iff q 0;simp at this;exact this.symm
theorem aDf {t b:Int}{q:Rat}(hb:0<b)(hg:Int.gcd t b=1)(e:(t:Rat)=q*(b:Rat)):t=q.num/\b=(q.den:Int):=by
 refine qZ hb (den_pos q) hg ?_ ?_
 ·have:=q.reduced;unfold Nat.Coprime at this;rw[<- this];rfl
 ·have e2:=dH q;have:((t*(q.den:Int):Int):Rat)=((q.num*b:Int):Rat):=by rw[Rat.intCast_mul,Rat.intCast_mul,e,e2];grind
  exact Rat.intCast_inj.mp this
theorem mK {a b c:Int}(h:Int.gcd a b=1)(h2:Int.gcd a c=1):Int.gcd a (b*c)=1:=by unfold Int.gcd at *;rw[Int.natAbs_mul];exact Nat.Coprime.mul_right h h2
theorem dO {a b:Int}(h:Int.gcd a b=1):Int.gcd b a=1:=by rw[Int.gcd_comm];exact h
theorem kL {a a' b:Int}(h:a∣a')(h2:Int.gcd a' b=1):Int.gcd a b=1:=by unfold Int.gcd at *;exact Nat.Coprime.coprime_dvd_left (Int.natAbs_dvd_natAbs.mpr h) h2
theorem red (q:Rat):Int.gcd q.num (q.den:Int)=1:=by have:=q.reduced;unfold Nat.Coprime at this;rw[<- this];rfl
theorem qS {x y:Int}(h:y≠0):∃a b:Int,x=(Int.gcd x y:Int)*a/\y=(Int.gcd x y:Int)*b/\Int.gcd a b=1/\x.fdiv (Int.gcd x y:Int)=a/\y.fdiv (Int.gcd x y:Int)=b:=by
 have hp:0<Int.gcd x y:=kO h;obtain⟨a,ha⟩:=Int.gcd_dvd_left x y;obtain⟨b,hb⟩:=Int.gcd_dvd_right x y;have e1:x.fdiv (Int.gcd x y:Int)=a:=by rw[Int.fdiv_eq_ediv_of_dvd (Int.gcd_dvd_left x y)];exact Int.ediv_eq_of_eq_mul_right (by omega) ha
 have e2:y.fdiv (Int.gcd x y:Int)=b:=by rw[Int.fdiv_eq_ediv_of_dvd (Int.gcd_dvd_right x y)];exact Int.ediv_eq_of_eq_mul_right (by omega) hb
 refine⟨a,b,ha,hb,?_,e1,e2⟩;rw[<- e1,<- e2,Int.fdiv_eq_ediv_of_dvd (Int.gcd_dvd_left x y),Int.fdiv_eq_ediv_of_dvd (Int.gcd_dvd_right x y),Int.gcd_ediv (Int.gcd_dvd_left x y) (Int.gcd_dvd_right x y)];simp;exact Nat.div_self hp
theorem aNX (p q:Rat):∀g a t l:Int,g=(Int.gcd p.den q.den:Int)->a=(p.den:Int).fdiv g->t=p.num*(q.den:Int).fdiv g+q.num*a->l=(Int.gcd t g:Int) ->
  g≠0/\l≠0/\g∣(p.den:Int)/\l∣g/\t.fdiv l=(p+q).num/\a*(q.den:Int).fdiv l=((p+q).den:Int):=by
 intro g a t l hg ha ht hl;have d1:=den_pos p;have d2:=den_pos q;obtain⟨a',b,e1,e2,cab,f1,f2⟩:=qS (x:=p.den) (y:=q.den) (cA q);rw[<- hg] at e1 e2 f1 f2;rw[f1] at ha;subst ha;rw[f2] at ht;have g0:0<g:=by have:=kO (t:=(p.den:Int)) (cA q);omega
 have a0:0<a:=by
  rcases Int.lt_trichotomy a 0 with z|z|z
  ·have:=Int.mul_neg_of_pos_of_neg g0 z;omega
  ·subst z;omega
  ·exact z
 have b0:0<b:=by
  rcases Int.lt_trichotomy b 0 with z|z|z
  ·have:=Int.mul_neg_of_pos_of_neg g0 z;omega
  ·subst z;omega
  ·exact z
 obtain⟨t',g',e3,e4,ctg,f3,f4⟩:=qS (x:=t) (y:=g) (by omega);rw[<- hl] at e3 e4 f3 f4;have l0:0<l:=by have:=kO (t:=t) (b:=g) (by omega);omega
 have g'0:0<g':=by
  rcases Int.lt_trichotomy g' 0 with z|z|z
  ·have:=Int.mul_neg_of_pos_of_neg l0 z;omega
  ·subst z;omega
  ·exact z
 have f5:(q.den:Int).fdiv l=g'*b:=by
  have e:(q.den:Int)=l*(g'*b):=by rw[e2,e4];grind
  rw[Int.fdiv_eq_ediv_of_dvd ⟨_,e⟩];exact Int.ediv_eq_of_eq_mul_right (by omega) e
 refine⟨by omega,by omega,⟨a,e1⟩,⟨g',e4⟩,?_⟩;rw[f3,f5];have ca:Int.gcd t a=1:=by have c1:Int.gcd p.num a=1:=dO (kL ⟨g,by rw[e1];grind⟩ (dO (red p)));have:Int.gcd a (p.num*b)=1:=mK (dO c1) cab;rw[ht,Int.gcd_comm,Int.gcd_add_mul_right_right];exact this
 have cb:Int.gcd t b=1:=by have c1:Int.gcd q.num b=1:=dO (kL ⟨g,by rw[e2];grind⟩ (dO (red q)));have:Int.gcd b (q.num*a)=1:=mK (dO c1) (dO cab);rw[ht,Int.gcd_comm,Int.add_comm,Int.gcd_add_mul_right_right];exact this
 have hd:t'∣t:=⟨l,by rw[e3];grind⟩;refine aDf (q:=p+q) (Int.mul_pos a0 (Int.mul_pos g'0 b0)) (mK (kL hd ca) (mK ctg (kL hd cb))) ?_;have n1:=dH p;have n2:=dH q;have r1:=iR p;have r2:=iR q;have k1:((p.den:Int):Rat)=(l:Rat)*g'*a:=by rw[e1,e4,Rat.intCast_mul,Rat.intCast_mul]
 have k2:((q.den:Int):Rat)=(l:Rat)*g'*b:=by rw[e2,e4,Rat.intCast_mul,Rat.intCast_mul]
 have k3:(l:Rat)*t'=(p.num:Rat)*b+(q.num:Rat)*a:=by rw[<- Rat.intCast_mul,<- e3,ht,Rat.intCast_add,Rat.intCast_mul,Rat.intCast_mul]
 have k4:(l:Rat)≠0:=λz=>by
                     have:l=0:=by exact_mod_cast z
                     omega
 rw[n1,n2,k1,k2] at k3;rw[Rat.intCast_mul,Rat.intCast_mul];have:(l:Rat)*(t':Rat)=l*((p+q)*((a:Rat)*(g'*b))):=by rw[k3];grind
 grind
theorem aN3 (p q:Rat):∀f r:Int,f=(Int.gcd p.num q.den:Int)->r=(Int.gcd q.num p.den:Int) ->
  f≠0/\r≠0/\f∣(q.den:Int)/\r∣(p.den:Int)/\p.num.fdiv f*q.num.fdiv r=(p*q).num/\(p.den:Int).fdiv r*(q.den:Int).fdiv f=((p*q).den:Int):=by
 intro f r hf hr;have d1:=den_pos p;have d2:=den_pos q;obtain⟨x,v,e1,e2,c1,f1,f2⟩:=qS (x:=p.num) (y:=q.den) (cA q);obtain⟨y,u,e3,e4,c2,f3,f4⟩:=qS (x:=q.num) (y:=p.den) (cA p);rw[<- hf] at e1 e2 f1 f2;rw[<- hr] at e3 e4 f3 f4;have f0:0<f:=by have:=kO (t:=p.num) (cA q);omega
 have r0:0<r:=by have:=kO (t:=q.num) (cA p);omega
 have v0:0<v:=by
  rcases Int.lt_trichotomy v 0 with z|z|z
  ·have:=Int.mul_neg_of_pos_of_neg f0 z;omega
  ·subst z;omega
  ·exact z
 have u0:0<u:=by
  rcases Int.lt_trichotomy u 0 with z|z|z
  ·have:=Int.mul_neg_of_pos_of_neg r0 z;omega
  ·subst z;omega
  ·exact z
 refine⟨by omega,by omega,⟨v,e2⟩,⟨u,e4⟩,?_⟩;rw[f1,f2,f3,f4];have cxu:Int.gcd x u=1:=kL ⟨f,by rw[e1];grind⟩ (dO (kL ⟨r,by rw[e4];grind⟩ (dO (red p))));have cyv:Int.gcd y v=1:=kL ⟨r,by rw[e3];grind⟩ (dO (kL ⟨f,by rw[e2];grind⟩ (dO (red q))));refine aDf (q:=p*q) (Int.mul_pos u0 v0) ?_ ?_
 ·exact dO (mK (dO (mK cxu c1)) (dO (mK c2 cyv)))
 have n1:=dH p;have n2:=dH q;have r1:=iR p;have r2:=iR q;have k1:((p.den:Int):Rat)=(r:Rat)*u:=by rw[e4,Rat.intCast_mul]
 have k2:((q.den:Int):Rat)=(f:Rat)*v:=by rw[e2,Rat.intCast_mul]
 have k3:(p.num:Rat)=(f:Rat)*x:=by rw[e1,Rat.intCast_mul]
 have k4:(q.num:Rat)=(r:Rat)*y:=by rw[e3,Rat.intCast_mul]
 have k5:(f:Rat)≠0:=λz=>by
                     have:f=0:=by exact_mod_cast z
                     omega
 have k6:(r:Rat)≠0:=λz=>by
                     have:r=0:=by exact_mod_cast z
                     omega
 rw[Rat.intCast_mul,Rat.intCast_mul];have:(f:Rat)*r*((x:Rat)*y)=f*r*((p*q)*((u:Rat)*v)):=by
  have z1:(f:Rat)*x=p*(r*u):=by rw[<- k3,<- k1];exact n1
  have z2:(r:Rat)*y=q*(f*v):=by rw[<- k4,<- k2];exact n2
  grind
 grind
theorem aNy {q:Rat}(h:0<q):(q.den:Int)=(1/q).num/\q.num=((1/q).den:Int):=by refine aDf (q:=1/q) (aIt.mpr h) (dO (red q)) ?_;have:=dH q;have r:=iR q;grind
theorem aN8 {q:Rat}(h:q<0):-(q.den:Int)=(1/q).num/\-q.num=((1/q).den:Int):=by have h':=pH.mpr h;refine aDf (q:=1/q) (by omega) (by rw[Int.gcd_neg,Int.neg_gcd];exact dO (red q)) ?_;have:=dH q;have r:=iR q;rw[Rat.intCast_neg,Rat.intCast_neg];grind
theorem Bd.dvd {n:Nat}{x y:Int}(h:Bd n y)(d:x∣y)(h0:y≠0):Bd n x:=by unfold Bd at *;have:=Nat.le_of_dvd (by omega) (Int.natAbs_dvd_natAbs.mpr d);omega
theorem Bd.fdiv {n:Nat}{x y:Int}(h:Bd n x)(d:y∣x):Bd n (x.fdiv y):=by unfold Bd at *;rw[Int.fdiv_eq_ediv_of_dvd d];exact Nat.lt_of_le_of_lt (Int.natAbs_ediv_le_natAbs _ _) h
noncomputable def sgn (q:Rat):Int:=if 0<q then 1 else if q<0 then -1 else 0
noncomputable def bD (ax ay bx by' px py:Rat):Rat:=(bx-ax)*(py-ay)-(by'-ay)*(px-ax)
theorem sG {z F:Rat}(hF:0<F):sgn (z*F)=sgn z:=by
 unfold sgn;rcases (show z<0∨z=0∨0<z by grind) with c|c|c
 ·have:=Rat.mul_pos (show 0 < -z by grind) hF;rw[if_neg (by grind),if_pos (by grind),if_neg (by grind),if_pos c]
 ·subst c;rw[if_neg (by grind),if_neg (by grind),if_neg (by grind),if_neg (by grind)]
 ·have:=Rat.mul_pos c hF;rw[if_pos this,if_pos c]
noncomputable def uu (t:Rat):Rat:=(1-t*t)/(1+t*t)
noncomputable def vv (t:Rat):Rat:=(t+t)/(1+t*t)
noncomputable def cJ (t x y:Rat):Rat:=uu t*x-vv t*y
noncomputable def cI (t x y:Rat):Rat:=vv t*x+uu t*y
theorem qA (t:Rat):0<=t*t:=by
 rcases (show t<0∨t=0∨0<t by grind) with c|c|c
 ·have:=Rat.mul_pos (show 0 < -t by grind) (show 0 < -t by grind);grind
 ·subst c;grind
 ·have:=Rat.mul_pos c c;grind
theorem dZ (t:Rat):1+t*t≠0:=by have:=qA t;grind
theorem aFU {x y:Rat}(h:¬(x=0/\y=0)):x*x+y*y≠0:=by
 have h1:=qA x;have h2:=qA y;intro z;have e1:x*x=0:=by grind
 have e2:y*y=0:=by grind
 exact h ⟨by grind,by grind⟩
theorem uv1 (t:Rat):1+uu t=2/(1+t*t):=by have:=dZ t;unfold uu;grind
theorem aMB (t:Rat):uu t*uu t+vv t*vv t=1:=by have:=dZ t;unfold uu vv;grind
theorem xC {t x y:Rat}(h:¬(x=0/\y=0)):x*x+y*y+(x*cJ t x y+y*cI t x y)≠0/\(x*cI t x y-y*cJ t x y)/(x*x+y*y+(x*cJ t x y+y*cI t x y))=t:=by
 have h1:=dZ t;have h2:=aFU h;have e1:x*x+y*y+(x*cJ t x y+y*cI t x y)=(x*x+y*y)*(2/(1+t*t)):=by rw[<- uv1];unfold cJ cI;grind
 have e2:x*cI t x y-y*cJ t x y=(x*x+y*y)*((t+t)/(1+t*t)):=by unfold cJ cI vv;grind
 rw[e1,e2];constructor
 ·intro z;have:(2:Rat)/(1+t*t)≠0:=by grind
  grind
 ·grind
noncomputable def SS (x y p q:Rat):Rat:=x*x+y*y+(x*p+y*q)
noncomputable def LL (x y p q:Rat):Rat:=x*q-y*p
theorem sq0 {a:Rat}(h:a*a=0):a=0:=by grind
theorem aNO {a b:Rat}(h:a*a+b*b=0):a=0/\b=0:=by have h1:=qA a;have h2:=qA b;exact⟨sq0 (by grind),sq0 (by grind)⟩
theorem aBg {x y:Rat}(h0:¬(x=0/\y=0)):0<x*x+y*y:=by have h1:=qA x;have h2:=qA y;have h3:=aFU h0;grind
theorem aDU {x y p q:Rat}(h0:¬(x=0/\y=0))(hc:p*p+q*q=x*x+y*y) :
  (SS x y p q=0/\p = -x/\q = -y)∨(SS x y p q≠0/\∃t,LL x y p q/SS x y p q=t/\p=cJ t x y/\q=cI t x y):=by
 by_cases hS:SS x y p q=0
 ·left;have e:(x+p)*(x+p)+(y+q)*(y+q)=0:=by unfold SS at hS;grind
  obtain⟨a,b⟩:=aNO e;exact⟨hS,by grind,by grind⟩
 ·right;refine⟨hS,_,rfl,?_⟩;have hN:=aBg h0;have hN':x*x+y*y≠0:=by grind
  generalize ht:LL x y p q/SS x y p q=t;have e1:LL x y p q=t*SS x y p q:=by grind
  have h1:=dZ t;have key:SS x y p q*SS x y p q*(1+t*t)=2*(x*x+y*y)*SS x y p q:=by
   have:SS x y p q*SS x y p q*(1+t*t)=SS x y p q*SS x y p q+LL x y p q*LL x y p q:=by rw[e1];grind
   rw[this];unfold SS LL;grind
  have k2:SS x y p q*(1+t*t)=2*(x*x+y*y):=by grind
  have k3:(x*x+y*y)*uu t=x*p+y*q:=by
   have a1:uu t*(1+t*t)=1-t*t:=by unfold uu;grind
   have a2:(x*x+y*y)*uu t*(1+t*t)=(x*p+y*q)*(1+t*t):=by
    have:x*p+y*q=SS x y p q-(x*x+y*y):=by unfold SS;grind
    grind
   grind
  have k4:(x*x+y*y)*vv t=LL x y p q:=by
   have a1:vv t*(1+t*t)=t+t:=by unfold vv;grind
   have a2:(x*x+y*y)*vv t*(1+t*t)=LL x y p q*(1+t*t):=by rw[e1];grind
   grind
  unfold cJ cI LL at *;constructor
  ·have:(x*x+y*y)*p=(x*x+y*y)*(uu t*x-vv t*y):=by grind
   grind
  ·have:(x*x+y*y)*q=(x*x+y*y)*(vv t*x+uu t*y):=by grind
   grind
theorem aKs (t x y:Rat):cJ t x y*cJ t x y+cI t x y*cI t x y=x*x+y*y:=by have:=aMB t;unfold cJ cI;grind
noncomputable def plK (x y p q:Rat):Int:=if SS x y p q=0 then 1 else if LL x y p q<0 then 2 else 0
noncomputable def plZ (x y p q:Rat):Rat:=if SS x y p q=0 then 0 else LL x y p q/SS x y p q
noncomputable def aKE (k1:Int)(z1:Rat)(k2:Int)(z2:Rat):Bool:=if k1=k2 then decide (z1<z2) else decide (k1<k2)
noncomputable def gP (x y p q u v:Rat):Bool:=if p=x/\q=y then !decide (u=x/\v=y) else decide (sgn (bD x y p q u v)=1)
theorem aGM (t x y:Rat):LL x y (cJ t x y) (cI t x y)=(x*x+y*y)*vv t:=by unfold LL cJ cI;grind
theorem aCk {t:Rat}:vv t<0↔t<0:=by
 have h1:=qA t;have h2:0<1+t*t:=by grind
 have e:vv t*(1+t*t)=t+t:=by unfold vv;grind
 constructor
 ·intro h;have:=Rat.mul_pos (show 0 < -vv t by grind) h2;grind
 ·intro h;rcases (show vv t<0∨vv t=0∨0<vv t by grind) with c|c|c
  ·exact c
  ·rw[c] at e;grind
  ·have:=Rat.mul_pos c h2;grind
theorem kH {t x y:Rat}(h0:¬(x=0/\y=0)):plK x y (cJ t x y) (cI t x y)=(if t<0 then 2 else 0)/\plZ x y (cJ t x y) (cI t x y)=t:=by
 obtain⟨a,b⟩:=xC (t:=t) h0;have a':SS x y (cJ t x y) (cI t x y)≠0:=a;have b':LL x y (cJ t x y) (cI t x y)/SS x y (cJ t x y) (cI t x y)=t:=b;unfold plK plZ;rw[if_neg a',if_neg a',b'];refine⟨?_,rfl⟩;have hN:=aBg h0;have:LL x y (cJ t x y) (cI t x y)<0↔t<0:=by
  rw[aGM,<- aCk (t:=t)];constructor
  ·intro h;rcases (show vv t<0∨vv t=0∨0<vv t by grind) with c|c|c
   ·exact c
   ·rw[c] at h;grind
   ·have:=Rat.mul_pos hN c;grind
  ·intro h;have:=Rat.mul_pos hN (show 0 < -vv t by grind);grind
 by_cases c:t<0
 ·rw[if_pos c,if_pos (this.mpr c)]
 ·rw[if_neg c,if_neg (λz=>c (this.mp z))]
theorem lD {x y:Rat}:plK x y (-x) (-y)=1/\plZ x y (-x) (-y)=0:=by
 have:SS x y (-x) (-y)=0:=by unfold SS;grind
 unfold plK plZ;rw[if_pos this,if_pos this];exact⟨rfl,rfl⟩
theorem aCZ {t x y:Rat}(h0:¬(x=0/\y=0)):(cJ t x y=x/\cI t x y=y)↔t=0:=by
 constructor
 ·intro ⟨a,b⟩;have e:=aGM t x y;rw[a,b] at e;have hN:=aBg h0;have hz:(x*x+y*y)*vv t=0:=by rw[<- e];unfold LL;grind
  have:vv t=0:=by
   rcases Rat.mul_eq_zero.mp hz with z|z
   ·grind
   ·exact z
  have h1:=dZ t;unfold vv at this;grind
 ·rintro rfl;have e1:uu 0=1:=by unfold uu;grind
  have e2:vv 0=0:=by unfold vv;grind
  unfold cJ cI;rw[e1,e2];constructor<;>grind
theorem aCX (t r x y:Rat):bD x y (cJ t x y) (cI t x y) (cJ r x y) (cI r x y)*((1+t*t)*(1+r*r))=(t*r*(r-t))*(4*(x*x+y*y)):=by
 have a1:uu t*(1+t*t)=1-t*t:=by have:=dZ t;unfold uu;grind
 have a2:vv t*(1+t*t)=t+t:=by have:=dZ t;unfold vv;grind
 have b1:uu r*(1+r*r)=1-r*r:=by have:=dZ r;unfold uu;grind
 have b2:vv r*(1+r*r)=r+r:=by have:=dZ r;unfold vv;grind
 have e:bD x y (cJ t x y) (cI t x y) (cJ r x y) (cI r x y)=(x*x+y*y)*((uu t-1)*vv r-vv t*(uu r-1)):=by unfold bD cJ cI;grind
 rw[e];have c1:(uu t-1)*(1+t*t) = -(2*(t*t)):=by grind
 have c2:(uu r-1)*(1+r*r) = -(2*(r*r)):=by grind
 have:((uu t-1)*vv r-vv t*(uu r-1))*((1+t*t)*(1+r*r))=((uu t-1)*(1+t*t))*(vv r*(1+r*r))-(vv t*(1+t*t))*((uu r-1)*(1+r*r)):=by grind
 have:((uu t-1)*vv r-vv t*(uu r-1))*((1+t*t)*(1+r*r))=4*(t*r*(r-t)):=by rw[this,c1,c2,a2,b2];grind
 grind
theorem aIg {t r x y:Rat}(h0:¬(x=0/\y=0)):sgn (bD x y (cJ t x y) (cI t x y) (cJ r x y) (cI r x y))=sgn (t*r*(r-t)):=by have h1:=qA t;have h2:=qA r;rw[<- sG (z:=bD x y (cJ t x y) (cI t x y) (cJ r x y) (cI r x y)) (F:=(1+t*t)*(1+r*r)) (Rat.mul_pos (by grind) (by grind)),aCX,sG];have:=aBg h0;grind
theorem tE {z:Rat}:sgn z=1↔0<z:=by
 unfold sgn;constructor
 ·intro h;by_cases c:0<z
  ·exact c
  ·rw[if_neg c] at h;split at h<;>cases h
 ·intro h;rw[if_pos h]
theorem aFI {x y p q u v:Rat}(h0:¬(x=0/\y=0))(hc:p*p+q*q=x*x+y*y)(hd:u*u+v*v=x*x+y*y) :
  gP x y p q u v=aKE (plK x y p q) (plZ x y p q) (plK x y u v) (plZ x y u v):=by
 have hN:=aBg h0;unfold gP aKE;rcases aDU h0 hc with⟨_,rfl,rfl⟩|⟨_,t,_,rfl,rfl⟩
 ·rw[(lD (x:=x) (y:=y)).1,(lD (x:=x) (y:=y)).2,if_neg (by intro ⟨a,b⟩;exact h0 ⟨by grind,by grind⟩)];rcases aDU h0 hd with⟨_,rfl,rfl⟩|⟨_,r,_,rfl,rfl⟩
  ·rw[(lD (x:=x) (y:=y)).1,(lD (x:=x) (y:=y)).2,if_pos rfl];have:bD x y (-x) (-y) (-x) (-y)=0:=by unfold bD;grind
   rw[this];decide
  ·rw[(kH (t:=r) h0).1,(kH (t:=r) h0).2];have e:bD x y (-x) (-y) (cJ r x y) (cI r x y) = -vv r*(2*(x*x+y*y)):=by unfold bD cJ cI;grind
   have k:sgn (bD x y (-x) (-y) (cJ r x y) (cI r x y))=1↔r<0:=by rw[e,sG (by grind),tE,<- aCk (t:=r)];constructor<;>intro z<;>grind
   rw[decide_eq_decide.mpr k];by_cases c:r<0
   ·rw[if_pos c,decide_eq_true c];rfl
   ·rw[if_neg c,decide_eq_false c];rfl
 ·rw[(kH (t:=t) h0).1,(kH (t:=t) h0).2];have idt:=aCZ (t:=t) h0;rcases aDU h0 hd with⟨_,rfl,rfl⟩|⟨_,r,_,rfl,rfl⟩
  ·rw[(lD (x:=x) (y:=y)).1,(lD (x:=x) (y:=y)).2];have ne:¬(-x=x/\-y=y):=λ⟨a,b⟩=>h0 ⟨by grind,by grind⟩;rw[decide_eq_false ne];have e:bD x y (cJ t x y) (cI t x y) (-x) (-y)=vv t*(2*(x*x+y*y)):=by unfold bD cJ cI;grind
   have k:sgn (bD x y (cJ t x y) (cI t x y) (-x) (-y))=1↔0<vv t:=by rw[e,sG (by grind),tE]
   have k0:vv t=0↔t=0:=by have h1:=dZ t;unfold vv;constructor<;>intro z<;>grind
   have kn:=aCk (t:=t);rw[decide_eq_decide.mpr k];by_cases c:t=0
   ·rw[if_pos (idt.mpr c),if_neg (by grind)];subst c;rfl
   ·rw[if_neg (λz=>c (idt.mp z))];by_cases c2:t<0
    ·rw[if_pos c2,decide_eq_false (by have:=kn.mpr c2;grind)];rfl
    ·rw[if_neg c2,decide_eq_true (by grind)];rfl
  ·rw[(kH (t:=r) h0).1,(kH (t:=r) h0).2];have idr:=aCZ (t:=r) h0;have e1:decide (sgn (bD x y (cJ t x y) (cI t x y) (cJ r x y) (cI r x y))=1)=decide (0<t*r*(r-t)):=decide_eq_decide.mpr (by rw[aIg h0,tE]);have e2:decide (cJ r x y=x/\cI r x y=y)=decide (r=0):=decide_eq_decide.mpr idr;rw[e1,e2];have m1:∀{a b:Rat},0<a->0<b->0<a*b:=λh1 h2=>Rat.mul_pos h1 h2;by_cases c:t=0
   ·rw[if_pos (idt.mpr c)];subst c;rw[if_neg (show ¬((0:Rat)<0) by grind)];by_cases c2:r<0
    ·rw[if_pos c2,if_neg (by decide),decide_eq_false (by grind)];rfl
    ·rw[if_neg c2,if_pos rfl];by_cases c3:r=0
     ·subst c3;rfl
     ·rw[decide_eq_false c3,decide_eq_true (by grind)];rfl
   ·rw[if_neg (λz=>c (idt.mp z))];by_cases c1:t<0
    ·rw[if_pos c1];by_cases c2:r<0
     ·rw[if_pos c2,if_pos rfl];have h1:=m1 (show 0 < -t by grind) (show 0 < -r by grind);rw[decide_eq_decide];constructor
      ·intro h;rcases (show r-t<0∨r-t=0∨0<r-t by grind) with z|z|z
       ·have:=m1 h1 (show 0 < -(r-t) by grind);grind
       ·rw[z] at h;grind
       ·grind
      ·intro h;have:=m1 h1 (show 0<r-t by grind);grind
     ·rw[if_neg c2,if_neg (by decide)];refine(decide_eq_false ?_).trans rfl;intro h;by_cases c3:r=0
      ·subst c3;grind
      ·have:=m1 (m1 (show 0 < -t by grind) (show 0<r by grind)) (show 0<r-t by grind);grind
    ·rw[if_neg c1];by_cases c2:r<0
     ·rw[if_pos c2,if_neg (by decide)];refine(decide_eq_true ?_).trans rfl;have:=m1 (m1 (show 0<t by grind) (show 0 < -r by grind)) (show 0<t-r by grind);grind
     ·rw[if_neg c2,if_pos rfl];by_cases c3:r=0
      ·subst c3;rw[decide_eq_false (by grind),decide_eq_false (by grind)]
      ·have h1:=m1 (show 0<t by grind) (show 0<r by grind);rw[decide_eq_decide];constructor
       ·intro h;rcases (show r-t<0∨r-t=0∨0<r-t by grind) with z|z|z
        ·have:=m1 h1 (show 0 < -(r-t) by grind);grind
        ·rw[z] at h;grind
        ·grind
       ·intro h;have:=m1 h1 (show 0<r-t by grind);grind
noncomputable def tb (t h u:Int):Int:=(t+h*u).fmod 4
end Mz
namespace Dd
open PySem PySem.Spec PyProof.Rows L2 Mz
noncomputable def FQ (q:Rat):D:=.tup [.int q.num,.int (q.den:Int)]
theorem aH4 {t b:Int}(h:b≠0):(D.tup [.int (fT t b),.int (fB t b)])=FQ ((t:Rat)/(b:Rat)):=by obtain⟨e1,e2⟩:=aDB (t:=t) h;rw[e1,e2];rfl
def eP:DSp:=λds M Q=>∃a b,ds=[.int a,.int b]/\Q (.int (Int.gcd a b:Int)) M
def tV (g:Rat->Rat->D)(C:Rat->Prop:=λ_=>True):DSp:=λds M Q=>∃p q m n,ds=[FQ p,FQ q]/\C q/\BQ m p/\BQ n q/\m+n<=8998/\Q (g p q) M
def kW:DSp:=tV λp q=>FQ (p+q)
def mB:DSp:=tV λp q=>FQ (p-q)
def jK:DSp:=tV λp q=>FQ (p*q)
def aAU:DSp:=tV (λp q=>FQ (p/q)) λq=>q≠0
def wR:DSp:=tV λp q=>.bl (decide (p<q))
theorem qO {g:Rat->Rat->D}{C:Rat->Prop}(ds:List D)(M:DM)(Q:DQ)(h:tV g C ds M Q):ds.length=2:=by obtain⟨a,b,m,n,rfl,_⟩:=h;rfl
theorem aBc {n:Nat}{x y z:Int}(h:Bd n y)(l:n<=9000)(d:z∣y)(h0:y≠0)(hz:z≠0):CFd x z:=⟨hz,by
 rcases Nat.eq_zero_or_pos n with e|e
 ·subst e;have:y.natAbs<1:=h;omega
 ·exact Nat.lt_of_lt_of_le ((h.dvd d h0).log e) l⟩
theorem aHb (q:Rat):(D.tup [.int (-q.num),.int (q.den:Int)])=FQ (-q):=by unfold FQ;rw[Rat.neg_num,Rat.neg_den]
noncomputable def PQ (x y:Rat):D:=.tup [FQ x,FQ y]
def uR:DSp:=λds M Q=>∃x y u v,ds=[PQ x y,PQ u v]/\BQ 4400 x/\BQ 4400 y/\BQ 4400 u/\BQ 4400 v/\Q (PQ (x-u) (y-v)) M
def kU:DSp:=λds M Q=>∃x y u v,ds=[PQ x y,PQ u v]/\BQ 4400 x/\BQ 4400 y/\BQ 4400 u/\BQ 4400 v/\Q (PQ (x+u) (y+v)) M
def mE:DSp:=λds M Q=>∃x y u v,ds=[PQ x y,PQ u v]/\∃m n,BQ m x/\BQ m y/\BQ n u/\BQ n v/\m+n<=4400/\Q (FQ (x*v-y*u)) M
def jY:DSp:=λds M Q=>∃x y u v,ds=[PQ x y,PQ u v]/\∃m n,BQ m x/\BQ m y/\BQ n u/\BQ n v/\m+n<=4400/\Q (FQ (x*u+y*v)) M
theorem xJ (p q:Rat):eqD (FQ p) (FQ q)=decide (p=q):=by
 show(p.num==q.num&&((p.den:Int)==(q.den:Int)&&true))=decide (p=q);by_cases h:p=q
 ·subst h;simp
 ·rw[decide_eq_false h];by_cases h1:p.num=q.num
  ·have h2:¬((p.den:Int)=(q.den:Int)):=λz=>h (Rat.ext h1 (by exact_mod_cast z));simp[h1,h2]
  ·simp[h1]
theorem aFR (x y u v:Rat):eqD (PQ x y) (PQ u v)=(decide (x=u)&&decide (y=v)):=by show(eqD (FQ x) (FQ u)&&(eqD (FQ y) (FQ v)&&true))=_;rw[xJ,xJ,Bool.and_true]
def gH:DSp:=λds M Q=>∃x y,ds=[PQ x y]/\BQ 900 x/\BQ 900 y/\∀X Y d:Int,0<d->(X:Rat)=x*(d:Rat)->(Y:Rat)=y*(d:Rat)->Bd 1800 X->Bd 1800 Y->Bd 1800 d->Q (.tup [.int X,.int Y,.int d]) M
def vP:DSp:=λds M Q=>∃z:Int,ds=[.int z]/\Q (.int (sgn (z:Rat))) M
theorem aJx {d:Int}(h:0<d):(0:Rat)<(d:Rat):=by exact_mod_cast h
def aAn:DSp:=λds M Q=>∃ax ay bx by' px py,ds=[PQ ax ay,PQ bx by',PQ px py]/\BQ 900 ax/\BQ 900 ay/\BQ 900 bx/\BQ 900 by'/\BQ 900 px/\BQ 900 py/\Q (.int (sgn (bD ax ay bx by' px py))) M
noncomputable def bef (x y u v:Rat):Bool:=if x=u then decide (y<v) else decide (x<u)
def mC:DSp:=λds M Q=>∃x y u v,ds=[PQ x y,PQ u v]/\BQ 4400 x/\BQ 4400 y/\BQ 4400 u/\BQ 4400 v/\Q (.bl (bef x y u v)) M
def FdN (M:DM)(a:Addr)(n:Nat):Prop:=∃(c k f:Int),M a=some [.int c,.int k,.int f]/\0<=k/\k<=n
structure Adv (M M':DM)(a:Addr):Prop where
 l:∀b:Addr,b≠a->M' (.l b)=M (.l b)
 d:∀b:Addr,M' (.d b)=M (.d b)
 o:∀b:Addr,M' (.o b)=M (.o b)
 x:∀b:Addr,M' (.x b)=M (.x b)
instance {M M':DM}{a:Addr}:CoeFun (Adv M M' a) (λ_=>∀b:Addr,b≠a->M' (.l b)=M (.l b)):=⟨Adv.l⟩
theorem Adv.refl (M:DM)(a:Addr):Adv M M a:=⟨λ_ _=>rfl,λ_=>rfl,λ_=>rfl,λ_=>rfl⟩
theorem Adv.trans {M M1 M2:DM}{a:Addr}(h:Adv M M1 a)(h2:Adv M1 M2 a):Adv M M2 a:=⟨λb n=>(h2.l b n).trans (h.l b n),λb=>(h2.d b).trans (h.d b),λb=>(h2.o b).trans (h.o b),λb=>(h2.x b).trans (h.x b)⟩
theorem Adv.ak {M M':DM}{a:Addr}(h:Adv M M' a){b:AK}(n:b≠AK.l a):M' b=M b:=by
 cases b with
 |l b=>exact h.l b λe=>n (congrArg AK.l e)
 |d b=>exact h.d b
 |o b=>exact h.o b
 |x b=>exact h.x b
theorem Adv.of {M M':DM}{a:Addr}(h:∀b:AK,b≠AK.l a->M' b=M b):Adv M M' a:=⟨λb n=>h b λe=>n (AK.l.inj e),λb=>h _ (λe=>nomatch e),λb=>h _ (λe=>nomatch e),λb=>h _ λe=>nomatch e⟩
theorem Adv.put {M:DM}{a:Addr}{ds:List D}:Adv M (bE M a ds) a:=⟨λ_ n=>bV n,λ_=>lL,λ_=>aCw,λ_=>iL⟩
theorem FdN.mono {M:DM}{a:Addr}{m n:Nat}(h:FdN M a m)(l:m<=n):FdN M a n:=by obtain⟨c,k,f,e,h0,h1⟩:=h;exact⟨c,k,f,e,h0,by omega⟩
def uU:DSp:=λds M Q=>∃c,ds=[.int c]/\∀(p:Addr) M',M p=none->FdN M' p 0->Adv M M' p->Q (.ref p) M'
def eG:DSp:=λds M Q=>∃a many n,ds=[.ref a,.int many]/\FdN M a n/\n<=100000/\0<many/\Bd 8999 many/\∀r M',0<=r->r<many->FdN M' a (n+1)->Adv M M' a->Q (.int r) M'
def qB (B c:Nat)(Pd:D->Prop):DSp:=λds M Q=>∃a n,ds=[.ref a]/\FdN M a n/\n<=B/\∀d M',Pd d->FdN M' a (n+c)->Adv M M' a->Q d M'
theorem qL {B c:Nat}{Pd:D->Prop}(ds:List D)(M:DM)(Q:DQ)(h:qB B c Pd ds M Q):ds.length=1:=by obtain⟨a,n,rfl,_⟩:=h;rfl
noncomputable def aDS (M:DM)(p:Addr):DM:=λb=>if b=p then none else M b
theorem zE {M:DM}{p:Addr}:aDS M p p=none:=if_pos rfl
theorem aHY {M:DM}{p b:Addr}(h:b≠p):aDS M p b=M b:=if_neg λe=>h (AK.l.inj e)
theorem aBR {M:DM}{p:Addr}{b:AK}(h:b≠AK.l p):aDS M p b=M b:=if_neg h
theorem aEI (M:DM)(p:Addr):bK (aDS M p) M:=λb o e=>by
 by_cases z:b=p
 ·subst z;rw[zE] at e;cases e
 ·rw[aBR z] at e;exact e
def IsF (B:Nat)(d:D):Prop:=∃q,d=FQ q/\BQ B q
def IsP (B:Nat)(d:D):Prop:=∃x y,d=PQ x y/\BQ B x/\BQ B y
theorem aI3 (z:Int):FQ (z:Rat)=.tup [.int z,.int 1]:=by unfold FQ;rw[Rat.num_intCast,Rat.den_intCast];rfl
theorem bdk {x:Int}(h:x.natAbs<2^220):Bd 8999 x:=Bd.mono (m:=220) h (by decide)
theorem aDK {x:Int}(h1:-(10^62)<=x)(h2:x<=10^62):Bd 210 x:=by
 unfold Bd;have:(2:Nat)^210=1645504557321206042154969182557350504982735865633579863348609024:=by decide
 omega
theorem aG8 {xs:List D}{lo hi:Option Int}{d:D}(h:d∈cutD xs lo hi):d∈xs:=List.mem_of_mem_drop (List.mem_of_mem_take h)
def dS:DSp:=λds M Q=>∃t b,ds=[.int t,.int b]/\b≠0/\Bd 8999 b/\Q (FQ ((t:Rat)/(b:Rat))) M
noncomputable def aLH:D:=.tup [.int 1,.int 1]
def aBT:DSp:=λds M Q=>∃cx cy ax ay t,ds=[PQ cx cy,PQ ax ay,FQ t]/\BQ 200 cx/\BQ 200 cy/\BQ 200 ax/\BQ 200 ay/\BQ 210 t/\Q (PQ (cx+cJ t (ax-cx) (ay-cy)) (cy+cI t (ax-cx) (ay-cy))) M
theorem bq1:BQ 1 1:=⟨by unfold Bd;decide,by unfold Bd;decide⟩
theorem aMp {q:Rat}{M:DM}{Q:DQ}:mZ (FQ q) (.int 0) M Q=Q (.int q.num) M:=rfl
theorem aMs {q:Rat}{M:DM}{Q:DQ}:mZ (FQ q) (.int 1) M Q=Q (.int (q.den:Int)) M:=rfl
theorem aLO {x y:Rat}{M:DM}{Q:DQ}:mZ (PQ x y) (.int 0) M Q=Q (FQ x) M:=rfl
theorem aMm {x y:Rat}{M:DM}{Q:DQ}:mZ (PQ x y) (.int 1) M Q=Q (FQ y) M:=rfl
theorem aMa {x y:Rat}{n:Nat}{t:DGs}{ρ:cW}{M:DM}{R:cW->DM->Prop}:gU n t (PQ x y) ρ M R=(([FQ x,FQ y]:List D).length=n/\t [FQ x,FQ y] ρ M R):=rfl
theorem aMv {q:Rat}{n:Nat}{t:DGs}{ρ:cW}{M:DM}{R:cW->DM->Prop}:gU n t (FQ q) ρ M R=(([.int q.num,.int (q.den:Int)]:List D).length=n/\t [.int q.num,.int (q.den:Int)] ρ M R):=rfl
theorem aKg {g:Bool->Bool}{p q:Rat}{M:DM}{Q:DQ}:dEq g (FQ p) (FQ q) M Q=Q (.bl (g (decide (p=q)))) M:=by show(bU 60 (FQ p)=true/\bU 60 (FQ q)=true/\Q (.bl (g (eqD (FQ p) (FQ q)))) M)=_;rw[xJ];exact propext ⟨λh=>h.2.2,λh=>⟨rfl,rfl,h⟩⟩
theorem mI {g:Bool->Bool}{x y u v:Rat}{M:DM}{Q:DQ}:dEq g (PQ x y) (PQ u v) M Q=Q (.bl (g (decide (x=u/\y=v)))) M:=by
 show(bU 60 (PQ x y)=true/\bU 60 (PQ u v)=true/\Q (.bl (g (eqD (PQ x y) (PQ u v)))) M)=_;have e:(decide (x=u)&&decide (y=v))=decide (x=u/\y=v):=by by_cases h1:x=u<;>by_cases h2:y=v<;>simp[h1,h2]
 rw[aFR,e];exact propext ⟨λh=>h.2.2,λh=>⟨rfl,rfl,h⟩⟩
theorem aKd {x y u v:Rat}{g:DG}{tb:DS}{E:fR}{ρ:cW}{M:DM}:foZ [PQ x y,PQ u v] g tb E ρ M=dIt none [.tup [FQ x,FQ u],.tup [FQ y,FQ v]] g tb E ρ M:=rfl
noncomputable def FR (px py:Rat)(t h:Int)(s:Rat):D:=.tup [PQ px py,.int t,.int h,FQ s]
theorem aI1 (px py s px' py' s':Rat)(t h t' h':Int):eqD (FR px py t h s) (FR px' py' t' h' s')=decide (px=px'/\py=py'/\t=t'/\h=h'/\s=s'):=by show(eqD (PQ px py) (PQ px' py')&&(t==t'&&(h==h'&&(eqD (FQ s) (FQ s')&&true))))=_;rw[aFR,xJ];by_cases h1:px=px'<;>by_cases h2:py=py'<;>by_cases h3:t=t'<;>by_cases h4:h=h'<;>by_cases h5:s=s'<;>simp[h1,h2,h3,h4,h5]
theorem aK8 {g:Bool->Bool}{px py s px' py' s':Rat}{t h t' h':Int}{M:DM}{Q:DQ}:dEq g (FR px py t h s) (FR px' py' t' h' s') M Q=Q (.bl (g (decide (px=px'/\py=py'/\t=t'/\h=h'/\s=s')))) M:=by show(bU 60 (FR px py t h s)=true/\bU 60 (FR px' py' t' h' s')=true/\Q (.bl (g (eqD (FR px py t h s) (FR px' py' t' h' s')))) M)=_;rw[aI1];exact propext ⟨λz=>z.2.2,λz=>⟨rfl,rfl,z⟩⟩
def aIx (n:Nat)(L:List D):Prop:=L.length=n/\∀d∈L,∃z:Int,d=.int z/\0<=z/\z<1000000
theorem aIx.at {n:Nat}{L:List D}(h:aIx n L){i:Nat}(hi:i<n):∃z:Int,atI L (i:Int)=some (.int z)/\0<=z/\z<1000000:=by
 have hl:i<L.length:=by rw[h.1];exact hi
 obtain⟨z,e,z0,z1⟩:=h.2 L[i] (getElem_mem hl);exact⟨z,nX (by rw[getElem?_eq_getElem hl,e]),z0,z1⟩
theorem aHB {x y:Rat}{M:DM}{Q:DQ}:wK [PQ x y] M Q=Q (.int 2) M:=rfl
theorem aId {q:Rat}{M:DM}{Q:DQ}:wK [FQ q] M Q=Q (.int 2) M:=rfl
theorem aFq {a:Addr}{M:DM}{Q:DQ}:wK [.ref a] M Q=∃xs,M a=some xs/\Q (.int (xs.length:Int)) M:=rfl
section
variable {M:DM}{Q:DQ}{a b c d e f:D}
theorem aKR {i:Int}:aNg [.int i] M Q=Q (.int (if i<0 then -i else i)) M:=rfl
theorem aHd {xs:List D}:wK [.fz xs] M Q=Q (.int xs.length) M:=rfl
theorem aIq:wK [.tup []] M Q=Q (.int 0) M:=rfl
theorem aIn:wK [.tup [a]] M Q=Q (.int 1) M:=rfl
theorem aIm:wK [.tup [a,b]] M Q=Q (.int 2) M:=rfl
theorem aHZ:wK [.tup [a,b,c]] M Q=Q (.int 3) M:=rfl
theorem aIi:wK [.tup [a,b,c,d]] M Q=Q (.int 4) M:=rfl
theorem aHf:wK [.tup [a,b,c,d,e]] M Q=Q (.int 5) M:=rfl
end
structure Fm where
 (px py:Rat) (t h:Int) (s:Rat)
noncomputable def Fm.one:Fm:=⟨0,0,0,1,1⟩
section
variable {X:Cx}{pins:List (Addr×Obj)}{σ:L2.St}{H:Hp}{s:Shared}{M:DM}
end
def aM0 (g:Bool->Bool):D2:=λx y M Q=>match x,y with
 |.int k,.tup ys=>∃ns:List Int,ys=ns.map D.int/\Q (.bl (g (ns.any (·==k)))) M
 |.str k,.tup ys=>∃ns:List Str,ys=ns.map D.str/\Q (.bl (g (ns.any (·==k)))) M
 |_,_=>False
section
variable {X:Cx}
theorem aKf:OpD X (compareOp .In) (aM0 id):=λpins s σ H x y v u Q I rx ry ⟨dx,dy,M,Q',r1,r2,hm,q,k⟩=>by
 cases dx with
 |int z =>
  cases dy with
  |tup ys =>
   obtain⟨ns,rfl,q⟩:=q;obtain rfl:=bF r1;obtain⟨a,us,rfl,sq,ru⟩:=bT r2;obtain⟨its,rv,ht⟩:=iZ I sq;obtain⟨t,rfl⟩:=rx;cases ry;exact in_tuple_ints ht (xT ru rv) ⟨.bl _,H,I,rfl,k _ H ⟨_,M,fK,hm,.refl H,q⟩⟩
  |_=>exact q.elim
 |str z =>
  cases dy with
  |tup ys =>
   obtain⟨ns,rfl,q⟩:=q;obtain rfl:=dN r1;obtain⟨a,us,rfl,sq,ru⟩:=bT r2;obtain⟨its,rv,ht⟩:=iZ I sq;obtain⟨t,rfl⟩:=rx;cases ry;exact in_tuple_strs ht (xL ru rv) ⟨.bl _,H,I,rfl,k _ H ⟨_,M,fK,hm,.refl H,q⟩⟩
  |_=>exact q.elim
 |_=>cases dy<;>exact q.elim
end
end Dd
namespace L2
open PySem PySem.Spec PyProof.Rows
section
variable {prog:Program}{w:World}{A:Around}{R:Result->Shared->Prop}{s:Shared}
end
end L2
namespace Dd
open PySem PySem.Spec PyProof.Rows L2
section
variable {X:Cx}{g:DG}{tc:DT}{te:DE}
variable {elt iter tg cnd:Expr}{scope:Scope}{pos:Pos}{N':List Str}{fr:List (Option Nat)}{tl:DE}{ta:DA}{oN:List Str}{osc:Scope}
end
open Mz
section
variable {X:Cx}{o e f:Expr}{to te tf:DE}
end
section
variable {X:Cx}{pins:List (Addr×Obj)}{σ:L2.St}{H:Hp}{s:Shared}
end
section
variable {X:Cx}{o:Expr}{to:DE}
end
section
variable {X:Cx}{g:DG}{tc:DT}{te:DE}
variable {elt iter tg cnd:Expr}{scope:Scope}{pos:Pos}{N':List Str}{fr:List (Option Nat)}{tl:DE}{ta:DA}{oN:List Str}{osc:Scope}
end
section
variable {X:Cx}{o e f:Expr}{to te tf:DE}
end
section
variable {X:Cx}{pins:List (Addr×Obj)}{σ:L2.St}{H:Hp}{s:Shared}
end
section
variable {X:Cx}{o:Expr}{to:DE}
end
section
variable {P:Program}{w:World}{K:Frag}{mg:Str->Option Value}{base:Heap}
end
section
variable {X:Cx}{n x:Str}{C a:Addr}{o:Obj}{p p1 pos:Pos}{j k k':Nat}{sp:Addr->DM->DQ->Prop}
end
section
open PySem.SeqAt
open PySem.AutoSeq1 (wpAny_loadPart')
open PySem.MeetsSeq PySem.MeetsSeq2 PySem.MeetsSeq3
end
section
variable {prog:Program}{w:World}{A:Around}{E:Value->Shared->Prop}{s:Shared}
end
section
variable {X:Cx}{j:Nat}
end
theorem us0 {us:List Value}(h:us.length=0):us=[]:=List.length_eq_zero_iff.mp h
theorem us1 {us:List Value}(h:us.length=1):∃a,us=[a]:=List.length_eq_one_iff.mp h
theorem us2 {us:List Value}(h:us.length=2):∃a b,us=[a,b]:=by
 cases us with
 |nil=>cases h
 |cons a r=>obtain⟨b,rfl⟩:=us1 (us:=r) (Nat.succ.inj h);exact⟨a,b,rfl⟩
theorem us3 {us:List Value}(h:us.length=3):∃a b c,us=[a,b,c]:=by
 cases us with
 |nil=>cases h
 |cons a r=>obtain⟨b,c,rfl⟩:=us2 (us:=r) (Nat.succ.inj h);exact⟨a,b,c,rfl⟩
theorem us4 {us:List Value}(h:us.length=4):∃a b c d,us=[a,b,c,d]:=by
 cases us with
 |nil=>cases h
 |cons a r=>obtain⟨b,c,d,rfl⟩:=us3 (us:=r) (Nat.succ.inj h);exact⟨a,b,c,d,rfl⟩
noncomputable instance aOq:DecidableEq D:=λa b=>Classical.propDecidable (a=b)
noncomputable def eU:Nat->D->Bool
 |_,.int _=>true
 |_,.str _=>true
 |n+1,.tup ds=>ds.all (eU n)
 |_,_=>false
mutual
noncomputable def qV (w:World):D->Int
 |.int i=>aI0 w (.inl i)
 |.str x=>aI0 w (.inr x)
 |.tup ds=>reduceHash (Builtin.Tuple.tupleHashOf (pP w ds))
 |_=>0
noncomputable def pP (w:World):List D->List Int
 |[]=>[]
 |d::ds=>qV w d::pP w ds
end
mutual
noncomputable def wO:D->Nat
 |.tup ds=>gW ds+1
 |_=>1
noncomputable def gW:List D->Nat
 |[]=>0
 |d::ds=>wO d+gW ds
end
mutual
def IsK (h:Heap):D->Value->Prop
 |.int i,v=>∃t,v=.int i t
 |.str x,v=>∃t,v=.str x t
 |.tup ds,v=>∃a its,v=.ref a/\IsTup h a its/\fL h ds its.toList
 |_,_=>False
def fL (h:Heap):List D->List Value->Prop
 |[],vs=>vs=[]
 |d::ds,vs=>∃v r,vs=v::r/\IsK h d v/\fL h ds r
end
theorem eB {h:Heap}{vs:List Value}(x:fL h [] vs):vs=[]:=by unfold fL at x;exact x
theorem cC {h:Heap}{d:D}{ds:List D}{vs:List Value}(x:fL h (d::ds) vs):∃v r,vs=v::r/\IsK h d v/\fL h ds r:=by unfold fL at x;exact x
theorem eF {h:Heap}{ds:List D}{v:Value}(x:IsK h (.tup ds) v):∃a its,v=.ref a/\IsTup h a its/\fL h ds its.toList:=by unfold IsK at x;exact x
theorem cX {h:Heap}{i:Int}{v:Value}(x:IsK h (.int i) v):∃t,v=.int i t:=by unfold IsK at x;exact x
theorem cY {h:Heap}{i:Str}{v:Value}(x:IsK h (.str i) v):∃t,v=.str i t:=by unfold IsK at x;exact x
theorem iG {n:Nat}{ds:List D}(h:eU n (.tup ds)=true):∃m,n=m+1/\ds.all (eU m)=true:=by
 cases n with
 |zero=>exact absurd h Bool.false_ne_true
 |succ m=>exact⟨m,rfl,h⟩
theorem rK (w:World):∀ds:List D,pP w ds=ds.map (qV w)
 |[]=>by unfold pP;rfl
 |d::ds=>by unfold pP;rw[rK w ds];rfl
theorem pA (d:D):∀ds:List D,gW (ds++[d])=gW ds+wO d
 |[]=>by show gW [d]=_;unfold gW;unfold gW;omega
 |e::ds=>by show gW (e::(ds++[d]))=_;unfold gW;rw[pA d ds];omega
section
variable {prog:Program}{w:World}
theorem aHj:∀(n:Nat){A:Around} {E:Value->Shared->Prop} {s:Shared} {d:D} {v:Value} {Q:Int->Shared->Prop},eU n d=true->A.units+n<cLine->IsK s.heap d v ->
  Q (qV w d) { s with toks:=s.toks+wO d }->wpAny (model prog w) A (pyHash v) Q E s:=by
 intro n
 induction n with
 |zero =>
  intro A E s d v Q hk hu hi q;cases d with
  |int i=>obtain⟨t,rfl⟩:=cX hi;exact wpAny_pyHash_int q
  |str i=>obtain⟨t,rfl⟩:=cY hi;exact wpAny_pyHash_str q
  |_=>exact absurd hk Bool.false_ne_true
 |succ n ih =>
  intro A E s d v Q hk hu hi q;cases d with
  |int i=>obtain⟨t,rfl⟩:=cX hi;exact wpAny_pyHash_int q
  |str i=>obtain⟨t,rfl⟩:=cY hi;exact wpAny_pyHash_str q
  |tup ds =>
   obtain⟨a,its,rfl,ht,hs⟩:=eF hi;obtain⟨o,ho,hc,m,hd⟩:=ht;have hT:s.TypeIs (.ref a) "tuple":=⟨o,ho,hc⟩;unfold pyHash pyHashByItsType;refine wpAny_bind (wpAny_cRoomFor_or (.inr (by omega)) ?_);refine wpAny_bind (wpAny_specialOf hT F.slot_tuple_hash.lookup ?_);show wpAny _ _ (if (some (Value.builtin "tuple.__hash__")==some Value.none)=true then _ else _) Q E s;rw[if_neg (by rw[beq_builtin_none];exact Bool.false_ne_true)];refine wpAny_bind (wpAny_specialOf hT F.slot_tuple_hash.lookup ?_);show wpAny _ _ (callSpecialIfBoundUnlessNone? (.ref a) "__hash__" _ >>= _) Q E s;refine wpAny_bind (wpAny_callSpecialIfBoundUnlessNone?_slot hT F.slot_tuple_hash (wpAny_call_entry F.slot_tuple_hash hT F.entry_tuple_hash ?_ (F.args_tuple_hash_1 _)));obtain⟨n',en,hk⟩:=iG hk;cases en;show wpAny _ _ (Builtin.Tuple.tupleItemsOf (.ref a) >>= _) _ _ s;refine wpAny_bind (wpAny_tupleItemsOf ho hd ?_);refine wpAny_bind ?_;rw[<- Array.forIn_toList];refine wpAny_forIn_list _ (λcN (b:Array Int) s'=>∃done left,ds=done++left/\fL s.heap left cN/\b.toList=pP w done/\s' = { s with toks:=s.toks+gW done }) _ ?_ ?_ _ _ ⟨[],ds,rfl,hs,by unfold pP;rfl,by unfold gW;rfl⟩
   ·rintro x cN b s' ⟨done,left,e1,hl,hb,rfl⟩;cases left with
    |nil=>exact nomatch eB hl
    |cons d1 left =>
     obtain⟨x',r',e2,h1,hl⟩:=cC hl;cases e2;have hk1:eU n d1=true:=List.all_eq_true.mp hk d1 (by rw[e1];exact mem_append_right _ mem_cons_self);refine wpAny_bind (ih (s:={ s with toks:=s.toks+gW done }) hk1 (by show A.units+1+n<cLine;omega) h1 ?_);refine wpAny_pure ⟨done++[d1],left,by rw[e1,append_assoc];rfl,hl,?_,?_⟩
     ·rw[rK,map_append,<- rK,<- hb];simp
     ·rw[pA,Nat.add_assoc]
   ·rintro b s' ⟨done,left,e1,hl,hb,rfl⟩;have:left=[]:=by
     cases left with
     |nil=>rfl
     |cons d1 left=>obtain⟨_,_,z,_⟩:=cC hl;exact nomatch z
    subst this;rw[append_nil] at e1;subst e1;show wpAny _ _ (retInt (Builtin.Tuple.tupleHashOf b.toList)) _ _ _;rw[hb];refine wpAny_ret_mkInt ?_;unfold qV wO at q;generalize Builtin.Tuple.tupleHashOf (pP w ds)=z at q ⊢;show wpAny _ _ (if (decide (-(2:Int)^63<=z)&&decide (z<2^63))=true then _ else _) Q E _;unfold reduceHash at q;by_cases hr:(decide (-(2:Int)^63<=z)&&decide (z<2^63))=true
    ·rw[if_pos hr] at q ⊢;exact wpAny_pure (by simpa[Nat.add_assoc] using q)
    ·rw[if_neg hr] at q ⊢;exact wpAny_bind (wpAny_rule (wpAny_pure (by simpa[Nat.add_assoc] using q)))
  |_=>exact absurd hk Bool.false_ne_true
theorem aFp:∀(n m:Nat){A:Around} {E:Value->Shared->Prop} {s:Shared} {d:D} {v:Value} {Q:Bool->Shared->Prop},n<=m->eU n d=true->IsK s.heap d v->Q true s->wpAny (model prog w) A (eqIsQuiet m v) Q E s:=by
 intro n
 induction n with
 |zero =>
  intro m A E s d v Q hm hk hi q;cases d with
  |int i=>obtain⟨t,rfl⟩:=cX hi;rw[eqIsQuiet_byValue m rfl];exact wpAny_pure q
  |str i=>obtain⟨t,rfl⟩:=cY hi;rw[eqIsQuiet_byValue m rfl];exact wpAny_pure q
  |_=>exact absurd hk Bool.false_ne_true
 |succ n ih =>
  intro m A E s d v Q hm hk hi q;cases d with
  |int i=>obtain⟨t,rfl⟩:=cX hi;rw[eqIsQuiet_byValue m rfl];exact wpAny_pure q
  |str i=>obtain⟨t,rfl⟩:=cY hi;rw[eqIsQuiet_byValue m rfl];exact wpAny_pure q
  |tup ds =>
   obtain⟨a,its,rfl,ht,hs⟩:=eF hi;obtain⟨o,ho,hc,k,hd⟩:=ht;have hT:s.TypeIs (.ref a) "tuple":=⟨o,ho,hc⟩;obtain⟨n',en,hk⟩:=iG hk;cases en;cases m with
   |zero=>omega
   |succ m =>
    unfold eqIsQuiet;refine wpAny_bind (wpAny_specialOf hT F.slot_tuple_eq.lookup ?_);show wpAny _ _ (isInstance (.ref a) (.type "tuple") >>= _) _ _ s;refine wpAny_bind (wpAny_isInstance hT isSubtype_tuple_tuple ?_);simp only[Bool.not_true,Bool.false_eq_true,if_false];refine wpAny_bind (wpAny_seqItems ho hd ?_);refine wpAny_bind ?_;show wpAny _ _ (forIn its _ _) _ _ s;rw[<- Array.forIn_toList];refine wpAny_forIn_list _ (λcN r s'=>r.1=none/\s'=s/\∃left,left.all (eU n)=true/\fL s.heap left cN) _ ?_ ?_ _ _ ⟨rfl,rfl,ds,hk,hs⟩
    ·rintro x cN r s' ⟨hr,rfl,left,hl,hx⟩;cases left with
     |nil=>exact nomatch eB hx
     |cons d1 left =>
      obtain⟨x',r',e2,h1,hx⟩:=cC hx;cases e2;rw[all_cons,Bool.and_eq_true] at hl;refine wpAny_bind (ih m (by omega) hl.1 h1 ?_);simp only[Bool.not_true,Bool.false_eq_true,if_false];exact wpAny_pure ⟨rfl,rfl,left,hl.2,hx⟩
    ·rintro⟨r1,r2⟩ s' ⟨hr,rfl,_⟩;simp only at hr;subst hr;exact wpAny_pure q
  |_=>exact absurd hk Bool.false_ne_true
end
mutual
theorem mM:∀{n:Nat}{x y:D},eU n x=true->eU n y=true->eqD x y=decide (x=y)
 |n,.int i,y,h,h'=>by
  cases y with
  |int j=>simp[eqD];exact Bool.eq_iff_iff.mpr (by rw[beq_iff_eq,decide_eq_true_eq])
  |str j=>simp[eqD]
  |tup j=>simp[eqD]
  |_=>cases n<;>exact absurd h' Bool.false_ne_true
 |n,.str i,y,h,h'=>by
  cases y with
  |int j=>simp[eqD]
  |str j=>simp[eqD];exact Bool.eq_iff_iff.mpr (by rw[beq_iff_eq,decide_eq_true_eq])
  |tup j=>simp[eqD]
  |_=>cases n<;>exact absurd h' Bool.false_ne_true
 |n,.tup ds,y,h,h'=>by
  obtain⟨m,rfl,h⟩:=iG h;cases y with
  |int j=>simp[eqD]
  |str j=>simp[eqD]
  |tup es =>
   have:=aBw h h';show iC ds es=_;rw[this];simp
  |_=>exact absurd h' Bool.false_ne_true
 |n,.non,y,h,h'=>by cases n<;>exact absurd h Bool.false_ne_true
 |n,.bl _,y,h,h'=>by cases n<;>exact absurd h Bool.false_ne_true
 |n,.fz _,y,h,h'=>by cases n<;>exact absurd h Bool.false_ne_true
 |n,.ref _,y,h,h'=>by cases n<;>exact absurd h Bool.false_ne_true
theorem aBw:∀{n:Nat}{xs ys:List D},xs.all (eU n)=true->ys.all (eU n)=true->iC xs ys=decide (xs=ys)
 |n,[],ys,h,h'=>by cases ys<;>simp[iC]
 |n,x::xs,ys,h,h'=>by
  cases ys with
  |nil=>simp[iC]
  |cons y ys =>
   rw[all_cons,Bool.and_eq_true] at h h';show(eqD x y&&iC xs ys)=_;rw[mM h.1 h'.1,aBw h.2 h'.2];by_cases e1:x=y<;>by_cases e2:xs=ys<;>simp[e1,e2]
end
mutual
theorem IsK.inj {h:Heap}:∀{x y:D}{v:Value},IsK h x v->IsK h y v->x=y
 |.int i,y,v,a,b=>by
  obtain⟨t,rfl⟩:=cX a;cases y with
  |int j=>obtain⟨t,e⟩:=cX b;cases e;rfl
  |str j=>obtain⟨t,e⟩:=cY b;exact nomatch e
  |tup j=>obtain⟨_,_,e,_⟩:=eF b;exact nomatch e
  |_=>unfold IsK at b;exact b.elim
 |.str i,y,v,a,b=>by
  obtain⟨t,rfl⟩:=cY a;cases y with
  |int j=>obtain⟨t,e⟩:=cX b;exact nomatch e
  |str j=>obtain⟨t,e⟩:=cY b;cases e;rfl
  |tup j=>obtain⟨_,_,e,_⟩:=eF b;exact nomatch e
  |_=>unfold IsK at b;exact b.elim
 |.tup ds,y,v,a,b=>by
  obtain⟨p,its,rfl,ht,hs⟩:=eF a;cases y with
  |int j=>obtain⟨t,e⟩:=cX b;exact nomatch e
  |str j=>obtain⟨t,e⟩:=cY b;exact nomatch e
  |tup es =>
   obtain⟨q,its',e,ht',hs'⟩:=eF b;cases e;obtain⟨o,ho,_,_,hd⟩:=ht;obtain⟨o',ho',_,_,hd'⟩:=ht';rw[ho] at ho';cases ho';rw[hd] at hd';cases hd';rw[fL.inj hs hs']
  |_=>unfold IsK at b;exact b.elim
 |.non,y,v,a,b=>by unfold IsK at a;exact a.elim
 |.bl _,y,v,a,b=>by unfold IsK at a;exact a.elim
 |.fz _,y,v,a,b=>by unfold IsK at a;exact a.elim
 |.ref _,y,v,a,b=>by unfold IsK at a;exact a.elim
theorem fL.inj {h:Heap}:∀{xs ys:List D}{vs:List Value},fL h xs vs->fL h ys vs->xs=ys
 |[],ys,vs,a,b=>by
  cases ys with
  |nil=>rfl
  |cons y ys=>obtain⟨_,_,e,_⟩:=cC b;rw[eB a] at e;exact nomatch e
 |x::xs,ys,vs,a,b=>by
  obtain⟨v,r,rfl,a1,a2⟩:=cC a;cases ys with
  |nil=>exact nomatch eB b
  |cons y ys =>
   obtain⟨v',r',e,b1,b2⟩:=cC b;cases e;rw[IsK.inj a1 b1,fL.inj a2 b2]
end
mutual
theorem IsK.keep {h h':Heap}(k:∀a its,IsTup h a its->IsTup h' a its):∀{x:D}{v:Value},IsK h x v->IsK h' x v
 |.int _,_,a=>by unfold IsK at a ⊢;exact a
 |.str _,_,a=>by unfold IsK at a ⊢;exact a
 |.tup ds,_,a=>by obtain⟨p,its,rfl,ht,hs⟩:=eF a;unfold IsK;exact⟨p,its,rfl,k p its ht,fL.keep k hs⟩
 |.non,_,a=>by unfold IsK at a;exact a.elim
 |.bl _,_,a=>by unfold IsK at a;exact a.elim
 |.fz _,_,a=>by unfold IsK at a;exact a.elim
 |.ref _,_,a=>by unfold IsK at a;exact a.elim
theorem fL.keep {h h':Heap}(k:∀a its,IsTup h a its->IsTup h' a its):∀{xs:List D}{vs:List Value},fL h xs vs->fL h' xs vs
 |[],_,a=>by unfold fL at a ⊢;exact a
 |x::xs,_,a=>by obtain⟨v,r,rfl,a1,a2⟩:=cC a;unfold fL;exact⟨v,r,rfl,a1.keep k,fL.keep k a2⟩
end
theorem yX {A:Around}{s:Shared}{n:Nat}(ih:∀{d d':D}{u u':Value},eU n d=true->eU n d'=true->IsK s.heap d u->IsK s.heap d' u'->SeqAt.EqAt A s u u' (eqD d d')) :
  ∀{xs ys:List D}{its its':List Value},xs.all (eU n)=true->ys.all (eU n)=true->fL s.heap xs its->fL s.heap ys its'->∀j (h1:j<its.length) (h2:j<its'.length),SeqAt.EqAt A s its[j] its'[j] (tH xs ys j)
 |[],ys,its,its',_,_,r1,_,j,h1,_=>by rw[eB r1] at h1;exact absurd h1 (Nat.not_lt_zero _)
 |_::_,[],its,its',_,_,_,r2,j,_,h2=>by rw[eB r2] at h2;exact absurd h2 (Nat.not_lt_zero _)
 |x::xs,y::ys,its,its',p1,p2,r1,r2,j,h1,h2=>by
  obtain⟨a,ra,rfl,ha,hra⟩:=cC r1;obtain⟨b,rb,rfl,hb,hrb⟩:=cC r2;rw[all_cons,Bool.and_eq_true] at p1 p2;cases j with
  |zero=>exact ih p1.1 p2.1 ha hb
  |succ j=>exact yX ih p1.2 p2.2 hra hrb j (Nat.lt_of_succ_lt_succ h1) (Nat.lt_of_succ_lt_succ h2)
theorem fL.length {h:Heap}:∀{xs:List D}{vs:List Value},fL h xs vs->xs.length=vs.length
 |[],_,a=>by rw[eB a];rfl
 |x::xs,_,a=>by obtain⟨v,r,rfl,_,a2⟩:=cC a;rw[length_cons,length_cons,fL.length a2]
theorem aAL:∀(n:Nat){A:Around} {s:Shared} {d d':D} {u u':Value},A.units+n<cLine->eU n d=true->eU n d'=true->IsK s.heap d u->IsK s.heap d' u'->SeqAt.EqAt A s u u' (eqD d d'):=by
 intro n
 induction n with
 |zero =>
  intro A s d d' u u' hu p p' r r';cases d with
  |int i =>
   obtain⟨t,rfl⟩:=cX r;cases d' with
   |int j=>obtain⟨t',rfl⟩:=cX r';exact SeqAt.EqAt.int_int i t j t'
   |str j=>obtain⟨t',rfl⟩:=cY r';exact SeqAt.EqAt.int_str i t j t'
   |_=>exact absurd p' Bool.false_ne_true
  |str i =>
   obtain⟨t,rfl⟩:=cY r;cases d' with
   |int j=>obtain⟨t',rfl⟩:=cX r';exact SeqAt.EqAt.str_int i t j t'
   |str j=>obtain⟨t',rfl⟩:=cY r';exact SeqAt.EqAt.str_str i t j t'
   |_=>exact absurd p' Bool.false_ne_true
  |_=>exact absurd p Bool.false_ne_true
 |succ n ih =>
  intro A s d d' u u' hu p p' r r';cases d with
  |int i =>
   obtain⟨t,rfl⟩:=cX r;cases d' with
   |int j=>obtain⟨t',rfl⟩:=cX r';exact SeqAt.EqAt.int_int i t j t'
   |str j=>obtain⟨t',rfl⟩:=cY r';exact SeqAt.EqAt.int_str i t j t'
   |tup j=>obtain⟨b,its,rfl,ht,_⟩:=eF r';exact SeqAt.EqAt.int_tuple i t ht (by omega)
   |_=>exact absurd p' Bool.false_ne_true
  |str i =>
   obtain⟨t,rfl⟩:=cY r;cases d' with
   |int j=>obtain⟨t',rfl⟩:=cX r';exact SeqAt.EqAt.str_int i t j t'
   |str j=>obtain⟨t',rfl⟩:=cY r';exact SeqAt.EqAt.str_str i t j t'
   |tup j=>obtain⟨b,its,rfl,ht,_⟩:=eF r';exact SeqAt.EqAt.str_tuple i t ht (by omega)
   |_=>exact absurd p' Bool.false_ne_true
  |tup xs =>
   have r0:=r;obtain⟨a,its,rfl,ht,hs⟩:=eF r;cases d' with
   |int j=>obtain⟨t',rfl⟩:=cX r';exact SeqAt.EqAt.tuple_int j t' ht (by omega)
   |str j=>obtain⟨t',rfl⟩:=cY r';exact SeqAt.EqAt.tuple_str j t' ht (by omega)
   |tup ys =>
    have r0':=r';obtain⟨a',its',rfl,ht',hs'⟩:=eF r';by_cases hll:a=a'
    ·subst hll;rw[mM p p',decide_eq_true (r0.inj r0')];exact SeqAt.EqAt.same _
    ·have e1:=hs.length;have e2:=hs'.length;show SeqAt.EqAt A s (.ref a) (.ref a') (iC xs ys);rw[iN,show xs.length=its.size by simpa using e1,show ys.length=its'.size by simpa using e2];refine SeqAt.EqAt.of_refs hll (SeqAt.RcAt.tuples ht ht' (by omega) λj j1 j2=>?_);have hu':A.in1.units+n<cLine:=by show A.units+1+n<cLine;omega
     have:=yX (A:=A.in1) (s:=s) (λ{d d' u u'} p p' r r'=>ih hu' p p' r r') p p' hs hs' j (by simpa using j1) (by simpa using j2);simpa using this
   |_=>exact absurd p' Bool.false_ne_true
  |_=>exact absurd p Bool.false_ne_true
noncomputable def qD (prog:Program)(w:World):HeapKind prog w D where
 is:=λh k a=>eU 6 k=true/\IsK h k (.ref a)
 hash:=qV w
 draws:=wO
 room:=λA=>A.units+6<cLine
 inj:=λx y=>x.2.inj y.2
 keeps:=λx ho hd hs=>⟨x.1,x.2.keep λa its ⟨o,h1,h2,n,h3⟩=>⟨o,(hs.2 a (λe=>by subst e;rw[h1] at ho;cases ho;rw[h3] at hd;exact nomatch hd)).trans h1,h2,n,h3⟩⟩
 pyHash:=λhu hk h=>aHj 6 hk.1 hu hk.2 h
 eqBool:=λhu hx hy h=>aAL 6 hu hx.1 hy.1 hx.2 hy.2 _ _ _ _ (by rw[mM hx.1 hy.1];exact h)
 quiet:=λhk h=>aFp 6 8 (by decide) hk.1 hk.2 h
def aCr (h:Heap)(d:Addr)(es:Array DictEntry)(ep:Nat):Prop:=h.get? d = some { cls:=.type "dict",data:=.dict es ep }
section
variable {prog:Program}{w:World}{A:Around}{E:Value->Shared->Prop}{s:Shared}{it d:Addr}{i ep:Nat}{es:Array DictEntry}
theorem aBn {Q:Option Value->Shared->Prop}(hi:i<es.size)(ht:s.heap.IsKeyIter it d i es.size ep)(hm:aCr s.heap d es ep)(hQ:∀h',h'.IsKeyIter it d (i+1) es.size ep->Heap.SameBut it s.heap h'->Q (some es[i].key) { s with heap:=h' }):wpAny (model prog w) A (pyNext (.ref it)) Q E s:=by
 have hT:=ht.typeIs;obtain⟨⟨c,di,dt,sl⟩,ho,hc,hd⟩:=id ht;cases hc;cases hd;have nm:((Manifest.find? "dict_keyiterator").elim "dict_keyiterator" λx=>x.tpName) = "dict_keyiterator":=by rw[find?_eq_fast];kernel_rfl
 have ow:Builtin.Dict_items.ownsTuple "dict_keyiterator"=false:=by decide
 unfold pyNext;refine wpAny_bind (wpAny_attempt (wpAny_callSpecial?_slot hT F.slot_dict_keyiterator_next (wpAny_call_entry F.slot_dict_keyiterator_next hT F.entry_dict_keyiterator_next ?_ (F.args_dict_keyiterator_next_1 _))))
 wp_walk
 have ei:(if (i:Int)<0 then none else es[(i:Int).toNat]?)=some es[i]:=by rw[if_neg (by omega),Int.toNat_natCast];exact Array.getElem?_eq_getElem hi
 rw[ei];dsimp only
 wp_walk
 refine⟨_,rfl,wpAny_pure (hQ _ ?_ (Heap.SameBut.update ..))⟩;refine⟨_,Heap.get?_update_self _ ho rfl,rfl,?_⟩;rw[nm,ow,if_neg (by decide),if_neg (by decide)];rfl
theorem aDz {Q:Option Value->Shared->Prop}(hh:A.handled=none)(ht:s.heap.IsKeyIter it d es.size es.size ep)(hm:aCr s.heap d es ep)(hQ:∀h',Heap.ExtBut it s.heap h'->Q none { s with heap:=h' }):wpAny (model prog w) A (pyNext (.ref it)) Q E s:=by
 have hT:=ht.typeIs;obtain⟨⟨c,di,dt,sl⟩,ho,hc,hd⟩:=id ht;cases hc;cases hd;have nm:((Manifest.find? "dict_keyiterator").elim "dict_keyiterator" λx=>x.tpName) = "dict_keyiterator":=by rw[find?_eq_fast];kernel_rfl
 have ow:Builtin.Dict_items.ownsTuple "dict_keyiterator"=false:=by decide
 unfold pyNext;refine wpAny_bind (wpAny_attempt (wpAny_callSpecial?_slot hT F.slot_dict_keyiterator_next (wpAny_call_entry F.slot_dict_keyiterator_next hT F.entry_dict_keyiterator_next ?_ (F.args_dict_keyiterator_next_1 _))))
 wp_walk
 have ei:(if (es.size:Int)<0 then none else es[(es.size:Int).toNat]?)=none:=by rw[if_neg (by omega),Int.toNat_natCast];exact Array.getElem?_eq_none (Nat.le_refl _)
 rw[ei];dsimp only
 wp_walk
 generalize hu:s.heap.update it _=h1;have k1:Heap.ExtBut it s.heap h1:=by rw[<- hu];exact(Heap.SameBut.update ..).extBut
 unfold raiseNew;refine wpAny_bind (wpAny_handled ?_);rw[show A.in1.handled=none from hh];refine wpAny_bind (wpAny_pure (wpAny_throw ?_));refine wpAny_bind (wpAny_isInstance (T:="StopIteration") (b:=true) ⟨_,Heap.get?_push_size _ rfl,rfl⟩ isSubtype_stop (wpAny_pure ?_));exact hQ _ λb o hb e=>Heap.get?_push_of_some _ (Heap.get?_push_of_some _ (k1 b o hb e))
theorem aBo {Q:Value->Shared->Prop}(hs:(d==sysModules)=false)(hm:aCr s.heap d es ep)(hQ:Q (.ref s.heap.objs.size) { s with heap:=s.heap.push { cls:=.type "dict_keyiterator",data:=.fields #[.ref d,.int 0 0,.int es.size 0,.int ep 0] } }):wpAny (model prog w) A (pyIter (.ref d)) Q E s:=by have hT:s.TypeIs (.ref d) "dict":=⟨_,hm,rfl⟩;refine wpAny_pyIter_slot hT F.slot_dict_iter (wpAny_call_entry F.slot_dict_iter hT F.entry_dict_iter ?_ (F.args_dict_iter_1 _));unfold Builtin.«dict.__iter__» Builtin.Dict.dictSlotNone;refine wpAny_bind (wpAny_bind (wpAny_notOrdered_dict hT ?_));show wpAny _ _ (pure (Value.ref d)) _ _ s;refine wpAny_pure ?_;show wpAny _ _ (Builtin.Dict.showsAll d >>= _) _ _ s;unfold Builtin.Dict.showsAll;rw[if_neg (by rw[hs];exact Bool.false_ne_true)];refine wpAny_bind (wpAny_pure (wpAny_bind (wpAny_dictEntries hm rfl (wpAny_bind (wpAny_dictEpoch hm rfl ?_)))));exact wpAny_bind (wpAny_newObj_type (wpAny_pure ⟨_,rfl,"dict_keyiterator",_,⟨_,Heap.get?_push_size _ rfl,rfl⟩,F.slot_dict_keyiterator_next.lookup,hQ⟩))
end
noncomputable def gA (w:World)(kvs:List (D×D)):List D:=kvs.map λp=>.tup [.int (qV w p.1),p.1,p.2]
structure TK (kvs:List (D×D)):Prop where
 key:∀p∈kvs,(∃ds,p.1=.tup ds)/\eU 6 p.1=true
 nd:(kvs.map (·.1)).Nodup
noncomputable def qT (kvs:List (D×D))(k v:D):List (D×D):=if k∈kvs.map (·.1) then kvs.map (λp=>if p.1=k then (p.1,v) else p) else kvs++[(k,v)]
noncomputable def wP (kvs:List (D×D))(k:D):Option D:=(kvs.find? λp=>decide (p.1=k)).map (·.2)
theorem TK.nil:TK []:=⟨(λ_ h=>(nomatch h)),nodup_nil⟩
theorem zP {kvs:List (D×D)}{k v:D}:(qT kvs k v).map (·.1)=if k∈kvs.map (·.1) then kvs.map (·.1) else kvs.map (·.1)++[k]:=by
 unfold qT;split
 ·rw[map_map];exact List.map_congr_left λp _=>by show(if p.1=k then (p.1,v) else p).1=p.1;split<;>rfl
 ·rw[map_append];rfl
theorem TK.put {kvs:List (D×D)}(h:TK kvs){k v:D}(hk:(∃ds,k=.tup ds)/\eU 6 k=true):TK (qT kvs k v):=by
 refine⟨λp hp=>?_,?_⟩
 ·have:p.1∈(qT kvs k v).map (·.1):=List.mem_map.mpr ⟨p,hp,rfl⟩;rw[zP] at this;have g:p.1∈kvs.map (·.1)∨p.1=k:=by
   split at this
   ·exact .inl this
   ·rcases List.mem_append.mp this with z|z
    ·exact .inl z
    ·exact .inr (by simpa using z)
  rcases g with g|g
  ·obtain⟨q,hq,e⟩:=List.mem_map.mp g;rw[<- e];exact h.key q hq
  ·rw[g];exact hk
 ·rw[zP];split
  ·exact h.nd
  ·rename_i n;rw[nodup_append];refine⟨h.nd,by simp,λx hx y hy=>?_⟩;rw[mem_singleton] at hy;subst hy;exact λe=>n (e ▸ hx)
theorem aFz {kvs:List (D×D)}{k v:D}:(qT kvs k v).length<=kvs.length+1:=by
 unfold qT;split
 ·rw[length_map];omega
 ·rw[length_append];exact Nat.le_refl _
def KX (K:Frag)(H:Hp)(p:D×D)(x:D×Addr×Value):Prop:=p.1=x.1/\Rep K H p.1 (.ref x.2.1)/\∃vv,RelV vv x.2.2/\Rep K H p.2 vv
section
variable {X:Cx}{pins:List (Addr×Obj)}{σ:L2.St}{H:Hp}{s:Shared}
mutual
theorem mR (I:Inv X pins σ H s):∀{n:Nat}{d:D} {v:V} {u:Value},eU n d=true->Rep X.K H d v->RelV v u->IsK s.heap d u
 |n,.int i,v,u,hk,r,q=>by rw[bF r] at q;unfold IsK;exact q
 |n,.str i,v,u,hk,r,q=>by rw[dN r] at q;unfold IsK;exact q
 |n,.tup ds,v,u,hk,r,q=>by obtain⟨m,rfl,hk⟩:=iG hk;obtain⟨a,us,rfl,sq,rs⟩:=bT r;obtain⟨its,rv,ht,_⟩:=I.tuple sq;cases q;unfold IsK;exact⟨a,its.toArray,rfl,ht,by rw[List.toList_toArray];exact aAi I hk rs rv⟩
 |n,.non,v,u,hk,r,q=>by cases n<;>exact absurd hk Bool.false_ne_true
 |n,.bl _,v,u,hk,r,q=>by cases n<;>exact absurd hk Bool.false_ne_true
 |n,.fz _,v,u,hk,r,q=>by cases n<;>exact absurd hk Bool.false_ne_true
 |n,.ref _,v,u,hk,r,q=>by cases n<;>exact absurd hk Bool.false_ne_true
theorem aAi (I:Inv X pins σ H s):∀{n:Nat}{ds:List D} {vs:List V} {us:List Value},ds.all (eU n)=true->bR X.K H ds vs->bZ vs us->fL s.heap ds us
 |n,[],vs,us,hk,r,q=>by rw[bM r] at q;cases q;unfold fL;rfl
 |n,d::ds,vs,us,hk,r,q=>by
  obtain⟨v,rr,rfl,rv,rs⟩:=aP r;rw[all_cons,Bool.and_eq_true] at hk;cases q with
  |cons q1 q2 =>
   unfold fL;exact⟨_,_,rfl,mR I hk.1 rv q1,aAi I hk.2 rs q2⟩
end
theorem aCN (I:Inv X pins σ H s):∀{kvs:List (D×D)}{es:List DictEntry},(∀p∈kvs,(∃ds,p.1=.tup ds)/\eU 6 p.1=true)->pR X.K H (gA X.w kvs) es ->
  ∃xs:List (D×Addr×Value),Paired (KX X.K H) kvs xs/\es=xs.map (entryOfKey (qD X.prog X.w))/\∀x∈xs,(qD X.prog X.w).is s.heap x.1 x.2.1
 |[],es,hk,r=>by cases r;exact⟨[],.nil,rfl,(λ_ h=>(nomatch h))⟩
 |p::kvs,es,hk,r=>by
  cases r with
  |@cons _ e _ es' re rr =>
   obtain⟨xs,h1,h2,h3⟩:=aCN I (λq hq=>hk q (mem_cons_of_mem _ hq)) rr;obtain⟨k,v,kv,vv,e1,q1,r1,q2,r2⟩:=re;obtain⟨⟨ds,ek⟩,hn⟩:=hk p mem_cons_self;have e0:D.tup [.int (qV X.w p.1),p.1,p.2]=.tup [.int e.hash,k,v]:=e1;clear e1;injection e0 with e0
   injection e0 with e1 e2
   injection e2 with e2 e3
   injection e3 with e3 _
   injection e1 with e1
   subst e2;subst e3;have r1':=r1;rw[ek] at r1';obtain⟨a,us,rfl,_,_⟩:=bT r1';have qk:e.key=.ref a:=q1;obtain⟨eh,ekey,ev⟩:=e;cases qk;have e1:qV X.w p.1=eh:=e1;subst e1;refine⟨(p.1,a,ev)::xs,.cons ⟨rfl,r1,vv,q2,r2⟩ h1,?_,?_⟩
   ·rw[map_cons,<- h2];rfl
   ·intro x hx;rcases List.mem_cons.mp hx with z|z
    ·subst z;exact⟨hn,mR I hn r1 rfl⟩
    ·exact h3 x z
theorem yZ {K:Frag}{H:Hp}(prog:Program)(w:World):∀{kvs:List (D×D)}{xs:List (D×Addr×Value)},Paired (KX K H) kvs xs->pR K H (gA w kvs) (xs.map (entryOfKey (qD prog w)))
 |[],_,.nil=>.nil
 |p::kvs,x::xs,.cons r rr=>by obtain⟨e,r1,vv,q,r2⟩:=r;exact .cons ⟨p.1,p.2,.ref x.2.1,vv,by show D.tup [.int (qV w p.1),p.1,p.2]=.tup [.int (qV w x.1),p.1,p.2];rw[e],rfl,r1,q,r2⟩ (yZ prog w rr)
theorem aAD {K:Frag}{H:Hp}:∀{kvs:List (D×D)}{xs:List (D×Addr×Value)},Paired (KX K H) kvs xs->kvs.map (·.1)=xs.map (·.1)
 |[],_,.nil=>rfl
 |p::kvs,x::xs,.cons r rr=>by rw[map_cons,map_cons,r.1,aAD rr]
theorem aC9 {K:Frag}{H:Hp}{k:D}:∀{kvs:List (D×D)}{xs:List (D×Addr×Value)},Paired (KX K H) kvs xs->(atKey xs k).isSome=decide (k∈kvs.map (·.1))
 |[],_,.nil=>by simp[atKey]
 |p::kvs,x::xs,.cons r rr=>by
  have ih:=aC9 (k:=k) rr;unfold atKey at ih ⊢;rw[List.find?_cons];by_cases h:x.1=k
  ·have:decide (x.1=k)=true:=decide_eq_true h;rw[this];simp[r.1,h]
  ·have:decide (x.1=k)=false:=decide_eq_false h;rw[this,ih];simp only[map_cons,mem_cons,r.1];by_cases h2:k∈kvs.map (·.1)
   ·simp[h2]
   ·simp[h2,Ne.symm h]
theorem aJ2 {K:Frag}{H:Hp}{k v:D}{a:Addr}{u:Value}{vv:V}(rk:Rep K H k (.ref a))(q:RelV vv u)(rv:Rep K H v vv){kvs:List (D×D)}{xs:List (D×Addr×Value)}(r:Paired (KX K H) kvs xs) :
  Paired (KX K H) (qT kvs k v) (storedH xs k a u):=by
 have e:=aC9 (k:=k) r;unfold qT storedH;by_cases h:k∈kvs.map (·.1)
 ·rw[decide_eq_true h] at e;rw[if_pos h,if_pos e];clear e h
  induction r with
  |nil=>exact .nil
  |@cons p x ps xs r1 rr ih =>
   refine .cons ?_ ih;unfold putAt;obtain⟨e1,r2,r3⟩:=r1;show KX K H (if p.1=k then (p.1,v) else p) (if x.1=k then (x.1,x.2.1,u) else x);by_cases z:p.1=k
   ·rw[if_pos z,if_pos (by rw[<- e1];exact z)];exact⟨e1,r2,vv,q,rv⟩
   ·rw[if_neg z,if_neg (by rw[<- e1];exact z)];exact⟨e1,r2,r3⟩
 ·rw[decide_eq_false h] at e;rw[if_neg h,if_neg (by rw[e];exact Bool.false_ne_true)];clear e h
  induction r with
  |nil=>exact .cons ⟨rfl,rk,vv,q,rv⟩ .nil
  |cons r1 rr ih=>exact .cons r1 ih
theorem Paired.len {α β:Type}{F:α->β->Prop}:∀{l:List α}{l':List β},Paired F l l'->l.length=l'.length
 |_,_,.nil=>rfl
 |_,_,.cons _ t=>by rw[length_cons,length_cons,Paired.len t]
theorem aES {o:Obj}{es:Array DictEntry}{ep:Nat}(h:o.ExactDict)(d:o.data = .dict es ep):o = { cls:=.type "dict",data:=.dict es ep }:=by obtain⟨c,di,dt,sl⟩:=o;obtain⟨h1,h2,h3⟩:=h;cases h1;cases h2;cases h3;cases d;rfl
theorem aB7 {P:Program}{w:World}{H:Hp}{h:Heap}{a:Addr}{es:List DictEntry}(x:dE a es h):jJ P w H h a (.ext (dE a es)) :=
 ⟨x,let ⟨_,_,_,e⟩:=x;⟨_,e⟩,λh1 h2 ⟨y1,y2,ep,e⟩ k=>⟨y1,y2,ep,k _ e⟩⟩
theorem vS (I:Inv X pins σ H s){a:Addr}{M:DM}{kvs:List (D×D)}(hm:bN X.K M H)(ha:M (.d a)=some (gA X.w kvs))(tk:TK kvs) :
  ∃xs,H a=some (.ext (dE a (xs.map (entryOfKey (qD X.prog X.w)))))/\Paired (KX X.K H) kvs xs/\s.heap.DictOfH (qD X.prog X.w) a xs/\(a==sysModules)=false/\xs.length<=sizeLine:=by
 obtain⟨es,hH,hr⟩:=hm.d a _ ha;obtain⟨xs,h1,rfl,h3⟩:=aCN I tk.key hr;obtain⟨⟨hs,hz,ep,e⟩,_⟩:=I.hok a _ hH;refine⟨xs,hH,h1,⟨_,_,ep,e,⟨rfl,rfl,rfl⟩,rfl,by rw[List.toList_toArray],h3,?_⟩,hs,by simpa using hz⟩;rw[<- aAD h1];exact tk.nd
theorem yQ (I:Inv X pins σ H s){a b:Addr}{kvs:List (D×D)}{k v:D}{u:Value}{vv:V}{xs:List (D×Addr×Value)}{h':Heap}{tk:Nat}(hH:H a=some (.ext (dE a (xs.map (entryOfKey (qD X.prog X.w))))))(hp:Paired (KX X.K H) kvs xs)(hs:(a==sysModules)=false)(hz:xs.length<sizeLine)(rk:Rep X.K H k (.ref b))(q:RelV vv u)(rv:Rep X.K H v vv)(hd':h'.DictOfH (qD X.prog X.w) a (storedH xs k b u))(hsb:Heap.SameBut a s.heap h') :
  Inv X pins σ (upd H a (.ext (dE a ((storedH xs k b u).map (entryOfKey (qD X.prog X.w)))))) { s with heap:=h',toks:=tk }/\pR X.K H (gA X.w (qT kvs k v)) ((storedH xs k b u).map (entryOfKey (qD X.prog X.w))):=by
 obtain⟨o,es,ep,ho,hx,hda,he,_,_⟩:=hd';have eo:=aES hx hda;subst eo;have hp':=aJ2 rk q rv hp;have lz:(storedH xs k b u).length<=sizeLine:=by have e1:=Paired.len hp';have e2:=Paired.len hp;have e3:=aFz (kvs:=kvs) (k:=k) (v:=v);omega
 refine⟨I.write (e:=a) (by rw[hH];exact True.intro) (.inl rfl) (λc o hc e=>hsb.extBut c o hc e) ⟨_,ho⟩ (aB7 ⟨hs,by rw[length_map];exact lz,ep,?_⟩),yZ X.prog X.w hp'⟩;rw[ho,<- he]
def aCb (k:D):Prop:=(∃ds,k=.tup ds)/\eU 6 k=true
theorem vM {K:Frag}{H:Hp}{k:D}{v:V}(h:aCb k)(r:Rep K H k v):∃b,v=.ref b:=by obtain⟨⟨ds,e⟩,_⟩:=h;rw[e] at r;obtain⟨a,_,e,_⟩:=bT r;exact⟨a,e⟩
theorem aEr (hu:X.A.units+7<cLine):aLt X λo i v H Q=>∃p k d M kvs,o=.ref p/\Rep X.K H k i/\Rep X.K H d v/\bN X.K M H/\M (.d p)=some (gA X.w kvs)/\TK kvs/\kvs.length<1000/\aCb k /\
  ∀H',bN X.K (tD M p (gA X.w (qT kvs k d))) H'->Ext H H'->Q H':=by
 intro pins s σ H o i v ov iv u Q I ro ri rv ⟨p,k,d,M,kvs,eo,rk,rd,hm,hp,tk,hl,hk,q⟩;subst eo;cases ro;obtain⟨b,rfl⟩:=vM hk rk;cases ri;obtain⟨xs,hH,hx,hd,hs,hz⟩:=vS I hm hp tk;have lx:=Paired.len hx;have hz':xs.length<sizeLine:=by rw[<- lx];exact dW (Nat.le_of_lt hl)
 refine wpAny_setItem_heap (hsz:=Nat.le_of_lt hz') (knd:=qD X.prog X.w) (by show X.A.units+1+6<cLine;omega) ⟨hk.2,mR I hk.2 rk rfl⟩ hd λh' hd' hsb=>?_;obtain⟨I',en⟩:=yQ (tk:=s.toks+(qD X.prog X.w).draws k) I hH hx hs hz' rk rv rd hd' hsb;exact⟨_,I',q _ (hm.kput hH en) (Ext.putX hH _)⟩
end
section
variable {X:Cx}{pos:Pos}
def aDm (w:World)(to ti:DE):DG:=λd ρ M Q=>to ρ M λo M1=>ti ρ M1 λi M2=>match o with
 |.ref p=>∃kvs,M2 (.d p)=some (gA w kvs)/\TK kvs/\kvs.length<1000/\aCb i/\Q ρ (tD M2 p (gA w (qT kvs i d)))
 |_=>False
theorem aGT {o i:Expr}{to ti:DE}(hu:X.A.units+7<cLine)(ho:PDE X o to)(hi:PDE X i ti)(ha:∀v,assign (.Subscript o i pos) X.env v=(do
   let ov <- holding [v] (eval o X.env)
   let iv <- holding [v,ov] (eval i X.env)
   standAt pos
   holding [v,ov,iv] (setItem ov iv v)
   release [v,ov,iv] []):=by intro _;rfl):PDG X (.Subscript o i pos) (aDm X.w to ti) :=
 aAE (aGD ho hi (aEr hu) ha) λv σ H Q ⟨d,ρ,M,Q',rd,re,hm,q,k⟩=>⟨ρ,M,_,re,hm,q,λov H1 ⟨dov,M1,rov,hm1,e1,q1⟩=>⟨ρ,M1,_,re.ext e1,hm1,q1,λiv H2 ⟨div,M2,riv,hm2,e2,q2⟩=>by
  cases dov with
  |ref p =>
   obtain⟨kvs,hp,tk,hl,hk,q2⟩:=q2;exact⟨p,div,d,M2,kvs,aQ rov,riv,(rd.ext e1).ext e2,hm2,hp,tk,hl,hk,λH3 hm3 e3=>k _ _ ⟨ρ,_,((re.ext e1).ext e2).ext e3,hm3,(e1.trans e2).trans e3,q2⟩⟩
  |_=>exact q2.elim⟩⟩
noncomputable def aGz:D->D
 |.tup [_,k,_]=>k
 |d=>d
def aF5:DSp:=λds M Q=>match ds with
 |[.ref a]=>∃es,M (.d a)=some es/\∀p:Addr,M p=none->Q (.ref p) (bE M p (es.map aGz))
 |_=>False
theorem yU (w:World)(kvs:List (D×D)):(gA w kvs).map aGz=kvs.map (·.1):=by unfold gA;rw[map_map];rfl
theorem aHi {prog:Program}{w:World}{d:Addr}{es:Array DictEntry}{ep:Nat}(hs:(d==sysModules)=false) :
  PySem.W.KdlSrc prog w "dict" d d es.size (λi v=>es[i]?.map (·.key)=some v) (λh=>aCr h d es ep) where
 type:=λ_ hm=>⟨_,hm,rfl⟩
 there:=λ_ hm=>⟨Heap.lt_size hm,Heap.lt_size hm⟩
 keep:=λ_ _ hm hk=>hk d (.inl rfl) _ hm
 notList:=by decide
 notTuple:=by decide
 hint:=λ_ _ _ _ hm hq=>PySem.W.kdl_hint_dict ⟨_,hm,rfl⟩ hq
 iter:=λA s hh hm=>⟨_,λi h=>h.IsKeyIter s.heap.objs.size d i es.size ep/\aCr h d es ep,(λ_ _ hq=>aBo hs hm hq),
  {
   sub:=λb hb=>(by simp at hb;simp[hb])
   frame:=λ_ _ _ st hk=>⟨let ⟨o,ho,r⟩:=st.1;⟨o,hk s.heap.objs.size (by simp) o ho,r⟩,hk d (by simp) _ st.2⟩
   item:=λi s1 Q E hi st hQ=>aBn hi st.1 st.2 λh' ht hb=>hQ _ h' s1.toks (by rw[Array.getElem?_eq_getElem hi];rfl) ⟨ht,hb.extBut d _ (Nat.ne_of_lt (Heap.lt_size hm)) st.2⟩ λb o hb' e=>hb.extBut b o (λz=>hb' (by simp[z])) e
   done:=λs1 Q E st hQ=>aDz hh st.1 st.2 λh' he=>hQ h' s1.toks λb o hb e=>he b o (λz=>hb (by simp[z])) e
   self:=λ_ _ _ _ st hQ=>wpAny_pyIter_keyiter st.1 hQ },
  ⟨_,Heap.get?_push_size _ rfl,rfl,rfl⟩,Heap.get?_push_of_some _ hm⟩
theorem uA {K:Frag}{H:Hp}:∀{ds:List D}{es:List DictEntry},pR K H ds es->∃vs,bZ vs (es.map (·.key))/\bR K H (ds.map aGz) vs
 |[],_,.nil=>⟨[],.nil,cP⟩
 |d::ds,e::es,.cons r rr=>by obtain⟨vs,h1,h2⟩:=uA rr;obtain⟨k,v,kv,vv,rfl,q,r1,_,_⟩:=r;exact⟨kv::vs,.cons q h1,bX r1 h2⟩
theorem aFT (hc:X.calm = true):iF X (.type "list") aF5:=by
 intro pins s σ H xs us Q I r ⟨ds,M,Q',rs,hm,q,k⟩
 match ds,q with
 |[.ref a],q =>
  obtain⟨es,ha,q⟩:=q;obtain⟨v,rfl,rv⟩:=iE rs;obtain rfl:=aQ rv;obtain⟨u,rfl,ru⟩:=uV r;cases ru;obtain⟨ens,hH,he⟩:=hm.d a es ha;obtain⟨⟨hs,hz,ep,e⟩,_⟩:=I.hok a _ hH;obtain⟨vs,hv,hr⟩:=uA he;have lv:=hv.length;rw[length_map] at lv;refine PySem.W.kdl_call (aHi (es:=ens.toArray) (ep:=ep) hs) (I.ok.hd hc) e (by rw[size_toArray];exact hz) λh' tk acc c kp hn ia=>?_;have ea:acc.toList=ens.map (·.key):=by
   refine List.ext_getElem? λi=>?_;rw[getElem?_map,Array.getElem?_toList];obtain⟨l1,l2⟩:=ia;cases hq:acc[i]? with
   |some v =>
    have this:Option.map (λx:DictEntry=>x.key) ens.toArray[i]?=some v:=l2 i v hq;rw[List.getElem?_toArray] at this;exact this.symm
   |none =>
    have hi:=Array.getElem?_eq_none_iff.mp hq;rw[l1,size_toArray] at hi;rw[List.getElem?_eq_none hi];rfl
  exact⟨.ref s.heap.objs.size,_,I.laid (t':=tk) kp (Nat.le_refl _) (show jJ X.prog X.w _ h' _ (.lst vs) from⟨by omega,acc.toList,c,by rw[ea];exact hv,by rw[hn,Array.toArray_toList]⟩),rfl,
   k _ _ ⟨.ref _,_,dM,hm.lnew I.fresh hr,Ext.new I.fresh _,q _ (hm.fresh I.fresh)⟩⟩
def aCs:DE:=λ_ M Q=>∀p:Addr,M (.d p)=none->Q (.ref p) (tD M p [])
theorem aF6:PDE X (.Dict [] [] pos) aCs:=by
 intro pins s σ H Q I ⟨ρ,M,Q',re,hm,q,k⟩;have hn:=I.hok.fresh (Nat.le_refl s.heap.objs.size);have big:sysModules<s.heap.objs.size:=Nat.lt_trans (by decide) (I.mod.glob.keeps I.bk).lt;have I1:=I.laid (a:=s.heap.objs.size) (o:=.ext (dE s.heap.objs.size [])) (h':=s.heap.push { cls:=.type "dict",data:=.dict #[] }) (t':=s.toks) (λ_ _ q=>Heap.get?_push_of_some _ q) (Nat.le_refl _)
  (aB7 ⟨beq_eq_false_iff_ne.mpr (Ne.symm (Nat.ne_of_lt big)),Nat.zero_le _,0,Heap.get?_push_size _ rfl⟩)
 exact wpAny_Dict_empty ⟨.ref s.heap.objs.size,_,I1,rfl,k _ _ ⟨.ref _,_,dM,hm.knew hn .nil,Ext.new hn _,q _ (hm.freshD hn)⟩⟩
theorem aGu {o i:Expr}{to ti:DE}{kr:Nat}(hr:eE kr X.A)(ho:PDE X o to)(hi:PDE X i ti)(ha:∀v,assign (.Subscript o i pos) X.env v=(do
   let ov <- holding [v] (eval o X.env)
   let iv <- holding [v,ov] (eval i X.env)
   standAt pos
   holding [v,ov,iv] (setItem ov iv v)
   release [v,ov,iv] []):=by intro _;rfl):PDG X (.Subscript o i pos) (aDm X.w to ti):=aGT (by have:=hr.un;omega) ho hi ha
end
open PySem.W
noncomputable def fX (lt:Nat->Nat->Bool){α:Type}:KasT α->α
 |.ret a=>a
 |.ask i j k=>fX lt (k (lt i j))
theorem jX (lt:Nat->Nat->Bool){α β:Type}{f:α->KasT β}:∀t:KasT α,fX lt (t.bind f)=fX lt (f (fX lt t))
 |.ret _=>rfl
 |.ask i j k=>jX lt (k (lt i j))
structure PmR (n:Nat)(p:Array Nat):Prop where
 perm:p.toList.Perm (range n)
section
variable {n:Nat}{lt:Nat->Nat->Bool}{p:Array Nat}
theorem PmR.size (h:PmR n p):p.size=n:=by have:=h.perm.length_eq;simpa using this
theorem PmR.ub (h:PmR n p){i:Nat}(hi:i<n):p.getD i 0<n:=by
 have hs:=h.size;have:p.getD i 0=p[i]'(by omega):=by simp[Array.getD,show i<p.size by omega]
 rw[this];exact List.mem_range.mp (h.perm.mem_iff.mp (by simp))
theorem sY {q:Array Nat}{i j:Nat}(h:q[i]?=p[j]?):q.getD i 0=p.getD j 0:=by rw[Array.getD_eq_getD_getElem?,Array.getD_eq_getD_getElem?,h]
end
def fM (n:Nat){α:Type}(R:α->Prop):KasT α->Prop
 |.ret a=>R a
 |.ask i j k=>i<n/\j<n/\∀b,fM n R (k b)
theorem fM.bind {n:Nat}{α β:Type}{R:α->Prop}{R':β->Prop}{f:α->KasT β}(hf:∀a,R a->fM n R' (f a)):∀{t:KasT α},fM n R t->fM n R' (t.bind f)
 |.ret a,h=>hf a h
 |.ask i j k,h=>⟨h.1,h.2.1,λb=>fM.bind hf (h.2.2 b)⟩
theorem fM.ite {n:Nat}{α:Type}{R:α->Prop}{c:Prop}[Decidable c]{t u:KasT α}(h1:fM n R t)(h2:fM n R u):fM n R (if c then t else u):=by split<;>assumption
theorem aBL {n:Nat}{lt:Nat->Nat->Bool}{cmp:Nat->Nat->(Bool->Shared->Prop)->Shared->Prop}{s:Shared}(hc:∀i j C,i<n->j<n->C (lt i j) s->cmp i j C s){α:Type}{R:α->Prop}{Q:α->Shared->Prop} :
  ∀(t:KasT α),fM n R t->Q (fX lt t) s->t.kasWp cmp Q s
 |.ret a,_,h=>h
 |.ask i j k,a,h=>hc i j _ a.1 a.2.1 (aBL hc (k (lt i j)) (a.2.2 _) h)
def PB (n:Nat)(p:Array Nat):Prop:=∀i:Nat,p.getD i 0<n
theorem sK {n:Nat}{p q:Array Nat}(hn:0<n)(h:q.Perm p)(P:PB n p):PB n q:=λi=>by
 rw[Array.getD_eq_getD_getElem?];cases e:q[i]? with
 |none=>exact hn
 |some x =>
  have hx:x∈p:=h.mem_iff.mp (Array.mem_of_getElem? e);obtain⟨j,hj,rfl⟩:=Array.mem_iff_getElem.mp hx;have:=P j;rw[Array.getD_eq_getD_getElem?,Array.getElem?_eq_getElem hj] at this;exact this
section
variable {n:Nat}{p:Array Nat}
theorem aCO (P:PB n p):∀f a,fM n (λ_=>True) (kas_asc p f a)
 |0,_=>True.intro
 |f+1,a=>⟨P _,P _,λc=>fM.ite True.intro (aCO P f (a+1))⟩
theorem vO (hn:0<n):∀f (p:Array Nat) a q,PB n p->fM n (λr:Array Nat×Nat×Nat=>PB n r.1) (kas_desc f p a q)
 |0,p,a,q,P=>P
 |f+1,p,a,q,P=>⟨P _,P _,λc=>fM.ite (fM.ite (vO hn f _ _ _ (sK hn (mirror_perm ..) P)) (vO hn f _ _ _ P)) ⟨P _,P _,λd=>fM.ite P (vO hn f _ _ _ P)⟩⟩
theorem aBW (hn:0<n)(P:PB n p)(k m:Nat):fM n (λr:Nat×Array Nat=>PB n r.2) (kas_tail3 k m p) :=
 by have P':PB n (kas_rev p 0 k):=sK hn (mirror_perm ..) P;unfold kas_tail3;refine fM.bind (R:=λ_=>True) (λ_ _=>?_) (aCO P' _ _);exact P'
theorem uY (hn:0<n)(P:PB n p)(k m:Nat):fM n (λr:Nat×Array Nat=>PB n r.2) (kas_descPart k m p) :=
 by unfold kas_descPart;exact fM.bind (R:=λr:Array Nat×Nat×Nat=>PB n r.1) (λr hr=>fM.ite (aBW hn (sK hn (mirror_perm ..) hr) _ _) (aBW hn hr _ _)) (vO hn _ _ _ _ P)
theorem aF8 (hn:0<n)(P:PB n p)(m:Nat):fM n (λr:Nat×Array Nat=>PB n r.2) (kas_count m p) :=
 by unfold kas_count;have r0:∀a:Nat,fM n (λr:Nat×Array Nat=>PB n r.2) (.ret (a,p)):=λa=>P;refine fM.bind (R:=λ_=>True) (λa _=>fM.ite (r0 a) (fM.ite ?_ (uY hn P _ _))) (aCO P _ _);exact⟨P _,P _,λc=>fM.ite (r0 a) (uY hn (sK hn (mirror_perm ..) P) _ _)⟩
theorem xX (P:PB n p):∀f k l r,fM n (λ_=>True) (kas_place p k f l r)
 |0,_,_,_=>True.intro
 |f+1,k,l,r=>by unfold kas_place;exact fM.ite True.intro ⟨P _,P _,λc=>fM.ite (xX P f _ _ _) (xX P f _ _ _)⟩
theorem aFK (hn:0<n):∀f (p:Array Nat) k,PB n p->fM n (PB n) (kas_bin f p k)
 |0,p,k,P=>P
 |f+1,p,k,P=>fM.bind (λl _=>aFK hn f _ _ (sK hn (bubble_perm ..) P)) (xX P _ _ _ _)
theorem aHr (hn:0<n):fM n (PB n) (kas_sort n):=by
 have P:PB n (toArray (range n)):=λi=>by
  rw[Array.getD_eq_getD_getElem?,List.getElem?_toArray];by_cases h:i<n
  ·rw[List.getElem?_range h];exact h
  ·rw[List.getElem?_eq_none (by simpa using h)];exact hn
 unfold kas_sort;refine fM.bind (R:=λr:Nat×Array Nat=>PB n r.2) (λr hr=>?_) (aF8 hn P _);have r0:fM n (PB n) (.ret r.2):=hr;exact fM.ite (aFK hn _ _ _ hr) r0
end
section
variable {prog:Program}{w:World}{A:Around}{E:Value->Shared->Prop}{s:Shared}
end
theorem yS {K:Frag}{H:Hp}{ds:List D}{us:List V}{its:List Value}(r:bR K H ds us)(v:bZ us its)(d0:D) :
  ∀idx:List Nat,(∀i∈idx,i<ds.length)->bR K H (idx.map λi=>ds.getD i d0) (idx.map λi=>us.getD i .non)/\bZ (idx.map λi=>us.getD i .non) (idx.map λi=>its.getD i Value.none)
 |[],_=>⟨cP,.nil⟩
 |i::idx,h=>by
  obtain⟨h1,h2⟩:=yS r v d0 idx λj hj=>h j (mem_cons_of_mem _ hj);have hi:=h i mem_cons_self;obtain⟨u,e1,ru⟩:=r.get (i:=i) (d:=ds[i]) (by simp[hi]);obtain⟨x,e2,rx⟩:=v.get e1;refine⟨bX ?_ h1,.cons ?_ h2⟩
  ·show Rep K H (ds.getD i d0) (us.getD i .non);rw[getD_eq_getElem?_getD,getD_eq_getElem?_getD,e1,getElem?_eq_getElem hi];exact ru
  ·show L2.RelV (us.getD i .non) (its.getD i Value.none);rw[getD_eq_getElem?_getD,getD_eq_getElem?_getD,e1,e2];exact rx
section
variable {X:Cx}{pins:List (Addr×Obj)}{σ:L2.St}{H:Hp}{s:Shared}
theorem aGV {P:Program}{w:World}{h:Heap}{a:Addr}{o:HO}(x:jJ P w H h a o):∃u,h.get? a=some u:=by
 cases o with
 |lst xs=>obtain⟨_,_,_,_,e⟩:=x;exact⟨_,e⟩
 |tup xs=>obtain⟨_,_,_,o,e,_⟩:=x;exact⟨_,e⟩
 |dK kvs=>obtain⟨_,_,_,_,o,_,_,e,_⟩:=x;exact⟨_,e⟩
 |dT kvs=>obtain⟨_,_,_,_,o,_,_,e,_⟩:=x;exact⟨_,e⟩
 |set S n=>obtain⟨o,_,_,_,e,_⟩:=x;exact⟨_,e⟩
 |ins C dx fs=>obtain⟨_,_,_,e,_⟩:=x;exact⟨_,e⟩
 |own y=>exact x
 |xd fs=>obtain⟨_,⟨_,_,_,e,_⟩,_⟩:=x;exact⟨_,e⟩
 |rng lo hi=>obtain⟨_,_,_,e⟩:=x;exact⟨_,e⟩
 |frz ob u=>obtain⟨e,_⟩:=x;exact⟨_,e⟩
 |tbl ps=>exact⟨_,(show h.get? a=some _ from x)⟩
 |met f y=>exact⟨_,(show h.get? a=some _ from x)⟩
 |ext φ=>obtain⟨_,e,_⟩:=x;exact e
theorem zG (I:Inv X pins σ H s){m:Str->Option Value}(F0:Fr X.base X.env.locals s.heap m){q:Addr}{out:List Value}{c t':Nat}{h':Heap}{zs:List V}(hlt:∀p∈qM X.base s.heap X.env.locals,p.1<q)(F:Fr X.base X.env.locals h' m)(N:News X.base X.env.locals h' ((q,{ cls:=.type "list",data:=.seq out.toArray c })::qM X.base s.heap X.env.locals))(hv:bZ zs out)(hz:zs.length<=sizeLine) :
  H q=none/\Inv X pins σ (upd H q (.lst zs)) { s with heap:=h',toks:=t' }:=by
 obtain⟨gD,nL,nB⟩:=N _ mem_cons_self;have g0:s.heap.get? q=none:=by
  cases e:s.heap.get? q with
  |none=>rfl
  |some o=>exact absurd (hlt _ (pE nL nB e)) (Nat.lt_irrefl _)
 have hn:H q=none:=by
  cases e:H q with
  |none=>rfl
  |some o =>
   obtain⟨u,e⟩:=aGV (I.hok q o e);rw[g0] at e;cases e
 have kp:∀b o,b≠X.env.locals->s.heap.get? b=some o->h'.get? b=some o:=λb o hb e=>by
  cases z:X.base.get? b with
  |some u =>
   have:=I.bk b u z;rw[e] at this;cases this;exact F.keep b _ z
  |none=>exact(N (b,o) (mem_cons_of_mem _ (pE hb z e))).1
 have ne:∀b o,s.heap.get? b=some o->b≠q:=λb o e z=>by rw[z,g0] at e;cases e
 have nH:∀b o,H b=some o->b≠q:=λb o e z=>by rw[z,hn] at e;cases e
 have nL':∀b o,H b=some o->b≠X.env.locals:=λb o e z=>by rw[z,I.free] at e;cases e
 refine⟨hn,I.step (g':=s.gens) (d':=s.drawn) (ch:=[]) (λ_ z=>nomatch z) (λb o hb _ _ e _=>kp b o hb e) (λb o hb _ _ e _=>⟨o.slots,kp b o hb e⟩) (λb o _ e n=>by rw[aM (ne b o e)];exact n) (λb o _ e=>?_)
  (λb xs e=>by rw[aM (nH b _ e)];exact e) (λb o u e=>by rw[aM (nH b _ e)];exact e) (λb ps e=>⟨#[],by rw[aM (nH b _ e),e];simp⟩) (λm' hm'=>?_) (λb o e=>?_) I.bare⟩
 ·by_cases hb:b=X.env.locals
  ·obtain⟨o',_,_,e',_⟩:=F.ns;rw[hb];exact⟨o',e'⟩
  ·exact⟨o,kp b o hb e⟩
 ·rw[hm'.eq_nsMap,<- F0.ns.eq_nsMap];exact F.ns
 ·by_cases hb:b=q
  ·subst hb;rw[bL] at e;cases e;exact⟨hz,out,c,hv,gD⟩
  ·rw[aM hb] at e;refine(I.hok b o e).stay (λb' u hb' e'=>kp b' u ?_ e') (λb' e'=>by rw[aM (nH b' _ e')];exact e') λb' xs e'=>by rw[aM (nH b' _ e')];exact e'
   rcases hb' with z|z
   ·rw[z];exact nL' b o e
   ·exact nL' b' _ z
theorem wZ {α:Type}(l:List α)(d:α):(range l.length).map (λi=>l.getD i d)=l:=by refine List.ext_getElem (by simp) λi h1 h2=>?_;simp[h2]
end
end Dd
namespace L2
open PySem PySem.Spec PyProof.Rows Dd
noncomputable def Itd (a:Addr)(o:Obj)(es:List DictEntry)(ks:List V):It :=
 ⟨λi H=>H a=some (.frz o (.ext (dE a es)))/\i<es.length,λi H x H'=>H'=H/\ks[i]?=some x,λi H=>H a=some (.frz o (.ext (dE a es)))/\es.length<=i⟩
theorem aEz {P:Program}{w:World}{K:Frag}{tg:Expr}{a it:Addr}{es:List DictEntry}{ks:List V}{ep:Nat}(hv:bZ ks (es.map (·.key))) :
  aEh P w K tg (Itd a { cls:=.type "dict",data:=.dict es.toArray ep } es ks) [it] it (λi h=>i<=es.length/\h.IsKeyIter it a i es.length ep) where
 mem:=by simp
 obj:=λi h st b hb=>by
  have e:b=it:=by simpa using hb
  subst e;obtain⟨_,o,e,c,d⟩:=st;exact⟨o,e,λv z=>by rw[d] at z;cases z⟩
 keep:=λi h h' st k=>let ⟨hl,o,ho,r⟩:=st;⟨hl,o,k it (by simp) o ho,r⟩
 item:=by
  intro X hP hw hK hc i pins s σ H E I hf st hg;subst hP hw hK;obtain⟨hH,hi⟩:=hg;have hm:aCr s.heap a es.toArray ep:=(I.hok a _ hH).1;obtain⟨f0,f1,f2,f3,f4,f5⟩:=hf it (by simp);have hi':i<es.toArray.size:=by simpa using hi
  refine aBn (es:=es.toArray) hi' (by simpa using st.2) hm λh' st' sb=>?_;have st2:h'.IsKeyIter it a (i+1) es.length ep:=by simpa using st'
  have I1:Inv X pins σ H { s with heap:=h' }:=I.turned (t':=s.toks) (λb o hb e=>(sb.2 b hb).trans e) f0 f1 f3 f4 f5;obtain⟨o,e,c,d⟩:=id st2;have lk:ks.length=es.length:=by have:=hv.length;simpa using this
  obtain⟨x,hx⟩:∃x,ks[i]?=some x:=⟨_,getElem?_eq_getElem (by omega)⟩;obtain⟨u,hu,ru⟩:=hv.get hx;have eu:u=es.toArray[i].key:=by rw[getElem?_map,getElem?_eq_getElem hi] at hu;simpa using hu.symm
  exact⟨_,rfl,aE8 (s:={ s with heap:=h' }) e c d (by decide) ⟨x,H,I1,by rw[<- eu];exact ru,⟨rfl,hx⟩,⟨hi,st2⟩,λb hb=>(hf b hb).1⟩⟩
 done:=by intro X hP hw hK hc i pins s σ H E I hf st hg;subst hP hw hK;obtain⟨hH,hi⟩:=hg;obtain rfl:i=es.length:=Nat.le_antisymm st.1 hi;have hm:aCr s.heap a es.toArray ep:=(I.hok a _ hH).1;obtain⟨f0,f1,f2,f3,f4,f5⟩:=hf it (by simp);exact aDz (es:=es.toArray) (I.ok.hd hc) (by simpa using st.2) hm λh' eb=>⟨rfl,I.turned (t':=s.toks) (λb o hb e=>eb b o hb e) f0 f1 f3 f4 f5⟩
 self:=λ_ _ _ _ _ st h=>wpAny_pyIter_keyiter st.2 h
section
variable {X:Cx}{pins:List (Addr×Obj)}{σ:St}{H:Hp}{s:Shared}{tg:Expr}{a:Addr}{φ:Heap->Prop}{o:Obj}
theorem Inv.freeze (I:Inv X pins σ H s)(hH:H a=some (.ext φ))(ho:s.heap.get? a=some o):Inv X pins σ (upd H a (.frz o (.ext φ))) s:=by have:=I.write (t':=s.toks) (h':=s.heap) (x:=a) (e:=a) (o:=.frz o (.ext φ)) (by rw[hH];exact True.intro) (.inl rfl) (λb u _ e=>e) ⟨_,ho⟩ ⟨ho,I.hok a _ hH⟩;exact this
theorem Inv.unfreeze {σ0:St}{H0:Hp}{s0:Shared}(I:Inv X pins σ0 H0 s0)(h0:H0 a=some (.ext φ))(J:Inv X pins σ H s)(hf:H a=some (.frz o (.ext φ))):Inv X pins σ (upd H a (.ext φ)) s:=by
 have ne:∀{b:Addr},H b=none->upd H a (.ext φ) b=none:=λ{b} e=>by rw[aM (λz=>by rw[z,hf] at e;cases e)];exact e
 have st:∀{b:Addr}{u:HO},H b=some u->b≠a->upd H a (.ext φ) b=some u:=λe n=>by rw[aM n];exact e
 refine⟨J.ok,J.os,J.bare,⟨J.base.keep,J.base.slot,λb o q n hx=>ne (J.base.free b o q n hx),J.base.there,λb xs q=>st (J.base.tups b xs q) λz=>?_,λb o' v q=>st (J.base.frzs b o' v q) λz=>?_,λb ps q=>?_⟩,J.loc,J.cell,ne J.free,λx c q=>ne (J.freeC x c q),λp hp=>?_,λb u e=>?_,J.len⟩
 ·have:=J.base.tups b xs q;rw[z,hf] at this;cases this
 ·have:=I.base.frzs b o' v q;rw[z,h0] at this;cases this
 ·obtain⟨m,z⟩:=J.base.tbls b ps q;exact⟨m,st z λy=>by rw[y,hf] at z;cases z⟩
 ·obtain⟨a1,a2,a3,a4,a5⟩:=J.pin p hp;exact⟨a1,ne a2,a3,a4,a5⟩
 ·by_cases z:b=a
  ·rw[z] at e ⊢;rw[bL] at e;cases e;exact(J.hok a _ hf).2
  ·rw[aM z] at e;exact(J.hok b u e).stay (λ_ _ _ q=>q) (λd q=>st q λy=>by rw[y,hf] at q;cases q) λd xs q=>st q λy=>by rw[y,hf] at q;cases q
noncomputable def aLZ (tl:TE)(a:Addr)(es:List DictEntry)(ks:List V):TI:=λσ H R=>tl σ H λx H1=>x=.ref a/\H1 a=some (.ext (dE a es))/\bZ ks (es.map (·.key))/\∀o ep,o.data=.dict es.toArray ep->R (Itd a o es ks) (upd H1 a (.frz o (.ext (dE a es))))
theorem aJ3 {l:Expr}{tl:TE}{es:List DictEntry}{ks:List V}(hl:PE X l tl):PI X tg l (aLZ tl a es ks):=by
 intro pins s σ H R I h;refine thn (hl pins s σ H _ I h) λv s1 ⟨x,H1,I1,r1,e,hH,hv,q⟩=>?_;subst e;cases r1;obtain⟨⟨hs,hz,ep,e⟩,_⟩:=I1.hok a _ hH;have If:=I1.freeze hH e;refine aBo hs e ?_;refine⟨s1.heap.objs.size,[s1.heap.objs.size],_,_,upd H1 a (.frz { cls:=.type "dict",data:=.dict es.toArray ep } (.ext (dE a es))),rfl,If.kept (t':=s1.toks) λb o e=>Heap.get?_push_of_some _ e,aEz (es:=es) (ep:=ep) hv,⟨Nat.zero_le _,_,Heap.get?_push_size _ rfl,rfl,by simp⟩,λb hb=>?_,q _ ep rfl⟩;have e:b=s1.heap.objs.size:=by simpa using hb
 subst e;exact If.fpOk (Nat.le_refl _) (If.hok.fresh (Nat.le_refl _))
noncomputable def aGO (D:sX)(a:Addr)(es:List DictEntry):sX where
 nx:=λσ H=>(∃o,H a=some (.frz o (.ext (dE a es))))/\D.nx σ (upd H a (.ext (dE a es)))
 rt:=λv H=>(∃o,H a=some (.frz o (.ext (dE a es))))/\D.rt v (upd H a (.ext (dE a es)))
 bk:=λ_ _=>False
 ct:=λ_ _=>False
def aLG (tl:TE)(g:TG)(tb:TS):TS:=λD σ H=>∃a es ks,H a=some (.ext (dE a es))/\aM1 (aLZ tl a es ks) g tb (aGO D a es) σ H
theorem aGX {iter:Expr}{body:List Stmt}{tl:TE}{g:TG}{tb:TS}{pos:Pos}(hp:PassesOwn (model X.prog X.w) X.A X.env X.xe)(hc:X.calm=true)(hi:PE X iter tl)(hg:PG X tg g)(hb:PSs X body tb)(hs:∀x,foldedSetIterable iter X.env x=pure x:=by intro _;rfl):PS X (.For tg iter body [] pos) (aLG tl g tb):=by
 intro pins s σ H D I ⟨a,es,ks,hH,h⟩;refine thn (vZ hp hc (aJ3 hi) hg hb hs pins s σ H (aGO D a es) I h) λfl s' hs=>?_;cases fl with
 |next =>
  obtain⟨σ',H',J,⟨o,hf⟩,q⟩:=hs;exact⟨σ',_,I.unfreeze hH J hf,q⟩
 |ret u =>
  obtain⟨v,σ',H',J,rv,⟨o,hf⟩,q⟩:=hs;exact⟨v,σ',_,I.unfreeze hH J hf,rv,q⟩
 |brk=>obtain⟨_,_,_,z⟩:=hs;exact z.elim
 |cont=>obtain⟨_,_,_,z⟩:=hs;exact z.elim
end
end L2
namespace Dd
open PySem PySem.Spec PyProof.Rows L2
noncomputable def aBz (w:World)(M:DM)(a:Addr)(kvs:List (D×D)):DM:=λb=>if b=.x a then some (.bl true::gA w kvs) else if b=.d a then none else M b
noncomputable def aB0 (w:World)(M:DM)(a:Addr)(kvs:List (D×D)):DM:=λb=>if b=.d a then some (gA w kvs) else if b=.x a then none else M b
theorem aGg {w:World}{M:DM}{a:Addr}{kvs:List (D×D)}:aBz w M a kvs (.x a)=some (.bl true::gA w kvs):=if_pos rfl
theorem nI {w:World}{M:DM}{a:Addr}{kvs:List (D×D)}{b:AK}(h1:b ≠ .x a)(h2:b ≠ .d a):aBz w M a kvs b=M b:=by unfold aBz;rw[if_neg h1,if_neg h2]
theorem aJW {w:World}{M:DM}{a:Addr}{kvs:List (D×D)}:aB0 w M a kvs (.d a)=some (gA w kvs):=if_pos rfl
theorem qK {w:World}{M:DM}{a:Addr}{kvs:List (D×D)}{b:AK}(h1:b ≠ .x a)(h2:b ≠ .d a):aB0 w M a kvs b=M b:=by unfold aB0;rw[if_neg h2,if_neg h1]
section
variable {K:Frag}{M:DM}{H:Hp}{w:World}{a:Addr}{kvs:List (D×D)}{es:List DictEntry}{o:Obj}{ep:Nat}
theorem aH0 (hm:bN K M H)(hH:H a=some (.ext (dE a es)))(hr:pR K H (gA w kvs) es)(ho:o.data=.dict es.toArray ep):bN K (aBz w M a kvs) (upd H a (.frz o (.ext (dE a es)))):=by
 have ex:Ext H (upd H a (.frz o (.ext (dE a es)))):=Ext.putX hH _;have st:∀{b:Addr}{u:HO},H b=some u->(∀φ,u ≠ .ext φ)->upd H a (.frz o (.ext (dE a es))) b=some u:=λe n=>by rw[aM (λz=>by rw[z,hH] at e;exact n _ (Option.some.inj e).symm)];exact e
 refine⟨λb ds q=>?_,λb ds q=>?_,λb ds q=>?_,λb ds q=>?_⟩
 ·rw[nI (by intro z;cases z) (by intro z;cases z)] at q;obtain⟨xs,z,r⟩:=hm.l b ds q;exact⟨xs,st z (by intro φ z;cases z),r.ext ex⟩
 ·by_cases e:b=a
  ·unfold aBz at q;rw[if_neg (by intro z;cases z),if_pos (by rw[e])] at q;cases q
  ·rw[nI (by intro z;cases z) (λz=>e (AK.d.inj z))] at q;obtain⟨xs,z,r⟩:=hm.d b ds q;exact⟨xs,by rw[aM e];exact z,eV r ex⟩
 ·rw[nI (by intro z;cases z) (by intro z;cases z)] at q;obtain⟨C,dx,gs,fs,y,z,r⟩:=hm.o b ds q;exact⟨C,dx,gs,fs,y,st z (by intro φ z;cases z),iQ r ex⟩
 ·by_cases e:b=a
  ·rw[e,aGg] at q;cases q;rw[e];exact⟨o,es,ep,ho,bL,eV hr ex⟩
  ·rw[nI (λz=>e (AK.x.inj z)) (by intro z;cases z)] at q;exact(hm.x b ds q).wr ex λps z=>by rw[hH] at z;cases z
theorem aC7 (hm:bN K M H)(hf:H a=some (.frz o (.ext (dE a es))))(hx:M (.x a)=some (.bl true::gA w kvs)):bN K (aB0 w M a kvs) (upd H a (.ext (dE a es)))/\aCE K H (upd H a (.ext (dE a es))):=by
 obtain⟨o',ens,ep,ho,h1,hr⟩:aKw K H a (gA w kvs):=hm.x a _ hx;rw[hf] at h1;have e1:=HO.frz.inj (Option.some.inj h1);obtain⟨rfl,e2⟩:=e1;rw[e2];rw[e2] at hf;have nc:∀{d:Addr}{q:HO},H d=some q->(∀φ,q ≠ .frz o (.ext φ))->upd H a (.ext (dE a ens)) d=some q:=λe n=>by rw[aM (λy=>by rw[y,hf] at e;exact n _ (Option.some.inj e).symm)];exact e
 have sx:aCE K H (upd H a (.ext (dE a ens))):=by
  refine⟨λh=>?_,λh=>?_⟩
  ·rcases h with(h|⟨o,h⟩)|h
   ·exact .inl (.inl (nc h (by intro φ z;cases z)))
   ·exact .inl (.inr ⟨o,nc h (by intro φ z;cases z)⟩)
   ·exact .inr h
  ·rcases h with⟨o,h⟩|h
   ·exact .inl ⟨o,nc h (by intro φ z;cases z)⟩
   ·exact .inr h
 have er:∀{d:D}{e:DictEntry},aEp K H d e->aEp K (upd H a (.ext (dE a ens))) d e:=λr=>let ⟨k,v,kv,vv,a,b,c,f,g⟩:=r;⟨k,v,kv,vv,a,b,c.extS sx,f,g.extS sx⟩
 refine⟨⟨λb ds q=>?_,λb ds q=>?_,λb ds q=>?_,λb ds q=>?_⟩,sx⟩
 ·rw[qK (by intro z;cases z) (by intro z;cases z)] at q;obtain⟨xs,z,r⟩:=hm.l b ds q;exact⟨xs,nc z (by intro φ z;cases z),r.extS sx⟩
 ·by_cases e:b=a
  ·rw[e,aJW] at q;cases q;rw[e];exact⟨ens,bL,Paired.mapP hr λ_ _ r=>er r⟩
  ·rw[qK (by intro z;cases z) (λz=>e (AK.d.inj z))] at q;obtain⟨xs,z,r⟩:=hm.d b ds q;exact⟨xs,nc z (by intro φ z;cases z),Paired.mapP r λ_ _ r=>er r⟩
 ·rw[qK (by intro z;cases z) (by intro z;cases z)] at q;obtain⟨C,dx,gs,fs,y,z,r⟩:=hm.o b ds q;exact⟨C,dx,gs,fs,y,nc z (by intro φ z;cases z),Paired.mapP r λ_ _ r=>⟨r.1,r.2.extS sx⟩⟩
 ·by_cases e:b=a
  ·unfold aB0 at q;rw[if_neg (by intro z;cases z),if_pos (by rw[e])] at q;cases q
  ·rw[qK (λz=>e (AK.x.inj z)) (by intro z;cases z)] at q;have x:=hm.x b ds q;unfold sS at x ⊢;split at x
   ·obtain⟨ps,h1,h2,h3⟩:=x;exact⟨ps,nc h1 (by intro φ z;cases z),h2,λpos v z=>let ⟨c,oc,u,vs,t,a,b,e,r⟩:=h3 pos v z;⟨c,oc,u,vs,t,a,nc b (by intro φ z;cases z;rw[ho] at e;cases e),e,r⟩⟩
   ·obtain⟨q,a1,a2,b1,b2,b3,b4,b5,b6,b7,b8,d,d',pm,ct,od,od',v,v',vs,t,h1,h4,h5,h6,h7,h8⟩:=x;exact⟨q,a1,a2,b1,b2,b3,b4,b5,b6,b7,b8,d,d',pm,ct,od,od',v,v',vs,t,nc h1 (by intro φ z;cases z;cases ho),nc h4 (by intro φ z;cases z),h5,nc h6 (by intro φ z;cases z;rw[ho] at h7;cases h7),h7,h8⟩
   ·obtain⟨o',ens',ep',h0,h1,h2⟩:=x;exact⟨o',ens',ep',h0,by rw[aM e];exact h1,Paired.mapP h2 λ_ _ r=>er r⟩
   ·exact x
end
noncomputable def aI9 (w:World)(E:fR)(a:Addr)(kvs:List (D×D)):fR where
 nx:=λρ M=>M (.x a)=some (.bl true::gA w kvs)/\E.nx ρ (aB0 w M a kvs)
 rt:=λd M=>M (.x a)=some (.bl true::gA w kvs)/\E.rt d (aB0 w M a kvs)
 bk:=λ_ _=>False
 ct:=λ_ _=>False
def aGN (w:World)(i:Nat)(g:DG)(tb:DS):DS:=λE ρ M=>match ρ[i]? with
 |some (some (.ref a))=>∃kvs,M (.d a)=some (gA w kvs)/\TK kvs/\dIt none (kvs.map (·.1)) g tb (aI9 w E a kvs) ρ (aBz w M a kvs)
 |_=>False
section
variable {X:Cx}{tg:Expr}{body:List Stmt}{g:DG}{tb:DS}{pos:Pos}
theorem aHH (i:Nat){x:Str}{p:Pos}(hp:PassesOwn (model X.prog X.w) X.A X.env X.xe)(hc:X.calm=true)(hg:PDG X tg g)(hb:mD X body tb)(hN:X.N[i]?=some x:=by rfl)(hv:Vis X.env.scope x:=by first|exact Or.inl rfl|exact Or.inr (Or.inl rfl)|exact Or.inr (Or.inr rfl))(hd:(x==("__debug__":Str))=false:=by decide)(hcd:(x==("__classdict__":Str))=false:=by decide)(hs:∀y,foldedSetIterable (.Name x p) X.env y=pure y:=by intro _;rfl):PDS X (.For tg (.Name x p) body [] pos) (aGN X.w i g tb) :=
 gF (aGX hp hc (aFG (i:=i) hN hv hd hcd) hg hb hs) λE σ H ⟨ρ,M,Dn,re,hm,q,k⟩=>by
  unfold aGN at q;split at q
  case h_2=>exact q.elim
  rename_i a e1;obtain⟨kvs,ha,tk,q⟩:=q;obtain⟨v,e2,rv⟩:=re.get i _ e1;have ev:=aQ rv;subst ev;obtain⟨es,hH,hr⟩:=hm.d a _ ha;obtain⟨ks,hks,rks⟩:=uA hr;rw[yU] at rks;have ls:ks.length=es.length:=by have:=hks.length;simpa using this
  have lk:kvs.length=ks.length:=by have:=rks.length;simpa using this
  refine⟨a,es,ks,hH,⟨_,e2,rfl,hH,hks,λo ep ho=>?_⟩⟩;have exf:Ext H (upd H a (.frz o (.ext (dE a es)))):=Ext.putX hH _;have hmf:=aH0 hm hH hr ho;have kf:nN X.K (upd H a (.frz o (.ext (dE a es)))) (aI9 X.w Dn a kvs) (aGO E a es):=by
   have cv:∀{H':Hp},Ext (upd H a (.frz o (.ext (dE a es)))) H'->H' a=some (.frz o (.ext (dE a es))):=λe=>e.frz a _ _ bL;have ex2:∀{H':Hp},Ext (upd H a (.frz o (.ext (dE a es)))) H'->Ext H (upd H' a (.ext (dE a es))):=λ{H'} e=>by
    have n:∀{b:Addr}{u:HO},H b=some u->(∀φ,u ≠ .ext φ)->b≠a:=λq n z=>by rw[z,hH] at q;exact n _ (Option.some.inj q).symm
    have all:=exf.trans e;exact⟨λb xs q=>by rw[aM (n q (by intro φ z;cases z))];exact all.tup b xs q,λb o u q=>by rw[aM (n q (by intro φ z;cases z))];exact all.frz b o u q⟩
   refine⟨λσ' H' ⟨ρ',M',re',hm',e',hx',q'⟩=>?_,λv' H' ⟨d',M',rd',hm',e',hx',q'⟩=>?_,λσ' H' ⟨_,_,_,_,_,z⟩=>z.elim,λσ' H' ⟨_,_,_,_,_,z⟩=>z.elim⟩
   ·obtain⟨h1,h2⟩:=aC7 hm' (cv e') hx';exact⟨⟨o,cv e'⟩,k.nx _ _ ⟨ρ',_,⟨re'.len,λi d z=>let ⟨v,a,b⟩:=re'.get i d z;⟨v,a,b.extS h2⟩⟩,h1,ex2 e',q'⟩⟩
   ·obtain⟨h1,h2⟩:=aC7 hm' (cv e') hx';exact⟨⟨o,cv e'⟩,k.rt _ _ ⟨d',_,rd'.extS h2,h1,ex2 e',q'⟩⟩
  exact aFC (.refl _) (re.ext exf) hmf kf q λH' e' M' hm' _=>⟨ks,rks.ext (exf.trans e'),λi hi=>⟨e'.frz a _ _ bL,by omega⟩,λi hi=>⟨e'.frz a _ _ bL,by omega⟩,λi x H2 ⟨z,hx⟩=>⟨z,hx⟩⟩
end
end Dd
namespace L2
open PySem PySem.Spec PyProof.Rows
section
variable {X:Cx}
theorem xK (hc:X.calm = true):sB X (.builtin "any") (λxs H Q=>∃(p:Addr)(bs:List Bool),xs=[.ref p]/\SqL X.K H p (bs.map V.bl)/\Q (.bl (bs.any id)) H):=by
 intro pins s σ H xs us Q I r h;obtain⟨p,bs,rfl,hq,q⟩:=h;obtain⟨u,rfl,rx⟩:=uV r;cases rx;obtain⟨its,r',pl,hz⟩:=I.list hq;have hl:=pl.isList;have hlt:p<s.heap.objs.size:=by obtain⟨_,e,_⟩:=hl;exact Heap.lt_size e
 have hg:∀(i:Nat)(v:Value),its.toArray[i]?=some v->∃b,bs[i]?=some b/\v=Value.bool b:=λi v e=>by
  obtain⟨x,hx,rv⟩:∃x,(bs.map V.bl)[i]?=some x/\RelV x v:=by
   have:=r'.length;have hi:i<its.length:=by have:=(Array.getElem?_eq_some_iff.mp e).1;simpa using this
   have hi':i<(bs.map V.bl).length:=by omega
   obtain⟨w,hw,rw'⟩:=r'.get (i:=i) (getElem?_eq_getElem hi');have:w=v:=by
    have e':its[i]?=some v:=by simpa using e
    rw[e'] at hw;exact(Option.some.inj hw).symm
   subst this;exact⟨_,getElem?_eq_getElem hi',rw'⟩
  rw[getElem?_map] at hx;cases hb:bs[i]? with
  |none=>rw[hb] at hx;cases hx
  |some b=>rw[hb] at hx;cases hx;cases rv;exact⟨b,rfl,rfl⟩
 refine call_any_walk (wpAny_pyIter_list hl ?_);refine⟨s.heap.objs.size,[s.heap.objs.size,p],[s.heap.objs.size],its.toArray.size,_,_,λi=>(bs[i]?).getD false,rfl,Walks.list (A:=X.A.in1) (I.ok.hd hc) _ p (Nat.ne_of_lt hlt) its.toArray,
  ⟨⟨_,Heap.get?_push_size _ rfl,rfl,rfl⟩,hl.push _⟩,λi v s' Q' E' hP hQ=>?_,λh' tk hk=>?_⟩
 ·obtain⟨b,e,rfl⟩:=hg i v hP;simp only[e,Option.getD_some] at hQ;exact wpAny_truthy_bool hQ
 ·have e:((range its.toArray.size).any λi=>(bs[i]?).getD false)=bs.any id:=by have l1:=r'.length;rw[length_map] at l1;rw[size_toArray,<- l1];exact LSm.range_any bs
  rw[e];exact⟨.bl (bs.any id),H,I.kept (t':=tk) (LSm.kept_iter hk),rfl,q⟩
end
end L2
namespace Dd
open PySem PySem.Spec PyProof.Rows L2
section
variable {X:Cx}
def aMV:DSp:=λds M Q=>match ds with
 |[.ref a]=>∃bs:List Bool,M a=some (bs.map D.bl)/\Q (.bl (bs.any id)) M
 |_=>False
theorem aAe (hc:X.calm = true):iF X (.builtin "any") aMV:=iF.of (xK hc) λvs H M ds Q rs hm q=>by
 rcases ds with _|⟨d,_|⟨d2,r⟩⟩
 ·exact q.elim
 ·cases d with
  |ref a =>
   obtain⟨v,rfl,rv⟩:=iE rs;obtain rfl:=aQ rv;obtain⟨bs,ha,q⟩:=q;obtain⟨us,hu,ru⟩:=hm.l a _ ha;obtain rfl:=aBJ ru;exact⟨a,bs,rfl,.of hu,_,M,fK,hm,.refl H,q⟩
  |_=>exact q.elim
 ·cases d<;>exact q.elim
end
open PySem.W
structure Wk (n:Nat)(lt:Nat->Nat->Bool):Prop where
 asym:∀i j,i<n->j<n->lt i j=true->lt j i=false
 tr:∀i j k,i<n->j<n->k<n->lt j i=false->lt k j=false->lt k i=false
theorem Wk.irr {n:Nat}{lt:Nat->Nat->Bool}(L:Wk n lt){i:Nat}(h:i<n):lt i i=false:=by
 cases e:lt i i with
 |false=>rfl
 |true=>have:=L.asym i i h h e;rw[e] at this;cases this
def vK (lt:Nat->Nat->Bool)(p:Array Nat)(k:Nat):Prop:=∀i j,i<j->j<k->lt (p.getD j 0) (p.getD i 0)=false
def aAk (lt:Nat->Nat->Bool)(p:Array Nat)(k:Nat):Prop:=∀i j,i<j->j<k->lt (p.getD i 0) (p.getD j 0)=false
def EqW (lt:Nat->Nat->Bool)(p:Array Nat)(x k:Nat):Prop:=∀i j,x<=i->i<k->x<=j->j<k->lt (p.getD i 0) (p.getD j 0)=false
section
variable {n:Nat}{lt:Nat->Nat->Bool}{p:Array Nat}
theorem aD7 (L:Wk n lt)(P:PmR n p){a:Nat}(h1:1<=a)(ha:a<n)(h:vK lt p a)(hl:lt (p.getD a 0) (p.getD (a-1) 0)=false):vK lt p (a+1):=by
 intro i j hij hj;by_cases z:j=a
 ·subst z;by_cases y:i=j-1
  ·rw[y];exact hl
  ·exact L.tr _ _ _ (P.ub (by omega)) (P.ub (by omega)) (P.ub ha) (h i (j-1) (by omega) (by omega)) hl
 ·exact h i j hij (by omega)
theorem yP (L:Wk n lt)(P:PmR n p){a:Nat}(h1:1<=a)(ha:a<n)(h:aAk lt p a)(hl:lt (p.getD (a-1) 0) (p.getD a 0)=false):aAk lt p (a+1):=by
 intro i j hij hj;by_cases z:j=a
 ·subst z;by_cases y:i=j-1
  ·rw[y];exact hl
  ·exact L.tr _ _ _ (P.ub ha) (P.ub (by omega)) (P.ub (by omega)) hl (h i (j-1) (by omega) (by omega))
 ·exact h i j hij (by omega)
theorem pM (P:PmR n p){x k:Nat}(hk:k<=n)(hx:x<=k)(i:Nat):(kas_rev p x k).getD i 0=if x<=i/\i<k then p.getD (x+k-1-i) 0 else p.getD i 0:=by
 have hs:=P.size;have:=getElem?_mirror_all (xs:=p) (i:=x) (j:=k) (by omega) i;by_cases c:x<=i/\i<k
 ·rw[if_pos c] at this ⊢;exact sY this
 ·rw[if_neg c] at this ⊢;exact sY this
theorem xE (P:PmR n p)(x k:Nat):PmR n (kas_rev p x k):=⟨(Array.perm_iff_toList_perm.mp (mirror_perm p x k ((k-x)/2))).trans P.perm⟩
theorem aDI (P:PmR n p){x k:Nat}(hk:k<=n)(hx:x<=k)(h:aAk lt p k)(e:EqW lt p x k):aAk lt (kas_rev p x k) k:=by
 intro i j hij hj;rw[pM P hk hx,pM P hk hx];by_cases c2:x<=j
 ·rw[if_pos (⟨c2,hj⟩:x<=j/\j<k)];by_cases c1:x<=i
  ·rw[if_pos ⟨c1,by omega⟩];exact e _ _ (by omega) (by omega) (by omega) (by omega)
  ·rw[if_neg (by omega)];exact h _ _ (by omega) (by omega)
 ·rw[if_neg (by omega),if_neg (by omega)];exact h i j hij hj
theorem vT (L:Wk n lt)(P:PmR n p):∀(f a:Nat),1<=a->a+f=n->vK lt p a->a<=fX lt (kas_asc p f a)/\fX lt (kas_asc p f a)<=n/\vK lt p (fX lt (kas_asc p f a))/\(fX lt (kas_asc p f a)<n->lt (p.getD (fX lt (kas_asc p f a)) 0) (p.getD (fX lt (kas_asc p f a)-1) 0)=true)
 |0,a,h1,h2,h=>⟨Nat.le_refl _,by show a<=n;omega,h,λz=>by have z:a<n:=z;omega⟩
 |f+1,a,h1,h2,h=>by
  have e:fX lt (kas_asc p (f+1) a)=if lt (p.getD a 0) (p.getD (a-1) 0)=true then a else fX lt (kas_asc p f (a+1)):=by show fX lt (if lt (p.getD a 0) (p.getD (a-1) 0)=true then .ret a else kas_asc p f (a+1))=_;split<;>rfl
  rw[e];by_cases c:lt (p.getD a 0) (p.getD (a-1) 0)=true
  ·rw[if_pos c];exact⟨Nat.le_refl _,by omega,h,λ_=>c⟩
  ·rw[if_neg c];have c':lt (p.getD a 0) (p.getD (a-1) 0)=false:=by simpa using c
   obtain⟨q1,q2,q3,q4⟩:=vT L P f (a+1) (by omega) (by omega) (aD7 L P h1 (by omega) h c');exact⟨by omega,q2,q3,q4⟩
theorem qP (L:Wk n lt):∀(f a q:Nat)(p:Array Nat),PmR n p->q+1<=a->a+f=n->aAk lt p a->EqW lt p (a-(q+1)) a ->
  ∃p' m q',fX lt (kas_desc f p a q)=(p',m,q')/\PmR n p'/\a<=m/\m<=n/\q'+1<=m/\aAk lt p' m/\EqW lt p' (m-(q'+1)) m
 |0,a,q,p,P,h1,h2,h,e=>⟨p,a,q,rfl,P,Nat.le_refl _,by omega,h1,h,e⟩
 |f+1,a,q,p,P,h1,h2,h,e=>by
  have one:∀{p':Array Nat},PmR n p'->EqW lt p' (a+1-(0+1)) (a+1):=λP' i j i1 i2 j1 j2=>by
   have:i=a:=by omega
   have:j=a:=by omega
   subst_vars
   exact L.irr (P'.ub (by omega))
  by_cases c:lt (p.getD a 0) (p.getD (a-1) 0)=true
  ·have c1:=L.asym _ _ (P.ub (by omega)) (P.ub (by omega)) c;have dn:=yP L P (by omega) (by omega) h c1;show ∃p' m q',fX lt (if lt (p.getD a 0) (p.getD (a-1) 0)=true then (if q > 0 then kas_desc f (kas_rev p (a-(q+1)) a) (a+1) 0 else kas_desc f p (a+1) 0) else _)=(p',m,q')/\_;rw[if_pos c];by_cases hq:q > 0
   ·rw[if_pos hq];have P1:=xE P (a-(q+1)) a;have d1:=aDI P (by omega) (by omega) h e;obtain⟨p',m,q',e1,P',m1,m2,m3,d,e2⟩:=qP L f (a+1) 0 _ P1 (by omega) (by omega) (λi j hij hj=>by
     by_cases z:j=a
     ·subst z;rw[pM P (by omega) (by omega) j,if_neg (by omega),pM P (by omega) (by omega) i];by_cases y:j-(q+1)<=i/\i<j
      ·rw[if_pos y];exact dn _ _ (by omega) (by omega)
      ·rw[if_neg y];exact dn _ _ (by omega) (by omega)
     ·exact d1 i j hij (by omega)) (one P1)
    exact⟨p',m,q',e1,P',by omega,m2,m3,d,e2⟩
   ·rw[if_neg hq];obtain⟨p',m,q',e1,P',m1,m2,m3,d,e2⟩:=qP L f (a+1) 0 p P (by omega) (by omega) dn (one P);exact⟨p',m,q',e1,P',by omega,m2,m3,d,e2⟩
  ·have c':lt (p.getD a 0) (p.getD (a-1) 0)=false:=by simpa using c
   show ∃p' m q',fX lt (if lt (p.getD a 0) (p.getD (a-1) 0)=true then _ else .ask (p.getD (a-1) 0) (p.getD a 0) λd=>if d=true then .ret (p,a,q) else kas_desc f p (a+1) (q+1))=(p',m,q')/\_;rw[if_neg c];show ∃p' m q',fX lt (if lt (p.getD (a-1) 0) (p.getD a 0)=true then .ret (p,a,q) else kas_desc f p (a+1) (q+1))=(p',m,q')/\_;by_cases d:lt (p.getD (a-1) 0) (p.getD a 0)=true
   ·rw[if_pos d];exact⟨p,a,q,rfl,P,Nat.le_refl _,by omega,h1,h,e⟩
   ·rw[if_neg d];have d':lt (p.getD (a-1) 0) (p.getD a 0)=false:=by simpa using d
    have dn:=yP L P (by omega) (by omega) h d';obtain⟨p',m,q',e1,P',m1,m2,m3,dd,e2⟩:=qP L f (a+1) (q+1) p P (by omega) (by omega) dn (λi j i1 i2 j1 j2=>by
     by_cases zi:i=a
     ·by_cases zj:j=a
      ·rw[zi,zj];exact L.irr (P.ub (by omega))
      ·rw[zi];by_cases y:j=a-1
       ·rw[y];exact c'
       ·exact L.tr _ _ _ (P.ub (by omega)) (P.ub (by omega)) (P.ub (by omega)) (e (a-1) j (by omega) (by omega) (by omega) (by omega)) c'
     ·by_cases zj:j=a
      ·rw[zj];exact dn i a (by omega) (by omega)
      ·exact e i j (by omega) (by omega) (by omega) (by omega))
    exact⟨p',m,q',e1,P',by omega,m2,m3,dd,e2⟩
theorem aIc (P:PmR n p){k:Nat}(hk:k<=n)(h:aAk lt p k):vK lt (kas_rev p 0 k) k:=λi j hij hj=>by rw[pM P hk (Nat.zero_le _),pM P hk (Nat.zero_le _),if_pos ⟨Nat.zero_le _,hj⟩,if_pos ⟨Nat.zero_le _,by omega⟩];exact h _ _ (by omega) (by omega)
theorem tK (L:Wk n lt)(P:PmR n p){a:Nat}(h1:1<=a)(ha:a<n)(h:aAk lt p (a+1)):∃m q,fX lt (kas_descPart a n p)=(m,q)/\1<=m/\m<=n/\PmR n q/\vK lt q m:=by
 unfold kas_descPart;rw[jX];obtain⟨p',m,q',e1,P',m1,m2,m3,d,e2⟩:=qP L (n-(a+1)) (a+1) 0 p P (by omega) (by omega) h (λi j i1 i2 j1 j2=>by
  have:i=a:=by omega
  have:j=a:=by omega
  subst_vars
  exact L.irr (P.ub (by omega)))
 rw[e1];dsimp only;have fin:∀{r:Array Nat},PmR n r->aAk lt r m->∃m' q,fX lt (kas_tail3 m n r)=(m',q)/\1<=m'/\m'<=n/\PmR n q/\vK lt q m':=λ{r} R D=>by unfold kas_tail3;rw[jX];obtain⟨b1,b2,b3,_⟩:=vT L (xE R 0 m) (n-m) m (by omega) (by omega) (aIc R m2 D);exact⟨_,_,rfl,by omega,b2,xE R 0 m,b3⟩
 by_cases hq:q' > 0
 ·rw[if_pos hq];exact fin (xE P' _ _) (aDI P' m2 (by omega) d e2)
 ·rw[if_neg hq];exact fin P' d
theorem aCx (L:Wk n lt)(P:PmR n p)(hn:1<=n):∃m q,fX lt (kas_count n p)=(m,q)/\1<=m/\m<=n/\PmR n q/\vK lt q m:=by
 obtain⟨a1,a2,a3,a4⟩:=vT L P (n-1) 1 (Nat.le_refl _) (by omega) (λi j h1 h2=>by omega);unfold kas_count;rw[jX];generalize hm:fX lt (kas_asc p (n-1) 1)=m at *;by_cases c:m=n
 ·rw[if_pos (by simp[c])];exact⟨m,p,rfl,a1,a2,P,a3⟩
 ·rw[if_neg (by simp[c])];have c1:=L.asym _ _ (P.ub (by omega)) (P.ub (by omega)) (a4 (by omega));by_cases c2:m > 1
  ·rw[if_pos c2];show ∃m' q,fX lt (if lt (p.getD 0 0) (p.getD (m-1) 0)=true then .ret (m,p) else kas_descPart m n (kas_rev p 0 m))=(m',q)/\_;by_cases d:lt (p.getD 0 0) (p.getD (m-1) 0)=true
   ·rw[if_pos d];exact⟨m,p,rfl,a1,a2,P,a3⟩
   ·rw[if_neg d];have d':lt (p.getD 0 0) (p.getD (m-1) 0)=false:=by simpa using d
    have le0:∀i,i<m->lt (p.getD i 0) (p.getD 0 0)=false:=λi hi=>by
     rcases Nat.eq_zero_or_pos i with z|z
     ·rw[z];exact L.irr (P.ub (by omega))
     ·exact a3 0 i z hi
    have leM:∀i,i<m->lt (p.getD (m-1) 0) (p.getD i 0)=false:=λi hi=>by
     by_cases z:i=m-1
     ·rw[z];exact L.irr (P.ub (by omega))
     ·exact a3 i (m-1) (by omega) (by omega)
    have all:EqW lt p 0 m:=λi j _ hi _ hj=>by have s1:lt (p.getD 0 0) (p.getD j 0)=false:=L.tr _ _ _ (P.ub (by omega)) (P.ub (by omega)) (P.ub (by omega)) (leM j hj) d';exact L.tr _ _ _ (P.ub (by omega)) (P.ub (by omega)) (P.ub (by omega)) s1 (le0 i hi)
    refine tK L (xE P 0 m) a1 (by omega) λi j hij hj=>?_;rw[pM P (by omega) (Nat.zero_le _) i,if_pos ⟨Nat.zero_le _,by omega⟩];rw[pM P (by omega) (Nat.zero_le _) j];by_cases z:j<m
    ·rw[if_pos ⟨Nat.zero_le _,z⟩];exact all _ _ (Nat.zero_le _) (by omega) (Nat.zero_le _) (by omega)
    ·rw[if_neg (by omega),show j=m by omega];exact L.tr _ _ _ (P.ub (by omega)) (P.ub (by omega)) (P.ub (by omega)) c1 (all _ (m-1) (Nat.zero_le _) (by omega) (Nat.zero_le _) (by omega))
  ·rw[if_neg c2];have m1:m=1:=by omega
   subst m1;exact tK L P (Nat.le_refl _) (by omega) λi j h1 h2=>by
    have:i=0:=by omega
    have:j=1:=by omega
    subst_vars
    exact c1
theorem rS (L:Wk n lt)(P:PmR n p){k:Nat}(hk:k<n)(hI:vK lt p k):∀(f l r:Nat),l<=r->r<=k->r-l<=f->(∀i,i<l->lt (p.getD k 0) (p.getD i 0)=false)->(∀i,r<=i->i<k->lt (p.getD i 0) (p.getD k 0)=false) ->
  fX lt (kas_place p k f l r)<=k/\(∀i,i<fX lt (kas_place p k f l r)->lt (p.getD k 0) (p.getD i 0)=false)/\∀i,fX lt (kas_place p k f l r)<=i->i<k->lt (p.getD i 0) (p.getD k 0)=false
 |0,l,r,h1,h2,h3,h4,h5=>⟨by show l<=k;omega,h4,λi hi hk=>h5 i (by have hi:l<=i:=hi;omega) hk⟩
 |f+1,l,r,h1,h2,h3,h4,h5=>by
  unfold kas_place;by_cases c:l ≥ r
  ·rw[if_pos c];exact⟨by show l<=k;omega,h4,λi hi hk=>h5 i (by have hi:l<=i:=hi;omega) hk⟩
  ·rw[if_neg c];show fX lt (if lt (p.getD k 0) (p.getD ((l+r)/2) 0)=true then _ else _)<=k/\(∀i,i<fX lt (if lt (p.getD k 0) (p.getD ((l+r)/2) 0)=true then _ else _)->_)/\∀i,fX lt (if lt (p.getD k 0) (p.getD ((l+r)/2) 0)=true then _ else _)<=i->_;have hm1:l<=(l+r)/2:=by omega
   have hm2:(l+r)/2<r:=by omega
   generalize (l+r)/2=x at *;by_cases d:lt (p.getD k 0) (p.getD x 0)=true
   ·rw[if_pos d];have d2:=L.asym _ _ (P.ub hk) (P.ub (by omega)) d;refine rS L P hk hI f l x hm1 (by omega) (by omega) h4 λi hi hik=>?_;by_cases z:i=x
    ·rw[z];exact d2
    ·have d3:lt (p.getD i 0) (p.getD k 0)=false:=by
      cases y:lt (p.getD i 0) (p.getD k 0) with
      |false=>rfl
      |true =>
       have y2:=L.asym _ _ (P.ub (by omega)) (P.ub hk) y;have:=L.tr _ _ _ (P.ub (by omega:x<n)) (P.ub (by omega:i<n)) (P.ub hk) (hI x i (by omega) hik) y2;rw[d] at this;cases this
     exact d3
   ·rw[if_neg d];have d':lt (p.getD k 0) (p.getD x 0)=false:=by simpa using d
    refine rS L P hk hI f (x+1) r (by omega) h2 (by omega) (λi hi=>?_) h5;by_cases z:i=x
    ·rw[z];exact d'
    ·exact L.tr _ _ _ (P.ub (by omega)) (P.ub (by omega)) (P.ub hk) (hI i x (by omega) (by omega)) d'
theorem aBI (L:Wk n lt):∀(f k:Nat)(p:Array Nat),PmR n p->1<=k->k+f=n->vK lt p k->PmR n (fX lt (kas_bin f p k))/\vK lt (fX lt (kas_bin f p k)) n
 |0,k,p,P,h1,h2,hI=>⟨P,by
                   have:k=n:=by omega
                   subst this;exact hI⟩
 |f+1,k,p,P,h1,h2,hI=>by
  unfold kas_bin;rw[jX];have hs:=P.size;obtain⟨q1,q2,q3⟩:=rS L P (k:=k) (by omega) hI k 0 k (Nat.zero_le _) (Nat.le_refl _) (by omega) (λi hi=>by omega) (λi h1 h2=>by omega);generalize fX lt (kas_place p k k 0 k)=l at *;have e:∀x,(bubble p k (k-l)).getD x 0=if x=l then p.getD k 0 else if l<x/\x<=k then p.getD (x-1) 0 else p.getD x 0:=λx=>by
   have:=getElem?_bubble (xs:=p) (src:=k) (by omega) (k-l) (by omega) x;rw[show k-(k-l)=l by omega] at this;by_cases z:x=l
   ·rw[if_pos z] at this ⊢;exact sY this
   ·rw[if_neg z] at this ⊢;by_cases y:l<x/\x<=k
    ·rw[if_pos y] at this ⊢;exact sY this
    ·rw[if_neg y] at this ⊢;exact sY this
  refine aBI L f (k+1) _ ⟨(Array.perm_iff_toList_perm.mp (bubble_perm p k (k-l))).trans P.perm⟩ (by omega) (by omega) λi j hij hj=>?_;rw[e i,e j];by_cases i1:i=l
  ·rw[if_pos i1,if_neg (by omega),if_pos ⟨by omega,by omega⟩];exact q3 (j-1) (by omega) (by omega)
  ·rw[if_neg i1];by_cases i2:l<i/\i<=k
   ·rw[if_pos i2,if_neg (by omega),if_pos ⟨by omega,by omega⟩];exact hI (i-1) (j-1) (by omega) (by omega)
   ·rw[if_neg i2];by_cases j1:j=l
    ·rw[if_pos j1];exact q2 i (by omega)
    ·rw[if_neg j1];by_cases j2:l<j/\j<=k
     ·rw[if_pos j2];by_cases z:i=j-1
      ·omega
      ·exact hI i (j-1) (by omega) (by omega)
     ·rw[if_neg j2];exact hI i j hij (by omega)
theorem aEd (L:Wk n lt)(hn:1<=n):PmR n (fX lt (kas_sort n))/\vK lt (fX lt (kas_sort n)) n:=by
 unfold kas_sort;rw[jX];obtain⟨m,q,e,m1,m2,P,I⟩:=aCx (p:=toArray (range n)) L ⟨by simp⟩ hn;rw[e];dsimp only;by_cases c:m<n
 ·rw[if_pos c];rw[show max m 1=m by omega];exact aBI L (n-m) m q P m1 (by omega) I
 ·rw[if_neg c];have:m=n:=by omega
  subst this;exact⟨P,I⟩
end
mutual
noncomputable def ltD:D->D->Bool
 |.int a,.int b=>decide (a<b)
 |.str a,.str b=>decide (a.cps.toList<b.cps.toList)
 |.tup xs,.tup ys=>gM xs ys
 |_,_=>false
noncomputable def gM:List D->List D->Bool
 |[],[]=>false
 |[],_::_=>true
 |_::_,[]=>false
 |x::xs,y::ys=>if x=y then gM xs ys else ltD x y
end
inductive Sh where
 |i|s|t (ss:List Sh)
mutual
def hs:Sh->D->Prop
 |.i,.int _=>True
 |.s,.str _=>True
 |.t ss,.tup ds=>hss ss ds
 |_,_=>False
def hss:List Sh->List D->Prop
 |_,[]=>True
 |s::ss,d::ds=>hs s d/\hss ss ds
 |[],_::_=>False
end
theorem aBx {ss:List Sh}{d:D}{ds:List D}(h:hss ss (d::ds)):∃s r,ss=s::r/\hs s d/\hss r ds:=by
 cases ss with
 |nil=>unfold hss at h;exact h.elim
 |cons s r=>unfold hss at h;exact⟨s,r,rfl,h.1,h.2⟩
theorem bI {s:Sh}{d:D}(h:hs s d):(s=.i/\∃a,d=.int a)∨(s=.s/\∃a,d=.str a) ∨ ∃ss ds,s=.t ss/\d=.tup ds/\hss ss ds:=by
 unfold hs at h;split at h
 ·exact .inl ⟨rfl,_,rfl⟩
 ·exact .inr (.inl ⟨rfl,_,rfl⟩)
 ·exact .inr (.inr ⟨_,_,rfl,rfl,h⟩)
 ·exact h.elim
theorem jT (a b:Int):ltD (.int a) (.int b)=decide (a<b):=by unfold ltD;rfl
theorem nO (a b:Str):ltD (.str a) (.str b)=decide (a.cps.toList<b.cps.toList):=by unfold ltD;rfl
theorem mT (a b:List D):ltD (.tup a) (.tup b)=gM a b:=by rw[ltD]
theorem fJ (x y:D)(xs ys:List D):gM (x::xs) (y::ys)=if x=y then gM xs ys else ltD x y:=by rw[gM]
theorem aHg {a b:Str}(h:a.cps.toList=b.cps.toList):a=b:=by cases a;cases b;congr 1;exact Array.toList_inj.mp h
mutual
theorem uN:∀(s:Sh)(x y:D),hs s x->hs s y->x≠y->ltD x y = !ltD y x
 |.i,x,y,hx,hy,ne=>by
  rcases bI hx with⟨_,a,rfl⟩|⟨e,_⟩|⟨_,_,e,_⟩<;>first|cases e|skip
  rcases bI hy with⟨_,b,rfl⟩|⟨e,_⟩|⟨_,_,e,_⟩<;>first|cases e|skip
  rw[jT,jT];have:a≠b:=λz=>ne (by rw[z]);by_cases c:a<b
  ·rw[decide_eq_true c,decide_eq_false (by omega)];rfl
  ·rw[decide_eq_false c,decide_eq_true (by omega)];rfl
 |.s,x,y,hx,hy,ne=>by
  rcases bI hx with⟨e,_⟩|⟨_,a,rfl⟩|⟨_,_,e,_⟩<;>first|cases e|skip
  rcases bI hy with⟨e,_⟩|⟨_,b,rfl⟩|⟨_,_,e,_⟩<;>first|cases e|skip
  rw[nO,nO];by_cases c:a.cps.toList<b.cps.toList
  ·rw[decide_eq_true c,decide_eq_false (List.lt_asymm c)];rfl
  ·have:b.cps.toList<a.cps.toList:=by refine Classical.byContradiction λd=>ne ?_;rw[aHg (List.le_antisymm (List.not_lt.mp d) (List.not_lt.mp c))]
   rw[decide_eq_false c,decide_eq_true this];rfl
 |.t ss,x,y,hx,hy,ne=>by
  rcases bI hx with⟨e,_⟩|⟨e,_⟩|⟨_,xs,e,rfl,h1⟩<;>first|(cases e;done)|skip
  cases e;rcases bI hy with⟨e,_⟩|⟨e,_⟩|⟨_,ys,e,rfl,h2⟩<;>first|(cases e;done)|skip
  cases e;rw[mT,mT];exact aDv ss xs ys h1 h2 λz=>ne (by rw[z])
theorem aDv:∀(ss:List Sh)(xs ys:List D),hss ss xs->hss ss ys->xs≠ys->gM xs ys = !gM ys xs
 |_,[],[],_,_,ne=>absurd rfl ne
 |_,[],_::_,_,_,_=>by rw[gM,gM];rfl
 |_,_::_,[],_,_,_=>by rw[gM,gM];rfl
 |[],_::_,_::_,h,_,_=>by unfold hss at h;exact h.elim
 |s::ss,x::xs,y::ys,h1,h2,ne=>by
  unfold hss at h1 h2;rw[fJ,fJ];by_cases c:x=y
  ·rw[if_pos c,if_pos c.symm];exact aDv ss xs ys h1.2 h2.2 λz=>ne (by rw[c,z])
  ·rw[if_neg c,if_neg (Ne.symm c)];exact uN s x y h1.1 h2.1 c
end
mutual
theorem aID:∀(s:Sh)(x y z:D),hs s x->hs s y->hs s z->ltD x y=true->ltD y z=true->ltD x z=true
 |.i,x,y,z,hx,hy,hz,a,b=>by
  rcases bI hx with⟨_,i,rfl⟩|⟨e,_⟩|⟨_,_,e,_⟩<;>first|cases e|skip
  rcases bI hy with⟨_,j,rfl⟩|⟨e,_⟩|⟨_,_,e,_⟩<;>first|cases e|skip
  rcases bI hz with⟨_,k,rfl⟩|⟨e,_⟩|⟨_,_,e,_⟩<;>first|cases e|skip
  rw[jT,decide_eq_true_eq] at a b ⊢;omega
 |.s,x,y,z,hx,hy,hz,a,b=>by
  rcases bI hx with⟨e,_⟩|⟨_,i,rfl⟩|⟨_,_,e,_⟩<;>first|cases e|skip
  rcases bI hy with⟨e,_⟩|⟨_,j,rfl⟩|⟨_,_,e,_⟩<;>first|cases e|skip
  rcases bI hz with⟨e,_⟩|⟨_,k,rfl⟩|⟨_,_,e,_⟩<;>first|cases e|skip
  rw[nO,decide_eq_true_eq] at a b ⊢;exact List.lt_trans a b
 |.t ss,x,y,z,hx,hy,hz,a,b=>by
  rcases bI hx with⟨e,_⟩|⟨e,_⟩|⟨_,xs,e,rfl,h1⟩<;>first|(cases e;done)|skip
  cases e;rcases bI hy with⟨e,_⟩|⟨e,_⟩|⟨_,ys,e,rfl,h2⟩<;>first|(cases e;done)|skip
  cases e;rcases bI hz with⟨e,_⟩|⟨e,_⟩|⟨_,zs,e,rfl,h3⟩<;>first|(cases e;done)|skip
  cases e;rw[mT] at a b ⊢;exact aEO ss xs ys zs h1 h2 h3 a b
theorem aEO:∀(ss:List Sh)(xs ys zs:List D),hss ss xs->hss ss ys->hss ss zs->gM xs ys=true->gM ys zs=true->gM xs zs=true
 |_,[],_,[],_,_,_,a,b=>by
  rename_i ys _ _ _;cases ys with
  |nil=>rw[gM] at a;cases a
  |cons y ys=>rw[gM] at b;cases b
 |_,[],_,_::_,_,_,_,_,_=>by rw[gM]
 |_,_::_,[],_,_,_,_,a,_=>by rw[gM] at a;cases a
 |_,_::_,_::_,[],_,_,_,_,b=>by rw[gM] at b;cases b
 |[],_::_,_::_,_::_,h,_,_,_,_=>by unfold hss at h;exact h.elim
 |s::ss,x::xs,y::ys,z::zs,h1,h2,h3,a,b=>by
  unfold hss at h1 h2 h3;rw[fJ] at a b ⊢;by_cases c:x=y
  ·subst c;rw[if_pos rfl] at a;by_cases d:x=z
   ·rw[if_pos d] at b ⊢;exact aEO ss xs ys zs h1.2 h2.2 h3.2 a b
   ·rw[if_neg d] at b ⊢;exact b
  ·rw[if_neg c] at a;by_cases d:y=z
   ·subst d;rw[if_neg c];exact a
   ·rw[if_neg d] at b;have t:=aID s x y z h1.1 h2.1 h3.1 a b;by_cases e:x=z
    ·subst e;have:=uN s x y h1.1 h2.1 c;rw[a,b] at this;cases this
    ·rw[if_neg e];exact t
end
mutual
theorem aFP:∀(s:Sh)(x:D),hs s x->ltD x x=false
 |.i,x,hx=>by
  rcases bI hx with⟨_,i,rfl⟩|⟨e,_⟩|⟨_,_,e,_⟩<;>first|cases e|skip
  rw[jT];exact decide_eq_false (by omega)
 |.s,x,hx=>by
  rcases bI hx with⟨e,_⟩|⟨_,i,rfl⟩|⟨_,_,e,_⟩<;>first|cases e|skip
  rw[nO];exact decide_eq_false (List.lt_irrefl _)
 |.t ss,x,hx=>by
  rcases bI hx with⟨e,_⟩|⟨e,_⟩|⟨_,xs,e,rfl,h1⟩<;>first|(cases e;done)|skip
  cases e;rw[mT];exact aDy ss xs h1
theorem aDy:∀(ss:List Sh)(xs:List D),hss ss xs->gM xs xs=false
 |_,[],_=>by rw[gM]
 |[],_::_,h=>by unfold hss at h;exact h.elim
 |s::ss,x::xs,h=>by unfold hss at h;rw[fJ,if_pos rfl];exact aDy ss xs h.2
end
theorem aJb {s:Sh}{ds:List D}(h:∀d∈ds,hs s d)(d0:D):Wk ds.length λi j=>ltD (ds.getD i d0) (ds.getD j d0):=by
 have g:∀i,i<ds.length->hs s (ds.getD i d0):=λi hi=>by rw[getD_eq_getElem?_getD,getElem?_eq_getElem hi];exact h _ (getElem_mem hi)
 refine⟨λi j hi hj a=>?_,λi j k hi hj hk a b=>?_⟩
 ·by_cases e:ds.getD i d0=ds.getD j d0
  ·rw[e] at a ⊢;exact aFP s _ (g j hj)
  ·have:=uN s _ _ (g i hi) (g j hj) e;rw[a] at this;simpa using this.symm
 ·by_cases e1:ds.getD j d0=ds.getD i d0
  ·rw[<- e1];exact b
  by_cases e2:ds.getD k d0=ds.getD j d0
  ·rw[e2];exact a
  have t1:=uN s _ _ (g j hj) (g i hi) e1;have t2:=uN s _ _ (g k hk) (g j hj) e2;rw[a] at t1;rw[b] at t2;have c:=aID s _ _ _ (g i hi) (g j hj) (g k hk) (by simpa using t1.symm) (by simpa using t2.symm);by_cases e3:ds.getD k d0=ds.getD i d0
  ·rw[e3];exact aFP s _ (g i hi)
  ·have t3:=uN s _ _ (g k hk) (g i hi) e3;rw[c] at t3;simpa using t3
end Dd
namespace PySem.W
open PySem PySem.Calls PyProof.Rows
section
variable {prog:Program}{w:World}{A:Around}{E:Value->Shared->Prop}{s:Shared}{h₀:Heap}{L a:Addr}{m:Str->Option Value}{news:List (Addr×Obj)}{vs:List Value}
theorem aAW {n:Nat}{P:PySem.Fin->Shared->Prop}(F:Fr h₀ L s.heap m)(N:News h₀ L s.heap news)(ho:s.heap.get? a = some (seqObj "list" vs.toArray n))(haL:a≠L)(ha0:h₀.get? a=none)(hna:∀p∈news,p.1≠a)(h2:vs.length<2)(h:∀c h',Fr h₀ L h' m->News h₀ L h' ((a,seqObj "list" vs.toArray c)::news)->P (.done (.ret .none)) { s with heap:=h' }) :
  wpAny (model prog w) A (Builtin.«list.sort» ⟨[.ref a],[]⟩) P E s:=by
 have s1:=Heap.SameBut.update s.heap a (Obj.mapSeq λ_=>(#[]:Array Value));obtain⟨e1,ho1⟩:∃e1,(s.heap.update a (Obj.mapSeq λ_=>(#[]:Array Value))).get? a = some (seqObj "list" #[] e1):=⟨_,get?_update_seq ho λ_=>#[]⟩;have F3:Fr h₀ L (((s.heap.update a (Obj.mapSeq λ_=>(#[]:Array Value))).push (seqObj "tuple" vs.toArray 0)).push (seqObj "list" #[] 0)) m:=((kas_fr F s1 haL ha0).push _).push _;have N2:News h₀ L (((s.heap.update a (Obj.mapSeq λ_=>(#[]:Array Value))).push (seqObj "tuple" vs.toArray 0)).push (seqObj "list" #[] 0)) news :=
  (kas_news N s1 hna).grown λb x e=>Heap.get?_push_of_some _ (Heap.get?_push_of_some _ e)
 have ho3:(((s.heap.update a (Obj.mapSeq λ_=>(#[]:Array Value))).push (seqObj "tuple" vs.toArray 0)).push (seqObj "list" #[] 0)).get? a = some (seqObj "list" #[] e1):=Heap.get?_push_of_some _ (Heap.get?_push_of_some _ ho1);rw[list_sort_plain];refine wpAny_bind (listItems_at ho rfl ?_);refine wpAny_bind (listUpdate_at ho rfl ?_ (by rw[size_toArray,sizeLine_eq];omega) (Nat.zero_le _));refine wpAny_bind (seqEpoch_at ho1 rfl ?_);refine wpAny_bind (wpAny_newTuple ?_ (by show vs.length<=_;rw[sizeLine_eq];omega));refine wpAny_bind (wpAny_newList ?_ (Nat.zero_le _));refine wpAny_holding ?_;show wpAny (model prog w) A _ P E { s with heap:=((s.heap.update a (Obj.mapSeq λ_=>(#[]:Array Value))).push (seqObj "tuple" vs.toArray 0)).push (seqObj "list" #[] 0) };dsimp only;have hn2:vs.toArray.size<2:=by rw[size_toArray];omega
 rw[if_pos hn2,if_pos hn2];refine wpAny_bind (wpAny_pure ?_);refine wpAny_bind (wpAny_pure ?_);have hout:Array.map (λx=>x.2) (arrOf ((),SortSt.mk' general' (vs.toArray.zip vs.toArray) #[] 7 none).snd)=vs.toArray:=by show Array.map (λx=>x.2) (vs.toArray.zip vs.toArray)=_;apply Array.toList_inj.mp;rw[Array.toList_map,Array.toList_zip];exact List.map_snd_zip (Nat.le_refl _)
 rw[hout];have s2:=Heap.SameBut.update (((s.heap.update a (Obj.mapSeq λ_=>(#[]:Array Value))).push (seqObj "tuple" vs.toArray 0)).push (seqObj "list" #[] 0)) a (Obj.mapSeq λ_=>vs.toArray);obtain⟨c2,hc2⟩:∃c2,((((s.heap.update a (Obj.mapSeq λ_=>(#[]:Array Value))).push (seqObj "tuple" vs.toArray 0)).push (seqObj "list" #[] 0)).update a (Obj.mapSeq λ_=>vs.toArray)).get? a = some (seqObj "list" vs.toArray c2):=⟨_,get?_update_seq ho3 λ_=>vs.toArray⟩;refine wpAny_bind (seqEpoch_at ho3 rfl ?_);refine wpAny_bind (listUpdate_at ho3 rfl ?_ (Nat.zero_le _) (by rw[size_toArray,sizeLine_eq];omega));rw[show failedOf ((),SortSt.mk' general' (vs.toArray.zip vs.toArray) #[] 7 none).snd=none from rfl];simp only[bne_self_eq_false,Bool.false_eq_true,if_false];refine wpAny_pure (h c2 _ (kas_fr F3 s2 haL ha0) λp hp=>?_);rcases List.mem_cons.mp hp with rfl|hp
 ·exact⟨hc2,haL,ha0⟩
 ·exact kas_news N2 s2 hna p hp
theorem ky_sorted {l:Addr}{Q:Value->Shared->Prop}(F:Fr h₀ L s.heap m)(N:News h₀ L s.heap news)(hl:s.heap.IsList l vs.toArray)(h2:vs.length<2)(h:∀D c h',Fr h₀ L h' m->News h₀ L h' ((D,seqObj "list" vs.toArray c)::news)->(∀q∈news,q.1<D)->Q (.ref D) { s with heap:=h' }) :
  wpAny (model prog w) A (call (.builtin "sorted") [.ref l]) Q E s:=by
 refine Calls.call_function_entry kind_sorted plain_sorted entry_sorted (args_sorted1 _) ?_;unfold Builtin.«sorted»;refine wpAny_bind (m:=checkCount "sorted" 1 1 _) (wpAny_pure ?_);refine wpAny_bind (collect_list hl ?_ (by rw[sizeLine_eq];omega));refine wpAny_bind (wpAny_newList ?_ (by rw[sizeLine_eq];omega));have hsz:((s.heap.push (seqObj "list" #[] 0)).update s.heap.objs.size (Obj.mapSeq (·++vs.toArray))).objs.size=s.heap.objs.size+1:=by rw[Heap.size_update,size_push']
 have hoL:(((s.heap.push (seqObj "list" #[] 0)).update s.heap.objs.size (Obj.mapSeq (·++vs.toArray))).push (seqObj "list" vs.toArray 0)).get? (s.heap.objs.size+1) = some (seqObj "list" vs.toArray 0):=by rw[<- hsz];exact Heap.get?_push_size _ rfl
 have keep:∀b o,s.heap.get? b = some o->(((s.heap.push (seqObj "list" #[] 0)).update s.heap.objs.size (Obj.mapSeq (·++vs.toArray))).push (seqObj "list" vs.toArray 0)).get? b=some o:=λb o q=>by have hlt:b<s.heap.objs.size:=Heap.lt_size q;rw[Heap.get?_push_ne _ _ _ (by rw[hsz];exact Nat.ne_of_lt (Nat.lt_succ_of_lt hlt)),Heap.get?_update_ne _ _ _ _ (Nat.ne_of_lt hlt),Heap.get?_push_ne _ _ _ (Nat.ne_of_lt hlt)];exact q
 have hL:L<s.heap.objs.size:=F.ns.lt;show wpAny _ _ _ _ _ { s with heap:=((s.heap.push (seqObj "list" #[] 0)).update s.heap.objs.size (Obj.mapSeq (·++vs.toArray))).push (seqObj "list" vs.toArray 0) };rw[hsz];refine wpAny_bind (wpAny_holding (wpAny_call_entry slot_list_sort ⟨_,hoL,rfl⟩ entry_list_sort ?body (args_list_sort _)))
 case body =>
  refine aAW (s:={ s with heap:=((s.heap.push (seqObj "list" #[] 0)).update s.heap.objs.size (Obj.mapSeq (·++vs.toArray))).push (seqObj "list" vs.toArray 0) })
   (F.kept keep) (N.grown keep) hoL (Nat.ne_of_gt (Nat.lt_succ_of_lt hL)) (Heap.get?_none_of_le (Nat.le_trans F.above (Nat.le_succ_of_le (Nat.le_of_lt hL))))
   (λp hp=>Nat.ne_of_lt (Nat.lt_succ_of_lt (Heap.lt_size (N p hp).1))) h2 λc h' F' N'=>?_
  exact⟨_,rfl,wpAny_pure ⟨_,rfl,h _ c h' F' N' λq hq=>Nat.lt_succ_of_lt (Heap.lt_size (N q hq).1)⟩⟩
end
end PySem.W
namespace Dd
open PySem PySem.W PyProof.Rows L2
section
open PySem.SeqAt
open PySem.AutoSeq1 (wpAny_loadPart')
open PySem.MeetsSeq PySem.MeetsSeq2 PySem.MeetsSeq3
def aFM (A:Around)(s:Shared)(y x:Value)(b:Bool):Prop:=∀(prog:Program)(w:World) (E:Value->Shared->Prop) (Q:Value->Shared->Prop),Q (.bool b) s->wpAny (model prog w) A (richCompare .Lt y x) Q E s
def aAq (A:Around)(s:Shared):List Value->List Value->Bool->Prop
 |[],[],r=>r=false
 |[],_::_,r=>r=true
 |_::_,[],r=>r=false
 |v::vs,u::us,r=>∃e,EqAt A s v u e/\(e=true->aAq A s vs us r)/\(e=false->aFM A s v u r)
theorem aEk (l b:Addr)(items items2:Array Value)(n n2:Nat)(dd dd2:Option Addr)(sl sl2:Array (Option Value))(r:Bool) :
  Meets (Builtin.«tuple.__lt__» ⟨[.ref l,.ref b],[]⟩)
   (λA R s=>s.heap.get? l = some { cls:=.type "tuple",dict:=dd,data:=.seq items n,slots:=sl }/\s.heap.get? b = some { cls:=.type "tuple",dict:=dd2,data:=.seq items2 n2,slots:=sl2 } /\
    aAq A.in1 s items.toList items2.toList r/\R (.ok (.ret (.bool r))) s) :=
 .of_wp λprog w A R s h=>by
  obtain⟨hp,g,d,tk,os⟩:=s;obtain⟨hl,hb,hx,h⟩:=h;have f2:=AutoSeq1.sub_tuple_tuple
  wp_walk using wpAny_loadPart' hl,wpAny_loadPart' hb,wpAny_forIn_list _ (λcN b s'=>b.1=none/\s'=⟨hp,g,d,tk,os⟩/\∃(vs ws:List Value),cN=vs.zip ws /\
   aAq A.in1 ⟨hp,g,d,tk,os⟩ vs ws r/\vs.length+items2.size=ws.length+items.size) _
  case turn =>
   rintro⟨y,x⟩ cN b s' ⟨hb',rfl,vs,ws,hz,hL,hlen⟩;cases vs with
   |nil=>rw[List.zip_nil_left] at hz;cases hz
   |cons v vs =>
    cases ws with
    |nil=>rw[List.zip_nil_right] at hz;cases hz
    |cons u ws =>
     rw[zip_cons_cons] at hz;injection hz with hyx hrest
     injection hyx with hy hx
     subst hy hx;simp only[length_cons] at hlen;unfold aAq at hL;obtain⟨e,he,h1,h2⟩:=hL;refine wpAny_bind (he prog w _ _ ?_);cases e with
     |true =>
      wp_walk
      exact⟨rfl,rfl,_,_,hrest,h1 rfl,by omega⟩
     |false =>
      have hri:=h2 rfl prog w
      wp_walk using hri
      exact⟨_,rfl,by simpa using h⟩
  case fin =>
   rintro⟨b1,b2⟩ s' ⟨hb',rfl,vs,ws,hz,hL,hlen⟩;simp only at hb';subst hb';have hv:r=decide (items.size<items2.size):=by
    cases vs with
    |nil =>
     cases ws with
     |nil =>
      simp only[length_nil] at hlen;unfold aAq at hL;rw[hL];exact(decide_eq_false (by omega)).symm
     |cons c hw =>
      simp only[length_nil,length_cons] at hlen;unfold aAq at hL;rw[hL];exact(decide_eq_true (by omega)).symm
    |cons a hv =>
     cases ws with
     |nil =>
      simp only[length_nil,length_cons] at hlen;unfold aAq at hL;rw[hL];exact(decide_eq_false (by omega)).symm
     |cons c hw =>
      rw[zip_cons_cons] at hz;cases hz
   rw[hv] at h
   wp_walk
   exact⟨_,rfl,by simpa[Builtin.Tuple.tupleCompareSizes] using h⟩
  case h =>
   exact⟨rfl,rfl,items.toList,items2.toList,rfl,hx,by simp;omega⟩
end
theorem oF {h:Heap}:∀{ds:List D}{vs:List Value},fL h ds vs->ds.length=vs.length
 |[],vs,x=>by rw[eB x];rfl
 |d::ds,vs,x=>by obtain⟨v,r,rfl,_,y⟩:=cC x;rw[length_cons,length_cons,oF y]
theorem aBh (A:Around)(s:Shared)(a b:Int)(t u:Tok):aFM A s (.int a t) (.int b u) (decide (a<b)):=λprog w E Q h=>HT.rcLt_int A s a t b u prog w E Q h
theorem aBG (A:Around)(s:Shared)(a b:Str)(t u:Tok):aFM A s (.str a t) (.str b u) (decide (a.cps.toList<b.cps.toList)):=λprog w E Q h=>(PyProof.Rows.lt_str h:wpAny (model prog w) A (compareOp .Lt (.str a t) (.str b u)) Q E s)
theorem aC8 {n:Nat}{A:Around}{s:Shared}(hu:A.units+n<cLine)(ih:∀(sh:Sh){d d':D} {u v:Value},eU n d=true->eU n d'=true->hs sh d->hs sh d'->IsK s.heap d u->IsK s.heap d' v->aFM A s u v (ltD d d')) :
  ∀{ss:List Sh}{ds ds':List D} {us vs:List Value},ds.all (eU n)=true->ds'.all (eU n)=true->hss ss ds->hss ss ds'->fL s.heap ds us->fL s.heap ds' vs->aAq A s us vs (gM ds ds')
 |ss,[],[],us,vs,_,_,_,_,x,y=>by rw[eB x,eB y,gM];rfl
 |ss,[],d::ds,us,vs,_,_,_,_,x,y=>by obtain⟨v,r,rfl,_⟩:=cC y;rw[eB x,gM];rfl
 |ss,d::ds,[],us,vs,_,_,_,_,x,y=>by obtain⟨v,r,rfl,_⟩:=cC x;rw[eB y,gM];rfl
 |ss,d::ds,d'::ds',us,vs,k1,k2,h1,h2,x,y=>by
  obtain⟨u,r,rfl,x1,x2⟩:=cC x;obtain⟨v,r',rfl,y1,y2⟩:=cC y;obtain⟨sh,ss',rfl,s1,s2⟩:=aBx h1;unfold hss at h2;rw[all_cons,Bool.and_eq_true] at k1 k2;unfold aAq;refine⟨_,aAL n hu k1.1 k2.1 x1 y1,λe=>?_,λe=>?_⟩
  ·rw[mM k1.1 k2.1] at e;rw[fJ,if_pos (of_decide_eq_true e)];exact aC8 hu ih k1.2 k2.2 s2 h2.2 x2 y2
  ·rw[mM k1.1 k2.1] at e;rw[fJ,if_neg (of_decide_eq_false e)];exact ih sh k1.1 k2.1 s1 h2.1 x1 y1
theorem aCR:∀(n:Nat)(sh:Sh) {A:Around} {s:Shared} {d d':D} {u v:Value},A.units+n<cLine->eU n d=true->eU n d'=true->hs sh d->hs sh d'->IsK s.heap d u->IsK s.heap d' v->aFM A s u v (ltD d d'):=by
 intro n
 induction n with
 |zero =>
  intro sh A s d d' u v hu k1 k2 h1 h2 x y;rcases bI h1 with⟨rfl,a,rfl⟩|⟨rfl,a,rfl⟩|⟨ss,ds,rfl,rfl,_⟩
  ·rcases bI h2 with⟨_,b,rfl⟩|⟨e,_⟩|⟨_,_,e,_⟩<;>first|cases e|skip
   obtain⟨t,rfl⟩:=cX x;obtain⟨t',rfl⟩:=cX y;rw[jT];exact aBh A s a b t t'
  ·rcases bI h2 with⟨e,_⟩|⟨_,b,rfl⟩|⟨_,_,e,_⟩<;>first|cases e|skip
   obtain⟨t,rfl⟩:=cY x;obtain⟨t',rfl⟩:=cY y;rw[nO];exact aBG A s a b t t'
  ·obtain⟨m,e,_⟩:=iG k1;cases e
 |succ n ih =>
  intro sh A s d d' u v hu k1 k2 h1 h2 x y;rcases bI h1 with⟨rfl,a,rfl⟩|⟨rfl,a,rfl⟩|⟨ss,ds,rfl,rfl,g1⟩
  ·rcases bI h2 with⟨_,b,rfl⟩|⟨e,_⟩|⟨_,_,e,_⟩<;>first|cases e|skip
   obtain⟨t,rfl⟩:=cX x;obtain⟨t',rfl⟩:=cX y;rw[jT];exact aBh A s a b t t'
  ·rcases bI h2 with⟨e,_⟩|⟨_,b,rfl⟩|⟨_,_,e,_⟩<;>first|cases e|skip
   obtain⟨t,rfl⟩:=cY x;obtain⟨t',rfl⟩:=cY y;rw[nO];exact aBG A s a b t t'
  ·rcases bI h2 with⟨e,_⟩|⟨e,_⟩|⟨_,ds',e,rfl,g2⟩<;>first|(cases e;done)|skip
   cases e;obtain⟨m,e,k1⟩:=iG k1;cases e;obtain⟨m',e,k2⟩:=iG k2;cases e;obtain⟨l,its,rfl,hl,xs⟩:=eF x;obtain⟨b,its',rfl,hb,ys⟩:=eF y;intro prog w E Q h;obtain⟨⟨cls,dd,data,sl⟩,ho,hc,nn,hd⟩:=id hl;obtain⟨⟨cls2,dd2,data2,sl2⟩,ho2,hc2,nn2,hd2⟩:=id hb;simp only at hc hd hc2 hd2;subst hc hd hc2 hd2;rw[mT] at h;have hu1:A.in1.units+n<cLine:=by show A.units+1+n<cLine;omega
   exact richCompare_meets_room (op:=.Lt) ⟨_,ho,rfl⟩ ⟨_,ho2,rfl⟩ PySem.F.slot_tuple_lt PySem.F.entry_tuple_lt (PySem.F.args_tuple_lt_2 _ _) (aEk l b its its' nn nn2 dd dd2 sl sl2 (gM ds ds'))
    ⟨ho,ho2,aC8 hu1 (λsh {d d' u v}=>ih sh (A:=A.in1) (s:=s) hu1) k1 k2 g1 g2 xs ys,show Value.bool (gM ds ds')≠Value.notImplemented/\Q (.bool (gM ds ds')) s from⟨(λx=>nomatch x),h⟩⟩ (by omega)
section
variable {prog:Program}{w:World}{A:Around}{E:Value->Shared->Prop}{s:Shared}
noncomputable def shB:Sh->Bool
 |.t _=>false
 |_=>true
theorem zA {n:Nat}(hu:A.units+n<cLine){b fin:Bool}{Q:Bool->Shared->Prop}:∀{ss:List Sh}{ds ds':List D} {us vs:List Value} {i:Nat},(b&&i==0)=false->ds.all (eU n)=true->ds'.all (eU n)=true->hss ss ds->hss ss ds'->fL s.heap ds us->fL s.heap ds' vs ->
  fin=decide (ds.length<ds'.length)->Q (gM ds ds') s->PySem.W.KatLex prog w A b fin Q (us.zip vs) i s
 |ss,[],ds',us,vs,i,_,_,_,_,_,x,y,hf,h=>by
  rw[eB x,List.zip_nil_left];refine PySem.W.kat_nil ?_;rw[hf];cases ds' with
  |nil=>rw[gM] at h;exact h
  |cons d ds=>rw[gM] at h;rw[decide_eq_true (by simp)];exact h
 |ss,d::ds,[],us,vs,i,_,_,_,_,_,x,y,hf,h=>by rw[eB y,List.zip_nil_right];refine PySem.W.kat_nil ?_;rw[hf,decide_eq_false (by simp)];rw[gM] at h;exact h
 |ss,d::ds,d'::ds',us,vs,i,hi,k1,k2,h1,h2,x,y,hf,h=>by
  obtain⟨u,r,rfl,x1,x2⟩:=cC x;obtain⟨v,r',rfl,y1,y2⟩:=cC y;obtain⟨sh,ss',rfl,s1,s2⟩:=aBx h1;unfold hss at h2;rw[all_cons,Bool.and_eq_true] at k1 k2;rw[zip_cons_cons];refine PySem.W.kat_cons (aAL n hu k1.1 k2.1 x1 y1 _ _ _ _ ?_);rw[mM k1.1 k2.1];rw[fJ] at h;by_cases e:d=d'
  ·rw[decide_eq_true e];rw[if_pos e] at h;exact PySem.W.kat_yes (zA hu (by simp) k1.2 k2.2 s2 h2.2 x2 y2 (by rw[hf];simp) h)
  ·rw[decide_eq_false e];rw[if_neg e] at h;refine PySem.W.kat_no ?_;rw[hi];exact PySem.W.kat_one _ _ (aCR n sh hu k1.1 k2.1 s1 h2.1 x1 y1 prog w _ (PySem.W.BoolBack Q) h)
theorem aN6 {n:Nat}(hu:A.units+n<cLine){s0:Sh}{ss:List Sh}{d d':D}{u v:Value}{Q:Bool->Shared->Prop}(k1:eU (n+1) d=true)(k2:eU (n+1) d'=true)(h1:hs (.t (s0::ss)) d)(h2:hs (.t (s0::ss)) d')(n1:d ≠ .tup [])(n2:d' ≠ .tup [])(x:IsK s.heap d u)(y:IsK s.heap d' v)(h:Q (ltD d d') s):wpAny (model prog w) A (keyLt' (tuples' (shB s0)) u v) Q E s:=by
 rcases bI h1 with⟨e,_⟩|⟨e,_⟩|⟨_,ds,e,rfl,g1⟩<;>first|(cases e;done)|skip
 cases e;rcases bI h2 with⟨e,_⟩|⟨e,_⟩|⟨_,ds',e,rfl,g2⟩<;>first|(cases e;done)|skip
 cases e;obtain⟨m,e,k1⟩:=iG k1;cases e;obtain⟨m',e,k2⟩:=iG k2;cases e;obtain⟨l,its,rfl,⟨o,ho,_,nn,hd⟩,xs⟩:=eF x;obtain⟨b,its',rfl,⟨o',ho',_,nn',hd'⟩,ys⟩:=eF y;have l1:its.size=ds.length:=by have:=oF xs;simpa using this.symm
 have l2:its'.size=ds'.length:=by have:=oF ys;simpa using this.symm
 refine PySem.W.kat_lt ho hd ho' hd' ?_;rw[l1,l2];cases ds with
 |nil=>exact absurd rfl n1
 |cons d ds =>
  cases ds' with
  |nil=>exact absurd rfl n2
  |cons d' ds' =>
   obtain⟨u,r,eu,x1,x2⟩:=cC xs;obtain⟨v,r',ev,y1,y2⟩:=cC ys;rw[eu,ev,zip_cons_cons];unfold hss at g1 g2;rw[all_cons,Bool.and_eq_true] at k1 k2;refine PySem.W.kat_cons (aAL n hu k1.1 k2.1 x1 y1 _ _ _ _ ?_);rw[mM k1.1 k2.1];rw[mT,fJ] at h;by_cases e:d=d'
   ·rw[decide_eq_true e];rw[if_pos e] at h;exact PySem.W.kat_yes (zA hu (by simp) k1.2 k2.2 g1.2 g2.2 x2 y2 (by simp) h)
   ·rw[decide_eq_false e];rw[if_neg e] at h;refine PySem.W.kat_no ?_;cases s0 with
    |i =>
     rcases bI g1.1 with⟨_,a,rfl⟩|⟨e,_⟩|⟨_,_,e,_⟩<;>first|cases e|skip
     rcases bI g2.1 with⟨_,c,rfl⟩|⟨e,_⟩|⟨_,_,e,_⟩<;>first|cases e|skip
     obtain⟨t,rfl⟩:=cX x1;obtain⟨t',rfl⟩:=cX y1;rw[jT] at h;exact oneLt_int h
    |s =>
     rcases bI g1.1 with⟨e,_⟩|⟨_,a,rfl⟩|⟨_,_,e,_⟩<;>first|cases e|skip
     rcases bI g2.1 with⟨e,_⟩|⟨_,c,rfl⟩|⟨_,_,e,_⟩<;>first|cases e|skip
     obtain⟨t,rfl⟩:=cY x1;obtain⟨t',rfl⟩:=cY y1;rw[nO] at h;exact oneLt_str h
    |t sx=>exact PySem.W.kat_one _ _ (aCR n _ hu k1.1 k2.1 g1.1 g2.1 x1 y1 prog w _ (PySem.W.BoolBack Q) h)
end
noncomputable def shT:Sh->Value
 |.i=>.type "int"
 |.s=>.type "str"
 |.t _=>.type "tuple"
theorem aIO {M:Model}{h:Heap}{s0:Sh}{ss:List Sh}:∀{ds:List D}{its:List Value},(∀d∈ds,hs (.t (s0::ss)) d/\d ≠ .tup [])->fL h ds its->∃fs,PySem.W.KatTups h its fs/\fs.length=ds.length/\∀v∈fs,PySem.W.Looks M h (typeOf v) (shT s0)
 |[],its,_,x=>by rw[eB x];exact⟨[],True.intro,rfl,λ_ z=>nomatch z⟩
 |d::ds,its,hd,x=>by
  obtain⟨v,r,rfl,x1,x2⟩:=cC x;obtain⟨fs,t,l,hf⟩:=aIO (M:=M) (λd h=>hd d (mem_cons_of_mem _ h)) x2;obtain⟨h1,n1⟩:=hd d mem_cons_self;rcases bI h1 with⟨e,_⟩|⟨e,_⟩|⟨_,es,e,rfl,g1⟩<;>first|(cases e;done)|skip
  cases e;obtain⟨a,its',rfl,⟨o,ho,hc,n,hd'⟩,ks⟩:=eF x1;cases es with
  |nil=>exact absurd rfl n1
  |cons e es =>
   obtain⟨f,r',ef,k1,_⟩:=cC ks;unfold hss at g1;refine⟨f::fs,PySem.W.KatTups.cons ho hc hd' (by rw[<- Array.getElem?_toList,ef];rfl) t,by rw[length_cons,length_cons,l],λv hv=>?_⟩;rcases List.mem_cons.mp hv with z|z
   ·subst z;cases s0 with
    |i =>
     rcases bI g1.1 with⟨_,a,rfl⟩|⟨e,_⟩|⟨_,_,e,_⟩<;>first|cases e|skip
     obtain⟨t,rfl⟩:=cX k1;exact .now
    |s =>
     rcases bI g1.1 with⟨e,_⟩|⟨_,a,rfl⟩|⟨_,_,e,_⟩<;>first|cases e|skip
     obtain⟨t,rfl⟩:=cY k1;exact .now
    |t sx =>
     rcases bI g1.1 with⟨e,_⟩|⟨e,_⟩|⟨_,es',e,rfl,_⟩<;>first|(cases e;done)|skip
     obtain⟨b,_,rfl,⟨o2,ho2,hc2,_⟩,_⟩:=eF k1;have this:PySem.W.Looks M h (typeOf (.ref b)) o2.cls:=(PySem.W.Looks.ld ho2).andThen .now;rw[hc2] at this;exact this
   ·exact hf v z
def aCV:DSp:=λds M Q=>match ds with
 |[.ref a]=>∃(xs:List D)(s0:Sh) (ss:List Sh),M a=some xs/\(∀d∈xs,hs (.t (s0::ss)) d/\d ≠ .tup [])/\xs.all (eU 6)=true/\xs.length<64/\∀(p:Addr)(zs:List D),M p=none->zs.Perm xs->zs.Pairwise (λa b=>ltD b a=false)->Q (.ref p) (bE M p zs)
 |_=>False
section
variable {X:Cx}
theorem aFm (hu:X.A.units+20<cLine):iF X (.builtin "sorted") aCV:=by
 intro pins s σ H xs us Q I r ⟨ds,M,Q',rs,hm,q,k⟩
 match ds,q with
 |[.ref a],q =>
  obtain⟨ps,s0,ss,ha,sh,all6,l64,q⟩:=q;obtain⟨v,rfl,rv⟩:=iE rs;obtain rfl:=aQ rv;obtain⟨u,rfl,ru⟩:=uV r;cases ru;obtain⟨vs,hH,hr⟩:=hm.l a _ ha;obtain⟨hz,its,n,hv,hl,e⟩:=I.lstM hH;obtain⟨m,F0⟩:=I.fr;have lp:ps.length=its.length:=by have:=hr.length;omega
  by_cases l2:ps.length<2
  ·refine PySem.W.ky_sorted F0 aB4 (vs:=its) ⟨_,e,rfl,_,rfl⟩ (by omega) λq1 c h2 F2 N2 lt1=>?_;obtain⟨hq,I2⟩:=zG (t':=s.toks) I F0 (zs:=vs) lt1 F2 N2 hv hz;refine⟨.ref q1,_,I2,rfl,k _ _ ⟨.ref q1,_,dM,hm.lnew hq hr,Ext.new hq _,q q1 _ (hm.fresh hq) (.refl _) ?_⟩⟩
   match ps,l2 with
   |[],_=>exact .nil
   |[_],_=>exact pairwise_singleton _ _
   |_::_::_,c=>exact absurd c (by simp)
  have kp0:∀i,i<ps.length->eU 6 (ps.getD i .non)=true:=λi hi=>by rw[getD_eq_getElem?_getD,getElem?_eq_getElem hi];exact List.all_eq_true.mp all6 _ (getElem_mem hi)
  have sh0:∀i,i<ps.length->hs (.t (s0::ss)) (ps.getD i .non)/\ps.getD i .non ≠ .tup []:=λi hi=>by rw[getD_eq_getElem?_getD,getElem?_eq_getElem hi];exact sh _ (getElem_mem hi)
  have isk:∀(h:Heap),(∀b its,IsTup s.heap b its->IsTup h b its)->∀i,i<ps.length->IsK h (ps.getD i .non) (its.getD i Value.none):=λh kp i hi=>by
   obtain⟨v,e1,rv⟩:=hr.get (i:=i) (d:=ps.getD i .non) (by rw[getElem?_eq_getElem hi,getD_eq_getElem?_getD,getElem?_eq_getElem hi];rfl);obtain⟨x,e2,rx⟩:=hv.get e1;have e3:its.getD i Value.none=x:=by rw[getD_eq_getElem?_getD,e2];rfl
   rw[e3];exact(mR I (kp0 i hi) rv rx).keep kp
  refine PySem.W.kat_sorted F0 aB4 (vs:=its) ⟨_,e,rfl,_,rfl⟩ (by omega) (by omega) λq1 e1 h1 F1 N1 lt1=>?_;have kp1:∀b its,IsTup s.heap b its->IsTup h1 b its:=λb its ⟨o,ho,hc,n,hd⟩=>by
   refine⟨o,?_,hc,n,hd⟩;have hb:b≠X.env.locals:=λz=>by obtain⟨o',es,ep,ho',hd',_⟩:=F0.ns;rw[<- z,ho] at ho';cases ho';rw[hd] at hd';cases hd'
   cases z:X.base.get? b with
   |some u =>
    have:=I.bk b u z;rw[ho] at this;cases this;exact F1.keep b _ z
   |none=>exact(N1 (b,o) (mem_cons_of_mem _ (pE hb z ho))).1
  have isk1:=isk h1 kp1;have hK:fL h1 ps its:=(aAi I all6 hr hv).keep kp1;obtain⟨fs,tf,lf,hf⟩:=aIO (M:=model X.prog X.w) sh hK;refine PySem.W.kat_kind (s:={ s with heap:=h1 }) tf (by omega) hf (by cases s0<;>rfl) ?_;rw[show(shT s0 != Value.type "tuple")=shB s0 by cases s0<;>rfl];have hn:0<ps.length:=by omega
  have S:=aEd (aJb (λd hd=>(sh d hd).1) .non) hn;generalize hlt:(λi j=>ltD (ps.getD i .non) (ps.getD j .non))=lt at S;rw[<- lp];refine aBL (n:=ps.length) (lt:=lt) (s:={ s with heap:=h1 }) (λi j C hi hj hC=>?_) _ (aHr hn) ?_
  ·unfold PySem.W.kas_ask;refine aN6 (n:=5) (s:={ s with heap:=h1 }) (by show X.A.units+1+1+5<cLine;omega) (kp0 i hi) (kp0 j hj) (sh0 i hi).1 (sh0 j hj).1 (sh0 i hi).2 (sh0 j hj).2 (isk1 i hi) (isk1 j hj) ?_;rw[<- hlt] at hC;exact hC
  ·generalize fX lt (PySem.W.kas_sort ps.length)=p at S;obtain⟨P,inc⟩:=S;have hp:∀i∈p.toList,i<ps.length:=λi hi=>List.mem_range.mp (P.perm.mem_iff.mp hi);obtain⟨r1,v1⟩:=yS hr hv .non p.toList hp;refine PySem.W.KasFin.intro F1 N1 (.head λq' hq'=>Nat.ne_of_lt (lt1 q' hq')) λh2 c F2 N2=>?_;obtain⟨hq,I2⟩:=zG (t':=s.toks) I F0 (zs:=p.toList.map λi=>vs.getD i .non) lt1 F2 N2 v1 (by rw[length_map,P.perm.length_eq,List.length_range];omega);refine⟨.ref q1,_,I2,rfl,k _ _ ⟨.ref q1,_,dM,hm.lnew hq r1,Ext.new hq _,q q1 _ (hm.fresh hq) ?_ ?_⟩⟩
   ·have:=P.perm.map λi=>ps.getD i .non
    rwa [wZ] at this
   ·rw[pairwise_map,List.pairwise_iff_getElem];intro i j hi hj hij;have hs:=P.size;have:=inc i j hij (by simpa[hs] using hj);rw[<- hlt] at this;have gi:∀x (hx:x<p.toList.length),p.getD x 0=p.toList[x]:=λx hx=>by rw[Array.getD_eq_getD_getElem?,Array.getElem?_eq_getElem (by simpa using hx)];simp
    rw[gi i hi,gi j hj] at this;exact this
theorem aD1 {kr:Nat}(hr:eE kr X.A):iF X (.builtin "sorted") aCV:=aFm (by have:=hr.un;omega)
end
end Dd
namespace L2
open PySem PySem.Spec PyProof.Rows
end L2
namespace Dd
open PySem PySem.Spec PyProof.Rows L2
section
variable {X:Cx}{pos:Pos}{iter tg:Expr}{body:List Stmt}{tl:DE}{g:DG}{tb:DS}{ta:DA}
theorem aOp {CX:CXT}{P:Program}{w:World}{K:Frag}{mg:Str->Option Value}{base:Heap}{N:List Str}{qual:Str}{scope:Scope}{f:Addr}{cd:Value}{A:Around}{outer:List Env}{s:Shared}{H:Hp}{E:XK}:(tS CX P w K mg base N qual scope f cd A outer s H E).w=w:=rfl
end
end Dd
namespace L2
open PySem PySem.Spec PyProof.Rows
section
variable {prog:Program}{w:World}{A:Around}{E:Value->Shared->Prop}{s:Shared}
end
end L2
namespace Dd
open PySem PySem.Spec PyProof.Rows L2
section
variable {X:Cx}{pos:Pos}{iter tg:Expr}{body:List Stmt}{tl:DE}{g:DG}{tb:DS}{ta:DA}
end
end Dd
namespace L2
open PySem PySem.Spec PyProof.Rows
noncomputable def ItE (K:Frag)(l:Addr):It :=
 ⟨
  λi H=>∃xs x,SqL K H l xs/\xs[i]?=some x,
  λi H v H'=>∃p x,v=.ref p/\H p=none/\H'=upd H p (.tup [.int i,x])/\∀xs,SqL K H l xs->xs[i]?=some x,
  λi H=>∃xs,SqL K H l xs/\xs.length<=i⟩
theorem aEs {P:Program}{w:World}{K:Frag}{elts:List Expr}{kk:Nat}{tpos:Pos}{e it l:Addr}(ne:e≠it) :
  aEh P w K (.Tuple elts kk tpos) (ItE K l) [e,it] e (λi h=>(∃old,IsEnum h e it i old)/\h.IsListIter it l i) where
 mem:=by simp
 obj:=λi h st b hb=>by
  obtain⟨⟨old,he⟩,⟨o1,e1,c1,d1⟩⟩:=st;simp only[mem_cons,not_mem_nil,or_false] at hb;rcases hb with rfl|rfl
  ·exact⟨_,he,λv z=>by cases z⟩
  ·exact⟨o1,e1,λv z=>by rw[d1] at z;cases z⟩
 keep:=λi h h' st k=>by obtain⟨⟨old,he⟩,t1⟩:=st;exact⟨⟨old,k e (by simp) _ he⟩,t1.at λo x=>k it (by simp) o x⟩
 item:=by
  intro X hP hw hK hc i pins s σ H E I hf st hg;subst hP hw hK;obtain⟨xs,x,hq,hx⟩:=hg;obtain⟨⟨old,he⟩,t1⟩:=st;obtain⟨its,rv,p,hz⟩:=I.list hq;obtain⟨u,hu,ru⟩:=rv.get hx;refine wpAny_pyNext_enum_item he t1 p.isList (x:=u) (by simpa using hu) ne λh' a1 a2 a3 a4 a5=>?_;refine⟨_,rfl,wpAny_letOwnedTupleGo_enum (s:={ s with heap:=h',toks:=s.toks+1 }) a1 λh2 b1 b2=>?_⟩;have lte:=Heap.lt_size he;have nz:s.heap.objs.size≠e:=Nat.ne_of_gt lte;have k2:∀b o,b∉[e,it]->s.heap.get? b=some o->h2.get? b=some o:=λb o hb z=>b2.extBut _ _ (λq=>hb (by simp[q])) (a5 b o (λq=>hb (by simp[q])) (λq=>hb (by simp[q])) z);have e1:h2.IsListIter it l (i+1):=a2.extBut b2.extBut (Ne.symm ne);have I2:Inv X pins σ (upd H s.heap.objs.size (.tup [.int i,x])) { s with heap:=h2 }:=I.turnedT (its:=[.int i s.toks,u]) k2 hf (Nat.le_refl _) (by show 2<=sizeLine;decide) (.cons ⟨_,rfl⟩ (.cons ru .nil)) ⟨_,b2.extBut _ _ nz a3,rfl,_,rfl⟩ λb hb=>by
   simp only[mem_cons,not_mem_nil,or_false] at hb;rcases hb with rfl|rfl
   ·exact⟨_,b1⟩
   ·obtain⟨o,e,_⟩:=e1;exact⟨o,e⟩
  have I3:=I2.kept (t':=s.toks+1) (h':=h2) λb u z=>z;refine⟨.ref s.heap.objs.size,_,I3,rfl,⟨_,x,rfl,I.hok.fresh (Nat.le_refl _),rfl,λxs' q1=>by rw[I.list_inj q1 hq];exact hx⟩,⟨⟨_,b1⟩,e1⟩,λb hb=>?_⟩;rw[aM]
  ·exact(hf b hb).1
  ·intro q;subst q;simp only[mem_cons,not_mem_nil,or_false] at hb;obtain⟨o1,g1,_⟩:=t1;rcases hb with q|q
   ·exact nz q
   ·exact absurd (Heap.lt_size g1) (by rw[<- q];exact Nat.lt_irrefl _)
 done:=by intro X hP hw hK hc i pins s σ H E I hf st hg;subst hP hw hK;obtain⟨xs,hq,hend⟩:=hg;obtain⟨⟨old,he⟩,t1⟩:=st;obtain⟨its,rv,p,hz⟩:=I.list hq;have w1:=rv.length;exact wpAny_pyNext_enum_end (I.ok.hd hc) he t1 p.isList (by simp;omega) λh' k=>⟨rfl,I.turnedL (λb o hb z=>k b o (λq=>hb (by simp[q])) z) hf⟩
 self:=λ_ _ _ _ _ st h=>by obtain⟨⟨old,he⟩,_⟩:=st;exact wpAny_pyIter_enum he h
noncomputable def aLI (K:Frag)(ta:TA):TI:=λσ H R=>ta σ H λvs H1=>∃a xs,vs=[.ref a]/\SqL K H1 a xs/\R (ItE K a) H1
theorem aHN {X:Cx}{elts:List Expr}{kk:Nat}{tpos:Pos}{a:Expr}{ta:TA}{p pos:Pos}(hg:Gl X "enumerate")(hm:X.mg "enumerate"=none)(ha:PA X [a] ta)(hs:starEach [a] X.env=[(false,eval a X.env)]:=by rfl) :
  PI X (.Tuple elts kk tpos) (.Call (.Name "enumerate" p) [a] [] pos) (aLI X.K ta):=by
 intro pins s σ H R I h;refine Call_ (xU I hg hm (show bootBuiltins "enumerate" = some (.type "enumerate") from rfl) (PyProof.Rows.callWith_type1 (thn (ha pos pins s σ H _ I h) λus s1 ⟨vs,H1,I1,r1,q1⟩=>?_) (by rw[hs];rfl) (by rfl)));obtain⟨l,xs,rfl,hq,q⟩:=q1;obtain⟨u1,rfl,e1⟩:=r1.one;cases e1;obtain⟨its,rv,p,hz⟩:=I1.list hq;refine call_enumerate_list p.isList λh' b1 b2 b3 b4=>?_;refine wpAny_pyIter_enum (s:={ s1 with heap:=h' }) b1 ?_;refine⟨s1.heap.objs.size+1,[s1.heap.objs.size+1,s1.heap.objs.size],_,_,H1,rfl,I1.kept (t':=s1.toks) b4,aEs (l:=l) (Nat.succ_ne_self _),⟨⟨_,b1⟩,b2⟩,λb hb=>?_,q⟩;have hb':s1.heap.objs.size<=b:=by simp only[mem_cons,not_mem_nil,or_false] at hb;rcases hb with rfl|rfl<;>omega
 exact I1.fpOk hb' (I1.hok.fresh hb')
end L2
namespace Dd
open PySem PySem.Spec PyProof.Rows L2
section
variable {X:Cx}{pos:Pos}{iter tg elt:Expr}{body:List Stmt}{tl te:DE}{g:DG}{tb:DS}{ta:DA}
def aLE (a:Addr)(ds:List D)(g:DG)(tb:DS):DS:=λE ρ M=>∃Pv:Nat->cW->DM->Prop,Pv 0 ρ M /\
 (∀i ρ M,i<=ds.length->Pv i ρ M->M a=some ds) /\
 (∀i d ρ M,ds[i]?=some d->Pv i ρ M->g (.tup [.int i,d]) ρ M λρ2 M2=>tb { E with nx:=Pv (i+1),ct:=Pv (i+1),bk:=E.nx } ρ2 M2)/\∀ρ M,Pv ds.length ρ M->E.nx ρ M
def aNs (K:Frag)(a:Addr)(ds:List D)(J:It)(H:Hp):Prop:=∀H' M',Ext H H'->bN K M' H'->M' a=some ds->(∀i,ds.length<=i->J.stop i H')/\(∀i,i<ds.length->J.go i H')/\∀i x H2,J.yld i H' x H2->Ext H' H2/\(∀M',bN K M' H'->bN K M' H2)/\(i<ds.length->∃d,ds[i]?=some d/\Rep K H2 (.tup [.int i,d]) x)
theorem aNx {K:Frag}{l:Addr}{ds:List D}{H:Hp}:aNs K l ds (ItE K l) H:=λH' M' e' hm' b1=>by obtain⟨us,hu,r1⟩:=hm'.l l ds b1;have n1:=r1.length;refine⟨λi hi=>⟨us,.of hu,by omega⟩,λi hi=>⟨us,us[i]'(by omega),.of hu,by simp⟩,λi x H2 ⟨pp,vx,e1,hn,e2,all⟩=>?_⟩;subst e1 e2;refine⟨Ext.new hn _,λM' h=>h.new hn _,λhi=>?_⟩;obtain⟨dx,hdx,rdx⟩:=r1.getV (all us (.of hu));exact⟨dx,hdx,iT (.of bL) (bX dI (bX (rdx.ext (Ext.new hn _)) cP))⟩
theorem aK6 {K:Frag}{a:Addr}{ds:List D}{E:sX}{Dn:fR}{σ:L2.St}{ρ:cW}{M:DM}{H0 H:Hp}{J:It}(ex0:Ext H0 H)(re:fQ K H ρ σ)(hm:bN K M H)(k:nN K H0 Dn E)(h:aLE a ds g tb Dn ρ M)(seq:aNs K a ds J H) :
  ∃W:Nat->Nat->L2.St->Hp->Prop,(∃m,W 0 m σ H)/\∀i m σ H,W i m σ H ->
   (J.stop i H/\E.nx σ H)∨(J.go i H/\∃N:L2.St->Hp->Prop,(∀σ' H',N σ' H'->∃m',m'<m/\W (i+1) m' σ' H')/\∀x H',J.yld i H x H'->vY K g x σ H' λσ2 H2=>aCh K tb { E with nx:=N,ct:=N,bk:=E.nx } σ2 H2):=by
 obtain⟨Pv,p0,hat,step,done⟩:=h;refine⟨λi m σ' H'=>∃ρ' M',fQ K H' ρ' σ'/\bN K M' H'/\Ext H H'/\m=ds.length-i/\i<=ds.length/\Pv i ρ' M',⟨ds.length,ρ,M,re,hm,.refl H,rfl,Nat.zero_le _,p0⟩,?_⟩;rintro i m σ1 H1 ⟨ρ1,M1,re1,hm1,e1,rfl,hi,w1⟩;obtain⟨hst,hgo,hy⟩:=seq H1 M1 e1 hm1 (hat i ρ1 M1 hi w1);by_cases hlt:i<ds.length
 ·refine .inr ⟨hgo i hlt,λσ' H'=>∃ρ' M',fQ K H' ρ' σ'/\bN K M' H'/\Ext H H'/\Pv (i+1) ρ' M',λσ' H' ⟨ρ',M',a,b,c,d⟩=>⟨ds.length-(i+1),by omega,ρ',M',a,b,c,rfl,hlt,d⟩,λx H' y=>?_⟩;obtain⟨ey,hmy,hd⟩:=hy i x H' y;obtain⟨d,hd,rd⟩:=hd hlt;refine⟨_,ρ1,M1,_,rd,re1.ext ey,hmy _ hm1,step i d ρ1 M1 hd w1,λσ2 H2 ⟨ρ2,M2,re2,hm2,e2,q2⟩=>⟨ρ2,M2,_,re2,hm2,q2,?_⟩⟩;have ex:=(e1.trans ey).trans e2;exact⟨λσ' H' ⟨ρ',M',a,b,c,d⟩=>⟨ρ',M',a,b,ex.trans c,d⟩,λv H' z=>k.rt v H' (z.back (ex0.trans ex)),λσ' H' z=>k.nx σ' H' (z.back (ex0.trans ex)),λσ' H' ⟨ρ',M',a,b,c,d⟩=>⟨ρ',M',a,b,ex.trans c,d⟩⟩
 ·have e:i=ds.length:=by omega
  subst e;exact .inl ⟨hst _ (Nat.le_refl _),k.nx σ1 H1 ⟨ρ1,M1,re1,hm1,ex0.trans e1,done ρ1 M1 w1⟩⟩
def aFy (ta:DA)(g:DG)(tb:DS):DS:=λE ρ M=>ta ρ M λds M1=>match ds with
 |[.ref a]=>∃xs,M1 a=some xs/\aLE a xs g tb E ρ M1
 |_=>False
theorem aIk {elts:List Expr}{kk:Nat}{tpos:Pos}{a:Expr}{p pos':Pos}(hp:PassesOwn (model X.prog X.w) X.A X.env X.xe)(hc:X.calm = true)(hmg:X.mg "enumerate" = none)(ha:PDA X [a] ta)(hg:PDG X (.Tuple elts kk tpos) g)(hb:mD X body tb)(hgl:Gl X "enumerate":=by rfl)(hse:starEach [a] X.env=[(false,eval a X.env)]:=by rfl)(hs:∀x,foldedSetIterable (.Call (.Name "enumerate" p) [a] [] pos') X.env x = pure x:=by intro _;rfl):PDS X (.For (.Tuple elts kk tpos) (.Call (.Name "enumerate" p) [a] [] pos') body [] pos) (aFy ta g tb) :=
 gF (vZ hp hc (aHN hgl hmg ha hse) hg hb hs) λE σ H ⟨ρ,M,Dn,re,hm,q,k⟩=>⟨ρ,M,_,re,hm,q,λvs H1 ⟨ds,M1,rs,hm1,ex,q1⟩=>by
  match ds,q1 with
  |[.ref l],q1 =>
   obtain⟨xs,a1,q1⟩:=q1;obtain⟨v1,rfl,rv1⟩:=iE rs;obtain rfl:=aQ rv1;obtain⟨us,hu,r1⟩:=hm1.l l xs a1;exact⟨l,us,rfl,.of hu,aK6 ex (re.ext ex) hm1 k q1 aNx⟩⟩
variable {scope:Scope}{N':List Str}{fr:List (Option Nat)}{oN:List Str}{osc:Scope}
end
section
variable {prog:Program}{w:World}{A:Around}{E:Value->Shared->Prop}{s:Shared}
end
section
variable {X:Cx}{pos:Pos}
theorem aBa {K:Frag}{H:Hp}{ds:List D}{vs:List V}(r:bR K H ds vs):∀k:Nat,bR K H (replicate k ds).flatten (replicate k vs).flatten
 |0=>cP
 |k+1=>by rw[replicate_succ,flatten_cons,replicate_succ,flatten_cons];exact r.append (aBa r k)
theorem aA7 {vs:List V}{us:List Value}(r:bZ vs us):∀k:Nat,bZ (replicate k vs).flatten (replicate k us).flatten
 |0=>.nil
 |k+1=>by rw[replicate_succ,flatten_cons,replicate_succ,flatten_cons];exact r.append (aA7 r k)
theorem aEq (its:List Value)(k:Nat):(replicate k its.toArray).foldl (· ++ ·) #[]=(replicate k its).flatten.toArray:=by
 have g:∀(k:Nat)(acc:List Value),(replicate k its.toArray).foldl (· ++ ·) acc.toArray=(acc++(replicate k its).flatten).toArray:=λk=>by
  induction k with
  |zero=>intro acc;simp
  |succ k ih =>
   intro acc;rw[replicate_succ,foldl_cons,List.append_toArray,ih,replicate_succ,flatten_cons,append_assoc]
 exact g k []
def aCi (P:Program)(w:World)(K:Frag)(mg:Str->Option Value)(base:Heap)(j:Nat)(tf:DE)(ta:DA):DE:=λρ M Q=>tf ρ M λd M1=>match d with
 |.ref f=>∃n ps sp,mg n=some (.ref f)/\Has P w K mg base j n ps sp/\ta ρ M1 λds M2=>sp ds M2 Q
 |_=>False
theorem aBl {x:Str}{p:Pos}{e:Expr}{es:List Expr}{tf:DE}{ta:DA}{j k:Nat}(hf:PDE X (.Name x p) tf)(hr:eE k X.A)(hjk:j<=k)(ha:PDA X (e::es) ta)(he:starEach (e::es) X.env=(false,eval e X.env)::starEach es X.env:=by rfl)(hpl:(backTo pos (starEach es X.env)).any (·.1)=false:=by rfl):PDE X (.Call (.Name x p) (e::es) [] pos) (aCi X.prog X.w X.K X.mg X.base j tf ta):=by
 intro pins s σ H Q I ⟨ρ,M,Q',re,hm',q,kq⟩;refine wpAny_Call_Name_kw (thn (hf pins s σ H _ I ⟨ρ,M,_,re,hm',q,λ_ _ z=>z⟩) λu s1 ⟨y,H1,I1,ry,d1,M1,r1,hm1,e1,q1⟩=>?_);cases d1 with
 |ref f =>
  obtain⟨n,ps,sp,hm,⟨f',fd,F,hm2,hk,hb⟩,q1⟩:=q1;obtain rfl:f=f':=by rw[hm] at hm2;cases hm2;rfl
  rw[aQ r1] at ry;cases ry;refine callWith_K (h₀:=X.base) I1.ok.mod.kin hk (thn (ha pos pins s1 σ H1 _ I1 ⟨ρ,M1,_,re.ext e1,hm1,q1,λ_ _ z=>z⟩) λus s2 ⟨vs,H2,I2,r2,ds,M2,rs,hm2,e2,q2⟩=>⟨I2.kIn,?_⟩) he hpl;exact aGh F (hr.mono hjk) hb .nil aIP I2 r2 ⟨ds,M2,Q',by rw[append_nil];exact rs,hm2,q2,λv H' z=>kq v H' (z.back (e1.trans e2))⟩
 |_=>exact q1.elim
end
section
variable {P:Program}{w:World}{K:Frag}{mg:Str->Option Value}{base:Heap}
end
end Dd
namespace HT
open PySem PyProof.Rows
section
variable {prog:Program}{w:World}{A:Around}{E:Value->Shared->Prop}{s:Shared}
end
end HT
namespace L2
open PySem PySem.Spec PyProof.Rows
variable {X:Cx}
end L2
namespace Dd
open PySem PySem.Spec PyProof.Rows L2
section
variable {X:Cx}{e:Expr}{te:DE}{pos p2:Pos}{lo hi:Option Expr}{tl th:DO}
end
section
variable {X:Cx}{pins:List (Addr×Obj)}{σ:L2.St}{H:Hp}{s:Shared}{M:Model}{A:Around}{E:Value->Shared->Prop}{e T:Addr}{cls:Value}
end
section
variable {X:Cx}{e:Expr}{es:List Expr}{t:DA}{f:Str}{ps:List Str}{cond:List D->DM->Prop}{C:Addr}{k1 k:Nat}{V:DM->Prop}{pf pc:Pos}
end
section
variable {P:Program}{w:World}{K:Frag}{mg:Str->Option Value}{base:Heap}
theorem Has.never {x:Str}{st:Stmt}{N ps:List Str}(h:cR K mg x st ps)(S:aR N ps (aI st))(k:Nat):Has P w K mg base (k+1) x ps (λ_ _ _=>False) :=
 Has.mk h S (λ_ _ _ z=>z.elim) λ_ _ _ _ _ _ _ _ _ _ _ z=>z.elim
theorem Has.mono {x:Str}{ps:List Str}{k k':Nat}{sp:DSp}(h:Has P w K mg base k x ps sp)(l:k<=k'):Has P w K mg base k' x ps sp:=by obtain⟨f,fd,F,hm,hk,hb⟩:=h;exact⟨f,fd,F.mono l,hm,hk,hb⟩
end
section
variable {X:Cx}{a:Expr}{e tg:Expr}{es:List Expr}{t:DA}{g:DG}{f n cm:Str}{ps:List Str}{sp:DSp}{cond:List D->DM->Prop}{C Cm:Addr}{k1 k2 k j:Nat}{ts:Addr->DS}{b0:Stmt}{suite:List Stmt}{pf pc pa pcm ph pos:Pos}
end
open PySem.AutoSeq1 (wpAny_loadPart')
section
variable {X:Cx}
def aMw:D2:=λx y M Q=>match x,y with
 |.tup xs,.tup ys=>xs.length+ys.length<=1000/\Q (.tup (xs++ys)) M
 |_,_=>False
end
section
variable {X:Cx}{pins:List (Addr×Obj)}{σ:L2.St}{H:Hp}{s:Shared}
end
section
variable {X:Cx}{pos:Pos}
theorem zD :ZE X (.Dict [] [] pos) aCs:=.i (aF6)
theorem aEb {o i:Expr}{to ti:DE}{kr:Nat}(hr:eE kr X.A)(ho:ZE X o to)(hi:ZE X i ti)(ha:∀v,assign (.Subscript o i pos) X.env v=(do
   let ov <- holding [v] (eval o X.env)
   let iv <- holding [v,ov] (eval i X.env)
   standAt pos
   holding [v,ov,iv] (setItem ov iv v)
   release [v,ov,iv] []):=by intro _;rfl):ZG X (.Subscript o i pos) (aDm X.w to ti):=.i (aGu hr ho.o hi.o ha)
end
section
variable {X:Cx}{pos:Pos}{iter tg:Expr}{body:List Stmt}{tl:DE}{g:DG}{tb:DS}{ta:DA}
end
section
variable {X:Cx}{pos:Pos}{iter tg:Expr}{body:List Stmt}{tl:DE}{g:DG}{tb:DS}{ta:DA}
end
section
variable {X:Cx}{pos:Pos}{iter tg elt:Expr}{body:List Stmt}{tl te:DE}{g:DG}{tb:DS}{ta:DA}
theorem aE0 {elts:List Expr}{kk:Nat}{tpos:Pos}{a:Expr}{p pos':Pos}(hp:PassesOwn (model X.prog X.w) X.A X.env X.xe)(hc:X.calm = true)(hmg:X.mg "enumerate" = none)(ha:ZA X [a] ta)(hg:ZG X (.Tuple elts kk tpos) g)(hb:ZSs X body tb)(hgl:Gl X "enumerate":=by rfl)(hse:starEach [a] X.env = [(false,eval a X.env)]:=by rfl)(hs:∀x,foldedSetIterable (.Call (.Name "enumerate" p) [a] [] pos') X.env x = pure x:=by intro _;rfl):ZS X (.For (.Tuple elts kk tpos) (.Call (.Name "enumerate" p) [a] [] pos') body [] pos) (aFy ta g tb):=.i (aIk hp hc hmg ha.o hg.o hb.o hgl hse hs)
variable {scope:Scope}{N':List Str}{fr:List (Option Nat)}{oN:List Str}{osc:Scope}
end
section
variable {prog:Program}{w:World}{A:Around}{E:Value->Shared->Prop}{s:Shared}
end
section
variable {X:Cx}{pos:Pos}
theorem yW {x:Str}{p:Pos}{e:Expr}{es:List Expr}{tf:DE}{ta:DA}{j k:Nat}(hf:ZE X (.Name x p) tf)(hr:eE k X.A)(hjk:j<=k)(ha:ZA X (e::es) ta)(he:starEach (e::es) X.env=(false,eval e X.env)::starEach es X.env:=by rfl)(hpl:(backTo pos (starEach es X.env)).any (·.1)=false:=by rfl):ZE X (.Call (.Name x p) (e::es) [] pos) (aCi X.prog X.w X.K X.mg X.base j tf ta):=.i (aBl (j:=j) (k:=k) hf.o hr hjk ha.o he hpl)
end
section
variable {P:Program}{w:World}{K:Frag}{mg:Str->Option Value}{base:Heap}
end
section
variable {X:Cx}{e:Expr}{te:DE}{pos p2:Pos}{lo hi:Option Expr}{tl th:DO}
end
section
variable {X:Cx}{pins:List (Addr×Obj)}{σ:L2.St}{H:Hp}{s:Shared}{M:Model}{A:Around}{E:Value->Shared->Prop}{e T:Addr}{cls:Value}
end
section
variable {X:Cx}{e:Expr}{es:List Expr}{t:DA}{f:Str}{ps:List Str}{cond:List D->DM->Prop}{C:Addr}{k1 k:Nat}{V:DM->Prop}{pf pc:Pos}
end
section
variable {P:Program}{w:World}{K:Frag}{mg:Str->Option Value}{base:Heap}
end
section
variable {X:Cx}{a:Expr}{e tg:Expr}{es:List Expr}{t:DA}{g:DG}{f n cm:Str}{ps:List Str}{sp:DSp}{cond:List D->DM->Prop}{C Cm:Addr}{k1 k2 k j:Nat}{ts:Addr->DS}{b0:Stmt}{suite:List Stmt}{pf pc pa pcm ph pos:Pos}
end
section
variable {X:Cx}
end
section
variable {X:Cx}{pins:List (Addr×Obj)}{σ:L2.St}{H:Hp}{s:Shared}
end
def Cm (M:DM):Nat->D->D->Bool->Prop
 |0,d,d',b=>bU 0 d=true/\bU 0 d'=true/\b=eqD d d'
 |n+1,d,d',b=>match d,d' with
  |.tup xs,.tup ys=>∃e:Nat->Bool,(∀j x y,xs[j]?=some x->ys[j]?=some y->Cm M n x y (e j))/\b=((range (min xs.length ys.length)).all e&&xs.length==ys.length)
  |.ref a,.ref a'=>∃xs ys,M a=some xs/\M a'=some ys/\a≠a'/\(xs.length=ys.length->∃e:Nat->Bool,(∀j x y,xs[j]?=some x->ys[j]?=some y->Cm M n x y (e j))/\b=(range xs.length).all e)/\(xs.length≠ys.length->b=false)
  |d,d'=>bU 0 d=true/\bU 0 d'=true/\b=eqD d d'
section
variable {X:Cx}{pins:List (Addr×Obj)}{σ:L2.St}{H:Hp}{s:Shared}{M:DM}
theorem aMq {n:Nat}{d d':D}{b:Bool}(h:Cm M n d d' b)(h1:∀xs,d ≠ .tup xs)(h2:∀a,d ≠ .ref a):bU 0 d=true/\bU 0 d'=true/\b=eqD d d':=by
 cases n with
 |zero=>exact h
 |succ n =>
  cases d with
  |tup xs=>exact absurd rfl (h1 xs)
  |ref a=>exact absurd rfl (h2 a)
  |_=>exact h
theorem aIp:∀(n:Nat){d d':D} {b:Bool} {v:V},Inv X pins σ H s->Cm M n d d' b->Rep X.K H d v->Rep X.K H d' v->b=true:=by
 intro n
 induction n with
 |zero =>
  intro d d' b v I h r r';rw[h.2.2];exact sJ h.1 h.2.1 r r'
 |succ n ih =>
  intro d d' b v I h r r';cases d with
  |tup xs =>
   cases d' with
   |tup ys =>
    obtain⟨e,he,rfl⟩:=h;obtain⟨a,us,rfl,sq,rs⟩:=bT r;obtain⟨a',us',z,sq',rs'⟩:=bT r';cases z;obtain rfl:=I.tuple_inj sq sq';have l1:=rs.length;have l2:=rs'.length;rw[show(xs.length==ys.length)=true by simp;omega,Bool.and_true,List.all_eq_true];intro j hj;rw[List.mem_range] at hj;have j1:j<xs.length:=by omega
    have j2:j<ys.length:=by omega
    have e1:xs[j]?=some xs[j]:=getElem?_eq_getElem j1;have e2:ys[j]?=some ys[j]:=getElem?_eq_getElem j2;obtain⟨v1,w1,r1⟩:=rs.get e1;obtain⟨v2,w2,r2⟩:=rs'.get e2;rw[w1] at w2;cases w2;exact ih I (he j _ _ e1 e2) r1 r2
   |_=>exact absurd h.1 Bool.false_ne_true
  |ref a =>
   cases d' with
   |ref a' =>
    obtain⟨xs,ys,_,_,ne,_⟩:=h;rw[aQ r] at r';have:=aQ r';cases this;exact absurd rfl ne
   |_=>exact absurd h.1 Bool.false_ne_true
  |_=>rw[h.2.2];exact sJ h.1 h.2.1 r r'
theorem aBK {A:Around}{n:Nat}{e:Nat->Bool}(hm:bN X.K M H)(I:Inv X pins σ H s)(ih:∀{d d':D}{b:Bool} {v v':V} {u u':Value},Cm M n d d' b->Rep X.K H d v->Rep X.K H d' v'->RelV v u->RelV v' u'->SeqAt.EqAt A s u u' b){xs ys:List D}{us us':List V}{its its':List Value}(he:∀j x y,xs[j]?=some x->ys[j]?=some y->Cm M n x y (e j))(r1:bR X.K H xs us)(r2:bR X.K H ys us')(v1:bZ us its)(v2:bZ us' its')(j:Nat)(h1:j<its.length)(h2:j<its'.length):SeqAt.EqAt A s its[j] its'[j] (e j):=by
 have l1:=r1.length;have l2:=r2.length;have l3:=v1.length;have l4:=v2.length;have e1:xs[j]?=some (xs[j]'(by omega)):=getElem?_eq_getElem (by omega);have e2:ys[j]?=some (ys[j]'(by omega)):=getElem?_eq_getElem (by omega);obtain⟨w1,q1,p1⟩:=r1.get e1;obtain⟨w2,q2,p2⟩:=r2.get e2;obtain⟨z1,y1,k1⟩:=v1.get q1;obtain⟨z2,y2,k2⟩:=v2.get q2;have f1:its[j]=z1:=by rw[getElem?_eq_getElem h1] at y1;exact Option.some.inj y1
 have f2:its'[j]=z2:=by rw[getElem?_eq_getElem h2] at y2;exact Option.some.inj y2
 rw[f1,f2];exact ih (he j _ _ e1 e2) p1 p2 k1 k2
theorem aEZ {A:Around}{n:Nat}{d d':D}{b:Bool}{a a':Addr}(hm:bN X.K M H)(I:Inv X pins σ H s)(hu:A.units+n<cLine)(ih:∀{d d':D}{b:Bool} {v v':V} {u u':Value},Cm M n d d' b->Rep X.K H d v->Rep X.K H d' v'->RelV v u->RelV v' u'->SeqAt.EqAt A.in1 s u u' b)(h:Cm M (n+1) d d' b)(r:Rep X.K H d (.ref a))(r':Rep X.K H d' (.ref a')):SeqAt.RcAt A s (.ref a) (.ref a') b/\SeqAt.RcNeAt A s (.ref a) (.ref a') (!b):=by
 cases d with
 |tup xs =>
  cases d' with
  |tup ys =>
   obtain⟨e,he,rfl⟩:=h;obtain⟨_,us,z,sq,rs⟩:=bT r;cases z;obtain⟨_,us',z,sq',rs'⟩:=bT r';cases z;obtain⟨its,rv,ht⟩:=iZ I sq;obtain⟨its',rv',ht'⟩:=iZ I sq';have e1:=rs.length;have e2:=rv.length;have e3:=rs'.length;have e4:=rv'.length;rw[show xs.length=its.toArray.size by rw[size_toArray];omega,show ys.length=its'.toArray.size by rw[size_toArray];omega];have hit:∀j (h1:j<its.toArray.size) (h2:j<its'.toArray.size),SeqAt.EqAt A.in1 s its.toArray[j] its'.toArray[j] (e j):=λj j1 j2=>by have:=aBK hm I ih he rs rs' rv rv' j (by simpa using j1) (by simpa using j2);simpa using this
   exact⟨SeqAt.RcAt.tuples ht ht' (by omega) hit,SeqAt.RcNeAt.tuples ht ht' (by omega) hit⟩
  |_=>exact absurd h.1 Bool.false_ne_true
 |ref c =>
  cases d' with
  |ref c' =>
   obtain⟨xs,ys,hx,hy,ne,c1,c2⟩:=h;have:=aQ r;cases this;have:=aQ r';cases this;obtain⟨us,hus,ru⟩:=hm.l a xs hx;obtain⟨ws,hws,rw'⟩:=hm.l a' ys hy;obtain⟨z,its,n1,r1,hl,e⟩:=I.lstM hus;obtain⟨z2,its2,n2,r3,hl2,e2⟩:=I.lstM hws;have i1:s.heap.IsList a its.toArray:=⟨_,e,rfl,_,rfl⟩;have i2:s.heap.IsList a' its2.toArray:=⟨_,e2,rfl,_,rfl⟩;have l3:=ru.length;have l4:=rw'.length;have l5:=r1.length;have l6:=r3.length;by_cases hz:xs.length=ys.length
   ·obtain⟨e',he,rfl⟩:=c1 hz;have hsz:its.toArray.size=its2.toArray.size:=by rw[size_toArray,size_toArray];omega
    have hit:∀j (h1:j<its.toArray.size) (h2:j<its2.toArray.size),SeqAt.EqAt A.in1 s its.toArray[j] its2.toArray[j] (e' j):=λj j1 j2=>by have:=aBK hm I ih he ru rw' r1 r3 j (by simpa using j1) (by simpa using j2);simpa using this
    rw[show xs.length=its.toArray.size by rw[size_toArray];omega];exact⟨SeqAt.RcAt.lists i1 i2 hsz (by omega) hit,SeqAt.RcNeAt.lists i1 i2 hsz (by omega) hit⟩
   ·have hsz:(its.toArray.size != its2.toArray.size)=true:=by rw[size_toArray,size_toArray];simp;omega
    rw[c2 hz];exact⟨SeqAt.RcAt.lists_lengths i1 i2 hsz (by omega),SeqAt.RcNeAt.lists_lengths i1 i2 hsz (by omega)⟩
  |_=>exact absurd h.1 Bool.false_ne_true
 |_=>exact(xA h.1 r).elim
theorem aMg (hm:bN X.K M H)(I:Inv X pins σ H s):∀(n:Nat){A:Around} {d d':D} {b:Bool} {v v':V} {u u':Value},A.units+n<cLine->Cm M n d d' b->Rep X.K H d v->Rep X.K H d' v'->RelV v u->RelV v' u'->SeqAt.EqAt A s u u' b:=by
 intro n
 induction n with
 |zero =>
  intro A d d' b v v' u u' hu h r r' q q';rw[h.2.2];exact aDq I 0 hu h.1 h.2.1 r r' q q'
 |succ n ih =>
  intro A d d' b v v' u u' hu h r r' q q';have hu':A.in1.units+n<cLine:=by show A.units+1+n<cLine;omega
  have sc:(∀xs,d ≠ .tup xs)->(∀a,d ≠ .ref a)->SeqAt.EqAt A s u u' b:=λh1 h2=>by obtain⟨p,p',e⟩:=aMq h h1 h2;rw[e];exact aDq I 0 (by omega) p p' r r' q q'
  have sq:∀{a a':Addr},v=.ref a->v'=.ref a'->SeqAt.EqAt A s u u' b:=λ{a a'} e1 e2=>by
   subst e1 e2;cases q;cases q';by_cases c:a=a'
   ·subst c;rw[aIp (n+1) I h r r'];exact SeqAt.EqAt.same _
   ·exact SeqAt.EqAt.of_refs c (aEZ hm I (by omega) (λ{d d' b v v' u u'} h r r' q q'=>ih hu' h r r' q q') h r r').1
  cases d with
  |tup xs =>
   cases d' with
   |tup ys =>
    obtain⟨a,us,e1,_⟩:=bT r;obtain⟨a',us',e2,_⟩:=bT r';exact sq e1 e2
   |_=>exact absurd h.1 Bool.false_ne_true
  |ref c =>
   cases d' with
   |ref c'=>exact sq (aQ r) (aQ r')
   |_=>exact absurd h.1 Bool.false_ne_true
  |_=>exact sc (λxs z=>nomatch z) λa z=>nomatch z
end
def aHO (g:Bool->Bool):D2:=λx y M Q=>(((∃xs,x=.tup xs)/\∃ys,y=.tup ys)∨((∃a,x=.ref a)/\∃b,y=.ref b))/\∃b,Cm M 20 x y b/\Q (.bl (g b)) M
section
variable {X:Cx}
theorem aHa (hu:X.A.units+60<cLine):OpD X (compareOp .Eq) (aHO id)/\OpD X (compareOp .NotEq) (aHO not):=by
 have key:∀{pins:List (Addr×Obj)}{s:Shared} {σ:L2.St} {H:Hp} {x y:V} {v u:Value} {dx dy:D} {M:DM} {Q':DQ} {g:Bool->Bool},Inv X pins σ H s->RelV x v->RelV y u->Rep X.K H dx x->Rep X.K H dy y->bN X.K M H->aHO g dx dy M Q' ->
   ∃b,SeqAt.RcAt X.A s v u b/\SeqAt.RcNeAt X.A s v u (!b)/\Q' (.bl (g b)) M:=by
  intro pins s σ H x y v u dx dy M Q' g I rx ry r1 r2 hm ⟨sh,b,h,q⟩;have go:∀{a a':Addr},x=.ref a->y=.ref a'->∃b,SeqAt.RcAt X.A s v u b/\SeqAt.RcNeAt X.A s v u (!b)/\Q' (.bl (g b)) M:=λ{a a'} e1 e2=>by
   subst e1 e2;cases rx;cases ry;have hu':X.A.in1.units+19<cLine:=by show X.A.units+1+19<cLine;omega
   obtain⟨h1,h2⟩:=aEZ hm I (n:=19) (by omega) (λ{d d' b v v' u u'} h r r' q q'=>aMg hm I 19 hu' h r r' q q') h r1 r2;exact⟨b,h1,h2,q⟩
  rcases sh with⟨⟨xs,rfl⟩,ys,rfl⟩|⟨⟨a,rfl⟩,a',rfl⟩
  ·obtain⟨a,us,e1,_⟩:=bT r1;obtain⟨a',us',e2,_⟩:=bT r2;exact go e1 e2
  ·exact go (aQ r1) (aQ r2)
 refine⟨λpins s σ H x y v u Q I rx ry ⟨dx,dy,M,Q',r1,r2,hm,q,k⟩=>?_,λpins s σ H x y v u Q I rx ry ⟨dx,dy,M,Q',r1,r2,hm,q,k⟩=>?_⟩
 ·obtain⟨b,h1,_,q⟩:=key I rx ry r1 r2 hm q;exact h1 X.prog X.w X.xe _ ⟨.bl b,H,I,rfl,k _ H ⟨.bl b,M,fK,hm,.refl H,q⟩⟩
 ·obtain⟨b,_,h2,q⟩:=key I rx ry r1 r2 hm q;exact h2 X.prog X.w X.xe _ ⟨.bl (!b),H,I,rfl,k _ H ⟨.bl (!b),M,fK,hm,.refl H,q⟩⟩
theorem aJ9 {k:Nat}(hr:eE k X.A):OpD X (compareOp .Eq) (aHO id):=(aHa (by have:=hr.un;omega)).1
end
mutual
theorem aBr:∀{n:Nat}{d:D},bU n d=true->eqD d d=true
 |_,.non,_=>rfl
 |_,.bl b,_=>by simp[eqD]
 |_,.int b,_=>by simp[eqD]
 |_,.str b,_=>by simp[eqD]
 |n+1,.tup xs,h=>by rw[eqD];exact zH (n:=n) h
 |0,.tup xs,h=>absurd h Bool.false_ne_true
 |n,.ref a,h=>by cases n<;>exact absurd h Bool.false_ne_true
 |n,.fz a,h=>by cases n<;>exact absurd h Bool.false_ne_true
theorem zH:∀{n:Nat}{xs:List D},xs.all (bU n)=true->iC xs xs=true
 |_,[],_=>by simp[iC]
 |n,x::xs,h=>by rw[all_cons,Bool.and_eq_true] at h;show(eqD x x&&iC xs xs)=true;rw[aBr h.1,zH h.2];rfl
end
theorem aDe {M:DM}:∀{n:Nat}{d:D},bU n d=true->Cm M n d d true
 |0,d,h=>⟨h,h,(aBr h).symm⟩
 |n+1,.tup xs,h=>⟨λ_=>true,λj x y e1 e2=>by rw[e1] at e2;cases e2;have hx:bU n x=true:=(List.all_eq_true.mp h) x (mem_of_getElem? e1);exact aDe hx,by simp⟩
 |n+1,.non,h=>⟨rfl,rfl,rfl⟩
 |n+1,.bl b,h=>⟨rfl,rfl,by simp[eqD]⟩
 |n+1,.int b,h=>⟨rfl,rfl,by simp[eqD]⟩
 |n+1,.str b,h=>⟨rfl,rfl,by simp[eqD]⟩
 |n+1,.ref a,h=>absurd h Bool.false_ne_true
 |n+1,.fz a,h=>absurd h Bool.false_ne_true
theorem aFD {M:DM}{n:Nat}{a b:Addr}{xs:List D}(ha:M a=some xs)(hb:M b=some xs)(ne:a≠b)(h:∀x∈xs,bU n x=true):Cm M (n+1) (.ref a) (.ref b) true :=
 ⟨xs,xs,ha,hb,ne,λ_=>⟨λ_=>true,λj x y e1 e2=>by rw[e1] at e2;cases e2;exact aDe (h x (mem_of_getElem? e1)),by simp⟩,λz=>absurd rfl z⟩
noncomputable def aNb (w:World)(kvs:List (Str×D)):List D:=kvs.map λp=>.tup [.int (hashStr w p.1),.str p.1,p.2]
section
variable {X:Cx}{pins:List (Addr×Obj)}{σ:L2.St}{H:Hp}{s:Shared}
end
section
variable {X:Cx}{pos:Pos}
end
section
variable {X:Cx}{pins:List (Addr×Obj)}{σ:L2.St}{H:Hp}{s:Shared}
end
section
variable {X:Cx}{pos:Pos}
end
def FK (K:Frag)(x:Str)(f:Addr)(st:Stmt):Prop:=nsIn K mainGlobals x=some (some (.ref f))/\∃fd,L2.Fun K x x st f fd
theorem FK.has {K:Frag}{mg:Str->Option Value}{h:Heap}{x:Str}{f:Addr}{st:Stmt}{ps:List Str}(b:FK K x f st)(X:K.In h)(G:h.Ns mainGlobals mg)(r:∀(kV doc pm:Value)(an:Option Addr) (cdv ct:Value) (us:List Value),us.length=ps.length->bindArgs (fnOf x x (mJ st) (gK st) (aI st) .none kV doc pm an cdv ct) ⟨us,[]⟩=pure (ps.zip us)):cR K mg x st ps :=
 let ⟨a,_,F⟩:=b;⟨_,_,F,mg_of X G a,F.binds r⟩
section
variable {X:Cx}{pos:Pos}{st:Stmt}{t1 t2:DS}{iter tg:Expr}{body:List Stmt}{tl:DE}{g:DG}{tb:DS}
def aMU:D2:=λx y M Q=>match x,y with
 |.ref a,.int n=>∃ds,M a=some ds/\ds≠[]/\-(2^62)<=n/\n<2^62/\ds.length*n.toNat<=1000/\∀p:Addr,M p=none->Q (.ref p) (bE M p (replicate n.toNat ds).flatten)
 |_,_=>False
theorem aHk:OpD X (binaryOp .Mult) aMU:=by
 intro pins s σ H x y v u Q I rx ry ⟨dx,dy,M,Q',r1,r2,hm,q,k⟩
 match dx,dy,q with
 |.ref a,.int n,q =>
  obtain⟨ds,ha,ne,h1,h2,hz,q⟩:=q;obtain⟨vs,hu,rs⟩:=hm.l a ds ha;obtain rfl:=aQ r1;obtain rfl:=bF r2;cases rx;obtain⟨t,rfl⟩:=ry;obtain⟨z,its,m,rv,hl2,ho⟩:=I.lstM hu;have l1:=rs.length;have l2:=rv.length;have hs:=dW hz;have he:its.toArray.isEmpty=false:=by
   cases its with
   |nil=>exact absurd (List.length_eq_zero_iff.mp (by rw[l1,l2];rfl)) ne
   |cons a b=>rfl
  have hz':its.toArray.size*n.toNat<=sizeLine:=by rw[size_toArray,<- l2,<- l1];exact Nat.le_of_lt hs
  refine wpAny_binaryOp_repeat_ref (T:="list") (U:="int") (by decide) ⟨_,ho,rfl⟩ (λs'=>typeIs_int s' n t) noFill_list_mul F.fills_int_mul F.slot_int_rmul repeat_list F.slot_int_index.lookup
   (call_meets F.slot_int_rmul (typeIs_int s n t) F.entry_int_rmul (F.args_int_rmul_2 _ _) (int___rmul___int_list n t a its.toArray m) ⟨ho,rfl,⟨_,ho,rfl⟩,?_⟩)
  refine call_meets F.slot_list_mul ⟨_,ho,rfl⟩ F.entry_list_mul (F.args_list_mul_2 _ _) (AutoListH.list___mul___list_int_3 a its.toArray m n t (by simp[Builtin.List.listFitsIndex];omega) (by simp[sizeLine] at hz';simp;omega) (by simp[Builtin.List.listTooLong];exact by simpa using hz')) ⟨ho,?_⟩;rw[he];simp only[Bool.false_eq_true,if_false];have ef:=aEq its n.toNat;rw[show(List.foldl (λx1 x2=>x1++x2) #[] (replicate n.toNat its.toArray))=(replicate n.toNat its).flatten.toArray from ef];have hl:(replicate n.toNat its).flatten.length<=sizeLine:=by rw[L2.len_rep];rw[size_toArray,Nat.mul_comm] at hz';exact hz'
  exact⟨.ref _,_,I.lnew (t':=s.toks) (aA7 rv n.toNat) (by rw[L2.len_rep,l2,<- L2.len_rep];exact hl),rfl,k _ _ ⟨.ref _,_,dM,hm.lnew I.fresh (aBa rs n.toNat),Ext.new I.fresh _,q _ (hm.fresh I.fresh)⟩⟩
end
section
variable {X:Cx}{pos:Pos}{st:Stmt}{t1 t2:DS}{iter tg:Expr}{body:List Stmt}{tl:DE}{g:DG}{tb:DS}
end
open Mz
section
variable {prog:Program}{w:World}{A:Around}{I S:Addr}{fp wr:List Addr}{n:Nat}{P:Nat->Value->Prop}{St:Nat->Heap->Prop}{R:Result->Shared->Prop}{dv:Value}
end
section
variable {prog:Program}{w:World}{A:Around}{E:Value->Shared->Prop}{s:Shared}{l:Addr}{xs:Array (Int×Tok)}{dv:Value}
end
section
variable {X:Cx}{pos p kp:Pos}{e d:Expr}{te td:DE}
end
section
variable {X:Cx}{pos:Pos}{iter tg:Expr}{body:List Stmt}{te:DE}
end
section
variable {prog:Program}{w:World}{A:Around}{I S:Addr}{fp wr:List Addr}{n:Nat}{P:Nat->Value->Prop}{St:Nat->Heap->Prop}{R:Result->Shared->Prop}{dv:Value}
end
section
variable {prog:Program}{w:World}{A:Around}{E:Value->Shared->Prop}{s:Shared}{l:Addr}{xs:Array (Int×Tok)}{dv:Value}
end
section
variable {X:Cx}{pos p kp:Pos}{e d:Expr}{te td:DE}
end
section
variable {X:Cx}{pos:Pos}{iter tg:Expr}{body:List Stmt}{te:DE}
end
section
variable {X:Cx}{pos:Pos}{elt iter tg cnd:Expr}{scope:Scope}{N':List Str}{fr:List (Option Nat)}{tl:DE}{oN:List Str}{osc:Scope}{g:DG}{tc:DT}{te:DE}{e:Expr}{t1 t2:DE}
end
section
variable {X:Cx}{pos:Pos}{elt iter tg cnd:Expr}{scope:Scope}{N':List Str}{fr:List (Option Nat)}{tl:DE}{oN:List Str}{osc:Scope}{g:DG}{tc:DT}{te:DE}{e:Expr}{t1 t2:DE}
end
section
variable {X:Cx}{a:Expr}{e:Expr}{es:List Expr}{t:DA}{f n cm:Str}{ps:List Str}{sp:DSp}{cond:List D->DM->Prop}{C Cm:Addr}{k1 k2 k j:Nat}{ts:Addr->DS}{b0:Stmt}{suite:List Stmt}{pf pc pa pcm ph pos:Pos}
end
def aMk (b:Bool)(j:Nat)(a:Addr):DE:=λρ M Q=>ρ[j]?=some (some (.ref a))/\Q (.bl b) M
section
variable {X:Cx}{n c:Str}{C Cc a:Addr}{o:Obj}{p p1 p2 pos:Pos}{j:Nat}
end
def aOk (t1 t2:DS):DS:=λE ρ M=>t1 E ρ M∨t2 E ρ M
section
variable {X:Cx}{st:Stmt}{t1 t2:DS}
end
section
variable {prog:Program}{w:World}{A:Around}{E:Value->Shared->Prop}{s:Shared}
end
section
variable {X:Cx}
end
def aMd (i:Nat)(te:DE):DS:=λE ρ M=>match ρ[i]? with
 |some (some d)=>te ρ M λy M1=>aMw d y M1 λr M2=>E.nx (ρ.set i (some r)) M2
 |_=>False
section
variable {X:Cx}{e:Expr}{te:DE}{x:Str}{pos:Pos}
end
section
variable {X:Cx}{a:Expr}{e:Expr}{es:List Expr}{t:DA}{f n cm:Str}{ps:List Str}{sp:DSp}{cond:List D->DM->Prop}{C Cm:Addr}{k1 k2 k j:Nat}{ts:Addr->DS}{b0:Stmt}{suite:List Stmt}{pf pc pa pcm ph pos:Pos}
end
section
variable {X:Cx}{n c:Str}{C Cc a:Addr}{o:Obj}{p p1 p2 pos:Pos}{j:Nat}
end
section
variable {X:Cx}{st:Stmt}{t1 t2:DS}
end
section
variable {prog:Program}{w:World}{A:Around}{E:Value->Shared->Prop}{s:Shared}
end
section
variable {X:Cx}
end
section
variable {X:Cx}{e:Expr}{te:DE}{x:Str}{pos:Pos}
end
section
variable {prog:Program}{w:World}{A:Around}{E:Value->Shared->Prop}{s:Shared}
end
def aNp:DSp:=λds M Q=>match ds with
 |[.tup [.int a,.int b]]=>Q (.int (if b > a then b else a)) M
 |_=>False
section
variable {X:Cx}
end
section
variable {X:Cx}{o e:Expr}{to te:DE}{pos:Pos}
def aGr (to te:DE):DE:=λρ M Q=>to ρ M λx M1=>match x with
 |.ref p=>(∃ds,M1 p=some ds)/\hU te pK ρ M1 λys M2=>∃ds y,ys=[y]/\M2 p=some ds/\ds.length<10000000/\Q .non (bE M2 p (ds++[y]))
 |_=>False
def aFX (to te:DE):DE:=λρ M Q=>to ρ M λx M1=>match x with
 |.ref p=>(∃ds,M1 p=some ds)/\hU te pK ρ M1 λys M2=>∃ds q es,ys=[.ref q]/\M2 p=some ds/\M2 q=some es/\ds.length+es.length<=10000000/\Q .non (bE M2 p (ds++es))
 |_=>False
end
section
variable {X:Cx}{pos:Pos}
def aLv:D2:=λx y M Q=>match x,y with
 |.tup ds,.int k=>-(2^62)<=k/\k<2^62/\ds.length*k.toNat<=10000000/\Q (.tup (replicate k.toNat ds).flatten) M
 |_,_=>False
def aE2:D2:=λx y M Q=>match x,y with
 |.tup xs,.tup ys=>xs.length+ys.length<=10000000/\Q (.tup (xs++ys)) M
 |_,_=>False
end
section
variable {X:Cx}
end
def aJs (i:Nat)(te:DE):DS:=λE ρ M=>match ρ[i]? with
 |some (some d)=>te ρ M λy M1=>aE2 d y M1 λr M2=>E.nx (ρ.set i (some r)) M2
 |_=>False
section
variable {X:Cx}{e:Expr}{te:DE}{x:Str}{pos:Pos}
end
section
variable {X:Cx}{o e:Expr}{to te:DE}{pos:Pos}
end
section
variable {X:Cx}{pos:Pos}
end
section
variable {X:Cx}
end
section
variable {X:Cx}{e:Expr}{te:DE}{x:Str}{pos:Pos}
end
open PySem.W (InstAt findIn clsIn takerIn mroIn looks_findIn looks_clsIn looks_mroIn)
open PySem.Builtin PySem.Builtin.ObjectAttr
section
variable {K:Frag}{prog:Program}{w:World}{A:Around}{E:Value->Shared->Prop}{s:Shared}{x C:Addr}{ox:Obj}{name:Str}{v:Value}
end
section
variable {X:Cx}{pins:List (Addr×Obj)}{σ:L2.St}{H:Hp}{s:Shared}{e C:Addr}{f:Str}{y:V}{u:Value}
noncomputable def kJ (H:Hp)(e:Addr):Hp:=λb=>if b=e then none else H b
theorem qH:kJ H e e=none:=if_pos rfl
theorem fA {b:Addr}(h:b≠e):kJ H e b=H b:=if_neg h
end
open PySem.W (InstAt findIn clsIn takerIn mroIn looks_findIn looks_clsIn looks_mroIn)
section
variable {X:Cx}{o value:Expr}{f:Str}{pos pos':Pos}{ta tv:TE}
end
section
variable {P:Program}{w:World}{K:Frag}{mg:Str->Option Value}{base:Heap}
end
section
variable {prog:Program}{w:World}{A:Around}{E:Value->Shared->Prop}{s:Shared}{K:Frag}
variable {nm qn:Str}{C N fI:Addr}{bs bm:List Value}{hdct:Bool}{sn:List Str}{sub:List Value}{ab:Bool}{col:Option Bool}{dd:Option Addr}{k0 k1 k2 k3 k5:Option Value}
end
open PySem.W (InstAt findIn clsIn takerIn mroIn looks_findIn looks_clsIn looks_mroIn)
def TrY (od:Option Addr)(h:Heap)(e:Addr)(cls:Value)(T:Addr)(fl:Value):Prop :=
 ∃oe vs oT ts,h.get? e=some oe/\(oe.cls=cls/\oe.dict=od)/\oe.data=.fields vs/\vs[1]?=some (.ref T)/\T≠e/\h.get? T=some oT/\oT.data=.fields ts/\ts[3]?=some fl
section
variable {X:Cx}{pins:List (Addr×Obj)}{σ:L2.St}{H:Hp}{s:Shared}{M:Model}{A:Around}{E:Value->Shared->Prop}{e T:Addr}{cls:Value}{od:Option Addr}
end
noncomputable def CXy (P:Program)(w:World):CXT:=λouter H s E e s'=>∃(a:Addr)(cls:Value) (T:Addr) (H':Hp) (od:Option Addr),e=Value.ref a/\s'.os=s.os/\AllBare s'.gens/\Un (frs outer) [] H H' s.heap s'.heap/\HOk P w H' s'.heap /\
 TrY od s'.heap a cls T .none/\s.heap.get? a=none/\s.heap.get? T=none/\H' a=none/\H' T=none/\E cls od H'
def aL4 (V:Int->DM->Prop)(ds:List D)(M:DM):Prop:=match ds with
 |[.int i]=>V i M
 |_=>False
def aIu (V:Int->DM->Prop)(te:DE):DS:=λ_ ρ M=>hU te pK ρ M (aL4 V)
section
variable {X:Cx}{pins:List (Addr×Obj)}{σ:L2.St}{H:Hp}{s:Shared}{x f:Str}{C:Addr}{k:Nat}{i:Int}
end
section
variable {X:Cx}{x:Str}{V:Int->DM->Prop}{e:Expr}{te:DE}{np cpos pos:Pos}{k:Nat}
end
open PySem.W (InstAt findIn clsIn takerIn mroIn looks_findIn looks_clsIn looks_mroIn)
def aJD (V:Int->DM->Prop)(cond:List D->DM->Int->Prop)(t:DA):DE:=λρ M _=>t ρ M λds M1=>∃i,cond ds M1 i/\∀M',bK M1 M'->V i M'
noncomputable def XW (K:Frag)(C:Addr)(f:Str)(M1:DM)(i:Int):XK:=λc od H'=>c=.ref C/\∃dx M',od=some dx/\bN K M' H'/\bK M1 M'/\H' dx=some (.xd [(f,.int i)])
section
variable {X:Cx}{e:Expr}{es:List Expr}{t:DA}{fn f:Str}{ps:List Str}{cond:List D->DM->Int->Prop}{C:Addr}{k1 k:Nat}{V:Int->DM->Prop}{pf pc:Pos}
end
section
variable {P:Program}{w:World}{K:Frag}{mg:Str->Option Value}{base:Heap}
end
section
variable {X:Cx}{pins:List (Addr×Obj)}{σ:L2.St}{H:Hp}{s:Shared}{a e:Addr}{o:Obj}{fs:List (Str×V)}
end
def aMr (sp:DSp)(cond:List D->DM->Int->Prop)(j:Nat)(t:DA)(nx:fR->D->cW->DM->Prop)(ts:Addr->Int->DS):DS:=λD ρ M=>t ρ M λds M1 =>
 (∃i,cond ds M1 i/\∀a,ts a i (D.un j) (ρ.set j (some (.ref a))) M1)∨sp ds M1 λd M2=>nx D d ρ M2
section
variable {X:Cx}{a:Expr}{e:Expr}{es:List Expr}{t:DA}{x f n cm fl:Str}{ps:List Str}{sp:DSp}{cond:List D->DM->Int->Prop}{C Cm:Addr}{k1 k2 k i j:Nat}{ts:Addr->Int->DS}{b0:Stmt}{suite:List Stmt}{px pf pc pa pcm ph pos:Pos}
end
def aN1 (j:Nat)(a:Addr)(i:Int):DE:=λρ M Q=>ρ[j]?=some (some (.ref a))/\Q (.int i) M
section
variable {X:Cx}{n f:Str}{C a dx:Addr}{o oD:Obj}{p pos:Pos}{j:Nat}{i:Int}{tk:Tok}
end
def aMN (tab:List (Str×Int))(non:List Str)(Q:DQ)(ds:List D)(M1:DM):Prop:=match ds with
 |[.str k]=>(∃n,tab.lookup k=some n/\Q (.int n) M1)∨(k∈non/\Q .non M1)
 |_=>False
def aME (tab:List (Str×Int))(non:List Str)(te:DE):DE:=λρ M Q=>hU te pK ρ M (aMN tab non Q)
section
variable {X:Cx}{x:Str}{tab:List (Str×Int)}{non:List Str}{p apos cpos:Pos}{e:Expr}{te:DE}
end
section
variable {X:Cx}{pins:List (Addr×Obj)}{σ:L2.St}{H:Hp}{s:Shared}{M:Model}{A:Around}{E:Value->Shared->Prop}{e T:Addr}{cls:Value}{od:Option Addr}
end
section
variable {X:Cx}{pins:List (Addr×Obj)}{σ:L2.St}{H:Hp}{s:Shared}{x f:Str}{C:Addr}{k:Nat}{i:Int}
end
section
variable {X:Cx}{x:Str}{V:Int->DM->Prop}{e:Expr}{te:DE}{np cpos pos:Pos}{k:Nat}
end
section
variable {X:Cx}{e:Expr}{es:List Expr}{t:DA}{fn f:Str}{ps:List Str}{cond:List D->DM->Int->Prop}{C:Addr}{k1 k:Nat}{V:Int->DM->Prop}{pf pc:Pos}
end
section
variable {P:Program}{w:World}{K:Frag}{mg:Str->Option Value}{base:Heap}
end
section
variable {X:Cx}{pins:List (Addr×Obj)}{σ:L2.St}{H:Hp}{s:Shared}{a e:Addr}{o:Obj}{fs:List (Str×V)}
end
section
variable {X:Cx}{a:Expr}{e:Expr}{es:List Expr}{t:DA}{x f n cm fl:Str}{ps:List Str}{sp:DSp}{cond:List D->DM->Int->Prop}{C Cm:Addr}{k1 k2 k i j:Nat}{ts:Addr->Int->DS}{b0:Stmt}{suite:List Stmt}{px pf pc pa pcm ph pos:Pos}
end
section
variable {X:Cx}{n f:Str}{C a dx:Addr}{o oD:Obj}{p pos:Pos}{j:Nat}{i:Int}{tk:Tok}
end
section
variable {X:Cx}{x:Str}{tab:List (Str×Int)}{non:List Str}{p apos cpos:Pos}{e:Expr}{te:DE}
end
def aLR (w:World)(a:Addr)(Q:DQ)(ds:List D)(M2:DM):Prop:=match ds with
 |[.str k,dv]=>∃kvs,M2 (.d a)=some (aNb w kvs)/\(kvs.map (·.1)).Nodup/\Q (((kvs.find? λp=>decide (p.1=k)).map (·.2)).getD dv) M2
 |_=>False
def aLQ (w:World)(to te ti:DE):DE:=λρ M Q=>to ρ M λx M1=>match x with
 |.ref a=>(∃kvs,M1 (.d a)=some (aNb w kvs)/\(kvs.map (·.1)).Nodup)/\hU te (hU ti pK) ρ M1 (aLR w a Q)
 |_=>False
section
variable {X:Cx}{o e e2:Expr}{to te ti:DE}{apos cpos pos:Pos}
end
section
open PySem.W PySem.Calls
variable {prog:Program}{w:World}{A:Around}{E:Value->Shared->Prop}{s:Shared}{K:Frag}{x C D:Addr}{ox:Obj}{od:Option Obj}
end
section
variable {X:Cx}{n c:Str}{C Cc a dx:Addr}{o oD:Obj}{p p1 p2 pos:Pos}{j:Nat}
end
def aHU (g:Bool->Bool)(ta:DE)(tn:DA):DE:=λρ M Q=>ta ρ M λx M1=>tn ρ M1 λds M2=>match x,ds with
 |.int k,[.int i,.int j]=>Q (.bl (g (decide (i<=k/\k<j)))) M2
 |_,_=>False
section
variable {X:Cx}{a n m:Expr}{ta:DE}{tn:DA}{pos p pos':Pos}
end
section
variable {X:Cx}{o e e2:Expr}{to te ti:DE}{apos cpos pos:Pos}
end
section
variable {prog:Program}{w:World}{A:Around}{E:Value->Shared->Prop}{s:Shared}{K:Frag}{x C D:Addr}{ox:Obj}{od:Option Obj}
end
section
variable {X:Cx}{n c:Str}{C Cc a dx:Addr}{o oD:Obj}{p p1 p2 pos:Pos}{j:Nat}
end
section
variable {X:Cx}{a n m:Expr}{ta:DE}{tn:DA}{pos p pos':Pos}
end
end Dd
namespace Ty
open PySem PySem.Builtin PySem.Builtin.Str PySem.StrLaws
noncomputable abbrev cl (x:Str):List Nat:=x.cps.toList
noncomputable abbrev one (c:Nat):Str:=⟨#[c]⟩
theorem ext {x y:Str}(h:cl x=cl y):x=y:=Str.ext' (Array.toList_inj.mp h)
end Ty
namespace Dd
open PySem PySem.Spec PyProof.Rows L2 Mz
open PySem.Builtin.Str (glued occurrences partsBetween strSub subAt)
def aM6:D2:=λx y M Q=>match x,y with
 |.str i,.str j=>i.length+j.length<=1000000/\Q (.str (i++j)) M
 |_,_=>False
def aLX:D2:=λx y M Q=>match x,y with
 |.str i,.int n=>(n=0∨n=1)/\Q (.str (if n=1 then i else Str.empty)) M
 |_,_=>False
def aNN:DSp:=λds M Q=>match ds with
 |[.int i]=>i.natAbs.log2<1920/\Q (.str (toString i)) M
 |_=>False
def aMn:DSp:=λds M Q=>match ds with
 |[.str x]=>∃n,PySem.intText? x=some n/\x.length<=640/\Q (.int n) M
 |_=>False
section
variable {X:Cx}
noncomputable def aJ8 (x y:Str):Bool:=decide (0+y.length<=x.length)&&subAt x y 0
noncomputable def aN4 (x:Str):Bool:=x.cps.all (·<128)
noncomputable def aOf (x:Str):Bool:=x.length > 0&&x.cps.all Unicode.isDigit
end
open PySem.Builtin.Str (glued)
section
variable {prog:Program}{w:World}{A:Around}{E:Value->Shared->Prop}{s:Shared}
end
section
variable {X:Cx}{pos:Pos}{e a b o e1 e2 e3:Expr}{es:List Expr}{te ta tb to t1 t2 t3:DE}{apos cpos:Pos}
def aMt (t:DGs):DG:=λd ρ M Q=>match d with
 |.ref a=>∃d0 ds,M a=some (d0::ds)/\∀p:Addr,M p=none->t [d0,.ref p] ρ (bE M p ds) Q
 |_=>False
def aIB (sep:Str)(Q:DQ)(ds:List D)(M2:DM):Prop:=match ds with
 |[.ref a]=>∃ss:List Str,M2 a=some (ss.map D.str)/\(ss.map (·.length)).sum+ss.length*sep.length<=1000000/\Q (.str (glued sep ss)) M2
 |_=>False
def aLC (to te:DE):DE:=λρ M Q=>to ρ M λx M1=>match x with
 |.str sep=>hU te pK ρ M1 (aIB sep Q)
 |_=>False
def aGk (y:Str)(Q:DQ)(ds:List D)(M2:DM):Prop:=match ds with
 |[.str z]=>∃c ss,z=Ty.one c/\y=glued (Ty.one c) ss/\ss≠[]/\(∀s∈ss,c∉Ty.cl s)/\c<256/\y.length<=900000/\∀p:Addr,M2 p=none->Q (.ref p) (bE M2 p (ss.map D.str))
 |_=>False
def aKC (to te:DE):DE:=λρ M Q=>to ρ M λx M1=>match x with
 |.str y=>hU te pK ρ M1 (aGk y Q)
 |_=>False
def aIL (y:Str)(Q:DQ)(ds:List D)(M2:DM):Prop:=match ds with
 |[.str z]=>∃c,z=Ty.one c/\y.length<=900000/\((c∉Ty.cl y/\Q (.tup [.str y,.str Str.empty,.str Str.empty]) M2)∨(∃a b:Str,Ty.cl y=Ty.cl a++c::Ty.cl b/\c∉Ty.cl a/\Q (.tup [.str a,.str (Ty.one c),.str b]) M2))
 |_=>False
def aLN (to te:DE):DE:=λρ M Q=>to ρ M λx M1=>match x with
 |.str y=>hU te pK ρ M1 (aIL y Q)
 |_=>False
def aFg (y:Str)(Q:DQ)(ds:List D)(M2:DM):Prop:=match ds with
 |[.str z]=>Q (.bl (aJ8 y z)) M2
 |_=>False
def aIX (to te:DE):DE:=λρ M Q=>to ρ M λx M1=>match x with
 |.str y=>hU te pK ρ M1 (aFg y Q)
 |_=>False
def aNV (to:DE):DE:=λρ M Q=>to ρ M λx M1=>match x with
 |.str y=>Q (.bl (aN4 y)) M1
 |_=>False
def aOo (to:DE):DE:=λρ M Q=>to ρ M λx M1=>match x with
 |.str y=>Q (.bl (aOf y)) M1
 |_=>False
end
section
variable {X:Cx}{pos p0 p1 p2 p3 p4:Pos}{e e1 e2:Expr}{te t1 t2:DE}{lo hi:Option Expr}{tl th:DO}{c:Str}
def aIM (x:D)(lo hi:Option Int)(M:DM)(Q:DQ):Prop:=match x,lo,hi with
 |.str y,some i,none=>y.length<=1000000/\Q (.str (Txt.slice y (some i) none)) M
 |_,_,_=>False
def aNU (te:DE)(tl th:DO):DE:=λρ M Q=>te ρ M λx M1=>tl ρ M1 λl M2=>th ρ M2 λh M3=>aIM x l h M3 Q
def aN0 (te:DE):DE:=λρ M Q=>te ρ M λx M1=>match x with
 |.int i=>i.natAbs.log2<1920/\Q (.str (toString i)) M1
 |_=>False
def aNG (c:Str)(te:DE):DE:=λρ M Q=>te ρ M λx M1=>match x with
 |.int i=>i.natAbs.log2<1920/\(c++Str.ofString (toString i)).length<=1000000/\Q (.str (c++Str.ofString (toString i))) M1
 |_=>False
def aNL (c:Str)(t1 t2:DE):DE:=λρ M Q=>t1 ρ M λx M1=>match x with
 |.int i=>i.natAbs.log2<1920/\(Str.ofString (toString i)++c).length<=1000000/\t2 ρ M1 λy M2=>match y with
  |.int n=>n.natAbs.log2<1920/\(Str.ofString (toString i)++c++Str.ofString (toString n)).length<=1000000/\Q (.str (Str.ofString (toString i)++c++Str.ofString (toString n))) M2
  |_=>False
 |_=>False
noncomputable def aIW:D->Bool
 |.non=>true
 |_=>false
def aOd (g:Bool->Bool):D2:=λx y M Q=>match x,y with
 |.non,.ref a=>∃ds,M a=some ds/\ds.all (bU 60)=true/\Q (.bl (g (ds.any aIW))) M
 |_,_=>False
def aNz (K:Frag)(T1 T2:String)(te:DE):DE:=λρ M Q=>te ρ M λd M1=>∃T k,tyD d=some T/\PySem.W.kitAny K (.type T) [.type T1,.type T2]=some k/\Q (.bl k) M1
end
section
variable {prog:Program}{w:World}{A:Around}{E:Value->Shared->Prop}{s:Shared}
end
section
variable {X:Cx}{pos:Pos}{e a b o e1 e2 e3:Expr}{es:List Expr}{te ta tb to t1 t2 t3:DE}{apos cpos:Pos}
end
section
variable {X:Cx}{pos p0 p1 p2 p3 p4:Pos}{e e1 e2:Expr}{te t1 t2:DE}{lo hi:Option Expr}{tl th:DO}{c:Str}
end
end Dd
namespace Ty
open PySem PySem.Builtin.Str PySem.NumText PyProof.Rows
end Ty
namespace Dd
open PySem PySem.Spec PyProof.Rows L2 Mz
section
variable {prog:Program}{w:World}{A:Around}{E:Value->Shared->Prop}{s:Shared}
theorem aEy {l b:Addr}{Q:Value->Shared->Prop}(ha:s.TypeIs (.ref l) "list")(hb:s.TypeIs (.ref b) "list")(hc:wpAny (model prog w) A (call (.builtin "list.__iadd__") [.ref l,.ref b]) Q E s):wpAny (model prog w) A (inplaceOp .Add (.ref l) (.ref b)) Q E s:=by
 unfold inplaceOp;refine wpAny_holding ?_;have hlk:typeLookup (.type "list") (dunderI "add") = pure (some (.builtin "list.__iadd__")):=PySem.F.slot_list_iadd.lookup;have hq:isSeqSlot (some (.builtin "list.__iadd__"))=true:=by decide +kernel
 have hfi:fillsInplaceSlot (.type "list") "add" (Operator.Add == .Add)=pure false:=by unfold fillsInplaceSlot;show(typeLookup (.type "list") (dunderI "add") >>= λfi=>pure (fi.isSome && !isSeqSlot fi))=pure false;rw[hlk,pure_bind,hq];rfl
 refine wpAny_bind (wpAny_typeOf ha (wpAny_bind (wpAny_of_eq hfi ?_)));show wpAny _ A (if false=true then _ else _) Q E s;rw[if_neg Bool.false_ne_true];refine wpAny_bind (wpAny_binaryOp1_none (nm:="add") ha hb noFill_list_add ?_);refine wpAny_bind (wpAny_of_eq (PySem.seqSlot_of hlk hq) ?_);exact wpAny_bind (wpAny_rule hc)
end
section
variable {X:Cx}{x:Str}{e:Expr}{te:DE}{pos:Pos}
def aCn:D2:=λx y M Q=>match x,y with
 |.ref l,.ref b=>∃xs zs,M l=some xs/\M b=some zs/\xs.length+zs.length<=1000/\Q (.ref l) (bE M l (xs++zs))
 |_,_=>False
theorem aG7:OpD X (inplaceOp .Add) aCn:=λpins s σ H x y v u Q I rx ry ⟨dx,dy,M,Q',r1,r2,hm,q,k⟩=>by
 match dx,dy,q with
 |.ref l,.ref b,q =>
  obtain⟨xs,zs,hx,hz,hl,q⟩:=q;obtain rfl:=aQ r1;obtain rfl:=aQ r2;cases rx;cases ry;obtain⟨us,hu,ru⟩:=hm.l l _ hx;obtain⟨ws,hw,rw'⟩:=hm.l b _ hz;obtain⟨z,its,n,r,hl1,e⟩:=I.lstM hu;obtain⟨z2,its2,n2,r3,hl2,e2⟩:=I.lstM hw;have lx:=ru.length;have lz:=rw'.length;have hs1:=dW hl;have hsz:its.toArray.size+its2.toArray.size<=sizeLine:=by rw[size_toArray,size_toArray];omega
  have hlong:¬(!its.toArray.isEmpty&&Builtin.List.listTooLong (its.toArray.size+its2.toArray.size))=true:=by rw[aBZ hsz,Bool.and_false];exact Bool.false_ne_true
  refine aEy ⟨_,e,rfl⟩ ⟨_,e2,rfl⟩ (call_meets PySem.F.slot_list_iadd ⟨_,e,rfl⟩ PySem.F.entry_list_iadd (PySem.F.args_list_iadd_2 _ _)
   (AutoSeq1.list___iadd___list_list_0 l its.toArray n b its2.toArray n2 hlong (by rw[size_toArray];omega) (by omega)) ⟨e,e2,?_⟩)
  refine⟨.ref l,_,I.lset (its':=its++its2) hu e (by simp) (r.append r3) ?_,rfl,k _ _ ⟨.ref l,_,dM,hm.put hu (ru.append rw'),Ext.put hu _,q⟩⟩;rw[length_append];omega
def aDD (i:Nat)(te:DE):DS:=λE ρ M=>match ρ[i]? with
 |some (some z)=>te ρ M λd M1=>aCn z d M1 λr M2=>E.nx (ρ.set i (some r)) M2
 |_=>False
theorem aHT {i:Nat}{pos':Pos}(hN:X.N.Nodup)(he:PDE X e te)(hi:X.N[i]?=some x:=by rfl)(hx:Loc X.env.scope x:=by first|exact Or.inl rfl|exact Or.inr rfl)(hf:X.fn x=true∨X.env.scope.names.lookup x=some .local:=by first|exact .inl rfl|exact .inr rfl|assumption) :
  PDS X (.AugAssign (.Name x pos') .Add e pos) (aDD i te) :=
 gF (aGG (i:=i) hN hi hx he (aG7 (X:=X)) hf) λE σ H ⟨ρ,M,Dn,re,hm,q,k⟩=>by
  unfold aDD at q;split at q
  ·rename_i z e1;obtain⟨v,e2,rv⟩:=re.get i _ e1;refine⟨_,e2,ρ,M,_,re,hm,q,λw H1 ⟨d,M1,rd,hm1,ex,q1⟩=>?_⟩;exact⟨z,d,M1,_,rv.ext ex,rd,hm1,q1,λu H2 ⟨r,M2,rr,hm2,ex2,q2⟩=>k.nx _ H2 ⟨_,M2,(re.ext (ex.trans ex2)).set rr i,hm2,ex.trans ex2,q2⟩⟩
  ·exact q.elim
end
section
variable {prog:Program}{w:World}{A:Around}{E:Value->Shared->Prop}{s:Shared}
end
section
variable {X:Cx}{x:Str}{e:Expr}{te:DE}{pos:Pos}
theorem aFO {i:Nat}{pos':Pos}(hN:X.N.Nodup)(he:ZE X e te)(hi:X.N[i]?=some x:=by rfl)(hx:Loc X.env.scope x:=by first|exact Or.inl rfl|exact Or.inr rfl)(hf:X.fn x=true∨X.env.scope.names.lookup x=some .local:=by first|exact .inl rfl|exact .inr rfl|assumption):ZS X (.AugAssign (.Name x pos') .Add e pos) (aDD i te):=.i (aHT (i:=i) hN he.o hi hx hf)
end
inductive XC where
 |x (C:Addr)
 |y (C:Addr) (f:Str) (i:Int)
abbrev XV:=XC->cW->DM->Prop
def aNu (X:Cx)(H1:Hp)(s1:Shared)(M1:DM)(ev:Value)(s':Shared):XC->Prop
 |.x C=>CXr X.prog X.w X.stack H1 s1 (λc _ H'=>c=.ref C/\∃M',bN X.K M' H'/\bK M1 M') ev s'
 |.y C f i=>CXy X.prog X.w X.stack H1 s1 (XW X.K C f M1 i) ev s'
def XOk (X:Cx)(pins:List (Addr×Obj))(H:Hp)(V:XV)(E':Value->Shared->Prop):Prop :=
 ∀xc σ H1 s1 M1 ρ ev s',Inv X pins σ H1 s1->fQ X.K H1 ρ σ->Ext H H1->V xc ρ M1->aNu X H1 s1 M1 ev s' xc->E' ev s'
theorem XOk.at {X:Cx}{pins:List (Addr×Obj)}{H H':Hp}{V:XV}{E':Value->Shared->Prop}(h:XOk X pins H V E')(e:Ext H H'):XOk X pins H' V E' :=
 λxc σ H1 s1 M1 ρ ev s' I re ex v y=>h xc σ H1 s1 M1 ρ ev s' I re (e.trans ex) v y
def aNP (t:DS):XV->DS:=λ_=>t
def aMo (t u:XV->DS):XV->DS:=λV E ρ M=>t V { E with nx:=u V E } ρ M
def aNY (tc:DT)(t u:XV->DS):XV->DS:=λV E ρ M=>tc ρ M λc M1=>if c=true then t V E ρ M1 else u V E ρ M1
def aKh (R:List D->DM->XC->Prop)(sp:DSp)(t:DA)(nx:fR->D->cW->DM->Prop):XV->DS:=λV D ρ M=>t ρ M λds M1=>(∃xc,R ds M1 xc/\V xc ρ M1)∨sp ds M1 λd M2=>nx D d ρ M2
def aM4 (i:Nat):fR->D->cW->DM->Prop:=λD d ρ M=>D.nx (ρ.set i (some d)) M
def aLM:fR->D->cW->DM->Prop:=λD d _ M=>D.rt d M
section
variable {X:Cx}{st:Stmt}{cN a b:List Stmt}{t:DS}{tb ub:XV->DS}{c:Expr}{tc:DT}{pos:Pos}
end
section
variable {X:Cx}{e:Expr}{es:List Expr}{t:DA}{x f:Str}{ps:List Str}{sp:DSp}{R:List D->DM->XC->Prop}{k2 k i:Nat}{px pf pc pa:Pos}
end
def aL8 (tb:XV->DS)(v:fR->XV):DS:=λDe ρ M=>tb (v De) De ρ M
section
variable {X:Cx}{n cm f1 f2:Str}{CX C1 C2 Cm:Addr}{j:Nat}{tX:Addr->DS}{t1 t2:Addr->Int->DS}{body suite:List Stmt}{b0:Stmt}{tb:XV->DS}{pcm ph pos:Pos}
end
section
variable {X:Cx}{o e:Expr}{to te:DE}
def aGt (p:Addr)(Q:DQ)(ys:List D)(M2:DM):Prop:=match ys with
 |[.bl k]=>∃bs:List Bool,M2 p=some (bs.map D.bl)/\Q (.int ((bs.countP (·==k):Nat):Int)) M2
 |_=>False
def aKn (to te:DE):DE:=λρ M Q=>to ρ M λx M1=>match x with
 |.ref p=>(∃ds,M1 p=some ds)/\hU te pK ρ M1 (aGt p Q)
 |_=>False
end
section
variable {X:Cx}{n cm f1:Str}{CX C1 Cm:Addr}{j:Nat}{tX:Addr->DS}{t1:Addr->Int->DS}{body suite:List Stmt}{b0:Stmt}{tb:XV->DS}{pcm ph pos:Pos}
end
section
variable {X:Cx}{f fl:Str}{ps:List Str}{C:Addr}{k k1:Nat}{R1 R2:List D->DM->XC->Prop}
end
section
variable {X:Cx}{n c:Str}{C Cc a:Addr}{o:Obj}{p p1 p2 pos:Pos}{j:Nat}
end
section
variable {X:Cx}{st:Stmt}{cN a b:List Stmt}{t:DS}{tb ub:XV->DS}{c:Expr}{tc:DT}{pos:Pos}
end
section
variable {X:Cx}{e:Expr}{es:List Expr}{t:DA}{x f:Str}{ps:List Str}{sp:DSp}{R:List D->DM->XC->Prop}{k2 k i:Nat}{px pf pc pa:Pos}
end
section
variable {X:Cx}{n cm f1 f2:Str}{CX C1 C2 Cm:Addr}{j:Nat}{tX:Addr->DS}{t1 t2:Addr->Int->DS}{body suite:List Stmt}{b0:Stmt}{tb:XV->DS}{pcm ph pos:Pos}
end
section
variable {X:Cx}{o e:Expr}{to te:DE}
end
section
variable {X:Cx}{n cm f1:Str}{CX C1 Cm:Addr}{j:Nat}{tX:Addr->DS}{t1:Addr->Int->DS}{body suite:List Stmt}{b0:Stmt}{tb:XV->DS}{pcm ph pos:Pos}
end
section
variable {X:Cx}{f fl:Str}{ps:List Str}{C:Addr}{k k1:Nat}{R1 R2:List D->DM->XC->Prop}
end
section
variable {X:Cx}{n c:Str}{C Cc a:Addr}{o:Obj}{p p1 p2 pos:Pos}{j:Nat}
end
section
variable {prog:Program}{w:World}{A:Around}{I S:Addr}{fp wr:List Addr}{n:Nat}{P:Nat->Value->Prop}{St:Nat->Heap->Prop}{R:Result->Shared->Prop}{dv:Value}
end
section
variable {prog:Program}{w:World}{A:Around}{E:Value->Shared->Prop}{s:Shared}{l:Addr}{xs:Array (Int×Tok)}{dv:Value}
end
section
variable {X:Cx}{pos p kp:Pos}{e d:Expr}{te td:DE}
def aLB (te td:DE):DE:=λρ M Q=>te ρ M λx M1=>td ρ M1 λy M2=>match x,y with
 |.ref a,.int k=>∃ns:List Int,M2 a=some (ns.map D.int)/\∀m:Int,(ns=[]->m=k)->(∀n∈ns,n<=m)->Q (.int m) M2
 |_,_=>False
end
section
variable {prog:Program}{w:World}{A:Around}{I S:Addr}{fp wr:List Addr}{n:Nat}{P:Nat->Value->Prop}{St:Nat->Heap->Prop}{R:Result->Shared->Prop}{dv:Value}
end
section
variable {prog:Program}{w:World}{A:Around}{E:Value->Shared->Prop}{s:Shared}{l:Addr}{xs:Array (Int×Tok)}{dv:Value}
end
section
variable {X:Cx}{pos p kp:Pos}{e d:Expr}{te td:DE}
end
def aNc:DSp:=λds M Q=>match ds with
 |[.int i]=>i.natAbs.log2<1920/\Q (.str (toString i)) M
 |[.str x]=>Q (.str x) M
 |_=>False
section
variable {X:Cx}
end
section
variable {X:Cx}{n cm fl:Str}{C Cm:Addr}{j:Nat}{ts:Addr->Int->DS}{b0:Stmt}{suite:List Stmt}{pcm ph pos:Pos}
end
section
variable {X:Cx}{n c1 c2 f1 f2:Str}{C1 C2 D1 D2:Addr}{j:Nat}{t1 t2:Addr->Int->DS}{body s1 s2:List Stmt}{b1 b2:Stmt}{h3:ExceptHandler}{tb:XV->DS}{p1 p2 ph1 ph2 pos:Pos}
end
section
variable {X:Cx}{n cm fl:Str}{C Cm:Addr}{j:Nat}{ts:Addr->Int->DS}{b0:Stmt}{suite:List Stmt}{pcm ph pos:Pos}
end
section
variable {X:Cx}{n c1 c2 f1 f2:Str}{C1 C2 D1 D2:Addr}{j:Nat}{t1 t2:Addr->Int->DS}{body s1 s2:List Stmt}{b1 b2:Stmt}{h3:ExceptHandler}{tb:XV->DS}{p1 p2 ph1 ph2 pos:Pos}
end
end Dd
namespace L2
open PySem PySem.Spec PyProof.Rows
section
variable {prog:Program}{w:World}{A:Around}{E:Value->Shared->Prop}{s:Shared}
end
end L2
namespace Dd
open PySem PySem.Spec PyProof.Rows L2
section
variable {X:Cx}{pos:Pos}{body:List Stmt}{g:DG}{tb:DS}{ta:DA}
def aMC (ds:List D)(g:DG)(tb:DS):DS:=λE ρ M=>∃Pv:Nat->cW->DM->Prop,Pv 0 ρ M /\
 (∀i d ρ M,ds[i]?=some d->Pv i ρ M->g (.tup [.int i,d]) ρ M λρ2 M2=>tb { E with nx:=Pv (i+1),ct:=Pv (i+1),bk:=E.nx } ρ2 M2)/\∀ρ M,Pv ds.length ρ M->E.nx ρ M
def aKB (ta:DA)(g:DG)(tb:DS):DS:=λE ρ M=>ta ρ M λds M1=>match ds with
 |[.tup xs]=>aMC xs g tb E ρ M1
 |_=>False
end
section
variable {X:Cx}{pos:Pos}{body:List Stmt}{g:DG}{tb:DS}{ta:DA}
end
section
variable {P:Program}{w:World}{K:Frag}{mg:Str->Option Value}{base:Heap}
end
noncomputable def aNk (f:Str)(v:D):List (Str×D)->List (Str×D)
 |[]=>[(f,v)]
 |(g,x)::r=>if g=f then (g,v)::r else (g,x)::aNk f v r
def aNw (C:Addr)(f:Str)(te:DE):DE:=λρ M Q=>te ρ M λx M1=>∃a gs d,x=.ref a/\M1 (.o a)=some (aDV C gs)/\gs.lookup f=some d/\Q d M1
def aMR (C:Addr)(f:Str)(te tv:DE):DS:=λE ρ M=>tv ρ M λy M1=>te ρ M1 λx M2=>∃a gs,x=.ref a/\M2 (.o a)=some (aDV C gs)/\gs.length<1000/\E.nx ρ (aMJ M2 a (aDV C (aNk f y gs)))
def aNm (C:Addr)(m:Str)(sp:DSp)(te:DE)(t:DA):DE:=λρ M Q=>te ρ M λx M1=>∃a gs,x=.ref a/\M1 (.o a)=some (aDV C gs)/\gs.lookup m=none/\t ρ M1 λds M2=>sp (x::ds) M2 Q
def aLY (C:Addr)(sp:DSp)(t:DA):DE:=λρ M Q=>t ρ M λds M1=>∀x:Addr,M1 (.l x)=none->M1 (.d x)=none->M1 (.o x)=none->sp (.ref x::ds) (aMJ M1 x (aDV C [])) λv M2=>v=.non/\Q (.ref x) M2
section
variable {X:Cx}{o e value:Expr}{es:List Expr}{f m x:Str}{pos pos' apos p:Pos}{te tv:DE}{t:DA}{C:Addr}{fs ps:List Str}{sp:DSp}{k j:Nat}
end
section
variable {X:Cx}{pins:List (Addr×Obj)}{σ:L2.St}{H:Hp}{s:Shared}{pos:Pos}{kr:Nat}
def aMY (w:World)(g:Bool->Bool):D2:=λx y M Q=>match y with
 |.ref a=>∃kvs,M (.d a)=some (gA w kvs)/\TK kvs/\aCb x/\Q (.bl (g (decide (x∈kvs.map (·.1))))) M
 |_=>False
theorem aDi (hr:eE kr X.A):X.A.units+7<cLine:=Nat.lt_of_le_of_lt (Nat.add_le_add_left (by decide:7<=64) _) hr.units
theorem aEu (hr:eE kr X.A):OpD X (compareOp .NotIn) (aMY X.w not):=λpins s σ H x y v u Q I rx ry ⟨dx,dy,M,Q',r1,r2,hm,q,k⟩=>by
 match dy,q with
 |.ref a,q =>
  obtain⟨kvs,ha,tk,hk,q⟩:=q;obtain⟨b,rfl⟩:=vM hk r1;obtain rfl:=aQ r2;cases rx;cases ry;obtain⟨xs,hH,hx,hd,hs,hz⟩:=vS I hm ha tk;refine wpAny_notIn_heap (knd:=qD X.prog X.w) (by have:=aDi hr;show X.A.units+1+6<cLine;omega) ⟨hk.2,mR I hk.2 r1 rfl⟩ hs hd ?_;rw[aC9 hx];exact⟨.bl _,H,I.tok _,rfl,k _ H ⟨_,M,fK,hm,.refl H,q⟩⟩
theorem zU {K:Frag}{H:Hp}{k d:D}:∀{kvs:List (D×D)}{xs:List (D×Addr×Value)},Paired (KX K H) kvs xs->wP kvs k=some d->∃p vv,atKey xs k=some p/\RelV vv p.2/\Rep K H d vv
 |[],_,.nil,h=>by cases h
 |p::kvs,x::xs,.cons r rr,h=>by
  unfold wP at h;unfold atKey;rw[List.find?_cons] at h ⊢;obtain⟨e1,r2,vv,q1,q2⟩:=r;by_cases z:p.1=k
  ·rw[decide_eq_true z] at h;rw[decide_eq_true (show x.1=k by rw[<- e1];exact z)];cases h;exact⟨_,vv,rfl,q1,q2⟩
  ·rw[decide_eq_false z] at h;rw[decide_eq_false (show ¬x.1=k by rw[<- e1];exact z)];exact zU rr h
def aOn (w:World)(te ti:DE):DE:=λρ M Q=>te ρ M λx M1=>ti ρ M1 λi M2=>match x with
 |.ref a=>∃kvs d,M2 (.d a)=some (gA w kvs)/\TK kvs/\aCb i/\wP kvs i=some d/\Q d M2
 |_=>False
end
section
variable {prog:Program}{w:World}
noncomputable def prN (i j:Nat):D:=.tup [.int i,.int j]
noncomputable def aBS (es:Array (Int×Value))(ep:Nat)(t:SetTable):Obj:={ cls:=.type "set",dict:=none,data:=.set es ep t }
noncomputable def aMh (h:Int)(led:Bool):SetTable:=((SetTable.fresh 0 0 led).put (SetTable.bits h % 8)).1
noncomputable def hp2 (i j:Nat):Int:=reduceHash (Builtin.Tuple.tupleHashOf [hashInt i,hashInt j])
theorem aIy (m:Nat)(led:Bool):((SetTable.fresh 0 0 led).put m).1.fits 1=true:=by cases led<;>rfl
def aBf (S:Addr)(h:Heap):List (Nat×Nat)->Prop
 |[]=>∃led,h.get? S=some (aBS #[] 0 (.fresh 0 0 led))
 |[p]=>∃led x ep,h.get? S=some (aBS #[(hp2 p.1 p.2,x)] ep (aMh (hp2 p.1 p.2) led))
 |[_,_]=>∃es ep t,h.get? S=some (aBS es ep t)/\es.size=2/\t.fits 2=true
 |_=>False
def aA3 (p:Nat×Nat):Prop:=p.1<6/\p.2<4
def OkP:List (Nat×Nat)->Prop
 |[_]=>True
 |[p,q]=>aA3 p/\aA3 q/\p≠q
 |_=>False
theorem aBf.at {S:Addr}{h h':Heap}{ps:List (Nat×Nat)}(x:aBf S h ps)(k:∀o,h.get? S=some o->h'.get? S=some o):aBf S h' ps:=by
 match ps,x with
 |[],⟨led,e⟩=>exact⟨led,k _ e⟩
 |[p],⟨led,x,ep,e⟩=>exact⟨led,x,ep,k _ e⟩
 |[p,q],⟨es,ep,t,e,r⟩=>exact⟨es,ep,t,k _ e,r⟩
theorem aBf.len {S:Addr}{h:Heap}{ps:List (Nat×Nat)}(x:aBf S h ps)(ok:OkP ps):∃es ep t,h.get? S=some (aBS es ep t)/\es.size=ps.length/\t.fits es.size=true:=by
 match ps,x,ok with
 |[p],⟨led,x,ep,e⟩,_=>exact⟨_,_,_,e,rfl,aIy _ led⟩
 |[p,q],⟨es,ep,t,e,r,f⟩,_=>exact⟨es,ep,t,e,r,by rw[r];exact f⟩
theorem OkP.at {ps:List (Nat×Nat)}(ok:OkP ps){i:Nat}{p:Nat×Nat}(h:ps[i]?=some p):∃cN,ps=ps.take i++p::cN:=by obtain⟨hl,e⟩:=List.getElem?_eq_some_iff.mp h;exact⟨ps.drop (i+1),by rw[<- e,<- List.drop_eq_getElem_cons hl,List.take_append_drop]⟩
end
noncomputable def prs (ps:List (Nat×Nat)):List D:=ps.map λp=>prN p.1 p.2
section
variable {X:Cx}{e:Expr}{te:DE}{k:Nat}
def aIe (te:DE):DE:=λρ M Q=>te ρ M λx M1=>∃a ps,x=.ref a/\M1 (.l a)=some (prs ps)/\OkP ps/\Q (.int ps.length) M1
end
section
variable {P:Program}{w:World}{K:Frag}{mg:Str->Option Value}{base:Heap}
end
section
variable {X:Cx}{o e value:Expr}{es:List Expr}{f m x:Str}{pos pos' apos p:Pos}{te tv:DE}{t:DA}{C:Addr}{fs ps:List Str}{sp:DSp}{k j:Nat}
end
section
variable {X:Cx}{pins:List (Addr×Obj)}{σ:L2.St}{H:Hp}{s:Shared}{pos:Pos}{kr:Nat}
end
section
variable {prog:Program}{w:World}
end
section
variable {X:Cx}{e:Expr}{te:DE}{k:Nat}
end
section
variable {prog:Program}{w:World}
def aGF (S:Addr)(h:Heap):List (Nat×Nat)->Prop
 |[]=>∃led,h.get? S=some (aBS #[] 0 (.fresh 0 0 led))
 |[p]=>∃led x ep,h.get? S=some (aBS #[(hp2 p.1 p.2,x)] ep (aMh (hp2 p.1 p.2) led))/\IsK h (prN p.1 p.2) x
 |[p,q]=>∃es ep t,h.get? S=some (aBS es ep t)/\es.size=(if p=q then 1 else 2)/\t.fits es.size=true
 |_=>False
def OkQ:List (Nat×Nat)->Prop
 |[_]=>True
 |[p,q]=>aA3 p/\aA3 q
 |_=>False
noncomputable def dlP:List (Nat×Nat)->Nat
 |[_]=>1
 |[p,q]=>if p=q then 1 else 2
 |_=>0
theorem aGF.at {S:Addr}{h h':Heap}{ps:List (Nat×Nat)}(x:aGF S h ps)(k:∀o,h.get? S=some o->h'.get? S=some o)(kk:∀(p:Nat×Nat) v,IsK h (prN p.1 p.2) v->IsK h' (prN p.1 p.2) v):aGF S h' ps:=by
 match ps,x with
 |[],⟨led,e⟩=>exact⟨led,k _ e⟩
 |[p],⟨led,x,ep,e,i⟩=>exact⟨led,x,ep,k _ e,kk _ _ i⟩
 |[p,q],⟨es,ep,t,e,r⟩=>exact⟨es,ep,t,k _ e,r⟩
theorem aGF.len {S:Addr}{h:Heap}{ps:List (Nat×Nat)}(x:aGF S h ps)(ok:OkQ ps):∃es ep t,h.get? S=some (aBS es ep t)/\es.size=dlP ps/\t.fits es.size=true:=by
 match ps,x,ok with
 |[p],⟨led,x,ep,e,_⟩,_=>exact⟨_,_,_,e,rfl,aIy _ led⟩
 |[p,q],⟨es,ep,t,e,r,f⟩,_=>exact⟨es,ep,t,e,r,f⟩
theorem OkQ.at {ps:List (Nat×Nat)}(ok:OkQ ps){i:Nat}{p:Nat×Nat}(h:ps[i]?=some p):∃cN,ps=ps.take i++p::cN:=by obtain⟨hl,e⟩:=List.getElem?_eq_some_iff.mp h;exact⟨ps.drop (i+1),by rw[<- e,<- List.drop_eq_getElem_cons hl,List.take_append_drop]⟩
end
section
variable {X:Cx}{e:Expr}{te:DE}{k:Nat}
def aGi (te:DE):DE:=λρ M Q=>te ρ M λx M1=>∃a ps,x=.ref a/\M1 (.l a)=some (prs ps)/\OkQ ps/\Q (.int (dlP ps:Nat)) M1
end
def aNt (g:Bool->Bool):D2:=λx y M Q=>match y with
 |.tup ys=>∃(pts:List (Rat×Rat)) (u v:Rat),x=PQ u v/\ys=(pts.map λp=>PQ p.1 p.2)/\Q (.bl (g (pts.any λp=>decide (p.1=u/\p.2=v)))) M
 |_=>False
section
variable {X:Cx}
end
section
variable {prog:Program}{w:World}
end
section
variable {X:Cx}{e:Expr}{te:DE}{k:Nat}
end
section
variable {X:Cx}
end
theorem xN {pos p:Pos}{c v:Value}:∀{l:List Value},TriplesOk l->codeAmong pos (l++[rawInt p.line,rawInt p.col,c])=some v->codeAmong pos l=some v∨v=c
 |[],_,h=>by
  simp only[List.nil_append,rawInt,codeAmong] at h;split at h
  ·exact .inr (Option.some.inj h).symm
  ·cases h
 |.int a t::.int b u::x::r,h0,h=>by
  simp only[List.cons_append,codeAmong] at h ⊢;split at h
  ·rename_i hc;rw[if_pos hc];exact .inl h
  ·rename_i hc;rw[if_neg hc];exact xN (l:=r) h0 h
def aE9 (H H':Hp)(P f:Addr)(q:Str)(prm:Arguments)(b:Expr)(sc:Scope)(cl:List (Str×Addr)):Prop :=
 H f = none/\(∀a o,a≠P->H a = some o->H' a = some o)/\aEA H' P q/\∃pm c' ctv oc u u' vs t,H' f = some (.frz (PySem.W.kla_obj "<lambda>" q prm b sc cl pm c' ctv) u)/\H' c'=some (.frz oc u')/\oc.data=.fields vs/\vs[1]?=some (.str q t)
section
variable {X:Cx}{pins:List (Addr×Obj)}{σ:L2.St}{H:Hp}{s:Shared}
theorem aFQ {q:Str}{P cd:Addr}{prm:Arguments}{b:Expr}{sc:Scope}{pos:Pos}{cl:List (Str×Addr)}{Q:Value->Shared->Prop}{E:Value->Shared->Prop}{A:Around}(I:Inv X pins σ H s)(hcd:X.env.code = .ref cd)(C:CodeHd X.base cd P)(hb:X.base.BuiltinsAt X.mg P)(T:aEA H P q)(hcl:closureFor sc X.env = pure cl)(hq:X.env.qual ++ "<lambda>"=q)(hdef:defaultsOf prm X.env=([],[]))(h:∀f H' s',Inv X pins σ H' s'->aE9 H H' P f q prm b sc cl->Q (.ref f) s'):wpAny (model X.prog X.w) A (eval (.Lambda prm b sc pos) X.env) Q E s:=by
 obtain⟨ps,hP,ht,hall⟩:=T;have oP:s.heap.get? P=some (tabObj ps):=I.hok P _ hP;have hg:s.heap.Ns mainGlobals X.mg:=I.ok.mod.glob.keeps I.bk;have hb':s.heap.BuiltinsAt X.mg P:=let ⟨bm,o,a1,a2,a3,a4,a5,r⟩:=hb;⟨bm,o,a1,a2,a3,a4,I.bk _ _ a5,r⟩
 have hgP:mainGlobals≠P:=λz=>by obtain⟨o,es,ep,e,hd,_⟩:=hg;rw[z,oP] at e;cases e;cases hd
 have fresh:∀{a:Addr},s.heap.objs.size<=a->H a=none:=λl=>I.hok.fresh l;refine PySem.W.kla_eval hdef ?_;rw[hq];cases hc:codeAmong pos ps.toList with
 |some v =>
  obtain⟨c,oc,u,vs,t,rfl,hcz,hd,hv⟩:=hall pos v hc;refine PySem.W.kla_makeFunctionHit (mg:=X.mg) hcl I.ok.glob hg hcd (C.keeps I.bk) oP ht hc hb' λctv h' tk hk hsz=>?_;have n:H h'.objs.size=none:=fresh hsz;refine h _ (upd H h'.objs.size (.frz _ (.own 0))) _ (I.laid (λb o e=>Heap.get?_push_of_some _ (hk b o e)) hsz ⟨Heap.get?_push_size _ rfl,_,Heap.get?_push_size _ rfl⟩) ⟨n,λa o _ e=>by rw[aM (aS e n)];exact e,⟨ps,by rw[aM (aS hP n)];exact hP,ht,λp v e=>?_⟩,_,c,ctv,oc,_,u,vs,t,bL,by rw[aM (aS hcz n)];exact hcz,hd,hv⟩;obtain⟨c,oc,u,vs,t,a1,a2,r⟩:=hall p v e;exact⟨c,oc,u,vs,t,a1,by rw[aM (aS a2 n)];exact a2,r⟩
 |none =>
  refine PySem.W.kla_makeFunction (mg:=X.mg) hcl I.ok.glob hg hcd (C.keeps I.bk) oP ht hc hgP hb' λc' ctv h' tk hx hge hlt hrec htb=>?_;obtain⟨c₂,oc,vs,t,e2,hoc,hd,hv⟩:=hrec;cases e2;have sz:s.heap.objs.size<=h'.objs.size:=Nat.le_of_lt (Nat.lt_of_le_of_lt hge hlt);have nc:H c'=none:=fresh hge;have nf:H h'.objs.size=none:=fresh sz;have pc:P≠c':=aS hP nc;have pf:P≠h'.objs.size:=aS hP nf;have cf:c'≠h'.objs.size:=Nat.ne_of_lt hlt;generalize hfo:(PySem.W.kla_obj "<lambda>" q prm b sc cl ((X.mg "__name__").getD .none) c' ctv)=fo;have ff:fo.isFreed=false:=by rw[<- hfo];rfl
  have at_P:∀{a:Addr}{o:HO},a≠P->H a=some o->upd (upd (upd H P (.tbl (ps++#[rawInt pos.line,rawInt pos.col,.ref c']))) c' (.frz oc (.own 0))) h'.objs.size (.frz fo (.own 0)) a=some o:=λn e=>by rw[aM (aS e nf),aM (aS e nc),aM n];exact e
  have at1:upd (upd (upd H P (.tbl (ps++#[rawInt pos.line,rawInt pos.col,.ref c']))) c' (.frz oc (.own 0))) h'.objs.size (.frz fo (.own 0)) P=some (.tbl (ps++#[rawInt pos.line,rawInt pos.col,.ref c'])):=by rw[aM pf,aM pc,bL]
  have at2:upd (upd (upd H P (.tbl (ps++#[rawInt pos.line,rawInt pos.col,.ref c']))) c' (.frz oc (.own 0))) h'.objs.size (.frz fo (.own 0)) c'=some (.frz oc (.own 0)):=by rw[aM cf,bL]
  have at3:upd (upd (upd H P (.tbl (ps++#[rawInt pos.line,rawInt pos.col,.ref c']))) c' (.frz oc (.own 0))) h'.objs.size (.frz fo (.own 0)) h'.objs.size=some (.frz fo (.own 0)):=bL;have at0:∀{a:Addr},a≠P->a≠c'->a≠h'.objs.size->upd (upd (upd H P (.tbl (ps++#[rawInt pos.line,rawInt pos.col,.ref c']))) c' (.frz oc (.own 0))) h'.objs.size (.frz fo (.own 0)) a=H a:=λn1 n2 n3=>by rw[aM n3,aM n2,aM n1]
  generalize upd (upd (upd H P (.tbl (ps++#[rawInt pos.line,rawInt pos.col,.ref c']))) c' (.frz oc (.own 0))) h'.objs.size (.frz fo (.own 0))=H' at at_P at1 at2 at3 at0;have keep:∀b o,b≠P->s.heap.get? b=some o->(h'.push fo).get? b=some o:=λb o n e=>Heap.get?_push_of_some _ (hx b o n e);have kP:(h'.push fo).get? P=some (tabObj (ps++#[rawInt pos.line,rawInt pos.col,.ref c'])):=Heap.get?_push_of_some _ htb;have ntP:∀{b:Addr}{o:HO},H b=some o->(∀p,o ≠ .tbl p)->b≠P:=λe n z=>by rw[z,hP] at e;exact n ps (Option.some.inj e).symm
  have old:∀{b:Addr}{o:Obj},s.heap.get? b=some o->b≠c'/\b≠h'.objs.size:=λe=>⟨Nat.ne_of_lt (Nat.lt_of_lt_of_le (Heap.lt_size e) hge),Nat.ne_of_lt (Nat.lt_of_lt_of_le (Heap.lt_size e) sz)⟩;have un:Un X.fs [] H H' s.heap (h'.push fo):=by
   have nP:∀{b:Addr},H b=none->b≠P:=λe z=>by rw[z,hP] at e;cases e
   refine⟨λb o e n _ _=>keep b o (nP n) e,λb o e n _ _=>⟨o.slots,keep b o (nP n) e⟩,λb o e n _=>by rw[at0 (nP n) (old e).1 (old e).2];exact n,λb o e _=>?_,λb xs e=>at_P (ntP e (by intro p z;cases z)) e,λb o u e=>at_P (ntP e (by intro p z;cases z)) e,λb qs e=>?_⟩
   ·by_cases z:b=P
    ·rw[z];exact⟨_,kP⟩
    ·exact⟨o,keep b o z e⟩
   ·by_cases z:b=P
    ·rw[z] at e ⊢;rw[hP] at e;cases e;exact⟨_,at1⟩
    ·exact⟨#[],by rw[at_P z e];simp⟩
  have hok:HOk X.prog X.w H' (h'.push fo):=λb u e=>by
   by_cases z1:b=P
   ·rw[z1] at e ⊢;rw[at1] at e;cases e;exact kP
   by_cases z2:b=c'
   ·rw[z2] at e ⊢;rw[at2] at e;cases e;exact⟨Heap.get?_push_of_some _ hoc,_,Heap.get?_push_of_some _ hoc⟩
   by_cases z3:b=h'.objs.size
   ·rw[z3] at e ⊢;rw[at3] at e;cases e;exact⟨Heap.get?_push_size _ ff,_,Heap.get?_push_size _ ff⟩
   rw[at0 z1 z2 z3] at e;refine(I.hok b u e).stay (λc v hc q=>keep c v ?_ q) (λc q=>at_P (ntP q (by intro p z;cases z)) q) λc xs q=>at_P (ntP q (by intro p z;cases z)) q;rcases hc with z|z
   ·rw[z];exact z1
   ·exact ntP z (by intro p z;cases z)
  refine h _ H' _ (I.un un hok) ⟨nf,λa o n e=>at_P n e,⟨_,at1,?_,λp v e=>?_⟩,_,c',ctv,oc,_,_,vs,t,by rw[hfo];exact at3,at2,hd,hv⟩
  ·rw[Array.toList_append];exact TriplesOk_snoc _ _ _ _ ht
  ·rw[Array.toList_append] at e;rcases xN ht e with e|e
   ·obtain⟨c,oc',u,vs',t',a1,a2,r⟩:=hall p v e;exact⟨c,oc',u,vs',t',a1,at_P (ntP a2 (by intro p z;cases z)) a2,r⟩
   ·exact⟨c',oc,_,vs,t,e,at2,hd,hv⟩
variable {P:Program}{w:World}{H2:Hp}{h h':Heap}{c f:Addr}{oc:Obj}{K:Frag}{M:DM}{fs:List Addr}{u:HO}
theorem aBB (ok:HOk P w H2 h)(f2:H2 c=some (.frz oc u)):HOk P w (kJ H2 c) h:=λb o e=>by
 by_cases z:b=c
 ·rw[z,qH] at e;cases e
 ·rw[fA z] at e;have nc:∀{d:Addr}{q:HO},H2 d=some q->(∀o v,q ≠ .frz o v)->kJ H2 c d=some q:=λe n=>by rw[fA (λy=>by rw[y,f2] at e;exact n _ _ (Option.some.inj e).symm)];exact e
  exact(ok b o e).stay (λ_ _ _ q=>q) (λd q=>nc q (by intro _ _ z;cases z)) λd xs q=>nc q (by intro _ _ z;cases z)
theorem aGY (hc:h.get? c=some oc)(hn:H c=none)(v:Un fs [] (upd H c (.frz oc u)) H2 h h')(ok:HOk P w H2 h'):Un fs [] H (kJ H2 c) h h':=by
 have f2:H2 c=some (.frz oc u):=v.frzs c oc u bL;have o2:h'.get? c=some oc:=(ok c _ f2).1;have nc:∀{b:Addr}{o:HO},H b=some o->b≠c:=λe=>aS e hn;refine⟨λb o e n hb hx=>?_,λb o e n hb hx=>?_,λb o e n hx=>?_,v.there,λb xs e=>?_,λb o y e=>?_,λb ps e=>?_⟩
 ·by_cases z:b=c
  ·rw[z] at e ⊢;rw[hc] at e;cases e;exact o2
  ·exact v.keep b o e (by rw[aM z];exact n) hb hx
 ·by_cases z:b=c
  ·rw[z] at e ⊢;rw[hc] at e;cases e;exact⟨oc.slots,o2⟩
  ·exact v.slot b o e (by rw[aM z];exact n) hb hx
 ·by_cases z:b=c
  ·rw[z];exact qH
  ·rw[fA z];exact v.free b o e (by rw[aM z];exact n) hx
 ·rw[fA (nc e)];exact v.tups b xs (by rw[aM (nc e)];exact e)
 ·rw[fA (nc e)];exact v.frzs b o y (by rw[aM (nc e)];exact e)
 ·rw[fA (nc e)];exact v.tbls b ps (by rw[aM (nc e)];exact e)
theorem aCL (f2:H2 c=some (.frz oc (.own f))):aCE K H2 (kJ H2 c):=by
 have nc:∀{d:Addr}{q:HO},H2 d=some q->q ≠ .frz oc (.own f)->kJ H2 c d=some q:=λe n=>by rw[fA (λy=>by rw[y,f2] at e;exact n (Option.some.inj e).symm)];exact e
 refine⟨λh=>?_,λh=>?_⟩
 ·rcases h with(h|⟨o,h⟩)|h
  ·exact .inl (.inl (nc h (by intro z;cases z)))
  ·exact .inl (.inr ⟨o,nc h (by intro z;cases z)⟩)
  ·exact .inr h
 ·rcases h with⟨o,h⟩|h
  ·exact .inl ⟨o,nc h (by intro z;cases z)⟩
  ·exact .inr h
noncomputable def rP (M:DM)(f:Addr):DM:=λb=>if b=AK.x f then none else M b
theorem mH {b:AK}(h:b ≠ .x f):rP M f b=M b:=if_neg h
theorem aEi:rP M f (.x f)=none:=if_pos rfl
theorem aFe {ds:List D}(h:M (.x f)=some ds):putX (rP M f) f ds=M:=by
 funext b;by_cases z:b=.x f
 ·rw[z,qF,h]
 ·rw[gR z,mH z]
theorem aBN (hm:bN K M H2)(f2:H2 c=some (.frz oc (.own f))){v:Option Value}(hd:oc.data=.cell v):bN K (rP M f) (kJ H2 c):=by
 have es:aCE K H2 (kJ H2 c):=aCL f2;have nc:∀{d:Addr}{q:HO},H2 d=some q->q ≠ .frz oc (.own f)->kJ H2 c d=some q:=λe n=>by rw[fA (λy=>by rw[y,f2] at e;exact n (Option.some.inj e).symm)];exact e
 refine⟨λa ds q=>?_,λa ds q=>?_,λa ds q=>?_,λa ds q=>?_⟩
 ·rw[mH (by intro z;cases z)] at q;obtain⟨xs,z,r⟩:=hm.l a ds q;exact⟨xs,nc z (by intro z;cases z),r.extS es⟩
 ·rw[mH (by intro z;cases z)] at q;obtain⟨xs,z,r⟩:=hm.d a ds q;exact⟨xs,nc z (by intro z;cases z),Paired.mapP r λ_ _ r=>let ⟨k,v,kv,vv,a,b,c,f,g⟩:=r;⟨k,v,kv,vv,a,b,c.extS es,f,g.extS es⟩⟩
 ·rw[mH (by intro z;cases z)] at q;obtain⟨C,dx,gs,fs,y,z,r⟩:=hm.o a ds q;exact⟨C,dx,gs,fs,y,nc z (by intro z;cases z),Paired.mapP r λ_ _ r=>⟨r.1,r.2.extS es⟩⟩
 ·by_cases na:a=f
  ·rw[na,aEi] at q;cases q
  rw[mH (λz=>na (AK.x.inj z))] at q;have x:=hm.x a ds q;unfold sS at x ⊢;split at x
  ·obtain⟨ps,h1,h2,h3⟩:=x;exact⟨ps,nc h1 (by intro z;cases z),h2,λpos v z=>let ⟨c,oc,u,vs,t,a,b,e,r⟩:=h3 pos v z;⟨c,oc,u,vs,t,a,nc b (by intro z;cases z;rw[hd] at e;cases e),e,r⟩⟩
  ·obtain⟨q,a1,a2,b1,b2,b3,b4,b5,b6,b7,b8,d,d',pm,ct,od,od',v,v',vs,t,h1,h4,h5,h6,h7,h8⟩:=x;exact⟨q,a1,a2,b1,b2,b3,b4,b5,b6,b7,b8,d,d',pm,ct,od,od',v,v',vs,t,nc h1 (by intro z;cases z;cases hd),nc h4 (by intro z;cases z;exact na rfl),h5,nc h6 (by intro z;cases z;rw[hd] at h7;cases h7),h7,h8⟩
  ·obtain⟨o',ens,ep,h0,h1,h2⟩:=x;exact⟨o',ens,ep,h0,nc h1 (by intro z;cases z),Paired.mapP h2 λ_ _ r=>let ⟨k,v,kv,vv,a,b,c,f,g⟩:=r;⟨k,v,kv,vv,a,b,c.extS es,f,g.extS es⟩⟩
  ·exact x
theorem aFu {H':Hp}{q:Str}{p:Addr}(hm:bN K M H)(hP:M (.x p)=some [.str q])(g:∀a o,a≠p->H a=some o->H' a=some o)(T:aEA H' p q):bN K M H'/\Ext H H':=by
 obtain⟨ps,hp,_⟩:aEA H p q:=hm.x p _ hP;have g':∀{a:Addr}{o:HO},H a=some o->(∀ps,o ≠ .tbl ps)->H' a=some o:=λe n=>g _ _ (λz=>by rw[z,hp] at e;exact n _ (Option.some.inj e).symm) e;have ex:Ext H H':=⟨λa ys e=>g' e (by intro _ z;cases z),λa ob u e=>g' e (by intro _ z;cases z)⟩;refine⟨⟨λa ds q=>let ⟨xs,z,r⟩:=hm.l a ds q;⟨xs,g' z (by intro _ z;cases z),r.ext ex⟩,λa ds q=>let ⟨xs,z,r⟩:=hm.d a ds q;⟨xs,g' z (by intro _ z;cases z),eV r ex⟩,λa ds q=>let ⟨C,dx,gs,fs,y,z,r⟩:=hm.o a ds q;⟨C,dx,gs,fs,y,g' z (by intro _ z;cases z),iQ r ex⟩,λa ds q=>?_⟩,ex⟩;by_cases z:a=p
 ·rw[z] at q ⊢;rw[hP] at q;cases q;exact T
 ·exact(hm.x a ds q).ext ex λps e=>g a _ z e
end
def aNR (p:Addr)(q:Str)(prm:Arguments)(b:Expr)(sc:Scope)(cl:List (Str×Addr)):TE:=λ_ H Q=>aEA H p q/\∀f H',aE9 H H' p f q prm b sc cl->Q (.ref f) H'
def aC6 (X:Cx)(p:Addr):Prop:=∃cd,X.env.code=.ref cd/\CodeHd X.base cd p/\X.base.BuiltinsAt X.mg p
def sU (sp:DSp)(i j:Nat)(p:Addr)(q:Str):DE:=λρ M Q=>match ρ[i]?,ρ[j]? with
 |some (some dx),some (some (.ref g))=>M (.x p)=some [.str q]/\∀f:Addr,M (.x f)=none->sp [dx,.ref f] (putX M f [.ref g]) λd M'=>Q d (rP M' f)
 |_,_=>False
noncomputable abbrev eaS:Str:="earlier"
theorem aBp {env:Env}{c:Addr}(e:env.cells.lookup eaS=some c):closureFor qU env=pure [(eaS,c)]:=by simp[closureFor,qU,cellOf,e]
section
variable {X:Cx}
theorem aK1 {p:Addr}{q:Str}{prm:Arguments}{b:Expr}{sc:Scope}{pos:Pos}{cl:List (Str×Addr)}(ht:aC6 X p)(hcl:closureFor sc X.env = pure cl)(hq:X.env.qual ++ "<lambda>"=q)(hdef:defaultsOf prm X.env=([],[])):PE X (.Lambda prm b sc pos) (aNR p q prm b sc cl):=by obtain⟨cd,hcd,C,hb⟩:=ht;intro pins s σ H Q I ⟨T,h⟩;exact aFQ I hcd C hb T hcl hq hdef λf H' s' I' m=>⟨.ref f,H',I',rfl,h f H' m⟩
theorem aCd {fn xs:Str}{pf px pos pl a1 a2 b1 b2 b3 b4 b5 b6 b7 b8:Pos}{i j jj k:Nat}{ps:List Str}{sp:DSp}{p:Addr}{q:Str}(h:Has X.prog X.w X.K X.mg X.base jj fn ps sp)(hr:eE k X.A)(hjk:jj<=k)(ht:aC6 X p)(hx:PDE X (.Name xs px) (aCo i))(hNj:X.N[j]? = some eaS:=by rfl)(hkc:X.env.kindOf eaS = some .cell:=by rfl)(hfn:X.fn eaS = true:=by rfl)(hq:X.env.qual ++ "<lambda>"=q:=by rfl)(hg:Gl X fn:=by rfl)(hdb:(fn==("__debug__":Str))=false:=by decide) :
  PDE X (.Call (.Name fn pf) [.Name xs px,.Lambda (aGv a1 a2) (aED b1 b2 b3 b4 b5 b6 b7 b8) qU pl] [] pos) (sU sp i j p q):=by
 obtain⟨F0,fd,F,hmF,hkF,hb⟩:=h;intro pins s σ H Q I ⟨ρ,M,Q',re,hm,q0,kq⟩;unfold sU at q0;split at q0
 case h_2=>exact q0.elim
 rename_i dx g e1 e2;obtain⟨hP,q0⟩:=q0;obtain⟨c,hc⟩:=I.ok.has eaS (.inl hkc);refine wpAny_Call_Name_kw (aAm I hg hmF ?_ hdb);have pa:=aAu hx (aAu (aK1 (b:=aED b1 b2 b3 b4 b5 b6 b7 b8) (prm:=aGv a1 a2) (sc:=qU) (pos:=pl) ht (aBp hc) hq rfl) aGp);refine callWith_K (h₀:=X.base) I.ok.mod.kin hkF (thn (pa pos pins s σ H (λvs H2=>∃v f H1,vs=[v,.ref f]/\Rep X.K H1 dx v/\bN X.K M H1/\Ext H H1/\aE9 H1 H2 p f q (aGv a1 a2) (aED b1 b2 b3 b4 b5 b6 b7 b8) qU [(eaS,c)]) I ?_) λus s2 ⟨vs,H2,I2,rv,v,f,H1,ev,rd,hm1,ex1,md⟩=>⟨I2.kIn,?_⟩) rfl rfl
 ·refine⟨ρ,M,λd M'=>d=dx/\M'=M,re,hm,by unfold aCo;rw[e1];exact⟨rfl,rfl⟩,λv H1 ⟨d,M1,r1,hm1,ex1,z1,z2⟩=>?_⟩;subst z1 z2;exact⟨hm1.x p _ hP,λf H2 md=>⟨v,f,H1,rfl,r1,hm1,ex1,md⟩⟩
 subst ev;obtain⟨nf,g1,T2,pm,c',ctv,oc',u1,u2,vs',t',o1,o2,o3,o4⟩:=md;obtain⟨hm2,ex2⟩:=aFu hm1 hP g1 T2;have hc2:H2 c=none:=I2.freeC _ c hc;obtain⟨m,_,hl⟩:=I2.loc;obtain⟨vg,eg,rg⟩:=re.get j _ e2;have egr:=aQ rg;subst egr;obtain⟨ug,rug,lk⟩:=hl j eaS _ hNj eg (.inr (.inl hkc));have rug':ug=.ref g:=rug;subst rug';obtain⟨oc,hoc,hod⟩:s2.heap.IsCell c (some (.ref g)):=by
  rcases lk with⟨k1,_⟩|⟨_,c2,e,z⟩
  ·rw[hkc] at k1;cases k1
  ·rw[hc] at e;cases e;exact z
 have abv:X.s₀.heap.objs.size<=c:=I2.ok.cab _ c hfn hc;have nfs:∀b∈frs X.stack,b≠c:=λb hb z=>by
  rcases List.mem_cons.mp (I2.stkSub b hb) with e|hb
  ·exact I2.cne _ c hc (by rw[<- z];exact e)
  ·obtain⟨_,o,ho,_⟩:=I2.ok.funs.mem hb;rw[z] at ho;exact absurd (Nat.lt_of_lt_of_le (Heap.lt_size ho) abv) (Nat.lt_irrefl _)
 have e0:=I2.env0;have hok3:HOk X.prog X.w (upd H2 c (.frz oc (.own f))) s2.heap:=λb u e=>by
  by_cases z:b=c
  ·rw[z] at e ⊢;rw[bL] at e;cases e;exact⟨hoc,_,hoc⟩
  ·rw[aM z] at e;exact(I2.hok b u e).stay (λ_ _ _ q=>q) (λd q=>by rw[aM (aS q hc2)];exact q) λd xs q=>by rw[aM (aS q hc2)];exact q
 have e3:aEa X.prog X.w X.K X.mg X.base X.A X.stack s2 (upd H2 c (.frz oc (.own f))):=⟨e0.frames,e0.mod,λb o e=>⟨(e0.bs b o e).1,by
  rw[aM (λz=>by rw[z] at e;exact absurd (Nat.lt_of_lt_of_le (Heap.lt_size e) (Nat.le_trans I2.ok.bsz abv)) (Nat.lt_irrefl _))]
  exact(e0.bs b o e).2⟩,e0.bsz,e0.funs,λb hb=>by rw[aM (nfs b hb)];exact e0.frf b hb,hok3,e0.bare⟩
 have ex3:Ext H2 (upd H2 c (.frz oc (.own f))):=Ext.new hc2 _;have fc:f≠c:=aS o1 hc2;have hm3:bN X.K (putX M f [.ref g]) (upd H2 c (.frz oc (.own f))):=by
  have hn:=hm2.new hc2 (.frz oc (.own f));refine⟨λa ds q=>hn.l a ds (by rw[gR (by intro z;cases z)] at q;exact q),λa ds q=>hn.d a ds (by rw[gR (by intro z;cases z)] at q;exact q),λa ds q=>hn.o a ds (by rw[gR (by intro z;cases z)] at q;exact q),λa ds q=>?_⟩;by_cases z:a=f
  ·rw[z,qF] at q;cases q;rw[z];exact⟨q,a1,a2,b1,b2,b3,b4,b5,b6,b7,b8,c,c',pm,ctv,oc,oc',u1,u2,vs',t',by rw[aM fc];exact o1,bL,hod,by rw[aM (aS o2 hc2)];exact o2,o3,o4⟩
  ·rw[gR (λw=>z (AK.x.inj w))] at q;exact hn.x a ds q
 have rs3:bR X.K (upd H2 c (.frz oc (.own f))) [dx,.ref f] [v,.ref f]:=bX ((rd.ext ex2).ext ex3) (bX dM cP);have hMf:M (.x f)=none:=hm1.freshX nf;have hsp:sT X.K sp [v,.ref f] (upd H2 c (.frz oc (.own f))) (LQ X.K (upd H2 c (.frz oc (.own f))) λd M'=>Q' d (rP M' f)) E0:=⟨[dx,.ref f],putX M f [.ref g],_,rs3,hm3,q0 f hMf,λ_ _ z=>z⟩;have hlen:us.length=ps.length:=by rw[<- rv.length];exact F.len _ _ _ _ hsp
 have bnd:=hb s2 us I2.kIn (by rw[append_nil];exact hlen);rw[append_nil] at bnd;refine wpAny_call (codeAny_mono (F.run X.A X.stack s2 _ ⟨us,[]⟩ us [v,.ref f] _ E0 (hr.mono hjk) e3 bnd rv hsp) λr s' hq=>?_);cases r with
 |error e=>exact False.elim hq
 |ok fl =>
  cases fl with
  |ret u =>
   obtain⟨v',H4,os,bare,un,hok4,rv',d,M4,rd4,hm4,ex4,q4⟩:=hq;have f4:H4 c=some (.frz oc (.own f)):=ex4.frz c _ _ bL;refine I2.after ⟨v',kJ H4 c,os,bare,aGY hoc hc2 un hok4,aBB hok4 f4,rv',kq _ _ ⟨d,rP M4 f,rd4.extS (aCL f4),aBN hm4 f4 hod,?_,q4⟩⟩;have all:=((ex1.trans ex2).trans ex3).trans ex4;have nc:∀{a:Addr}{o:HO},H a=some o->a≠c:=λe=>aS e (I.freeC _ c hc);exact⟨λa xs e=>by rw[fA (nc e)];exact all.tup a xs e,λa o y e=>by rw[fA (nc e)];exact all.frz a o y e⟩
  |next=>exact False.elim hq
  |brk=>exact False.elim hq
  |cont=>exact False.elim hq
end
section
variable {P:Program}{w:World}{K:Frag}{mg:Str->Option Value}{base:Heap}
noncomputable def cxL (P:Program)(w:World)(K:Frag)(mg:Str->Option Value)(base:Heap)(q:Str)(f c c':Addr)(A:Around)(outer:List Env)(s:Shared)(H:Hp):Cx where
 prog:=P
 w:=w
 K:=K
 mg:=mg
 base:=base
 A:=A.deeper (envX q qU s.heap.objs.size f (.ref c') [(eaS,c)])
 N:=["one","other",eaS]
 s₀:=s
 H₀:=H
 env:=envX q qU s.heap.objs.size f (.ref c') [(eaS,c)]
 outer:=outer
 stack:=envX q qU s.heap.objs.size f (.ref c') [(eaS,c)]::outer
 ex:=[]
 calm:=true
 fn:=λ_=>false
 pn:=[]
 xe:=λ_ _=>False
theorem lk1 {x:Str}{c d:Addr}(h:List.lookup x [(eaS,c)]=some d):x=eaS/\d=c:=by
 rw[lookup_cons] at h;cases e:x==eaS with
 |true=>rw[e] at h;exact⟨eq_of_beq e,(Option.some.inj h).symm⟩
 |false=>rw[e] at h;cases h
theorem aGS {x:Str}(h:qU.names.lookup x=some .cell∨qU.names.lookup x=some .free):x=eaS:=by
 have:qU.names.lookup x=if x==("one":Str) then some .local else if x==("other":Str) then some .local else if x==eaS then some .free else none:=by unfold qU;rw[lookup_cons,lookup_cons,lookup_cons];cases x==("one":Str)<;>cases x==("other":Str)<;>cases x==eaS<;>rfl
 rw[this] at h;cases e:x==eaS with
 |true=>exact eq_of_beq e
 |false =>
  rw[e] at h;rcases h with h|h;all_goals (split at h;cases h;split at h;cases h;cases h)
theorem aHc {A:Around}{outer:List Env}{s:Shared}{H:Hp}{M:DM}{f g:Addr}{u1 u2:Value}{v1 v2:V}{d1 d2:D}{n:Str}{ps:List Str}{sp:DSp}{Q:DQ}{E:XK}{j k:Nat}(hr:eE (k+1) A)(hjk:j<=k)(e0:aEa P w K mg base A outer s H)(hm:bN K M H)(hx:M (.x f)=some [.ref g])(hmg:mg n=some (.ref g))(hh:Has P w K mg base j n ps sp)(r:bZ [v1,v2] [u1,u2])(rd:bR K H [d1,d2] [v1,v2])(q:mZ d1 (.int 0) (rP M f) λx M3=>mZ d2 (.int 0) M3 λy M4=>sp [x,y] M4 λd M'=>Q d (putX M' f [.ref g])) :
  codeAny (model P w) A (.call (.ref f) ⟨[u1,u2],[]⟩) (CR CX0 outer P w H s (LQ K H Q) E) s:=by
 obtain⟨qn,a1,a2,b1,b2,b3,b4,b5,b6,b7,b8,c,c',pm,ct,oc,oc',u,u',vs,t,h1,h4,h5,h6,h7,h8⟩:aKH H f g:=hm.x f _ hx;have hf:=(e0.hok f _ h1).1;have hc:s.heap.get? c=some oc:=(e0.hok c _ h4).1;have fc:f≠c:=λz=>by rw[z,hc] at hf;have:=congrArg Obj.data (Option.some.inj hf);rw[h5] at this;cases this
 have cc:c'≠c:=λz=>by rw[z,h4] at h6;cases h6;rw[h5] at h7;cases h7
 have nfs:∀b∈frs outer,b≠c:=λb hb z=>by have:=e0.frf b hb;rw[z,h4] at this;cases this
 have lim:s.heap.NoLimit:=e0.mod.nolimit.keeps λb o e=>(e0.bs b o e).1;refine PySem.W.kla_callFunE hr.depth hf rfl rfl rfl rfl ⟨c',oc',vs,t,rfl,(e0.hok c' _ h6).1,h7,h8⟩ ?_;rw[show bindArgs _ ⟨[u1,u2],[]⟩=pure [(("one":Str),u1),(("other":Str),u2)] from rfl];refine wpAny_pure (wpAny_newFunctionEnv (show ∀x∈qU.names,x.2 ≠ .cell by decide) (λx hx=>?_) (λh₁ hns hsb=>⟨lim.fresh _ hsb,?_⟩) rfl)
 ·simp only[mem_cons,not_mem_nil,or_false] at hx;rcases hx with rfl|rfl<;>rfl
 show codeAny _ _ (.expr (aED b1 b2 b3 b4 b5 b6 b7 b8) (envX qn qU s.heap.objs.size f (.ref c') [(eaS,c)])) _ _;have hk₁:∀b o,s.heap.get? b=some o->h₁.get? b=some o:=λb o e=>hsb.extBut b o (Nat.ne_of_lt (Heap.lt_size e)) (Heap.get?_push_of_some _ e);have del0:∀{b:Addr},H b=none->kJ H c b=none:=λe=>by
  unfold kJ;split
  ·rfl
  ·exact e
 have hokc:HOk P w (kJ H c) s.heap:=aBB e0.hok h4;have I:Inv (cxL P w K mg base qn f c c' A outer s (kJ H c)) [] [some v1,some v2,some (.ref g)] (kJ H c) { s with heap:=h₁,toks:=s.toks+2 }:=by
  refine⟨⟨e0.mod,rfl,rfl,rfl,Nat.le_refl _,λx y d z1 z2=>?_,λx hx=>?_,λx d z=>(nomatch z),λ_=>hr.hd,Around.frames_deeper e0.frames,.inr ⟨rfl,rfl⟩,λb z=>(nomatch z),λb o e=>⟨(e0.bs b o e).1,del0 (e0.bs b o e).2⟩,e0.bsz,λb o _ z=>(nomatch z),λb z=>(nomatch z),e0.funs,λb hb=>del0 (e0.frf b hb)⟩,
   rfl,e0.bare,Un.kept hk₁,⟨_,hns,λi x v z1 z2 z3=>?_⟩,λx d z=>?_,del0 (e0.hok.fresh (Nat.le_refl _)),λx d z=>?_,λp hp=>absurd (show p∈([]:List (Addr×Obj)) from hp) (by simp),hokc.kept hk₁,rfl⟩
  ·exact(lk1 z1).1.trans (lk1 z2).1.symm
  ·exact⟨c,by rw[aGS hx];rfl⟩
  ·have cl:h₁.IsCell c (some (.ref g)):=⟨oc,hk₁ c oc hc,h5⟩;cases r with
   |cons r1 r =>
    cases r with
    |cons r2 _ =>
     match i,z1,z2 with
     |0,z1,z2=>cases z1;cases z2;exact⟨u1,r1,.inl ⟨rfl,rfl⟩⟩
     |1,z1,z2=>cases z1;cases z2;exact⟨u2,r2,.inl ⟨rfl,rfl⟩⟩
     |2,z1,z2=>cases z1;cases z2;exact⟨.ref g,rfl,.inr ⟨.inr rfl,c,rfl,cl⟩⟩
     |i+3,z1,z2=>cases z1
  ·rw[(lk1 z).2];exact⟨_,oc,hk₁ c oc hc,h5⟩
  ·rw[(lk1 z).2];exact qH
 have body:=aBl (X:=cxL P w K mg base qn f c c' A outer s (kJ H c)) (p:=b1) (pos:=b8) (j:=j) (k:=k) (aAA 2) (hr.deeper _) hjk (mW (aGn (pos:=b4) (aAA (pos:=b2) 0) (aCH (i:=0) (j:=0) (pos:=b3))) (mW (aGn (pos:=b7) (aAA (pos:=b5) 1) (aCH (i:=0) (j:=0) (pos:=b6))) xR));have hmc:bN K (rP M f) (kJ H c):=aBN hm h4 h5;have rdc:=rd.extS (aCL (K:=K) h4);obtain⟨_,r',e',rv1,cN⟩:=aP rdc;cases e';obtain⟨_,r',e',rv2,_⟩:=aP cN;cases e';have re:fQ K (kJ H c) [some d1,some d2,some (.ref g)] [some v1,some v2,some (.ref g)]:=⟨rfl,λi d z=>by
  match i,z with
  |0,z=>cases z;exact⟨v1,rfl,rv1⟩
  |1,z=>cases z;exact⟨v2,rfl,rv2⟩
  |2,z=>cases z;exact⟨_,rfl,dM⟩
  |i+3,z=>cases z⟩
 refine PySem.W.kla_codeExpr (wpAny_mono (body [] _ _ (kJ H c) (LQ K (kJ H c) λd M'=>Q d (putX M' f [.ref g])) I ⟨[some d1,some d2,some (.ref g)],rP M f,_,re,hmc,⟨n,ps,sp,hmg,hh,q⟩,λ_ _ z=>z⟩) (λv s' hs=>?_) (λe s' hs=>hs.elim));obtain⟨v',H',J,rv,d,M',rd',hm',ex,qq⟩:=hs;have nc:H' c=none:=J.freeC eaS c rfl;have fz:∀{a:Addr}{o:Obj} {y:HO},a≠c->H a=some (.frz o y)->H' a=some (.frz o y):=λn e=>ex.frz _ _ _ (by rw[fA n];exact e);have un:Un (frs outer) [] (kJ H c) H' s.heap s'.heap:=J.base;have kc:s'.heap.get? c=some oc:=un.keep c oc hc qH (λz=>nfs c z rfl) (λz=>nomatch z);have ne:∀{a:Addr}{o:HO},H' a=some o->a≠c:=λe=>aS e nc;refine⟨v',upd H' c (.frz oc (.own f)),J.os,J.bare,⟨λb o e n hb hx=>un.keep b o e (del0 n) hb hx,λb o e n hb hx=>un.slot b o e (del0 n) hb hx,λb o e n hx=>?_,un.there,λb xs e=>?_,λb o y e=>?_,λb ps e=>?_⟩,λb o e=>?_,rv,d,putX M' f [.ref g],rd'.ext (Ext.new nc _),?_,⟨λa xs e=>?_,λa o y e=>?_⟩,qq⟩
 ·have bc:b≠c:=λz=>by rw[z,h4] at n;cases n
  rw[aM bc];exact un.free b o e (del0 n) hx
 ·have bc:b≠c:=λz=>by rw[z,h4] at e;cases e
  rw[aM bc];exact un.tups b xs (by rw[fA bc];exact e)
 ·by_cases bc:b=c
  ·rw[bc] at e ⊢;rw[h4] at e;cases e;exact bL
  ·rw[aM bc];exact un.frzs b o y (by rw[fA bc];exact e)
 ·have bc:b≠c:=λz=>by rw[z,h4] at e;cases e
  rw[aM bc];exact un.tbls b ps (by rw[fA bc];exact e)
 ·by_cases bc:b=c
  ·rw[bc] at e ⊢;rw[bL] at e;cases e;exact⟨kc,_,kc⟩
  ·rw[aM bc] at e;exact(J.hok b o e).stay (λ_ _ _ q=>q) (λd q=>by rw[aM (ne q)];exact q) λd xs q=>by rw[aM (ne q)];exact q
 ·have hn:=hm'.new nc (.frz oc (.own f));refine⟨λa ds q=>hn.l a ds (by rw[gR (by intro z;cases z)] at q;exact q),λa ds q=>hn.d a ds (by rw[gR (by intro z;cases z)] at q;exact q),λa ds q=>hn.o a ds (by rw[gR (by intro z;cases z)] at q;exact q),λa ds q=>?_⟩;by_cases z:a=f
  ·rw[z,qF] at q;cases q;rw[z];exact⟨qn,a1,a2,b1,b2,b3,b4,b5,b6,b7,b8,c,c',pm,ct,oc,oc',u,u',vs,t,by rw[aM fc];exact fz fc h1,bL,h5,by rw[aM cc];exact fz cc h6,h7,h8⟩
  ·rw[gR (λw=>z (AK.x.inj w))] at q;exact hn.x a ds q
 ·have bc:a≠c:=λz=>by rw[z,h4] at e;cases e
  rw[aM bc];exact ex.tup a xs (by rw[fA bc];exact e)
 ·by_cases bc:a=c
  ·rw[bc] at e ⊢;rw[h4] at e;cases e;exact bL
  ·rw[aM bc];exact fz bc e
end
def zY (f g:Addr)(sp:DSp)(ds:List D)(M2:DM)(Q:DQ):Prop:=match ds with
 |[a,b]=>mZ a (.int 0) (rP M2 f) λx M3=>mZ b (.int 0) M3 λy M4=>sp [x,y] M4 λd M'=>Q d (putX M' f [.ref g])
 |_=>False
def aCe (P:Program)(w:World)(K:Frag)(mg:Str->Option Value)(base:Heap)(j:Nat)(tf:DE)(ta:DA):DE:=λρ M Q=>tf ρ M λd M1=>match d with
 |.ref f=>∃g n ps sp,mg n=some (.ref g)/\Has P w K mg base j n ps sp/\M1 (.x f)=some [.ref g]/\ta ρ M1 λds M2=>M2 (.x f)=some [.ref g]/\zY f g sp ds M2 Q
 |_=>False
section
variable {X:Cx}
theorem aIG {pins:List (Addr×Obj)}{σ:L2.St}{H:Hp}{s:Shared}{M:DM}{f g:Addr}(I:Inv X pins σ H s)(hm:bN X.K M H)(hx:M (.x f)=some [.ref g]):PySem.W.FnAt f s.heap:=by obtain⟨qn,a1,a2,b1,b2,b3,b4,b5,b6,b7,b8,c,c',pm,ct,oc,oc',u,u',vs,t,h1,_⟩:aKH H f g:=hm.x f _ hx;exact⟨_,_,_,_,(I.hok f _ h1).1⟩
theorem aFi {x:Str}{p pos:Pos}{e:Expr}{es:List Expr}{tf:DE}{ta:DA}{j k:Nat}(hf:PDE X (.Name x p) tf)(hr:eE k X.A)(hjk:j+1<=k)(ha:PDA X (e::es) ta)(he:starEach (e::es) X.env=(false,eval e X.env)::starEach es X.env:=by rfl)(hpl:(backTo pos (starEach es X.env)).any (·.1)=false:=by rfl):PDE X (.Call (.Name x p) (e::es) [] pos) (aCe X.prog X.w X.K X.mg X.base j tf ta):=by
 intro pins s σ H Q I ⟨ρ,M,Q',re,hm',q,kq⟩;refine wpAny_Call_Name_kw (thn (hf pins s σ H _ I ⟨ρ,M,_,re,hm',q,λ_ _ z=>z⟩) λu s1 ⟨y,H1,I1,ry,d1,M1,r1,hm1,e1,q1⟩=>?_);cases d1 with
 |ref f =>
  obtain⟨g,n,ps,sp,hmg,hh,hx1,q1⟩:=q1;rw[aQ r1] at ry;cases ry;refine PySem.W.callWith_F (aIG I1 hm1 hx1) (thn (ha pos pins s1 σ H1 _ I1 ⟨ρ,M1,_,re.ext e1,hm1,q1,λ_ _ z=>z⟩) λus s2 ⟨vs,H2,I2,r2,ds,M2,rs,hm2,e2,hx2,q2⟩=>⟨aIG I2 hm2 hx2,?_⟩) he hpl;unfold zY at q2;split at q2
  case h_2=>exact q2.elim
  rename_i a b;obtain⟨v1,r',e',rv1,cN⟩:=aP rs;subst e';obtain⟨v2,r'',e',rv2,rest2⟩:=aP cN;subst e';have e':=bM rest2;subst e';cases r2 with
  |cons q1' r2 =>
   cases r2 with
   |cons q2' r2 =>
    cases r2;obtain⟨k,rfl⟩:∃k',k=k'+1:=⟨k-1,by omega⟩;refine wpAny_call (codeAny_mono (aHc (E:=E0) hr (by omega) I2.env0 hm2 hx2 hmg hh (.cons q1' (.cons q2' .nil)) (bX rv1 (bX rv2 cP)) q2) λr s' hq=>?_);cases r with
    |error e=>exact False.elim hq
    |ok fl =>
     cases fl with
     |ret u =>
      obtain⟨v,H',J,rv,z⟩:=I2.after hq;exact⟨v,H',J,rv,kq v H' (z.back (e1.trans e2))⟩
     |next=>exact False.elim hq
     |brk=>exact False.elim hq
     |cont=>exact False.elim hq
 |_=>exact q1.elim
end
section
variable {P:Program}{w:World}{K:Frag}{mg:Str->Option Value}{base:Heap}
def aEL (K:Frag)(mg:Str->Option Value)(base:Heap)(x:Str)(p:Addr):Prop:=∀f oc od fd osl,mg x=some (.ref f)->K.lookup f=some ⟨oc,od,.func fd,osl⟩->∃cd,fd.code=.ref cd/\CodeHd base cd p/\base.BuiltinsAt mg p
theorem Has.mkL {x:Str}{st:Stmt}{N ps:List Str}{k:Nat}{sp:DSp}{p:Addr}(h:cR K mg x st ps)(T:aEL K mg base x p)(S:aR N ps (aI st))(len:∀ds M Q,sp ds M Q->ds.length=ps.length)(hbody:∀(f:Addr)(cdv:Value) (A:Around) (outer:List Env) (s:Shared) (H:Hp) (ds:List D) (M:DM) (Q:DQ) (E:XK),eE k (A.deeper (envOfC x (aI st) s.heap.objs.size f cdv))->aC6 (tS CX0 P w K mg base N x (aI st) f cdv A outer s H E).nox p->sp ds M Q ->
   ∃t,ZSs (tS CX0 P w K mg base N x (aI st) f cdv A outer s H E).nox (gK st) t/\t { nx:=λ_ M'=>Dn Q .non M',rt:=Dn Q } (kD N ds) M):Has P w K mg base (k+1) x ps sp:=by
 obtain⟨f,fd,F,hm,hb⟩:=h;have kp:=F.kp;obtain⟨oc,od,kV,doc,pm,an,cdv,ct,osl,rfl,lk,hcd⟩:=F.ex;have tb:=T f _ _ _ _ hm lk;refine⟨f,_,aIH lk hcd S (λvs H Q E ⟨ds,M,Q',rs,_,q,_⟩=>by rw[<- rs.length];exact len ds M Q' q) λA outer s H vs Q E hr ⟨ds,M,Q',rs,hm',q,k'⟩=>?_,hm,kp,hb⟩;obtain⟨t,h1,h2⟩:=hbody f cdv A outer s H ds M Q' E hr tb q;have fin:∀v H',LQ K H (Dn Q') v H'->Q v H':=λv H' ⟨d,M1,rd,hm1,ex,M2,sub,q2⟩=>k' v H' ⟨d,M2,rd,hm1.sub sub,ex,q2⟩;exact⟨_,h1.o.nox,kD N ds,M,_,wN rs N,hm',h2,⟨λσ' H' ⟨ρ',M',_,hm',ex,q'⟩=>fin _ H' ⟨.non,M',sQ,hm',ex,q'⟩,fin,λσ' H' ⟨_,_,_,_,_,z⟩=>z.elim,λσ' H' ⟨_,_,_,_,_,z⟩=>z.elim⟩⟩
end
theorem aEw {P:Program}{w:World}{K:Frag}{mg mb:Str->Option Value}{k:Nat}{fa a:Addr}{fd:FuncData}{x:Str}{sp:DSp}{s₁:Shared}{vs:List Value}{ns:List Int}{tabs:List (Addr×Addr×Str)}(KX:K.In s₁.heap)(hns:s₁.heap.Ns mainGlobals mg)(hb:s₁.heap.Ns builtinsNs mb)(hbb:∀x:Str,x ≠ "__name__"->mb x=bootBuiltins x)(hlim:s₁.heap.NoLimit)(hg:s₁.gens=#[])(ha:s₁.heap.get? a = some { cls:=.type "list",data:=.seq vs.toArray })(hi:IntsAre vs ns)(hl:ns.length<=sizeLine)(hr:eE k callerA)(hK:PySem.W.noTabs K=true)(hT:∀t∈tabs,CodeHd s₁.heap t.1 t.2.1/\s₁.heap.get? t.2.1=some (tabObj #[]))(nd:(tabs.map (·.2.1)).Nodup)(hB:∃bm o,mg "__builtins__" = some (.ref bm)/\bm≠builtinsNs/\s₁.heap.get? bm = some o/\o.cls = .type "module"/\o.dict=some builtinsNs/\o.data=.plain)(F:∀base:Heap,K.In base->base.Ns mainGlobals mg->(∀t∈tabs,CodeHd base t.1 t.2.1/\base.BuiltinsAt mg t.2.1)->oC P w K mg base CX0 k fa fd [x] (sT K sp))(hbind:∀(s:Shared)(u:Value),BindsTo s fd ⟨[u],[]⟩ [(x,u)])(hsp:∀M:DM,(∀t∈tabs,M (.x t.2.1)=some [.str t.2.2])->sp [.fz (ns.map D.int)] M λd _=>d=.bl true) :
  codeAny (model P w) callerA (.call (.ref fa) ⟨[.ref a],[]⟩) (λr s'=>r=.ok (.ret (.bool true))/\OldK s₁.heap s'.heap/\s'.os=s₁.os/\AllBare s'.gens) s₁:=by
 have rv:=yV hi;have lenV:=hi.length;have aT:∀{t},t∈tabs->t.2.1≠a:=λ{t} ht z=>by have:=(hT t ht).2;rw[z,ha] at this;cases this
 have core:∀(S:Option HO)(H:Hp),(∀b,H b = if b = a then S else if b∈tabs.map (·.2.1) then some (.tbl #[]) else none)->(S = none∨S = some (.frz { cls:=.type "list",data:=.seq vs.toArray } (.lst (ns.map V.int))))->SqX K H a (ns.map V.int)->(S≠none->K.lookup a=none) ->
   codeAny (model P w) callerA (.call (.ref fa) ⟨[.ref a],[]⟩) (λr s'=>r=.ok (.ret (.bool true))/\OldK s₁.heap s'.heap/\s'.os=s₁.os/\AllBare s'.gens) s₁:=by
  intro S H hH hS hsq hKa;have Ha:H a=S:=by rw[hH,if_pos rfl]
  have Ht:∀{t},t∈tabs->H t.2.1=some (.tbl #[]):=λ{t} ht=>by rw[hH,if_neg (aT ht),if_pos (List.mem_map_of_mem ht)]
  have cas:∀b u,H b=some u->(b=a/\S=some u) ∨ ∃t∈tabs,t.2.1=b/\u=.tbl #[]:=λb u e=>by
   rw[hH] at e;split at e
   ·rename_i z;exact .inl ⟨z,e⟩
   ·split at e
    ·rename_i z;obtain⟨t,ht,z⟩:=List.mem_map.mp z;exact .inr ⟨t,ht,z,(Option.some.inj e).symm⟩
    ·cases e
  have non:∀{b:Addr}{o:Obj},s₁.heap.get? b=some o->(∀q,o.data ≠ .seq vs.toArray q)->o≠tabObj #[]->H b=none:=λ{b o} e n1 n2=>by
   cases q:H b with
   |none=>rfl
   |some u =>
    rcases cas b u q with⟨z,_⟩|⟨t,ht,z,_⟩
    ·rw[z,ha] at e;cases e;exact absurd rfl (n1 _)
    ·rw[<- z,(hT t ht).2] at e;cases e;exact absurd rfl n2
  have hok:HOk P w H s₁.heap:=λb u e=>by
   rcases cas b u e with⟨z,zs⟩|⟨t,ht,z,zu⟩
   ·rcases hS with y|y
    ·rw[y] at zs;cases zs
    ·rw[y] at zs;cases zs;rw[z];exact⟨ha,by rw[length_map];exact hl,vs,_,rv,ha⟩
   ·rw[zu,<- z];exact(hT t ht).2
  have base_of:∀{b:Addr}{o:Obj},s₁.heap.get? b=some o->H b=none->(wY s₁.heap H).get? b=some o:=λe n=>aEE e n;have nsK:∀{b:Addr}{m:Str->Option Value},s₁.heap.Ns b m->(wY s₁.heap H).Ns b m:=λ{b m} ⟨o,es,ep,e,d,r⟩=>⟨o,es,ep,base_of e (non e (λq z=>by rw[d] at z;cases z) (λz=>by rw[z] at d;cases d)),d,r⟩;have hKb:K.In (wY s₁.heap H):=λb o e=>base_of (KX b o e) (by
   cases q:H b with
   |none=>rfl
   |some u =>
    rcases cas b u q with⟨z,zs⟩|⟨t,ht,z,_⟩
    ·rw[z,hKa (by rw[zs];simp)] at e;cases e
    ·have e2:=KX b o e;rw[<- z,(hT t ht).2] at e2;cases e2;have h2:=List.all_eq_true.mp hK (b,tabObj #[]) (PySem.W.mem_of_lookupK e);exact absurd (show false=true from h2) Bool.false_ne_true)
  have hM:Mod K mg (wY s₁.heap H):=⟨hKb,nsK hns,⟨mb,nsK hb,hbb⟩,let ⟨mc,h1,h2⟩:=hlim;⟨mc,nsK h1,h2⟩⟩;have e0:aEa P w K mg (wY s₁.heap H) callerA [] s₁ H:=⟨rfl,hM,λb o e=>aHV e,Nat.le_of_eq (aEB _ _),trivial,λb hb=>absurd (show b∈([]:List Addr) from hb) (by simp),hok,.of_eq hg⟩;have hCB:∀t∈tabs,CodeHd (wY s₁.heap H) t.1 t.2.1/\(wY s₁.heap H).BuiltinsAt mg t.2.1:=λt ht=>by
   obtain⟨o,ws,file,tf,flags,tg,inF,text,tt,e1,r1,r2,r⟩:=(hT t ht).1;refine⟨⟨o,ws,file,tf,flags,tg,inF,text,tt,base_of e1 (non e1 (λq z=>by rw[r2] at z;cases z) (λz=>by rw[z] at r1;cases r1)),r1,r2,r⟩,?_⟩;obtain⟨bm,ob,c1,c2,c3,c4,c5,c6⟩:=hB;refine⟨bm,ob,c1,c2,λz=>?_,λz=>?_,base_of c3 (non c3 (λq z=>by rw[c6] at z;cases z) (λz=>by rw[z] at c4;cases c4)),c4,c5,c6⟩
   ·obtain⟨o',es,ep,e,d,_⟩:=hns;rw[z,e] at c3;cases c3;rw[d] at c6;cases c6
   ·rw[z,(hT t ht).2] at c3;cases c3;cases c4
  have fnd:∀{l:List (Addr×Addr×Str)},(l.map (·.2.1)).Nodup->∀t∈l,l.find? (λy=>y.2.1==t.2.1)=some t:=λ{l}=>by
   induction l with
   |nil=>intro _ t h;cases h
   |cons y l ih =>
    intro n t ht;rw[map_cons,List.nodup_cons] at n;rcases List.mem_cons.mp ht with z|z
    ·rw[z,List.find?_cons_of_pos (by simp)]
    ·rw[List.find?_cons_of_neg (by intro w;exact n.1 (by rw[eq_of_beq w];exact List.mem_map_of_mem z))]
     exact ih n.2 t z
  have hrep:bN K (λb=>match b with|.x p=>(tabs.find? λy=>y.2.1==p).map λt=>[.str t.2.2]|_=>none) H:=by
   refine⟨λ_ _ z=>(by cases z),λ_ _ z=>(by cases z),λ_ _ z=>(by cases z),λp ds z=>?_⟩;obtain⟨t,ht,rfl⟩:=Option.map_eq_some_iff.mp z;have m:=List.mem_of_find?_eq_some ht;have e:t.2.1=p:=by have:=List.find?_some ht;exact eq_of_beq this
   exact⟨#[],by rw[<- e];exact Ht m,trivial,λpos v z=>by cases z⟩
  refine codeAny_mono ((F _ hKb (nsK hns) hCB).run callerA [] s₁ H ⟨[.ref a],[]⟩ [.ref a] [.ref a] _ E0 hr e0 (hbind s₁ (.ref a)) (.cons rfl .nil) ⟨[.fz (ns.map D.int)],_,_,bX (by unfold Rep;exact⟨a,_,rfl,hsq,zI ns⟩) cP,hrep,hsp _ λt ht=>by show(tabs.find? λy=>y.2.1==t.2.1).map _=_;rw[fnd nd t ht];rfl,λ_ _ z=>z⟩) λr s' h=>?_
  cases r with
  |error e=>exact False.elim h
  |ok fl =>
   cases fl with
   |next=>exact False.elim h
   |brk=>exact False.elim h
   |cont=>exact False.elim h
   |ret u =>
    obtain⟨v,H',os,bare,un,hok',r',d,M',rd,_,_,q⟩:=h;have q':d=.bl true:=q;subst q';have e':=cM rd;subst e';obtain rfl:u=Value.bool true:=r';have got:∀b o,s₁.heap.get? b=some o->s'.heap.get? b=some o ∨ ∃t∈tabs,t.2.1=b/\o=tabObj #[]/\∃more,s'.heap.get? b=some (tabObj (#[]++more)):=λb o e=>by
     cases q:H b with
     |none=>exact .inl (un.keep b o e q (by intro z;exact absurd (show b∈([]:List Addr) from z) (by simp)) (by simp))
     |some u =>
      rcases cas b u q with⟨z,zs⟩|⟨t,ht,z,zu⟩
      ·rcases hS with y|y
       ·rw[y] at zs;cases zs
       ·rw[y] at zs;cases zs;obtain⟨e1,_⟩:=hok b _ q;obtain⟨e2,_⟩:=hok' b _ (un.frzs b _ _ q);rw[e] at e1;cases e1;exact .inl e2
      ·rw[zu] at q;obtain⟨more,z2⟩:=un.tbls b _ q;refine .inr ⟨t,ht,z,?_,more,hok' b _ z2⟩;rw[<- z,(hT t ht).2] at e;cases e;rfl
    refine⟨rfl,⟨λb o e=>?_,λb o e=>?_⟩,os,bare⟩
    ·rcases got b o e with z|⟨t,ht,rfl,rfl,more,z⟩
     ·exact .inl z
     ·exact .inr (.inl ⟨((hT t ht).1.tab (hT t ht).2).isCodeTable,rfl,#[],more,rfl,z⟩)
    ·rcases got b o e with z|⟨t,ht,rfl,rfl,more,z⟩
     ·exact⟨_,z⟩
     ·exact⟨_,z⟩
 cases hk:K.lookup a with
 |some o =>
  have e:=KX a o hk;rw[ha] at e;cases e;exact core none _ (λb=>rfl) (.inl rfl) (.inr ⟨_,_,hk,by rw[size_toArray,lenV];exact hl,by simpa using rv⟩) λz=>absurd rfl z
 |none=>exact core _ _ (λb=>rfl) (.inr rfl) (.inl ⟨{ cls:=.type "list",data:=.seq vs.toArray },if_pos rfl⟩) λ_=>hk
theorem walk_ofL {l:PySem.W.OpenLaw}{n k:Nat}{q:Program}{loose:List Str}{XP:(Str->Option Value)->Heap->Prop}{YP:World->Heap->Prop}{d:DefRec}{K:Params->Frag}{sp:DSp}{x:Str}{tabs:List (Addr×Addr×Str)}(hn:l.most=some n)(hn2:n<=sizeLine)(hdf:d.params.defaults=[])(hr:eE k callerA)(hY:∀(w:World)(h:Heap),YP w h->(K w.params).In h)(hK:∀w:World,PySem.W.noTabs (K w.params)=true)(nd:(tabs.map (·.2.1)).Nodup)(hT:∀(w:World)(h:Heap),YP w h->∀t∈tabs,CodeHd h t.1 t.2.1/\h.get? t.2.1=some (tabObj #[]))(F:∀(w:World)(mg:Str->Option Value) (fa:Addr) (h:Heap),(K w.params).In h->h.Ns mainGlobals mg->mg d.name=some (.ref fa) ->
   ∃fd:FuncData,(∀(s:Shared)(u:Value),BindsTo s fd ⟨[u],[]⟩ [(x,u)]) /\
    ∀base:Heap,(K w.params).In base->base.Ns mainGlobals mg->(∀t∈tabs,CodeHd base t.1 t.2.1/\base.BuiltinsAt mg t.2.1)->oC l.prog w (K w.params) mg base CX0 k fa fd [x] (sT (K w.params) sp))(hsp:∀(ns:List Int),ns.length<=n->∀M:DM,(∀t∈tabs,M (.x t.2.1)=some [.str t.2.2])->sp [.fz (ns.map D.int)] M λd _=>d=.bl true) :
  PySem.W.WalkO q loose XP YP l.row.toRowW d [] (λf vs=>PySem.call f vs):=by
 refine Att.attach_call hn hdf λw s₀ s₁ mg mb fa o pm cd doc a vs ns G Y ho hd hcd hmg hobj hints hlen hg=>?_;have KX:=hY w _ Y;obtain⟨fd,hb,hF⟩:=F w mg fa _ KX G.T.g hmg;exact aEw KX G.T.g G.T.b G.T.builtins G.T.nolimit hg hobj hints (Nat.le_trans hlen hn2) hr (hK w) (hT w _ Y) nd (let ⟨bm,ob,b1,b2,b3,b4,b5,b6⟩:=G.T.bmain;⟨bm,ob,b1,b2,b3,b4,b5,b6⟩) hF hb (hsp ns hlen)
section
variable {X:Cx}{pins:List (Addr×Obj)}{σ:L2.St}{H:Hp}{s:Shared}
variable {P:Program}{w:World}{H2:Hp}{h h':Heap}{c f:Addr}{oc:Obj}{K:Frag}{M:DM}{fs:List Addr}{u:HO}
end
section
variable {X:Cx}
theorem aBv {fn xs:Str}{pf px pos pl a1 a2 b1 b2 b3 b4 b5 b6 b7 b8:Pos}{i j jj k:Nat}{ps:List Str}{sp:DSp}{p:Addr}{q:Str}(h:Has X.prog X.w X.K X.mg X.base jj fn ps sp)(hr:eE k X.A)(hjk:jj<=k)(ht:aC6 X p)(hx:ZE X (.Name xs px) (aCo i))(hNj:X.N[j]? = some eaS:=by rfl)(hkc:X.env.kindOf eaS = some .cell:=by rfl)(hfn:X.fn eaS = true:=by rfl)(hq:X.env.qual ++ "<lambda>"=q:=by rfl)(hg:Gl X fn:=by rfl)(hdb:(fn==("__debug__":Str))=false:=by decide):ZE X (.Call (.Name fn pf) [.Name xs px,.Lambda (aGv a1 a2) (aED b1 b2 b3 b4 b5 b6 b7 b8) qU pl] [] pos) (sU sp i j p q):=.i (aCd (i:=i) (j:=j) (jj:=jj) (k:=k) h hr hjk ht hx.o hNj hkc hfn hq hg hdb)
end
section
variable {P:Program}{w:World}{K:Frag}{mg:Str->Option Value}{base:Heap}
end
section
variable {X:Cx}
theorem aDZ {x:Str}{p pos:Pos}{e:Expr}{es:List Expr}{tf:DE}{ta:DA}{j k:Nat}(hf:ZE X (.Name x p) tf)(hr:eE k X.A)(hjk:j+1<=k)(ha:ZA X (e::es) ta)(he:starEach (e::es) X.env=(false,eval e X.env)::starEach es X.env:=by rfl)(hpl:(backTo pos (starEach es X.env)).any (·.1)=false:=by rfl):ZE X (.Call (.Name x p) (e::es) [] pos) (aCe X.prog X.w X.K X.mg X.base j tf ta):=.i (aFi (j:=j) (k:=k) hf.o hr hjk ha.o he hpl)
end
section
variable {P:Program}{w:World}{K:Frag}{mg:Str->Option Value}{base:Heap}
end
end Dd
namespace PySem
section
variable {prog:Program}{w:World}{K:Type}[DecidableEq K]{knd:HeapKind prog w K}{A:Around}{E:Value->Shared->Prop}{s:Shared}
theorem kI {d a:Addr}{xs:List (K×Addr×Value)}{k:K}{v:Value}{Q:Value->Shared->Prop}(hu:knd.room A)(hkey:knd.is s.heap k a)(hm:s.heap.DictOfH knd d xs)(h1:∀p,atKey xs k=some p->Q p.2 { s with toks:=s.toks+knd.draws k })(h2:atKey xs k=none->∀h',h'.DictOfH knd d (storedH xs k a v)->Heap.SameBut d s.heap h'->Q v { s with heap:=h',toks:=s.toks+knd.draws k })(hsz:xs.length<=sizeLine):wpAny (model prog w) A (dictSetDefault d (.ref a) v) Q E s:=by
 obtain⟨o,es,ep,ho,hc,hd,he,his,hn⟩:=hm;unfold dictSetDefault;try with_reducible refine wpAny_holding ?_
 refine wpAny_bind (knd.pyHash hu hkey ?_);refine wpAny_bind (wpAny_dictFind_heap (s:={ s with toks:=s.toks+knd.draws k }) hu hkey ho hd he his hn ?_ ?_)
 ·intro hno;have hnot:k∉xs.map (·.1):=not_mem_keys_of_get hno;refine wpAny_bind (wpAny_rule (wpAny_bind (wpAny_updateDictKeys (hz:=by have e:=size_of_entries he;omega) (s:={ s with toks:=s.toks+knd.draws k }) ho hd (wpAny_pure (h2 (atKey_none_of_get hno) _ ⟨_,_,ep+1,Heap.get?_update_self _ ho (Obj.isFreed_of_dict (Obj.data_mapDictKeys hd _)),
   hc.mapDictKeys _,Obj.data_mapDictKeys hd _,?_,?_,?_⟩ (Heap.SameBut.update ..))))))
  ·rw[storedH_new (atKey_none_of_get hno)];simp[he,entryOfKey]
  ·rw[storedH_new (atKey_none_of_get hno)];intro x hx;rcases List.mem_append.mp hx with hx|hx
   ·exact knd.keeps (his x hx) ho hd (Heap.SameBut.update ..)
   ·simp only[mem_singleton] at hx;subst hx;exact knd.keeps hkey ho hd (Heap.SameBut.update ..)
  ·rw[storedH_new (atKey_none_of_get hno)];rw[map_append,nodup_append];refine⟨hn,by simp,?_⟩;intro x hx y hy;simp only[map_cons,List.map_nil,mem_singleton] at hy;subst hy;exact λe=>hnot (e ▸ hx)
 ·intro j p hj;refine wpAny_bind (wpAny_dictEntries (s:={ s with toks:=s.toks+knd.draws k }) ho hd ?_);rw[entry_at he j,hj];exact wpAny_bind (wpAny_rule (wpAny_pure (h1 p (atKey_of_get hn hj))))
end
section
variable {prog:Program}{w:World}{K:Type}[DecidableEq K](knd:HeapKind prog w K)(d a:Addr)
theorem mV (hd:(d==sysModules)=false)(dflt:Value) :
  MeetsIn prog w (Builtin.«dict.setdefault» ⟨[.ref d,.ref a,dflt],[]⟩) (λA R s=>knd.room A.in1/\∃k xs,knd.is s.heap k a/\s.heap.DictOfH knd d xs/\xs.length<=sizeLine /\
   (∀p,atKey xs k=some p->R (.ok (.ret p.2)) { s with toks:=s.toks+knd.draws k }) /\
   (atKey xs k=none->∀h',h'.DictOfH knd d (storedH xs k a dflt)->Heap.SameBut d s.heap h'->R (.ok (.ret dflt)) { s with heap:=h',toks:=s.toks+knd.draws k })) :=
 .of_wp λA R s ⟨hu,k,xs,hkey,hm,hz,h1,h2⟩=>by unfold Builtin.«dict.setdefault»;refine wpAny_bind ?_;unfold Builtin.Dict.keyAndDefault;refine wpAny_bind (wpAny_notOrdered_dict hm.typeIs ?_);show wpAny _ _ (pure (d,Value.ref a,some dflt)) _ _ s;refine wpAny_pure ?_;show wpAny _ _ (if (d==sysModules)=true then _ else (dictSetDefault d (.ref a) dflt >>= _)) _ _ s;rw[if_neg (by rw[hd];exact Bool.false_ne_true)];exact wpAny_bind (kI hu hkey hm (λp hp=>wpAny_pure ⟨_,rfl,h1 p hp⟩) (λhn h' hm' hs'=>wpAny_pure ⟨dflt,rfl,h2 hn h' hm' hs'⟩) hz)
end
end PySem
namespace Dd
open PySem PySem.Spec PyProof.Rows L2
def aKM (w:World)(a:Addr)(Q:DQ):List D->DM->Prop:=λds M=>match ds with
 |[k,dv]=>∃kvs,M (.d a)=some (gA w kvs)/\TK kvs/\kvs.length<1000/\aCb k/\((∃d,wP kvs k=some d/\Q d M)∨(k∉kvs.map (·.1)/\Q dv (tD M a (gA w (qT kvs k dv)))))
 |_=>False
def aCf (w:World)(to te ti:DE):DE:=λρ M Q=>to ρ M λx M1=>match x with
 |.ref a=>(∃kvs,M1 (.d a)=some (gA w kvs)/\TK kvs)/\hU te (hU ti pK) ρ M1 (aKM w a Q)
 |_=>False
section
variable {X:Cx}{o e e2:Expr}{to te ti:DE}{apos cpos:Pos}{kr:Nat}
theorem aGj (hr:eE kr X.A)(ho:PDE X o to)(he:PDE X e te)(hi:PDE X e2 ti)(hbase:attributeBase o "setdefault" X.env (eval o X.env)=eval o X.env:=by rfl)(hfew:((backTo cpos (starEach [e,e2] X.env)).all (λx=>!x.1)&&(backToKw cpos (keywordEach [] X.env)).all (λx=>x.1.isSome)
  &&decide ([e,e2].length+([]:List Keyword).length+(if ([]:List Keyword).isEmpty then 0 else 1)<30))=true:=by rfl)(hline:(apos.endLine==cpos.line)=true:=by rfl)(hs:starEach [e,e2] X.env=(false,eval e X.env)::starEach [e2] X.env:=by rfl)(hs2:starEach [e2] X.env=(false,eval e2 X.env)::starEach [] X.env:=by rfl)(hplain:(backTo cpos (starEach [e2] X.env)).any (·.1)=false:=by rfl) :
  PDE X (.Call (.Attribute o "setdefault" apos) [e,e2] [] cpos) (aCf X.w to te ti):=by
 intro pins s σ H Q I ⟨ρ,M,Q',re,hm',q,kq⟩;refine wpAny_Call_method_late hbase hfew hline rfl (thn (ho pins s σ H (LQ X.K H _) I ⟨ρ,M,_,re,hm',q,λ_ _ z=>z⟩) λu0 s0 ⟨y0,H0,I0,ry0,d0,M0,r0,hm0,e0,q0⟩=>?_)
 match d0,q0 with
 |.ref a,q0 =>
  obtain⟨⟨kvs0,ha0,tk0⟩,q0⟩:=q0;rw[aQ r0] at ry0;cases ry0;obtain⟨xs0,hH0,hx0,hd0,hsy0,lx0⟩:=vS I0 hm0 ha0 tk0;have nod:∀b,Value.ref a=.ref b->∃o,s0.heap.get? b=some o/\o.dict=none:=λb z=>by cases z;obtain⟨o,_,_,ho,hc,_⟩:=hd0;exact⟨o,ho,hc.2.1⟩
  refine⟨"dict","dict.setdefault",PySem.F.plainAttrs_dict,PySem.F.slot_dict_setdefault,PySem.F.type_dict_setdefault,hd0.typeIs,nod,?_⟩;have hA:=(mW he (mW hi xR hs2) hs:PDA X [e,e2] (hU te (hU ti pK))) cpos pins s0 σ H0 (LA X.K H0 (aKM X.w a Q')) I0 ⟨ρ,M0,_,re.ext e0,hm0,q0,λvs H' z=>z⟩;rw[hs] at hA ⊢;refine Calls.callWith_builtin (by show(false||(backTo cpos (starEach [e2] X.env)).any (·.1))=false;rw[hplain]<;>rfl) (Calls.evalArgs_plain (thn hA λus s1 ⟨vs,H1,I1,rv,ds,M1,rs,hm1,ex,q1⟩=>?_))
  match ds,q1 with
  |[k,dv],q1 =>
   obtain⟨kvs,ha,tk,hl,hk,q1⟩:=q1;obtain⟨v1,r2,rfl,hv1,r3⟩:=aP rs;obtain⟨v2,r4,rfl,hv2,r5⟩:=aP r3;obtain rfl:=bM r5;obtain⟨u1,u2,rfl,ru1,ru2⟩:=rv.two;obtain⟨b,rfl⟩:=vM hk hv1;cases ru1;obtain⟨xs,hH,hx,hd,hsy,lx⟩:=vS I1 hm1 ha tk;have lx':=Paired.len hx;have hz':xs.length<sizeLine:=by rw[<- lx'];exact dW (Nat.le_of_lt hl)
   refine call_meetsIn PySem.F.slot_dict_setdefault hd.typeIs PySem.F.entry_dict_setdefault (PySem.F.args_dict_setdefault_3 _ _ _) (mV (qD X.prog X.w) a b hsy u2) ⟨by have:=aDi hr;show X.A.units+1+6<cLine;omega,k,xs,⟨hk.2,mR I1 hk.2 hv1 rfl⟩,hd,lx,λp hp=>?_,λhn h' hd' hsb=>?_⟩
   ·rcases q1 with⟨d,hg,q1⟩|⟨nk,_⟩
    ·obtain⟨p',vv,e1,qv,rv'⟩:=zU hx hg;rw[hp] at e1;cases e1;exact⟨vv,H1,I1.tok _,qv,kq _ _ ⟨d,M1,rv',hm1,e0.trans ex,q1⟩⟩
    ·have:=aC9 (k:=k) hx;rw[hp,decide_eq_false nk] at this;cases this
   ·rcases q1 with⟨d,hg,_⟩|⟨nk,q1⟩
    ·obtain⟨p',vv,e1,_⟩:=zU hx hg;rw[hn] at e1;cases e1
    ·obtain⟨I',en⟩:=yQ (tk:=s1.toks+(qD X.prog X.w).draws k) I1 hH hx hsy hz' hv1 ru2 hv2 hd' hsb;have exP:=Ext.putX hH (.ext (dE a ((storedH xs k b u2).map (entryOfKey (qD X.prog X.w)))));exact⟨v2,_,I',ru2,kq _ _ ⟨dv,_,hv2.ext exP,hm1.kput hH en,(e0.trans ex).trans exP,q1⟩⟩
theorem aGl (I:Inv X pins σ H s){a:Addr}{M:DM}{kvs:List (D×D)}(hm:bN X.K M H)(ha:M (.x a)=some (.bl true::gA X.w kvs))(tk:TK kvs) :
  ∃xs,Paired (KX X.K H) kvs xs/\s.heap.DictOfH (qD X.prog X.w) a xs:=by
 obtain⟨o,es,ep,ho,hH,hr⟩:aKw X.K H a (gA X.w kvs):=hm.x a _ ha;obtain⟨xs,h1,rfl,h3⟩:=aCN I tk.key hr;obtain⟨_,⟨hs,hz,ep,e⟩,_⟩:=I.hok a _ hH;refine⟨xs,h1,⟨_,_,ep,e,⟨rfl,rfl,rfl⟩,rfl,by rw[List.toList_toArray],h3,?_⟩⟩;rw[<- aAD h1];exact tk.nd
def aI5 (w:World)(te ti:DE):DE:=λρ M Q=>te ρ M λx M1=>ti ρ M1 λi M2=>match x with
 |.ref a=>∃kvs d,M2 (.x a)=some (.bl true::gA w kvs)/\TK kvs/\aCb i/\wP kvs i=some d/\Q d M2
 |_=>False
theorem aLu {e i:Expr}{te ti:DE}(hr:eE kr X.A)(he:PDE X e te)(hi:PDE X i ti)(hs:tQ i:=by intro _ _;rfl):PDE X (.Subscript e i pos) (aI5 X.w te ti):=by
 intro pins s σ H Q I ⟨ρ,M,Q',re,hm',q,kq⟩;refine Subscript_ (thn (he pins s σ H (LQ X.K H _) I ⟨ρ,M,_,re,hm',q,λ_ _ z=>z⟩) λu0 s0 ⟨y0,H0,I0,ry0,d0,M0,r0,hm0,e0,q0⟩=>?_);refine thn (hi pins s0 σ H0 (LQ X.K H0 _) I0 ⟨ρ,M0,_,re.ext e0,hm0,q0,λ_ _ z=>z⟩) λu s1 ⟨y,H1,I1,ry,d1,M1,r1,hm1,e1,q1⟩=>?_
 match d0,q1 with
 |.ref a,q1 =>
  obtain⟨kvs,d,ha,tk,hk,hf,q1⟩:=q1;rw[aQ r0] at ry0;cases ry0;obtain⟨b,rfl⟩:=vM hk r1;cases ry;obtain⟨xs,hx,hd⟩:=aGl I1 hm1 ha tk;obtain⟨v,vv,hv,qv,rv⟩:=zU hx hf;refine subscriptTail_builtinR (x:=v.2) (T:="dict") hd.typeIs PySem.F.slot_dict_getitem.lookup (wpAny_getItem_heap (knd:=qD X.prog X.w) (by have:=aDi hr;show X.A.units+1+6<cLine;omega) ⟨hk.2,mR I1 hk.2 r1 rfl⟩ hd hv ⟨rfl,?_⟩) (hs _ _);exact⟨vv,H1,I1.tok _,qv,kq _ _ ⟨d,M1,rv,hm1,e0.trans e1,q1⟩⟩
end
theorem aJi {K:Frag}{M:DM}{H:Hp}{a:Addr}{es:List D}(hm:bN K M H)(h:M (.d a)=some es):M (.x a)=none:=by
 cases e:M (.x a) with
 |none=>rfl
 |some ds =>
  obtain⟨ens,hH,_⟩:=hm.d a _ h;have x:=hm.x a _ e;unfold sS at x;split at x
  ·obtain⟨ps,z,_⟩:=x;rw[hH] at z;cases z
  ·obtain⟨q,a1,a2,b1,b2,b3,b4,b5,b6,b7,b8,c,c',pm,ct,oc,oc',u,u',vs,t,z,_⟩:=x;rw[hH] at z;cases z
  ·obtain⟨o,ens,ep,_,z,_⟩:=x;rw[hH] at z;cases z
  ·exact x.elim
def aAc (w:World)(i:Nat)(g:DG)(tb:DS):DS:=λE ρ M=>match ρ[i]? with
 |some (some (.ref a))=>∃kvs,M (.d a)=some (gA w kvs)/\TK kvs/\(M (.x a)=none->dIt none (kvs.map (·.1)) g tb (aI9 w E a kvs) ρ (aBz w M a kvs))
 |_=>False
section
variable {X:Cx}{tg:Expr}{body:List Stmt}{g:DG}{tb:DS}{pos:Pos}
theorem aGL (i:Nat){x:Str}{p:Pos}(hp:PassesOwn (model X.prog X.w) X.A X.env X.xe)(hc:X.calm=true)(hg:PDG X tg g)(hb:mD X body tb)(hN:X.N[i]?=some x:=by rfl)(hv:Vis X.env.scope x:=by first|exact Or.inl rfl|exact Or.inr (Or.inl rfl)|exact Or.inr (Or.inr rfl))(hd:(x==("__debug__":Str))=false:=by decide)(hcd:(x==("__classdict__":Str))=false:=by decide)(hs:∀y,foldedSetIterable (.Name x p) X.env y=pure y:=by intro _;rfl):PDS X (.For tg (.Name x p) body [] pos) (aAc X.w i g tb) :=
 gF (aHH i hp hc hg hb hN hv hd hcd hs) λE σ H ⟨ρ,M,Dn,re,hm,q,k⟩=>⟨ρ,M,Dn,re,hm,by
  unfold aAc at q;unfold aGN;split at q
  case h_2=>exact q.elim
  rename_i a e1;obtain⟨kvs,ha,tk,q⟩:=q;try rw[e1]
  exact⟨kvs,ha,tk,q (aJi hm ha)⟩,k⟩
end
def aLS:D2:=λx y M Q=>∃sh,eU 6 x=true/\eU 6 y=true/\hs sh x/\hs sh y/\Q (.bl (ltD x y)) M
section
variable {X:Cx}{kr:Nat}
theorem aKc (hr:eE kr X.A):OpD X (compareOp .Lt) aLS:=by intro pins s σ H x y v u Q I rx ry ⟨dx,dy,M,Q',r1,r2,hm,⟨sh,k1,k2,h1,h2,q⟩,k⟩;have i1:=mR I k1 r1 rx;have i2:=mR I k2 r2 ry;exact aCR 6 sh (by have:=aDi hr;omega) k1 k2 h1 h2 i1 i2 X.prog X.w _ _ ⟨.bl (ltD dx dy),H,I,rfl,k _ H ⟨_,M,fK,hm,.refl H,q⟩⟩
end
section
variable {K:Frag}{M:DM}{H:Hp}{w:World}{a:Addr}{kvs:List (D×D)}{es:List DictEntry}{o:Obj}{ep:Nat}
end
section
variable {X:Cx}{tg:Expr}{body:List Stmt}{g:DG}{tb:DS}{pos:Pos}
end
section
variable {X:Cx}
end
section
variable {X:Cx}{o e e2:Expr}{to te ti:DE}{apos cpos:Pos}{kr:Nat}
theorem aEe (hr:eE kr X.A)(ho:ZE X o to)(he:ZE X e te)(hi:ZE X e2 ti)(hbase:attributeBase o "setdefault" X.env (eval o X.env)=eval o X.env:=by rfl)(hfew:((backTo cpos (starEach [e,e2] X.env)).all (λx=>!x.1)&&(backToKw cpos (keywordEach [] X.env)).all (λx=>x.1.isSome)
  &&decide ([e,e2].length+([]:List Keyword).length+(if ([]:List Keyword).isEmpty then 0 else 1)<30)) = true:=by rfl)(hline:(apos.endLine==cpos.line) = true:=by rfl)(hs:starEach [e,e2] X.env = (false,eval e X.env) :: starEach [e2] X.env:=by rfl)(hs2:starEach [e2] X.env = (false,eval e2 X.env) :: starEach [] X.env:=by rfl)(hplain:(backTo cpos (starEach [e2] X.env)).any (·.1) = false:=by rfl):ZE X (.Call (.Attribute o "setdefault" apos) [e,e2] [] cpos) (aCf X.w to te ti):=.i (aGj hr ho.o he.o hi.o hbase hfew hline hs hs2 hplain)
theorem aDE {e i:Expr}{te ti:DE}(hr:eE kr X.A)(he:ZE X e te)(hi:ZE X i ti)(hs:tQ i:=by intro _ _;rfl):ZE X (.Subscript e i pos) (aI5 X.w te ti):=.i (aLu hr he.o hi.o hs)
end
section
variable {X:Cx}{tg:Expr}{body:List Stmt}{g:DG}{tb:DS}{pos:Pos}
theorem aDX (i:Nat){x:Str}{p:Pos}(hp:PassesOwn (model X.prog X.w) X.A X.env X.xe)(hc:X.calm=true)(hg:ZG X tg g)(hb:ZSs X body tb)(hN:X.N[i]?=some x:=by rfl)(hv:Vis X.env.scope x:=by first|exact Or.inl rfl|exact Or.inr (Or.inl rfl)|exact Or.inr (Or.inr rfl))(hd:(x==("__debug__":Str))=false:=by decide)(hcd:(x==("__classdict__":Str))=false:=by decide)(hs:∀y,foldedSetIterable (.Name x p) X.env y=pure y:=by intro _;rfl):ZS X (.For tg (.Name x p) body [] pos) (aAc X.w i g tb):=.i (aGL i hp hc hg.o hb.o hN hv hd hcd hs)
end
section
variable {X:Cx}{kr:Nat}
end
end Dd
namespace Lw
open PySem PySem.Spec PyProof.Rows L2 Dd Mz
local macro_rules | `(tactic|ac_rfl) => `(tactic|exact ⟨rfl,rfl,rfl,by decide +kernel,rfl,by decide +kernel,by decide +kernel⟩)
local macro_rules|`(tactic|ac_nf)=>do
 let l←("aAc aLS aI5 aCf aKM aMV aCV sU aCe zY aGi aNt aNw aMR aNm aLY aMY aOn aIe aKB aNc aLB aL8 aNP aMo aNY aKh aM4 aLM aKn aGt aDD aCn aM6 aLX aNN aMn aIB aLC aGk aKC aIL aLN aFg aIX aNV aOo aMt aNU aIM aN0 aNG aNL aOd aNz aLQ aLR aHU aIu aL4 aJD aMr aN1 aME aMN aOk aGr aFX aLv aE2 aJs aNp aMk aMd kD aKb List.map List.length_cons List.length_nil Nat.reduceAdd Nat.reduceSub List.reduceReplicate List.cons_append List.nil_append List.set_cons_zero List.set_cons_succ List.getElem?_cons_zero List.getElem?_cons_succ gCn gN gNl aKD aLl aMa aMv aHB aId aFq aKR aHd aIq aIn aIm aHZ aIi aHf ixT ixF aOm aMp aMs aLO aMm aKy rZ hU pK dOp aCo dC d2I d2J aMe zJ aKT dOr aJY aEN aJr aGA aKr aKm aJ5 aGo aKF aEQ aJd aCP aEc aLf aFr aE4 aKd aEK aFJ wL aGQ aIV goF aM0 wV Option.join_some aKJ aJo dPt aM3 dSl aLy aCi aA4 aAO aLK aII aCs aDm aF5 aFy aOp aHv aKj isV aJ0 aLb aJf aLi aKt aKU aKu aI4 aLm aJV aKZ aK7 aKP aKL aIU aJN aKa aLr aLk aJe aJy aKi aLc aKk aKe aKo aJt".splitOn " ").toArray.mapM λx=>`(Lean.Parser.Tactic.simpLemma|$(Lean.mkIdent x.toName):term)
 `(tactic|try dsimp only[$l,*])
local macro_rules|`(tactic|simp_arith)=>do
 let l←("aKg mI aK8 dL cV id decide_eq_true_eq Bool.not_eq_true' decide_eq_false_iff_not".splitOn " ").toArray.mapM λx=>`(Lean.Parser.Tactic.simpLemma|$(Lean.mkIdent x.toName):term)
 `(tactic|try simp only[$l,*])
noncomputable def top (i:Nat):Stmt:=PySem.Challenge.pw_arcmill_k44_whole_just_the_same_points.main.body.getD i (.Pass ⟨0,0,0,0⟩)
section
variable {P:Program}{w:World}{K:Frag}{mg:Str->Option Value}{base:Heap}
def aBu (P:Program)(w:World)(K:Frag)(mg:Str->Option Value)(base:Heap)(j:Nat)(g:Addr)(T:D->Prop)(lt:D->D->Bool):Prop:=∃n ps sp,mg n=some (.ref g)/\Has P w K mg base j n ps sp/\∀x y M Q,T x->T y->Q (.bl (lt x y)) M->sp [x,y] M Q
def Spn (T:D->Prop)(d:D):Prop:=∃a r,d=.tup (a::r)/\T a
noncomputable def hd0:D->D
 |.tup (a::_)=>a
 |d=>d
noncomputable def klt (lt:D->D->Bool)(x y:D):Bool:=lt (hd0 x) (hd0 y)
noncomputable def mrg (lt:D->D->Bool):List D->List D->List D
 |xs,[]=>xs
 |xs,y::ys=>xs.takeWhile (λx=>!klt lt y x)++y::mrg lt (xs.dropWhile λx=>!klt lt y x) ys
theorem aDc {lt:D->D->Bool}{xs:List D}:mrg lt xs []=xs:=by cases xs<;>rfl
theorem aF3 {lt:D->D->Bool}{x y:D}{xs ys:List D}(h:klt lt y x=false):mrg lt (x::xs) (y::ys)=x::mrg lt xs (y::ys):=by unfold mrg;rw[List.takeWhile_cons,List.dropWhile_cons,h];rfl
theorem aBQ {lt:D->D->Bool}{x y:D}{xs ys:List D}(h:klt lt y x=true):mrg lt (x::xs) (y::ys)=y::mrg lt (x::xs) ys:=by
 conv=>lhs;unfold mrg
 rw[List.takeWhile_cons,List.dropWhile_cons,h];rfl
theorem aDA {lt:D->D->Bool}{y:D}{ys:List D}:mrg lt [] (y::ys)=y::mrg lt [] ys:=rfl
theorem aAF {α:Type}{xs:List α}{i:Nat}{x:α}(h:xs[i]?=some x):xs.drop i=x::xs.drop (i+1):=by obtain⟨hi,e⟩:=List.getElem?_eq_some_iff.mp h;rw[List.drop_eq_getElem_cons hi,e]
theorem gO {α:Type}{xs:List α}{i:Nat}{x:α}(h:xs[i]?=some x):xs.take (i+1)=xs.take i++[x]:=by rw[List.take_add_one,h];rfl
theorem aFL (xs:List D)(k:Nat):Dd.cutD xs none (some (k:Int))=xs.take k:=by
 unfold Dd.cutD;rw[HT.sIx_nat,HT.sIx_none,List.drop_zero,Nat.sub_zero];rcases Nat.le_total k xs.length with c|c
 ·rw[Nat.min_eq_left c]
 ·rw[Nat.min_eq_right c,List.take_of_length_le (Nat.le_refl _),List.take_of_length_le c]
theorem sW (xs:List D)(k:Nat):Dd.cutD xs (some (k:Int)) none=xs.drop k:=by
 unfold Dd.cutD;rw[HT.sIx_nat,HT.sIx_none];rcases Nat.le_total k xs.length with c|c
 ·rw[Nat.min_eq_left c,List.take_of_length_le (by rw[length_drop];omega)]
 ·rw[Nat.min_eq_right c,List.drop_of_length_le (Nat.le_refl _),List.drop_of_length_le c,List.take_nil]
theorem qY {Q:DQ}{d:D}{M:DM}(h:Q d M):Dn Q d M:=⟨M,.refl M,h⟩
theorem at0 {a:D}{r:List D}:atI (a::r) 0=some a:=nX (j:=0) rfl
def zM (P:Program)(w:World)(K:Frag)(mg:Str->Option Value)(base:Heap):DSp:=λds M Q=>∃l1 l2 f g xs ys T lt,ds=[.ref l1,.ref l2,.ref f]/\M (.l l1)=some xs/\M (.l l2)=some ys/\(∀x∈xs++ys,Spn T x)/\xs.length+ys.length<=500/\M (.x f)=some [.ref g]/\aBu P w K mg base 106 g T lt /\
 ∀p M',bK M M'->M (.l p)=none->M' (.l p)=some (mrg lt xs ys)->Q (.ref p) M'
noncomputable abbrev xV:Stmt:=top 35
theorem lQ:aR ["ones","others","earlier","whole","at","other"] ["ones","others","earlier"] (aI xV):=by ac_rfl
theorem aCG (hF:cR K mg "merged" xV ["ones","others","earlier"])(iH:mg "len" = none):Has P w K mg base 108 "merged" ["ones","others","earlier"] (zM P w K mg base):=by
 refine Has.mkZ hF lQ (λds M Q ⟨_,_,_,_,_,_,_,_,z,_⟩=>by rw[z];rfl) λf cdv A outer s H ds M Q E hr h=>?_;obtain⟨l1,l2,f,g,xs,ys,T,lt,rfl,h1,h2,hT,hl,hf,⟨n,ps,sp,hn,hh,hsp⟩,q⟩:=h;refine⟨_,(aF (aN (i:=3) lQ.nd (fP aD))
  (aF (aN (i:=4) lQ.nd aC)
  (aF (qC PassesOwn.never rfl (aB 1) (aO (i:=5) lQ.nd) (aF (qG PassesOwn.never (pG (jS (aX kM (aB 4) (cO mN iH (aA (aB 0) aD))) (jE (vN (iJ (aDZ (j:=106) (aB 2) hr (by decide) (aA (aB 5) (aA (aG (aB 0) (aB 4)) aD)))))))) (aF (jG (iX (aB 3) (aG (aB 0) (aB 4))))
  (aH (aFb (i:=4) aLj lQ.nd aC))))
  (aH (jG (iX (aB 3) (aB 5))))))
  (aH (aL (aJ fD (aB 3) (lY (aB 0) (gB (aB 4)) iD))))))),?_⟩
 ac_nf;refine⟨by decide,λp hp=>?_⟩;have n1:l1≠p:=aV h1 hp;have n2:l2≠p:=aV h2 hp;have g1:∀W,bE M p W (.l l1)=some xs:=λW=>by rw[bV n1];exact h1
 have g2:∀W,bE M p W (.l l2)=some ys:=λW=>by rw[bV n2];exact h2
 have gf:∀W,bE M p W (.x f)=some [.ref g]:=λW=>by rw[iL];exact hf
 refine⟨ys,g2 _,λi ρ M'=>∃(k:Nat)(W:List D) (o:Option D),M'=bE M p W/\k<=xs.length/\W.length=k+i/\mrg lt xs ys=W++mrg lt (xs.drop k) (ys.drop i)/\ρ=[some (.ref l1),some (.ref l2),some (.ref f),some (.ref p),some (.int k),o],⟨0,[],none,rfl,Nat.zero_le _,rfl,rfl,rfl⟩,?_,?_,?_⟩
 ·rintro i ρ M' _ ⟨k,W,o,rfl,_⟩ a' e;cases e;exact g2 W
 ·rintro i y ρ M' hd ⟨k,W,o,rfl,hk,hW,em,rfl⟩;have hi:=(List.getElem?_eq_some_iff.mp hd).1;rw[aAF hd] at em;obtain⟨ya,yr,ey,Ty⟩:=hT y (mem_append_right _ (mem_of_getElem? hd));subst ey;ac_nf;refine⟨λm ρ M'=>∃(k:Nat)(W:List D),m=xs.length-k/\M'=bE M p W/\k<=xs.length/\W.length=k+i/\mrg lt xs ys=W++mrg lt (xs.drop k) (.tup (ya::yr)::ys.drop (i+1))/\ρ=[some (.ref l1),some (.ref l2),some (.ref f),some (.ref p),some (.int k),some (.tup (ya::yr))],⟨_,k,W,rfl,rfl,hk,hW,em,rfl⟩,?_⟩;rintro m ρ M' ⟨k,W,rfl,rfl,hk,hW,em,rfl⟩;ac_nf;have brk:(∃d,xs[k]?=some d/\klt lt (.tup (ya::yr)) d=true)∨xs.length<=k->mrg lt xs ys=(W++[.tup (ya::yr)])++mrg lt (xs.drop k) (ys.drop (i+1)):=λh=>by
   rw[em,append_assoc];congr 1;rcases h with⟨d,e,z⟩|z
   ·rw[aAF e,aBQ z];rfl
   ·rw[List.drop_of_length_le z,aDA];rfl
  refine⟨xs,g1 W,?_⟩;by_cases hkx:k<xs.length
  ·refine ifT (decide_eq_true (by omega)) ?_;obtain⟨x,hx⟩:∃x,xs[k]?=some x:=⟨_,getElem?_eq_getElem hkx⟩;obtain⟨xa,xr,ex,Tx⟩:=hT x (mem_append_left _ (mem_of_getElem? hx));subst ex;refine⟨g,n,ps,sp,hn,hh,gf W,xs,.tup (xa::xr),g1 W,nX hx,gf W,?_⟩;ac_nf;rw[at0,at0];refine hsp _ _ _ _ Ty Tx ?_;rw[aFe (gf W)];ac_nf;cases z:lt ya xa with
   |false =>
    refine ifT rfl ⟨⟨_,aK⟩,xs,_,g1 W,nX hx,_,_,rfl,aK,by omega,xs.length-(k+1),by omega,k+1,W++[.tup (xa::xr)],rfl,tT,by omega,by rw[length_append,hW];show _+1=_;omega,?_,rfl⟩;rw[em,append_assoc,aAF hx,aF3 (lt:=lt) (x:=.tup (xa::xr)) (y:=.tup (ya::yr)) z];rfl
   |true=>exact ifF (by decide) ⟨⟨_,aK⟩,_,_,rfl,aK,by omega,k,W++[.tup (ya::yr)],_,tT,by omega,by rw[length_append,hW];show _+1=_;omega,brk (.inl ⟨_,hx,z⟩),rfl⟩
  ·rw[decide_eq_false (by omega)];exact ifF (by decide) ⟨⟨_,aK⟩,_,_,rfl,aK,by omega,k,W++[.tup (ya::yr)],_,tT,by omega,by rw[length_append,hW];show _+1=_;omega,brk (.inr (by omega)),rfl⟩
 ·rintro ρ M' ⟨k,W,o,rfl,hk,hW,em,rfl⟩;rw[List.drop_length,aDc] at em;ac_nf;refine⟨xs,g1 W,λp1 hp1=>?_⟩;have s1:bK (bE M p W) (bE (bE M p W) p1 (Dd.cutD xs (some (k:Int)) none)):=bK.new hp1 _;refine⟨_,_,s1 _ _ aK,aK,by rw[sW,length_drop];omega,λp2 hp2=>?_⟩;have s2:=s1.trans (bK.new hp2 (W++Dd.cutD xs (some (k:Int)) none));have sM:bK M (bE M p W):=bK.new hp _;refine qY (q p2 _ (sM.trans s2) ?_ (by rw[aK,sW,em]));cases e:M (.l p2) with
  |none=>rfl
  |some o=>rw[(sM.trans s1) _ _ e] at hp2;cases hp2
structure aHK (T:D->Prop)(lt:D->D->Bool):Prop where
 asym:∀x y,T x->T y->lt x y=true->lt y x=false
 tr:∀x y z,T x->T y->T z->lt y x=false->lt z y=false->lt z x=false
def aCu (lt:D->D->Bool)(xs:List D):Prop:=xs.Pairwise λa b=>klt lt b a=false
theorem aL2 {T:D->Prop}{x:D}(h:Spn T x):T (hd0 x):=by obtain⟨a,r,rfl,h⟩:=h;exact h
theorem sP {T:D->Prop}{lt:D->D->Bool}(o:aHK T lt):∀(n:Nat)(xs ys:List D),xs.length+ys.length<=n->(∀x∈xs++ys,Spn T x)->aCu lt xs->aCu lt ys->aCu lt (mrg lt xs ys)/\(mrg lt xs ys).Perm (xs++ys)
 |n,xs,[],_,_,h1,_=>by rw[aDc,append_nil];exact⟨h1,.refl _⟩
 |n,[],y::ys,hn,hT,h1,h2=>by
  have hn':ys.length+1<=n:=by simpa using hn
  match n,hn' with
  |n+1,hn' =>
   obtain⟨a,b⟩:=sP o n [] ys (by simp;omega) (λx hx=>hT x (mem_cons_of_mem _ hx)) h1 (List.pairwise_cons.mp h2).2;rw[aDA];refine⟨List.pairwise_cons.mpr ⟨λz hz=>(List.pairwise_cons.mp h2).1 z (by simpa using b.mem_iff.mp hz),a⟩,?_⟩;exact List.Perm.cons y b
 |n,x::xs,y::ys,hn,hT,h1,h2=>by
  have hn':xs.length+ys.length+2<=n:=by simp at hn;omega
  have Tm:∀z∈(x::xs)++(y::ys),T (hd0 z):=λz hz=>aL2 (hT z hz);have mx:x∈(x::xs)++(y::ys):=mem_append_left _ mem_cons_self;have my:y∈(x::xs)++(y::ys):=mem_append_right _ mem_cons_self;obtain⟨px,p1⟩:=List.pairwise_cons.mp h1;obtain⟨py,p2⟩:=List.pairwise_cons.mp h2
  match n,hn' with
  |n+1,hn' =>
   cases z:klt lt y x with
   |false =>
    rw[aF3 z];obtain⟨a,b⟩:=sP o n xs (y::ys) (by simp;omega) (λw hw=>hT w (mem_cons_of_mem _ hw)) p1 h2;refine⟨List.pairwise_cons.mpr ⟨λw hw=>?_,a⟩,List.Perm.cons x b⟩;have hw:=b.mem_iff.mp hw;have mw:w∈(x::xs)++(y::ys):=mem_cons_of_mem _ hw;rcases List.mem_append.mp hw with hw|hw
    ·exact px w hw
    ·rcases List.mem_cons.mp hw with hw|hw
     ·rw[hw];exact z
     ·exact o.tr _ _ _ (Tm x mx) (Tm y my) (Tm w mw) z (py w hw)
   |true =>
    rw[aBQ z];obtain⟨a,b⟩:=sP o n (x::xs) ys (by simp;omega) (λw hw=>hT w ((List.mem_append.mp hw).elim (λh=>mem_append_left _ h) λh=>mem_append_right _ (mem_cons_of_mem _ h))) h1 p2;have z':klt lt x y=false:=o.asym _ _ (Tm y my) (Tm x mx) z;refine⟨List.pairwise_cons.mpr ⟨λw hw=>?_,a⟩,(List.Perm.cons y b).trans (List.perm_middle.symm)⟩;have hw:=b.mem_iff.mp hw;rcases List.mem_append.mp hw with hw|hw
    ·rcases List.mem_cons.mp hw with hw|hw
     ·rw[hw];exact z'
     ·exact o.tr _ _ _ (Tm y my) (Tm x mx) (Tm w (mem_append_left _ (mem_cons_of_mem _ hw))) z' (px w hw)
    ·exact py w hw
def aFk (P:Program)(w:World)(K:Frag)(mg:Str->Option Value)(base:Heap)(n:Nat):DSp:=λds M Q=>∃m l f g xs T lt,n=m+1/\ds=[.ref l,.ref f]/\M (.l l)=some xs/\(∀x∈xs,Spn T x)/\xs.length<=2^m/\xs.length<=128/\M (.x f)=some [.ref g]/\aBu P w K mg base 106 g T lt/\aHK T lt /\
 ∀p M' zs,bK M M'->M (.l p)=none->M' (.l p)=some zs->zs.Perm xs->aCu lt zs->Q (.ref p) M'
noncomputable abbrev rB:Stmt:=top 34
theorem oM:aR ["things","earlier","half"] ["things","earlier"] (aI rB):=by ac_rfl
theorem zQ (hF:cR K mg "in_order" rB ["things","earlier"])(iH:mg "len" = none)(nT:mg "list" = none)(xH:Has P w K mg base 108 "merged" ["ones","others","earlier"] (zM P w K mg base)):Has P w K mg base 118 "in_order" ["things","earlier"] (aFk P w K mg base 8):=by
 have all:∀d,Has P w K mg base (110+d) "in_order" ["things","earlier"] (aFk P w K mg base d):=λd=>by
  induction d with
  |zero=>exact(Has.never hF oM 109).imp λds M Q ⟨m,_,_,_,_,_,_,z,_⟩=>by omega
  |succ d iM =>
   refine Has.mkZ (k:=110+d) hF oM (λds M Q ⟨_,_,_,_,_,_,_,_,z,_⟩=>by rw[z];rfl) λf cdv A outer s H ds M Q E hr h=>?_;obtain⟨m,l,f,g,xs,T,lt,hm,rfl,h1,hT,hl,hl',hf,ear,ok,q⟩:=h;obtain rfl:m=d:=by omega
   refine⟨_,(aF (bO (aX kM (cO mN iH (aA (aB 0) aD)) aC) (aH (aL (iV aDo nT (aA (aB 0) aD)))) aZ)
  (aF (aN (i:=2) oM.nd (aJ eO (cO mN iH (aA (aB 0) aD)) aC))
  (aH (aL (aE xH hr (by omega) (aA (aE iM hr (by omega) (aA (lY (aB 0) iD (gB (aB 2))) (aA (aB 1) aD))) (aA (aE iM hr (by omega) (aA (lY (aB 0) (gB (aB 2)) iD) (aA (aB 1) aD))) (aA (aB 1) aD)))))))),?_⟩
   ac_nf;refine⟨xs,h1,?_⟩;by_cases c:xs.length<2
   ·refine ifT (decide_eq_true (by omega)) ⟨xs,h1,λp hp=>qY (q p _ xs (bK.new hp _) hp aK (.refl _) ?_)⟩
    match xs,c with
    |[],_=>exact .nil
    |[_],_=>exact pairwise_singleton _ _
    |_::_::_,c=>exact absurd c (by simp)
   obtain⟨k,rfl⟩:∃k,m=k+1:=⟨m-1,by
    rcases Nat.eq_zero_or_pos m with z|z
    ·rw[z] at hl;simp at hl;omega
    ·omega⟩
   rw[Nat.pow_succ] at hl;have hd:((xs.length:Int)).fdiv 2=((xs.length/2:Nat):Int):=by rw[Int.fdiv_eq_ediv_of_nonneg _ (by decide)];rfl
   refine ifF (decide_eq_false (by omega)) ⟨xs,h1,⟨by decide,by decide⟩,xs,h1,λp1 hp1=>?_⟩;rw[hd,aFL];refine⟨k,p1,f,g,xs.take (xs.length/2),T,lt,rfl,rfl,aK,λx hx=>hT x (List.mem_of_mem_take hx),by rw[length_take];omega,by rw[length_take];omega,(bK.new hp1 _) _ _ hf,ear,ok,λa M1 as s1 na e1 pm1 so1=>?_⟩;have s01:bK M M1:=(bK.new hp1 _).trans s1;refine⟨xs,s01 _ _ h1,λp2 hp2=>?_⟩;rw[sW];refine⟨k,p2,f,g,xs.drop (xs.length/2),T,lt,rfl,rfl,aK,λx hx=>hT x (List.mem_of_mem_drop hx),by rw[length_drop];omega,by rw[length_drop];omega,(bK.new hp2 _) _ _ (s01 _ _ hf),ear,ok,λb M2 bs s2 nb e2 pm2 so2=>?_⟩;have s12:bK M1 M2:=(bK.new hp2 _).trans s2;have la:=pm1.length_eq;have lb:=pm2.length_eq;rw[length_take] at la;rw[length_drop] at lb;have hT2:∀x∈as++bs,Spn T x:=λx hx=>(List.mem_append.mp hx).elim (λh=>hT x (List.mem_of_mem_take (pm1.mem_iff.mp h))) λh=>hT x (List.mem_of_mem_drop (pm2.mem_iff.mp h));refine⟨a,b,f,g,as,bs,T,lt,rfl,s12 _ _ e1,e2,hT2,by omega,s12 _ _ (s01 _ _ hf),ear,λp M3 s3 np e3=>?_⟩;obtain⟨so,pm⟩:=sP ok _ as bs (Nat.le_refl _) hT2 so1 so2;have s02:=s01.trans s12;refine qY (q p M3 _ (s02.trans s3) ?_ e3 (pm.trans ((pm1.append pm2).trans (by rw[List.take_append_drop]))) so);cases e:M (.l p) with
   |none=>rfl
   |some o=>rw[s02 _ _ e] at np;cases np
 exact all 8
structure S3 where
 a:D
 b:D
 n:D
noncomputable def s3D (s:S3):D:=.tup [s.a,s.b,s.n]
noncomputable def jst (lt:D->D->Bool)(W:List S3)(s:S3):List S3:=match W.getLast? with
 |none=>W++[s]
 |some l=>if lt l.b s.a=true then W++[s] else if lt l.b s.b=true then W.dropLast++[⟨l.a,s.b,l.n⟩] else W
noncomputable def jsp (lt:D->D->Bool)(zs:List S3):List S3:=zs.foldl (jst lt) []
theorem oG {α β:Type}{f:α->β}:∀{as bs:List β},as.Perm bs->∀xs:List α,as=xs.map f->∃zs,bs=zs.map f/\xs.Perm zs:=by
 intro as bs h
 induction h with
 |nil=>intro xs e;exact⟨[],rfl,by rw[List.map_eq_nil_iff.mp e.symm]⟩
 |cons x _ ih =>
  intro xs e;cases xs with
  |nil=>cases e
  |cons y ys =>
   obtain⟨e1,e2⟩:=List.cons.inj e;obtain⟨zs,h1,h2⟩:=ih ys e2;exact⟨y::zs,by rw[h1,e1];rfl,.cons y h2⟩
 |swap x y l =>
  intro xs e
  match xs,e with
  |[],e=>cases e
  |[_],e=>cases (List.cons.inj e).2
  |a::b::ys,e =>
   obtain⟨e1,e2⟩:=List.cons.inj e;obtain⟨e2,e3⟩:=List.cons.inj e2;exact⟨b::a::ys,by rw[e1,e2,e3];rfl,.swap _ _ _⟩
 |trans _ _ ih1 ih2 =>
  intro xs e;obtain⟨ys,h1,h2⟩:=ih1 xs e;obtain⟨zs,h3,h4⟩:=ih2 ys h1;exact⟨zs,h3,h2.trans h4⟩
def uC (M M':DM)(p:Addr):Prop:=∀b:AK,b ≠ .l p->∀o,M b=some o->M' b=some o
theorem uC.of {M M':DM}(s:bK M M')(p:Addr):uC M M' p:=λb _ o e=>s b o e
theorem uC.trans {M M1 M2:DM}{p:Addr}(h:uC M M1 p)(h':uC M1 M2 p):uC M M2 p:=λb n o e=>h' b n o (h b n o e)
theorem uC.put {M:DM}{p:Addr}{ds:List D}:uC M (bE M p ds) p:=λb n o e=>by rw[fE n];exact e
theorem uC.l {M M':DM}{p a:Addr}(h:uC M M' p)(n:a≠p){o:List D}(e:M (.l a)=some o):M' (.l a)=some o:=h (.l a) (λz=>n (AK.l.inj z)) _ e
theorem aLd {M:DM}{n:Nat}{a b:Addr}{xs ys:List D}(ha:M a=some xs)(hb:M b=some ys)(ne:a≠b)(h:xs.length≠ys.length):Cm M (n+1) (.ref a) (.ref b) false :=
 ⟨xs,ys,ha,hb,ne,λe=>absurd e h,λ_=>rfl⟩
theorem aDb {n:Nat}:ixN (n+1) (-1)=some n:=by unfold ixN;rw[if_neg (by decide),if_pos (by omega)];show some (-1+((n+1:Nat):Int)).toNat=_;rw[show(-1+((n+1:Nat):Int)).toNat=n by omega]
theorem aAB (xs:List D)(x:D):atI (xs++[x]) (-1)=some x:=by unfold atI ixN;rw[if_neg (by decide),if_pos (by rw[length_append];show -((_+1:Nat):Int)<=-1;omega),length_append];show(xs++[x])[(-1+((xs.length+1:Nat):Int)).toNat]?=_;rw[show(-1+((xs.length+1:Nat):Int)).toNat=xs.length by omega,List.getElem?_append_right (Nat.le_refl _),Nat.sub_self];rfl
def aGm (P:Program)(w:World)(K:Frag)(mg:Str->Option Value)(base:Heap)(pt:Addr):DSp:=λds M Q=>∃l g xs T lt,ds = [.ref l,.ref g]/\M (.l l) = some (xs.map s3D)/\(∀x∈xs,T x.a/\T x.b)/\xs.length<=128/\M (.x pt) = some [.str "joined_spans.<locals>.<lambda>"]/\aBu P w K mg base 106 g T lt/\aHK T lt /\
 ∀p M' zs,bK M M'->M (.l p)=none->M' (.l p)=some ((jsp lt zs).map s3D)->zs.Perm xs->aCu lt (zs.map s3D)->Q (.ref p) M'
noncomputable abbrev kB:Stmt:=top 42
theorem jO:aR ["spans","earlier","whole","span"] ["spans","earlier"] (aI kB):=by ac_rfl
theorem tY {pt:Addr}(hF:cR K mg "joined_spans" kB ["spans","earlier"])(tb_joined_spans:aEL K mg base "joined_spans" pt)(iM:Has P w K mg base 118 "in_order" ["things","earlier"] (aFk P w K mg base 8)):Has P w K mg base 120 "joined_spans" ["spans","earlier"] (aGm P w K mg base pt):=by
 refine Has.mkL hF tb_joined_spans jO (λds M Q ⟨_,_,_,_,_,z,_⟩=>by rw[z];rfl) λf cdv A outer s H ds M Q E hr ht h=>?_;obtain⟨l,g,xs,T,lt,rfl,h1,hT,hl,hP,ear,ok,q⟩:=h;refine⟨_,(aF (aN (i:=2) jO.nd (fP aD))
  (aF (qC PassesOwn.never rfl (aBv (i:=0) (j:=1) (q:="joined_spans.<locals>.<lambda>") iM hr (by decide) ht (aB 0)) (aO (i:=3) jO.nd) (aH (bO (pG (aC2 (aX (aJ9 hr) (aB 2) (fP aD)) (zV (iJ (yW (j:=106) (aB 1) hr (by decide) (aA (aG (aG (aB 2) (cZ aC)) aC) (aA (aG (aB 3) aC) aD))))))) (aH (jG (iX (aB 2) (aB 3)))) (aH (bO (iJ (yW (j:=106) (aB 1) hr (by decide) (aA (aG (aG (aB 2) (cZ aC)) aC) (aA (aG (aB 3) aC) aD)))) (aH (cQ (aY (aA (aG (aG (aB 2) (cZ aC)) aC) (aA (aG (aB 3) aC) (aA (aG (aG (aB 2) (cZ aC)) aC) aD)))) (kX (aB 2) (cZ aC)))) aZ)))))
  (aH (aL (aB 2))))),?_⟩
 ac_nf;refine⟨by decide,λp hp=>⟨by rw[iL];exact hP,λfl hfl=>?_⟩⟩;have sp0:bK (bE M p []) (putX (bE M p []) fl [.ref g]):=λb o e=>by rw[gR (bS e hfl)];exact e
 have nl:l≠p:=aV h1 hp;refine⟨7,l,fl,g,xs.map s3D,T,lt,rfl,rfl,sp0 _ _ (by rw[bV nl];exact h1),λx hx=>?_,by rw[length_map];omega,by rw[length_map];exact hl,qF,ear,ok,λp1 M1 zs' s1 n1 e1 pm so=>?_⟩
 ·obtain⟨s,hs,rfl⟩:=List.mem_map.mp hx;exact⟨_,_,rfl,(hT s hs).1⟩
 obtain⟨zs,rfl,pz⟩:=oG pm.symm xs rfl;have sN:bK (bE M p []) (rP M1 fl):=λb o e=>by rw[mH (bS e hfl)];exact s1 _ _ (sp0 _ _ e)
 have eN:rP M1 fl (.l p1)=some (zs.map s3D):=by rw[mH (by intro z;cases z)];exact e1
 have eW:rP M1 fl (.l p)=some (([]:List S3).map s3D):=sN _ _ aK;have np:p1≠p:=λz=>by rw[z,sp0 _ _ aK] at n1;cases n1
 generalize rP M1 fl=N at sN eN eW ⊢;have Tz:∀x∈zs,T x.a/\T x.b:=λx hx=>hT x (pz.symm.mem_iff.mp hx);have lz:=pz.length_eq;ac_nf;refine⟨_,eN,λi ρ M'=>uC N M' p/\(∃W,W=(zs.take i).foldl (jst lt) []/\W.length<=i/\(∀x∈W,T x.a/\T x.b)/\M' (.l p)=some (W.map s3D))/\∃o,ρ=[some (.ref l),some (.ref g),some (.ref p),o],⟨.of (.refl _) p,⟨[],rfl,Nat.le_refl _,λx hx=>(by cases hx),eW⟩,none,rfl⟩,?_,?_,?_⟩
 ·rintro i ρ M' _ ⟨A',_⟩ a' e;cases e;exact A'.l np eN
 ·rintro i d1 ρ M' hd ⟨A',⟨W,eW,lW,TW,hW⟩,o,rfl⟩;rw[getElem?_map] at hd;obtain⟨s,hs,rfl⟩:=Option.map_eq_some_iff.mp hd;have Ts:=Tz s (mem_of_getElem? hs);have hi:=(List.getElem?_eq_some_iff.mp hs).1;have stp:(zs.take (i+1)).foldl (jst lt) []=jst lt W s:=by rw[gO hs,List.foldl_append,<- eW];rfl
  dsimp only[s3D];ac_nf;refine⟨by decide,λp0 hp0=>?_⟩;have A0:uC N (bE M' p0 []) p:=A'.trans (.of (bK.new hp0 _) p);have hW0:=(bK.new hp0 []) _ _ hW;have e0:bE M' p0 [] (.l p0)=some []:=aK;have n0:p≠p0:=aV hW hp0;generalize bE M' p0 []=M2 at A0 hW0 e0 ⊢;have add:∀{V:List S3},V=jst lt W s->V=W++[s]->(∃ds,M2 (.l p)=some ds)/\∃ds y,[D.tup [s.a,s.b,s.n]]=[y]/\M2 (.l p)=some ds/\ds.length<1000/\uC N (bE M2 p (ds++[y])) p/\(∃W,W=(zs.take (i+1)).foldl (jst lt) []/\W.length<=i+1/\(∀x∈W,T x.a/\T x.b)/\bE M2 p (ds++[y]) (.l p)=some (W.map s3D))/\∃o,[some (D.ref l),some (D.ref g),some (D.ref p),some (D.tup [s.a,s.b,s.n])]=[some (D.ref l),some (D.ref g),some (D.ref p),o]:=λ{V} e1 e2 =>
   ⟨⟨
    _,hW0⟩,_,_,rfl,hW0,by rw[length_map];omega,A0.trans .put,⟨V,by rw[stp];exact e1,by rw[e2,length_append];show _+1<=_;omega,by
    rw[e2];intro x hx;rcases List.mem_append.mp hx with h|h
    ·exact TW x h
    ·rw[List.mem_singleton.mp h];exact Ts,by rw[aK,e2,map_append];rfl⟩,_,rfl⟩
  rcases List.eq_nil_or_concat W with z|⟨W0,lst,z⟩
  ·subst z;exact⟨.inr ⟨⟨_,rfl⟩,_,rfl⟩,true,aFD (n:=19) hW0 e0 n0 (λx hx=>by cases hx),ifT rfl (ifT rfl (add rfl rfl))⟩
  ·rw[List.concat_eq_append] at z;have gl:W.getLast?=some lst:=by rw[z,List.getLast?_concat]
   have Tl:=TW lst (by rw[z];exact mem_append_right _ mem_cons_self);have hat:atI (W.map s3D) (-1)=some (s3D lst):=by rw[z,map_append];exact aAB _ _
   have js:jst lt W s=if lt lst.b s.a=true then W++[s] else if lt lst.b s.b=true then W.dropLast++[⟨lst.a,s.b,lst.n⟩] else W:=by unfold jst;rw[gl]
   obtain⟨n,ps,sp,hn,hh,hsp⟩:=id ear;refine⟨.inr ⟨⟨_,rfl⟩,_,rfl⟩,false,aLd (n:=19) hW0 e0 n0 (by rw[length_map,z,length_append];show ¬(_+1=0);omega),ifF (by decide) ⟨n,ps,sp,hn,hh,_,_,hW0,hat,?_⟩⟩;dsimp only[s3D];ac_nf;refine hsp _ _ _ _ Tl.2 Ts.1 ?_;ac_nf;cases y1:lt lst.b s.a with
   |true=>exact ifT rfl (add rfl (by rw[js,if_pos y1]))
   |false =>
    refine ifF (by decide) ⟨n,ps,sp,hn,hh,_,_,hW0,hat,?_⟩;dsimp only[s3D];ac_nf;refine hsp _ _ _ _ Tl.2 Ts.2 ?_;ac_nf;cases y2:lt lst.b s.b with
    |false=>exact ifF (by decide) ⟨A0,⟨W,by rw[stp,js,if_neg (by rw[y1];decide),if_neg (by rw[y2];decide)],by omega,TW,hW0⟩,_,rfl⟩
    |true =>
     refine ifT rfl ⟨_,_,hW0,hat,?_⟩;dsimp only[s3D];ac_nf;refine⟨_,_,hW0,hat,?_⟩;dsimp only[s3D];ac_nf;have lw:W.length=W0.length+1:=by rw[z,length_append];rfl
     refine⟨by decide,_,W0.length,hW0,by rw[length_map,lw];exact aDb,A0.trans .put,⟨W0++[⟨lst.a,s.b,lst.n⟩],?_,by rw[length_append];show _+1<=_;omega,λx hx=>?_,?_⟩,_,rfl⟩
     ·rw[stp,js,if_neg (by rw[y1];decide),if_pos y2,z,List.dropLast_concat]
     ·rcases List.mem_append.mp hx with h|h
      ·exact TW x (by rw[z];exact mem_append_left _ h)
      ·rw[List.mem_singleton.mp h];exact⟨Tl.1,Ts.2⟩
     ·rw[aK,z,map_append,map_append,List.set_append_right _ _ (by rw[length_map];exact Nat.le_refl _),length_map,Nat.sub_self];rfl
 ·rintro ρ M' ⟨A',⟨W,eW,lW,TW,hW⟩,o,rfl⟩;rw[length_map,take_length] at eW;ac_nf;refine qY (q p M' zs (λb o e=>A' b (bS e hp) o (sN b o ?_)) hp (by rw[hW,eW];rfl) pz.symm so);rw[fE (bS e hp)];exact e
noncomputable abbrev gZ:Stmt:=top 6
theorem jP:aR ["one","other"] ["one","other"] (aI gZ):=by ac_rfl
theorem pZ (hF:cR K mg "greatest_divisor" gZ ["one","other"])(wF:mg "abs" = none):Has P w K mg base 101 "greatest_divisor" ["one","other"] eP:=by
 refine Has.mkZ hF jP (λds M Q ⟨a,b,e,_⟩=>by rw[e];rfl) λf cdv A outer s H ds M Q E hr h=>?_;obtain⟨a,b,rfl,q⟩:=h;refine⟨_,(aF (qG PassesOwn.never (aX (uS hr) (aB 1) aC) (aH (aDF (i:=0) (j:=1) rfl jP.nd (aA (aB 1) (aA (aJ oR (aB 0) (aB 1)) aD)))))
  (aH (aL (cO aCY wF (aA (aB 0) aD))))),?_⟩
 refine tZ (λm ρ M'=>M'=M/\∃x y:Int,ρ=[some (.int x),some (.int y)]/\m=y.natAbs/\Int.gcd x y=Int.gcd a b) _ ⟨rfl,a,b,rfl,rfl,rfl⟩ ?_;rintro m ρ M' ⟨rfl,x,y,rfl,rfl,g⟩;refine⟨rfl,rfl,zB (λc=>?_) (λc=>?_)⟩
 ·have c:y≠0:=by simpa[eqD] using c
  exact⟨c,_,aDt c,rfl,y,x.fmod y,rfl,rfl,(aBd x y).trans g⟩
 ·have c:y=0:=by simpa[eqD] using c
  subst c;refine⟨M',.refl _,?_⟩;have e:(if x<0 then -x else x)=(Int.gcd a b:Int):=by rw[<- g,Int.gcd_zero_right];split<;>omega
  rw[e];exact q
noncomputable abbrev aCm:Stmt:=top 7
theorem tL:aR ["one","other","shared","part","top","left"] ["one","other"] (aI aCm):=by ac_rfl
theorem aF7 (hF:cR K mg "plus" aCm ["one","other"])(bJ:Has P w K mg base 101 "greatest_divisor" ["one","other"] eP):Has P w K mg base 102 "plus" ["one","other"] kW:=by
 refine Has.mkZ hF tL qO λf cdv A outer s H ds M Q E hr h=>?_;obtain⟨p,r,m,n,rfl,_,h1,h2,l,q⟩:=h;refine⟨_,(aF (aN (i:=2) tL.nd (aE bJ hr (by decide) (aA (aG (aB 0) aC) (aA (aG (aB 1) aC) aD))))
  (aF (aN (i:=3) tL.nd (aJ eO (aG (aB 0) aC) (aB 2)))
  (aF (aN (i:=4) tL.nd (aJ fD (aJ bG (aG (aB 0) aC) (aJ eO (aG (aB 1) aC) (aB 2))) (aJ bG (aG (aB 1) aC) (aB 3))))
  (aF (aN (i:=5) tL.nd (aE bJ hr (by decide) (aA (aB 4) (aA (aB 2) aD))))
  (aH (aL (aY (aA (aJ eO (aB 4) (aB 5)) (aA (aJ bG (aB 3) (aJ eO (aG (aB 1) aC) (aB 5))) aD))))))))),?_⟩
 obtain⟨g0,l0,gd,ld,e1,e2⟩:=aNX p r _ _ _ _ rfl rfl rfl rfl;have gr:(Int.gcd p.den r.den:Int)∣(r.den:Int):=Int.gcd_dvd_right _ _;have bg:Bd m (Int.gcd p.den r.den:Int):=h1.2.dvd gd (cA p);refine⟨_,_,rfl,aBc h1.2 (by omega) gd (cA p) g0,aBc h1.2 (by omega) gd (cA p) g0,cB h1.1 (h2.2.fdiv gr) (by omega),cB h2.1 (h1.2.fdiv gd) (by omega),_,_,rfl,?_⟩;refine⟨aBc bg (by omega) ld g0 l0,aBc bg (by omega) ld g0 l0,cB (h1.2.fdiv gd) (h2.2.fdiv (Int.dvd_trans ld gr)) (by omega),by show(2:Nat)<=1000;decide,M,.refl _,?_⟩;have q':Q (.tup [.int (p+r).num,.int ((p+r).den:Int)]) M:=q;rw[<- e1,<- e2] at q';exact q'
noncomputable abbrev aAw:Stmt:=top 8
theorem aEX:aR ["one","other"] ["one","other"] (aI aAw):=by ac_rfl
theorem aD4 (hF:cR K mg "minus" aAw ["one","other"])(eI:Has P w K mg base 102 "plus" ["one","other"] kW):Has P w K mg base 103 "minus" ["one","other"] mB:=by refine Has.mkZ hF aEX qO λf cdv A outer s H ds M Q E hr h=>?_;obtain⟨p,r,m,n,rfl,_,h1,h2,l,q⟩:=h;refine⟨_,(aH (aL (aE eI hr (by decide) (aA (aB 0) (aA (aY (aA (cZ (aG (aB 1) aC)) (aA (aG (aB 1) aC) aD))) aD))))),?_⟩;refine⟨by show(2:Nat)<=1000;decide,p,-r,m,n,by rw[aHb],trivial,h1,h2.neg,l,M,.refl _,?_⟩;show Q (FQ (p + -r)) M;rw[<- Rat.sub_eq_add_neg];exact q
noncomputable abbrev aAb:Stmt:=top 9
theorem wW:aR ["one","other","falling","rising"] ["one","other"] (aI aAb):=by ac_rfl
theorem aD5 (hF:cR K mg "times" aAb ["one","other"])(bJ:Has P w K mg base 101 "greatest_divisor" ["one","other"] eP):Has P w K mg base 102 "times" ["one","other"] jK:=by
 refine Has.mkZ hF wW qO λf cdv A outer s H ds M Q E hr h=>?_;obtain⟨p,r,m,n,rfl,_,h1,h2,l,q⟩:=h;refine⟨_,(aF (aN (i:=2) wW.nd (aE bJ hr (by decide) (aA (aG (aB 0) aC) (aA (aG (aB 1) aC) aD))))
  (aF (aN (i:=3) wW.nd (aE bJ hr (by decide) (aA (aG (aB 1) aC) (aA (aG (aB 0) aC) aD))))
  (aH (aL (aY (aA (aJ bG (aJ eO (aG (aB 0) aC) (aB 2)) (aJ eO (aG (aB 1) aC) (aB 3))) (aA (aJ bG (aJ eO (aG (aB 0) aC) (aB 3)) (aJ eO (aG (aB 1) aC) (aB 2))) aD))))))),?_⟩
 obtain⟨f0,r0,fd,rd,e1,e2⟩:=aN3 p r _ _ rfl rfl;have fl:(Int.gcd p.num r.den:Int)∣p.num:=Int.gcd_dvd_left _ _;have rl:(Int.gcd r.num p.den:Int)∣r.num:=Int.gcd_dvd_left _ _;refine⟨_,_,rfl,_,_,rfl,aBc h2.2 (by omega) fd (cA r) f0,aBc h1.2 (by omega) rd (cA p) r0,cB (h1.1.fdiv fl) (h2.1.fdiv rl) (by omega),aBc h1.2 (by omega) rd (cA p) r0,aBc h2.2 (by omega) fd (cA r) f0,cB (h1.2.fdiv rd) (h2.2.fdiv fd) (by omega),by show(2:Nat)<=1000;decide,M,.refl _,?_⟩;have q':Q (.tup [.int (p*r).num,.int ((p*r).den:Int)]) M:=q;rw[<- e1,<- e2] at q';exact q'
noncomputable abbrev aCp:Stmt:=top 10
theorem aH5:aR ["one","other"] ["one","other"] (aI aCp):=by ac_rfl
theorem aF2 (hF:cR K mg "over" aCp ["one","other"])(cT:Has P w K mg base 102 "times" ["one","other"] jK):Has P w K mg base 103 "over" ["one","other"] aAU:=by
 refine Has.mkZ hF aH5 qO λf cdv A outer s H ds M Q E hr h=>?_;obtain⟨p,r,m,n,rfl,h0,h1,h2,l,q⟩:=h;refine⟨_,(aF (bO (aX (dD hr) (aG (aB 1) aC) aC) (aH zN) aZ)
  (aF (bO (aX kM (aG (aB 1) aC) aC) (aH (aL (aE cT hr (by decide) (aA (aB 0) (aA (aY (aA (cZ (aG (aB 1) aC)) (aA (cZ (aG (aB 1) aC)) aD))) aD))))) aZ)
  (aH (aL (aE cT hr (by decide) (aA (aB 0) (aA (aY (aA (aG (aB 1) aC) (aA (aG (aB 1) aC) aD))) aD))))))),?_⟩
 have e:p*(1/r)=p/r:=by grind
 refine⟨rfl,rfl,zB (λc=>absurd (kE.mp (by simpa[eqD] using c)) h0) (λ_=>dif (λc=>?_) (λc=>?_))⟩
 ·have c':r<0:=pH.mp c;obtain⟨e1,e2⟩:=aN8 c';refine⟨by show(2:Nat)<=1000;decide,p,1/r,m,n,by unfold FQ;rw[<- e1,<- e2],trivial,h1,⟨e1 ▸ h2.2.neg,e2 ▸ h2.1.neg⟩,l,M,.refl _,?_⟩;show Q (FQ (p*(1/r))) M;rw[e];exact q
 ·have c':0<r:=by have:¬r<0:=λz=>c (pH.mpr z);grind
  obtain⟨e1,e2⟩:=aNy c';refine⟨by show(2:Nat)<=1000;decide,p,1/r,m,n,by unfold FQ;rw[<- e1,<- e2],trivial,h1,⟨e1 ▸ h2.2,e2 ▸ h2.1⟩,l,M,.refl _,?_⟩;show Q (FQ (p*(1/r))) M;rw[e];exact q
noncomputable abbrev aAK:Stmt:=top 11
theorem aFE:aR ["one","other"] ["one","other"] (aI aAK):=by ac_rfl
theorem aD3 (hF:cR K mg "below" aAK ["one","other"]):Has P w K mg base 101 "below" ["one","other"] wR:=by refine Has.mkZ hF aFE qO λf cdv A outer s H ds M Q E hr h=>?_;obtain⟨p,r,m,n,rfl,_,h1,h2,l,q⟩:=h;refine⟨_,(aH (aL (gI kM (aJ bG (aG (aB 0) aC) (aG (aB 1) aC)) (aJ bG (aG (aB 1) aC) (aG (aB 0) aC))))),?_⟩;refine⟨cB h1.1 h2.2 (by omega),cB h2.1 h1.2 (by omega),M,.refl _,?_⟩;have e:decide (p.num*(r.den:Int)<r.num*(p.den:Int))=decide (p<r):=decide_eq_decide.mpr (ltQ p r);show Q (.bl (decide (p.num*(r.den:Int)<r.num*(p.den:Int)))) M;rw[e];exact q
noncomputable abbrev aGe:Stmt:=top 14
theorem aKO:aR ["p","q"] ["p","q"] (aI aGe):=by ac_rfl
theorem aHs (hF:cR K mg "off" aGe ["p","q"])(fC:Has P w K mg base 103 "minus" ["one","other"] mB):Has P w K mg base 104 "off" ["p","q"] uR:=by refine Has.mkZ hF aKO (λds M Q ⟨x,y,u,v,e,_⟩=>by rw[e];rfl) λf cdv A outer s H ds M Q E hr h=>?_;obtain⟨x,y,u,v,rfl,h1,h2,h3,h4,q⟩:=h;refine⟨_,(aH (aL (aY (aA (aE fC hr (by decide) (aA (aG (aB 0) aC) (aA (aG (aB 1) aC) aD))) (aA (aE fC hr (by decide) (aA (aG (aB 0) aC) (aA (aG (aB 1) aC) aD))) aD))))),?_⟩;exact⟨x,u,_,_,rfl,trivial,h1,h3,by decide,y,v,_,_,rfl,trivial,h2,h4,by decide,by show(2:Nat)<=1000;decide,M,.refl _,q⟩
noncomputable abbrev rR:Stmt:=top 13
theorem aB8:aR ["p","q"] ["p","q"] (aI rR):=by ac_rfl
theorem aA5 (hF:cR K mg "together" rR ["p","q"])(eI:Has P w K mg base 102 "plus" ["one","other"] kW):Has P w K mg base 104 "together" ["p","q"] kU:=by refine Has.mkZ hF aB8 (λds M Q ⟨x,y,u,v,e,_⟩=>by rw[e];rfl) λf cdv A outer s H ds M Q E hr h=>?_;obtain⟨x,y,u,v,rfl,h1,h2,h3,h4,q⟩:=h;refine⟨_,(aH (aL (aY (aA (aE eI hr (by decide) (aA (aG (aB 0) aC) (aA (aG (aB 1) aC) aD))) (aA (aE eI hr (by decide) (aA (aG (aB 0) aC) (aA (aG (aB 1) aC) aD))) aD))))),?_⟩;exact⟨x,u,_,_,rfl,trivial,h1,h3,by decide,y,v,_,_,rfl,trivial,h2,h4,by decide,by show(2:Nat)<=1000;decide,M,.refl _,q⟩
noncomputable abbrev lN:Stmt:=top 15
theorem vX:aR ["p","q"] ["p","q"] (aI lN):=by ac_rfl
theorem vL (hF:cR K mg "dot_product" lN ["p","q"])(eI:Has P w K mg base 102 "plus" ["one","other"] kW)(cT:Has P w K mg base 102 "times" ["one","other"] jK):Has P w K mg base 104 "dot_product" ["p","q"] jY:=by refine Has.mkZ hF vX (λds M Q ⟨x,y,u,v,e,_⟩=>by rw[e];rfl) λf cdv A outer s H ds M Q E hr h=>?_;obtain⟨x,y,u,v,rfl,m,n,h1,h2,h3,h4,l,q⟩:=h;refine⟨_,(aH (aL (aE eI hr (by decide) (aA (aE cT hr (by decide) (aA (aG (aB 0) aC) (aA (aG (aB 1) aC) aD))) (aA (aE cT hr (by decide) (aA (aG (aB 0) aC) (aA (aG (aB 1) aC) aD))) aD))))),?_⟩;exact⟨x,u,_,_,rfl,trivial,h1,h3,by omega,y,v,_,_,rfl,trivial,h2,h4,by omega,_,_,_,_,rfl,trivial,h1.mul h3,h2.mul h4,by omega,M,.refl _,q⟩
noncomputable abbrev jN:Stmt:=top 16
theorem uM:aR ["p","q"] ["p","q"] (aI jN):=by ac_rfl
theorem sV (hF:cR K mg "cross_product" jN ["p","q"])(fC:Has P w K mg base 103 "minus" ["one","other"] mB)(cT:Has P w K mg base 102 "times" ["one","other"] jK):Has P w K mg base 104 "cross_product" ["p","q"] mE:=by refine Has.mkZ hF uM (λds M Q ⟨x,y,u,v,e,_⟩=>by rw[e];rfl) λf cdv A outer s H ds M Q E hr h=>?_;obtain⟨x,y,u,v,rfl,m,n,h1,h2,h3,h4,l,q⟩:=h;refine⟨_,(aH (aL (aE fC hr (by decide) (aA (aE cT hr (by decide) (aA (aG (aB 0) aC) (aA (aG (aB 1) aC) aD))) (aA (aE cT hr (by decide) (aA (aG (aB 0) aC) (aA (aG (aB 1) aC) aD))) aD))))),?_⟩;exact⟨x,v,_,_,rfl,trivial,h1,h4,by omega,y,u,_,_,rfl,trivial,h2,h3,by omega,_,_,_,_,rfl,trivial,h1.mul h4,h2.mul h3,by omega,M,.refl _,q⟩
def aCI:DSp:=λds M Q=>∃x y u v,ds=[PQ x y,PQ u v]/\BQ 500 x/\BQ 500 y/\BQ 500 u/\BQ 500 v/\Q (FQ ((x-u)*(x-u)+(y-v)*(y-v))) M
noncomputable abbrev aFn:Stmt:=top 17
theorem aGR:aR ["p","q","way"] ["p","q"] (aI aFn):=by ac_rfl
theorem aHw (hF:cR K mg "far" aFn ["p","q"])(lX:Has P w K mg base 104 "off" ["p","q"] uR)(eK:Has P w K mg base 104 "dot_product" ["p","q"] jY):Has P w K mg base 105 "far" ["p","q"] aCI:=by
 refine Has.mkZ hF aGR (λds M Q ⟨x,y,u,v,e,_⟩=>by rw[e];rfl) λf cdv A outer s H ds M Q E hr h=>?_;obtain⟨x,y,u,v,rfl,h1,h2,h3,h4,q⟩:=h;refine⟨_,(aF (aN (i:=2) aGR.nd (aE lX hr (by decide) (aA (aB 0) (aA (aB 1) aD))))
  (aH (aL (aE eK hr (by decide) (aA (aB 2) (aA (aB 2) aD)))))),?_⟩
 ac_nf;exact⟨x,y,u,v,rfl,h1.mono (by decide),h2.mono (by decide),h3.mono (by decide),h4.mono (by decide),_,_,_,_,rfl,_,_,h1.sub h3,h2.sub h4,h1.sub h3,h2.sub h4,by decide,M,.refl _,q⟩
inductive Pc where
 |dot (x y:Rat)|str (x y u v:Rat)|arc (cx cy ax ay bx by':Rat)|ring (cx cy ax ay:Rat)
noncomputable def pcD:Pc->D
 |.dot x y=>.tup [.str "dot",PQ x y]
 |.str x y u v=>.tup [.str "stretch",PQ x y,PQ u v]
 |.arc a b c d e f=>.tup [.str "arc",PQ a b,PQ c d,PQ e f]
 |.ring a b c d=>.tup [.str "ring",PQ a b,PQ c d]
def pcB (B:Nat):Pc->Prop
 |.dot x y=>BQ B x/\BQ B y
 |.str x y u v=>BQ B x/\BQ B y/\BQ B u/\BQ B v
 |.arc a b c d e f=>BQ B a/\BQ B b/\BQ B c/\BQ B d/\BQ B e/\BQ B f
 |.ring a b c d=>BQ B a/\BQ B b/\BQ B c/\BQ B d
theorem jH {x y u v:Rat}(h:¬(x=u/\y=v)):bef u v x y = !bef x y u v:=by
 unfold bef;by_cases c:x=u
 ·subst c;rw[if_pos rfl,if_pos rfl];have hy:y≠v:=λe=>h ⟨rfl,e⟩;by_cases d:y<v
  ·rw[decide_eq_true d,decide_eq_false (by grind)];rfl
  ·rw[decide_eq_false d,decide_eq_true (by grind)];rfl
 ·rw[if_neg (λe=>c e.symm),if_neg c];by_cases d:x<u
  ·rw[decide_eq_true d,decide_eq_false (by grind)];rfl
  ·rw[decide_eq_false d,decide_eq_true (by grind)];rfl
theorem iI (x y:Rat):bef x y x y=false:=by unfold bef;rw[if_pos rfl,decide_eq_false (by grind)]
noncomputable abbrev rW:Stmt:=top 51
theorem aB3:aR ["_law_cell"] ["_law_cell"] (aI rW):=by ac_rfl
theorem zS (hF:cR K mg "_law_feed" rW ["_law_cell"])(wD:mg "int" = none):Has P w K mg base 101 "_law_feed" ["_law_cell"] uU:=by refine Has.mkZ hF aB3 (λds M Q ⟨c,e,_⟩=>by rw[e];rfl) λf cdv A outer s H ds M Q E hr h=>?_;obtain⟨c,rfl,q⟩:=h;refine⟨_,(aH (aL (fP (aA (aB 0) (aA aC (aA (iV aCl wD (aA (gI aL7 (aB 0) (aJ pL aC aC)) aD)) aD)))))),?_⟩;refine⟨⟨by decide,by decide,by decide⟩,by show(3:Nat)<=1000;decide,λp hp=>⟨_,.refl _,?_⟩⟩;exact q p _ hp ⟨c,0,_,aK,by decide,by decide⟩ Adv.put
noncomputable abbrev rN:Stmt:=top 52
theorem jD:aR ["_law_from","_law_many","_law_k","_law_found","_law_number"] ["_law_from","_law_many"] (aI rN):=by ac_rfl
theorem aAQ (hF:cR K mg "_law_draw" rN ["_law_from","_law_many"]):Has P w K mg base 101 "_law_draw" ["_law_from","_law_many"] eG:=by
 refine Has.mkZ hF jD (λds M Q ⟨a,m,n,e,_⟩=>by rw[e];rfl) λf cdv A outer s H ds M Q E hr h=>?_;obtain⟨a,many,n,rfl,⟨c,k,fl,ha,k0,k1⟩,hn,hm,hB,q⟩:=h;refine⟨_,(aF (aN (i:=2) jD.nd (aG (aB 0) aC))
  (aF (cQ (aJ fD (aB 2) aC) (kX (aB 0) aC))
  (aF (bO (pG (jS (aX (dD hr) (aG (aB 0) aC) aC) (jE (aX aDC (aG (aB 0) aC) aC)))) (aF (aN (i:=3) jD.nd (aJ oR (aG (aB 0) aC) (aB 1)))
  (aF (cQ (aJ eO (aG (aB 0) aC) (aB 1)) (kX (aB 0) aC))
  (aH (aL (aB 3))))) aZ)
  (aF (aN (i:=4) jD.nd (aJ oR (aJ bG (aJ fD (aJ fD (aJ oR (aG (aB 0) aC) (aJ pL aC aC)) (aJ bG (aJ bG aC (aB 2)) (aB 2))) (aB 2)) aC) aC))
  (aF (aN (i:=4) jD.nd (aJ oR (aJ fD (aJ bG (aB 4) aC) aC) aC))
  (aH (aL (aJ oR (aJ eO (aB 4) aC) (aB 1))))))))),?_⟩
 have hm0:many≠0:=by omega
 have hk:Bd 63 k:=Bd.of (by omega) (by omega);refine⟨_,_,ha,rfl,_,1,ha,rfl,?_⟩;have h1:bE M a [.int c,.int (k+1),.int fl] a=some [.int c,.int (k+1),.int fl]:=aK;have av:Adv M (bE M a [.int c,.int (k+1),.int fl]) a:=Adv.put;have fd1:FdN (bE M a [.int c,.int (k+1),.int fl]) a (n+1):=⟨c,k+1,fl,h1,by omega,by omega⟩;have slow:∀x:Int,Q (.int ((x.fdiv 16).fmod many)) (bE M a [.int c,.int (k+1),.int fl]):=λx=>q _ _ (Int.fmod_nonneg_of_pos _ hm) (Int.fmod_lt_of_pos _ hm) fd1 av;refine⟨_,_,h1,rfl,rfl,rfl,?_⟩;have cN:∀(u v:Int),∃ds d,bE M a [.int c,.int (k+1),.int fl] a=some ds/\atI ds 0=some d/\True:=λ_ _=>⟨_,_,h1,rfl,trivial⟩;refine zB (λ_=>?_) (λ_=>?_)
 ·refine⟨_,_,h1,rfl,?_⟩;refine dif (λ_=>?_) (λ_=>?_)
  ·refine⟨_,_,h1,rfl,hm0,_,_,h1,rfl,⟨hm0,Nat.lt_succ_of_lt (hB.log (by decide))⟩,_,0,h1,rfl,_,.refl _,?_⟩;refine q _ _ (Int.fmod_nonneg_of_pos _ hm) (Int.fmod_lt_of_pos _ hm) ⟨_,k+1,fl,aK,by omega,by omega⟩ (Adv.put.trans Adv.put)
  ·refine⟨_,_,h1,rfl,⟨by decide,by decide,by decide⟩,(by dsimp only;decide),aAj (by unfold Bd;decide),tW hk,tW (by unfold Bd;decide),(by dsimp only;decide),tW (by unfold Bd;decide),(by dsimp only;decide),⟨by decide,by decide +kernel⟩,hm0,_,.refl _,?_⟩;exact slow _
 ·refine⟨_,_,h1,rfl,⟨by decide,by decide,by decide⟩,(by dsimp only;decide),aAj (by unfold Bd;decide),tW hk,tW (by unfold Bd;decide),(by dsimp only;decide),tW (by unfold Bd;decide),(by dsimp only;decide),⟨by decide,by decide +kernel⟩,hm0,_,.refl _,?_⟩;exact slow _
noncomputable abbrev nG:Stmt:=top 53
theorem gS:aR ["_law_top","_law_bottom","_law_one","_law_other"] ["_law_top","_law_bottom"] (aI nG):=by ac_rfl
theorem wT (hF:cR K mg "_law_lowest" nG ["_law_top","_law_bottom"])(wF:mg "abs" = none):Has P w K mg base 101 "_law_lowest" ["_law_top","_law_bottom"] dS:=by
 refine Has.mkZ hF gS (λds M Q ⟨a,b,e,_⟩=>by rw[e];rfl) λf cdv A outer s H ds M Q E hr h=>?_;obtain⟨t,b,rfl,hb,hB,q⟩:=h;refine⟨_,(aF (aN (i:=2) gS.nd (cO aCY wF (aA (aB 0) aD)))
  (aF (aN (i:=3) gS.nd (cO aCY wF (aA (aB 1) aD)))
  (aF (qG PassesOwn.never (aX aDC (aB 3) aC) (aH (aDF (i:=2) (j:=3) rfl gS.nd (aA (aB 3) (aA (aJ oR (aB 2) (aB 3)) aD)))))
  (aF (bO (aX kM (aB 1) aC) (aH (aN (i:=2) gS.nd (aJ hO aC (aB 2)))) aZ)
  (aH (aL (aY (aA (aJ eO (aB 0) (aB 2)) (aA (aJ eO (aB 1) (aB 2)) aD))))))))),?_⟩
 refine tZ (λm ρ M'=>M'=M/\∃x y:Int,ρ=[some (.int t),some (.int b),some (.int x),some (.int y)]/\m=y.natAbs/\0<=x/\0<=y/\Int.gcd x y=Int.gcd t b) _ ⟨rfl,_,_,rfl,rfl,by split<;>omega,by split<;>omega,by split<;>split<;>simp[Int.gcd_neg,Int.neg_gcd]⟩ ?_
 rintro m ρ M' ⟨rfl,x,y,rfl,rfl,hx,hy,g⟩;refine dif (λc=>?_) (λc=>?_)
 ·have hy':y≠0:=by omega
  exact⟨hy',_,aDt hy',rfl,y,x.fmod y,rfl,rfl,hy,Int.fmod_nonneg_of_pos _ (by omega),(aBd x y).trans g⟩
 ·have hy':y=0:=by omega
  subst hy';have e:x=(Int.gcd t b:Int):=by rw[<- g,Int.gcd_zero_right];omega
  have fin:Q (.tup [.int (fT t b),.int (fB t b)]) M':=by rw[aH4 hb];exact q
  unfold fT fB at fin;have s1:=aM8 (t:=t) hb;have s2:=(hB.sg (t:=t) hb).log (by decide);unfold sg at fin s1 s2;refine dif (λc=>?_) (λc=>?_)
  ·rw[if_pos c,<- e,<- Int.zero_sub] at fin s1 s2;exact⟨⟨s1,Nat.lt_succ_of_lt s2⟩,⟨s1,Nat.lt_succ_of_lt s2⟩,by show(2:Nat)<=1000;decide,M',.refl _,fin⟩
  ·rw[if_neg c,<- e] at fin s1 s2;exact⟨⟨s1,Nat.lt_succ_of_lt s2⟩,⟨s1,Nat.lt_succ_of_lt s2⟩,by show(2:Nat)<=1000;decide,M',.refl _,fin⟩
def nV:DSp:=qB 40000 3 (IsF 24)
theorem aGs {x:Int}(h1:-10000000<=x)(h2:x<=10000000):Bd 24 x:=by unfold Bd;omega
theorem mG {z:Int}(h1:-10000000<=z)(h2:z<=10000000):IsF 24 (.tup [.int z,.int 1]):=⟨z,(aI3 z).symm,.int (aGs h1 h2) (by decide)⟩
theorem qJ {t b:Int}(h0:0<b)(h1:-10000000<=t)(h2:t<=10000000)(h3:b<=10000000):IsF 24 (FQ ((t:Rat)/(b:Rat))):=⟨_,rfl,.make (by omega) (aGs h1 h2) (aGs (by omega) h3)⟩
noncomputable abbrev pJ:Stmt:=top 54
theorem tI:aR ["_law_from","_law_way"] ["_law_from"] (aI pJ):=by ac_rfl
theorem yE (hF:cR K mg "_law_small" pJ ["_law_from"])(aW:Has P w K mg base 101 "_law_draw" ["_law_from","_law_many"] eG)(bH:Has P w K mg base 101 "_law_lowest" ["_law_top","_law_bottom"] dS):Has P w K mg base 102 "_law_small" ["_law_from"] nV:=by
 refine Has.mkZ hF tI qL λf cdv A outer s H ds M Q E hr h=>?_;obtain⟨a,n,rfl,fd,hn,q⟩:=h;refine⟨_,(aF (aN (i:=1) tI.nd (aE aW hr (by decide) (aA (aB 0) (aA aC aD))))
  (aF (bO (aX kM (aB 1) aC) (aH (aL (aY (aA (aJ hO (aE aW hr (by decide) (aA (aB 0) (aA aC aD))) aC) (aA aC aD))))) aZ)
  (aF (bO (aX kM (aB 1) aC) (aH (aL (aE bH hr (by decide) (aA (aJ hO (aE aW hr (by decide) (aA (aB 0) (aA aC aD))) aC) (aA (aJ fD aC (aE aW hr (by decide) (aA (aB 0) (aA aC aD)))) aD))))) aZ)
  (aH (aL (aE bH hr (by decide) (aA (aJ hO (aE aW hr (by decide) (aA (aB 0) (aA (aJ bG aC (aJ pL aC aC)) aD))) (aJ pL aC aC)) (aA (aJ fD aC (aE aW hr (by decide) (aA (aB 0) (aA (aJ pL aC aC) aD)))) aD)))))))),?_⟩
 refine⟨a,12,n,rfl,fd,by omega,by decide,bdk (by decide),λway M1 w0 w1 fd1 av1=>dif (λ_=>?_) (λ_=>?_)⟩
 ·refine⟨a,9,_,rfl,fd1,by omega,by decide,bdk (by decide),λr M2 r0 r1 fd2 av2=>?_⟩;exact⟨by show(2:Nat)<=1000;decide,M2,.refl _,q _ M2 (mG (by omega) (by omega)) (fd2.mono (by omega)) (av1.trans av2)⟩
 refine dif (λ_=>?_) (λ_=>?_)
 ·refine⟨a,41,_,rfl,fd1,by omega,by decide,bdk (by decide),λr M2 r0 r1 fd2 av2=>?_⟩;refine⟨a,12,_,rfl,fd2,by omega,by decide,bdk (by decide),λr' M3 s0 s1 fd3 av3=>?_⟩;exact⟨_,_,rfl,by omega,(aDK (by omega) (by omega)).mono (by decide),M3,.refl _,q _ M3 (qJ (by omega) (by omega) (by omega) (by omega)) (fd3.mono (by omega)) ((av1.trans av2).trans av3)⟩
 refine⟨⟨by decide,by decide,by decide⟩,aAj (by unfold Bd;decide),a,_,_,rfl,fd1,by omega,by decide,bdk (by decide),λr M2 r0 r1 fd2 av2=>?_⟩;have r1:r<2000000:=r1;refine⟨⟨by decide,by decide,by decide⟩,⟨by decide,by decide,by decide⟩,a,_,_,rfl,fd2,by omega,by decide,bdk (by decide),λr' M3 s0 s1 fd3 av3=>?_⟩;have s1:r'<10000:=s1;have e:((10:Int)^Int.toNat 6)=1000000:=by decide
 exact⟨_,_,rfl,by omega,(aDK (by omega) (by omega)).mono (by decide),M3,.refl _,q _ M3 (qJ (by omega) (by rw[e];omega) (by rw[e];omega) (by omega)) (fd3.mono (by omega)) ((av1.trans av2).trans av3)⟩
def hV:DSp:=qB 30000 6 (IsP 24)
noncomputable abbrev rX:Stmt:=top 55
theorem vB:aR ["_law_from","_law_x"] ["_law_from"] (aI rX):=by ac_rfl
theorem aAI (hF:cR K mg "_law_spot" rX ["_law_from"])(fW:Has P w K mg base 102 "_law_small" ["_law_from"] nV):Has P w K mg base 103 "_law_spot" ["_law_from"] hV:=by
 refine Has.mkZ hF vB qL λf cdv A outer s H ds M Q E hr h=>?_;obtain⟨a,n,rfl,fd,hn,q⟩:=h;refine⟨_,(aF (aN (i:=1) vB.nd (aE fW hr (by decide) (aA (aB 0) aD)))
  (aH (aL (aY (aA (aB 1) (aA (aE fW hr (by decide) (aA (aB 0) aD)) aD)))))),?_⟩
 refine⟨a,_,rfl,fd,by omega,λd M2 ⟨x,ex,hx⟩ fd2 av2=>⟨a,_,rfl,fd2,by omega,λd' M3 ⟨y,ey,hy⟩ fd3 av3=>?_⟩⟩;subst ex ey;exact⟨by show(2:Nat)<=1000;decide,M3,.refl _,q _ M3 ⟨x,y,rfl,hx,hy⟩ (fd3.mono (by omega)) (av2.trans av3)⟩
noncomputable def zs (z:Int)(p r:Rat):Rat:=if z=1 then p+r else p-r
theorem iW (p r:Rat):zs 1 p r=p+r:=rfl
theorem uJ (p r:Rat):zs (-1) p r=p-r:=rfl
def gY:DSp:=λds M Q=>∃p r z m n,ds=[FQ p,FQ r,.int z]/\(z=1∨z = -1)/\BQ m p/\BQ n r/\m+n<=8998/\Q (FQ (zs z p r)) M
noncomputable abbrev tU:Stmt:=top 56
theorem aCq:aR ["_law_one","_law_other","_law_by"] ["_law_one","_law_other","_law_by"] (aI tU):=by ac_rfl
theorem aBX (hF:cR K mg "_law_sum" tU ["_law_one","_law_other","_law_by"])(bH:Has P w K mg base 101 "_law_lowest" ["_law_top","_law_bottom"] dS):Has P w K mg base 102 "_law_sum" ["_law_one","_law_other","_law_by"] gY:=by
 refine Has.mkZ hF aCq (λds M Q ⟨x,y,z,m,n,e,_⟩=>by rw[e];rfl) λf cdv A outer s H ds M Q E hr h=>?_;obtain⟨p,r,z,m,n,rfl,hz,h1,h2,l,q⟩:=h;refine⟨_,(aH (aL (aE bH hr (by decide) (aA (aJ fD (aJ bG (aG (aB 0) aC) (aG (aB 1) aC)) (aJ bG (aJ bG (aB 2) (aG (aB 1) aC)) (aG (aB 0) aC))) (aA (aJ bG (aG (aB 0) aC) (aG (aB 1) aC)) aD))))),?_⟩;have hz':Bd 1 z:=by unfold Bd;rcases hz with rfl|rfl<;>decide
 refine⟨cB h1.1 h2.2 (by omega),cB hz' h2.1 (by omega),cB (hz'.mul h2.1) h1.2 (by omega),cB h1.2 h2.2 (by omega),_,_,rfl,Int.mul_ne_zero (cA p) (cA r),(h1.2.mul h2.2).mono (by omega),M,.refl _,?_⟩;have e:(((p.num*r.den+z*r.num*p.den:Int)):Rat)/((p.den*r.den:Int):Rat)=zs z p r:=by
  rcases hz with rfl|rfl
  ·rw[iW,<- aMH,Int.one_mul]
  ·rw[uJ,<- aNh,show p.num*(r.den:Int) + -1*r.num*p.den=p.num*r.den-r.num*p.den by grind]
 rw[e];exact q
theorem aIN {m n:Nat}{p r:Rat}{z:Int}(h:BQ m p)(h2:BQ n r):BQ (m+n+1) (zs z p r):=by
 unfold Lw.zs;split
 ·exact h.add h2
 ·exact h.sub h2
def fY:DSp:=λds M Q=>∃x y u v z m n,ds=[PQ x y,PQ u v,.int z]/\(z=1∨z = -1)/\BQ m x/\BQ m y/\BQ n u/\BQ n v/\m+n<=8998/\Q (PQ (zs z x u) (zs z y v)) M
noncomputable abbrev rO:Stmt:=top 58
theorem aB5:aR ["_law_p","_law_q","_law_by"] ["_law_p","_law_q","_law_by"] (aI rO):=by ac_rfl
theorem aAM (hF:cR K mg "_law_both" rO ["_law_p","_law_q","_law_by"])(cH:Has P w K mg base 102 "_law_sum" ["_law_one","_law_other","_law_by"] gY):Has P w K mg base 103 "_law_both" ["_law_p","_law_q","_law_by"] fY:=by refine Has.mkZ hF aB5 (λds M Q ⟨x,y,u,v,z,m,n,e,_⟩=>by rw[e];rfl) λf cdv A outer s H ds M Q E hr h=>?_;obtain⟨x,y,u,v,z,m,n,rfl,hz,h1,h2,h3,h4,l,q⟩:=h;refine⟨_,(aH (aL (aY (aA (aE cH hr (by decide) (aA (aG (aB 0) aC) (aA (aG (aB 1) aC) (aA (aB 2) aD)))) (aA (aE cH hr (by decide) (aA (aG (aB 0) aC) (aA (aG (aB 1) aC) (aA (aB 2) aD)))) aD))))),?_⟩;exact⟨x,u,z,_,_,rfl,hz,h1,h3,l,y,v,z,_,_,rfl,hz,h2,h4,l,by show(2:Nat)<=1000;decide,M,.refl _,q⟩
def iB:DSp:=jK
noncomputable abbrev lB:Stmt:=top 57
theorem wH:aR ["_law_one","_law_other"] ["_law_one","_law_other"] (aI lB):=by ac_rfl
theorem vJ (hF:cR K mg "_law_product" lB ["_law_one","_law_other"])(bH:Has P w K mg base 101 "_law_lowest" ["_law_top","_law_bottom"] dS):Has P w K mg base 102 "_law_product" ["_law_one","_law_other"] iB:=by refine Has.mkZ hF wH qO λf cdv A outer s H ds M Q E hr h=>?_;obtain⟨p,r,m,n,rfl,_,h1,h2,l,q⟩:=h;refine⟨_,(aH (aL (aE bH hr (by decide) (aA (aJ bG (aG (aB 0) aC) (aG (aB 1) aC)) (aA (aJ bG (aG (aB 0) aC) (aG (aB 1) aC)) aD))))),?_⟩;exact⟨cB h1.1 h2.1 (by omega),cB h1.2 h2.2 (by omega),_,_,rfl,Int.mul_ne_zero (cA p) (cA r),(h1.2.mul h2.2).mono (by omega),M,.refl _,by rw[aMP];exact q⟩
def pT:DSp:=λds M Q=>∃(ns:List Int)(k:Nat),ds=[.fz (ns.map D.int),.int (k:Int)]/\∀c:Int,Q (.int c) M
noncomputable abbrev lH:Stmt:=top 50
theorem wA:aR ["_law_script","_law_k"] ["_law_script","_law_k"] (aI lH):=by ac_rfl
theorem vG (hF:cR K mg "_law_cell_at" lH ["_law_script","_law_k"])(iH:mg "len" = none):Has P w K mg base 101 "_law_cell_at" ["_law_script","_law_k"] pT:=by
 refine Has.mkZ hF wA (λds M Q ⟨a,n,z,_⟩=>by rw[z];rfl) λf cdv A outer s H ds M Q E hr h=>?_;obtain⟨ns,k,rfl,q⟩:=h;refine⟨_,(aF (bO (aX kM (aB 1) (cO mN iH (aA (aB 0) aD))) (aH (aL (aG (aB 0) (aB 1)))) aZ)
  (aH (aL aC))),?_⟩
 ac_nf;show(λx M1=>_) _ _;refine dif (λc=>?_) (λc=>⟨M,.refl _,q 0⟩);have hk:k<(ns.map D.int).length:=by have:(k:Int)<((ns.map D.int).length:Int):=c;omega
 have hat:atI (ns.map D.int) (k:Int)=some (.int (ns[k]'(by simpa using hk))):=nX (by rw[getElem?_eq_getElem hk];simp);try dsimp only[mZ]
 rw[hat];exact⟨M,.refl _,q _⟩
def nQ:DSp:=mC
noncomputable abbrev pB:Stmt:=top 68
theorem nY:aR ["_law_p","_law_q","_law_one","_law_other"] ["_law_p","_law_q"] (aI pB):=by ac_rfl
theorem yK (hF:cR K mg "_law_first" pB ["_law_p","_law_q"])(aEV:mg "zip" = none):Has P w K mg base 101 "_law_first" ["_law_p","_law_q"] nQ:=by
 refine Has.mkZ hF nY (λds M Q ⟨x,y,u,v,e,_⟩=>by rw[e];rfl) λf cdv A outer s H ds M Q E hr h=>?_;obtain⟨x,y,u,v,rfl,h1,h2,h3,h4,q⟩:=h;refine⟨_,(aF (aEU PassesOwn.never rfl aEV (aA (aB 0) (aA (aB 1) aD)) (eD (n:=2) rfl (aU (aO (i:=2) nY.nd) (aU (aO (i:=3) nY.nd) dG))) (aH (bO (aX (uS hr) (aB 2) (aB 3)) (aH (aL (gI kM (aJ bG (aG (aB 2) aC) (aG (aB 3) aC)) (aJ bG (aG (aB 3) aC) (aG (aB 2) aC))))) aZ)))
  (aH (aL aAh))),?_⟩
 ac_nf;refine aL0 ?_;unfold bef at q;ac_nf;refine⟨rfl,?_⟩;simp_arith;by_cases c:x=u
 ·rw[if_neg (λz=>z c)];rw[if_pos c] at q;refine⟨trivial,?_⟩;simp_arith;by_cases d:y=v
  ·rw[if_neg (λz=>z d)];rw[decide_eq_false (by rw[d];exact Rat.lt_irrefl)] at q;exact⟨M,.refl _,q⟩
  ·rw[if_pos d];refine⟨cB h2.1 h4.2,cB h4.1 h2.2,M,.refl _,?_⟩;rw[show decide (y.num*(v.den:Int)<v.num*(y.den:Int))=decide (y<v) from decide_eq_decide.mpr (ltQ y v)];exact q
 ·rw[if_pos c];rw[if_neg c] at q;refine⟨cB h1.1 h3.2,cB h3.1 h1.2,M,.refl _,?_⟩;rw[show decide (x.num*(u.den:Int)<u.num*(x.den:Int))=decide (x<u) from decide_eq_decide.mpr (ltQ x u)];exact q
noncomputable abbrev Rp:=Rat×Rat
structure Rmp (S L:List Rp):Prop where
 sep:L.Pairwise λx y=>x.2<y.1∨y.2<x.1
 wf:∀x∈L,x.1<=x.2
 cov:∀s∈S,∃x∈L,x.1<=s.1/\s.2<=x.2
 st:∀x∈L,∃s∈S,s.1=x.1
 en:∀x∈L,∃s∈S,s.2=x.2
 gap:∀x∈L,∀t,x.1<=t->t<=x.2->∃s∈S,s.1<=t/\t<=s.2
noncomputable def rn (W:List Rp)(s:Rp):List Rp:=match W.getLast? with
 |none=>W++[s]
 |some l=>if l.2<s.1 then W++[s] else if l.2<s.2 then W.dropLast++[(l.1,s.2)] else W
structure Rn (S W:List Rp):Prop where
 c:Rmp S W
 asc:W.Pairwise λx y=>x.2<y.1
theorem Rn.step {S W:List Rp}(h:Rn S W){s:Rp}(ws:s.1<=s.2)(hs:∀x∈S,x.1<=s.1):Rn (S++[s]) (rn W s):=by
 have up:∀{x},x∈S->x∈S++[s]:=λh=>mem_append_left _ h;have sm:s∈S++[s]:=mem_append_right _ mem_cons_self;have sep:∀{U:List Rp},U.Pairwise (λx y=>x.2<y.1)->U.Pairwise λx y=>x.2<y.1∨y.2<x.1:=λh=>h.imp λh=>.inl h;rcases List.eq_nil_or_concat W with z|⟨V,l,z⟩
 ·have e:rn W s=[s]:=by rw[z];rfl
  rw[e];refine⟨⟨pairwise_singleton _ _,λx hx=>by rw[List.mem_singleton.mp hx];exact ws,λx hx=>?_,λx hx=>?_,λx hx=>?_,λx hx t a b=>?_⟩,pairwise_singleton _ _⟩
  ·rcases List.mem_append.mp hx with hx|hx
   ·obtain⟨y,hy,_⟩:=h.c.cov x hx;rw[z] at hy;cases hy
   ·rw[List.mem_singleton.mp hx];exact⟨s,mem_cons_self,Rat.le_refl,Rat.le_refl⟩
  ·rw[List.mem_singleton.mp hx];exact⟨s,sm,rfl⟩
  ·rw[List.mem_singleton.mp hx];exact⟨s,sm,rfl⟩
  ·rw[List.mem_singleton.mp hx] at a b;exact⟨s,sm,a,b⟩
 rw[List.concat_eq_append] at z;have gl:W.getLast?=some l:=by rw[z,List.getLast?_concat]
 have asc:=h.asc;rw[z,List.pairwise_append] at asc;obtain⟨av,_,avl⟩:=asc;have avl:∀x∈V,x.2<l.1:=λx hx=>avl x hx l mem_cons_self;have lW:l∈W:=by rw[z];exact mem_append_right _ mem_cons_self
 have vW:∀{x},x∈V->x∈W:=λhx=>by rw[z];exact mem_append_left _ hx
 have wl:=h.c.wf l lW;have ls:l.1<=s.1:=by obtain⟨x,hx,e⟩:=h.c.st l lW;rw[<- e];exact hs x hx
 have e:rn W s=if l.2<s.1 then W++[s] else if l.2<s.2 then W.dropLast++[(l.1,s.2)] else W:=by unfold rn;rw[gl]
 rw[e];by_cases c1:l.2<s.1
 ·rw[if_pos c1];have asc:(W++[s]).Pairwise λx y=>x.2<y.1:=List.pairwise_append.mpr ⟨h.asc,pairwise_singleton _ _,λx hx y hy=>by
   rw[List.mem_singleton.mp hy];rw[z] at hx;rcases List.mem_append.mp hx with hx|hx
   ·have:=avl x hx;grind
   ·rw[List.mem_singleton.mp hx];exact c1⟩
  refine⟨⟨sep asc,λx hx=>?_,λx hx=>?_,λx hx=>?_,λx hx=>?_,λx hx t a b=>?_⟩,asc⟩
  ·rcases List.mem_append.mp hx with hx|hx
   ·exact h.c.wf x hx
   ·rw[List.mem_singleton.mp hx];exact ws
  ·rcases List.mem_append.mp hx with hx|hx
   ·obtain⟨y,hy,q⟩:=h.c.cov x hx;exact⟨y,mem_append_left _ hy,q⟩
   ·exact⟨s,mem_append_right _ mem_cons_self,by rw[List.mem_singleton.mp hx];exact⟨Rat.le_refl,Rat.le_refl⟩⟩
  ·rcases List.mem_append.mp hx with hx|hx
   ·obtain⟨y,hy,q⟩:=h.c.st x hx;exact⟨y,up hy,q⟩
   ·rw[List.mem_singleton.mp hx];exact⟨s,sm,rfl⟩
  ·rcases List.mem_append.mp hx with hx|hx
   ·obtain⟨y,hy,q⟩:=h.c.en x hx;exact⟨y,up hy,q⟩
   ·rw[List.mem_singleton.mp hx];exact⟨s,sm,rfl⟩
  ·rcases List.mem_append.mp hx with hx|hx
   ·obtain⟨y,hy,q⟩:=h.c.gap x hx t a b;exact⟨y,up hy,q⟩
   ·rw[List.mem_singleton.mp hx] at a b;exact⟨s,sm,a,b⟩
 rw[if_neg c1];by_cases c2:l.2<s.2
 ·rw[if_pos c2,z,List.dropLast_concat];have lst:(l.1,s.2)∈V++[(l.1,s.2)]:=mem_append_right _ mem_cons_self;have asc:(V++[(l.1,s.2)]).Pairwise (λx y=>x.2<y.1):=List.pairwise_append.mpr ⟨av,pairwise_singleton _ _,λx hx y hy=>by rw[List.mem_singleton.mp hy];exact avl x hx⟩;refine⟨⟨sep asc,λx hx=>?_,λx hx=>?_,λx hx=>?_,λx hx=>?_,λx hx t a b=>?_⟩,asc⟩
  ·rcases List.mem_append.mp hx with hx|hx
   ·exact h.c.wf x (vW hx)
   ·rw[List.mem_singleton.mp hx];show l.1<=s.2;grind
  ·rcases List.mem_append.mp hx with hx|hx
   ·obtain⟨y,hy,q⟩:=h.c.cov x hx;rw[z] at hy;rcases List.mem_append.mp hy with hy|hy
    ·exact⟨y,mem_append_left _ hy,q⟩
    ·rw[List.mem_singleton.mp hy] at q;exact⟨_,lst,q.1,by show x.2<=s.2;grind⟩
   ·rw[List.mem_singleton.mp hx];exact⟨_,lst,ls,Rat.le_refl⟩
  ·rcases List.mem_append.mp hx with hx|hx
   ·obtain⟨y,hy,q⟩:=h.c.st x (vW hx);exact⟨y,up hy,q⟩
   ·obtain⟨y,hy,q⟩:=h.c.st l lW;rw[List.mem_singleton.mp hx];exact⟨y,up hy,q⟩
  ·rcases List.mem_append.mp hx with hx|hx
   ·obtain⟨y,hy,q⟩:=h.c.en x (vW hx);exact⟨y,up hy,q⟩
   ·rw[List.mem_singleton.mp hx];exact⟨s,sm,rfl⟩
  ·rcases List.mem_append.mp hx with hx|hx
   ·obtain⟨y,hy,q⟩:=h.c.gap x (vW hx) t a b;exact⟨y,up hy,q⟩
   ·rw[List.mem_singleton.mp hx] at a b;have a:l.1<=t:=a;have b:t<=s.2:=b;by_cases d:t<=l.2
    ·obtain⟨y,hy,q⟩:=h.c.gap l lW t a d;exact⟨y,up hy,q⟩
    ·exact⟨s,sm,by grind,b⟩
 ·rw[if_neg c2];refine⟨⟨h.c.sep,h.c.wf,λx hx=>?_,λx hx=>?_,λx hx=>?_,λx hx t a b=>?_⟩,h.asc⟩
  ·rcases List.mem_append.mp hx with hx|hx
   ·exact h.c.cov x hx
   ·rw[List.mem_singleton.mp hx];exact⟨l,lW,ls,by grind⟩
  ·obtain⟨y,hy,q⟩:=h.c.st x hx;exact⟨y,up hy,q⟩
  ·obtain⟨y,hy,q⟩:=h.c.en x hx;exact⟨y,up hy,q⟩
  ·obtain⟨y,hy,q⟩:=h.c.gap x hx t a b;exact⟨y,up hy,q⟩
theorem Rn.nil:Rn [] []:=⟨⟨.nil,(λ_ h=>by cases h),(λ_ h=>by cases h),(λ_ h=>by cases h),(λ_ h=>by cases h),(λ_ h=>by cases h)⟩,.nil⟩
theorem aIJ:∀{S:List Rp}{pre W:List Rp},Rn pre W->(∀s∈S,s.1<=s.2)->S.Pairwise (λa b=>a.1<=b.1)->(∀x∈pre,∀s∈S,x.1<=s.1)->Rn (pre++S) (S.foldl rn W)
 |[],pre,W,h,_,_,_=>by rw[append_nil];exact h
 |s::S,pre,W,h,wf,so,hp=>by
  obtain⟨s1,s2⟩:=List.pairwise_cons.mp so;have:=aIJ (S:=S) (h.step (wf s mem_cons_self) λx hx=>hp x hx s mem_cons_self) (λx hx=>wf x (mem_cons_of_mem _ hx)) s2 λx hx y hy=>by
   rcases List.mem_append.mp hx with hx|hx
   ·exact hp x hx y (mem_cons_of_mem _ hy)
   ·rw[List.mem_singleton.mp hx];exact s1 y hy
  rw[append_assoc] at this;exact this
theorem aGI:∀(S W:List Rp),(S.foldl rn W).length<=W.length+S.length
 |[],W=>Nat.le_refl _
 |s::S,W=>by
  have:=aGI S (rn W s);have:(rn W s).length<=W.length+1:=by
   unfold rn;split
   ·rw[length_append];exact Nat.le_refl _
   ·split
    ·rw[length_append];exact Nat.le_refl _
    ·split
     ·rw[length_append,List.length_dropLast];show _+1<=_;omega
     ·omega
  rw[foldl_cons,length_cons];omega
theorem Rmp.of_mem {S S' L:List Rp}(h:Rmp S L)(e:∀s,s∈S↔s∈S'):Rmp S' L :=
 ⟨h.sep,h.wf,λs hs=>h.cov s ((e s).mpr hs),λx hx=>by obtain⟨s,hs,z⟩:=h.st x hx;exact⟨s,(e s).mp hs,z⟩,λx hx=>by obtain⟨s,hs,z⟩:=h.en x hx;exact⟨s,(e s).mp hs,z⟩,λx hx t a b=>by obtain⟨s,hs,z⟩:=h.gap x hx t a b;exact⟨s,(e s).mp hs,z⟩⟩
theorem Rmp.pts {S L:List Rp}(h:Rmp S L)(t:Rat):(∃x∈L,x.1<=t/\t<=x.2) ↔ ∃s∈S,s.1<=t/\t<=s.2:=by
 constructor
 ·rintro⟨x,hx,a,b⟩;exact h.gap x hx t a b
 ·rintro⟨s,hs,a,b⟩;obtain⟨x,hx,c,d⟩:=h.cov s hs;exact⟨x,hx,by grind,by grind⟩
theorem aMy {R:Rp->Rp->Prop}(sy:∀x y,R x y->R y x){L:List Rp}(h:L.Pairwise R){x y:Rp}(hx:x∈L)(hy:y∈L)(ne:x≠y):R x y:=by
 induction L with
 |nil=>cases hx
 |cons a L ih =>
  obtain⟨h1,h2⟩:=List.pairwise_cons.mp h;rcases List.mem_cons.mp hx with e1|e1<;>rcases List.mem_cons.mp hy with e2|e2
  ·exact absurd (e1.trans e2.symm) ne
  ·rw[e1];exact h1 y e2
  ·rw[e2];exact sy _ _ (h1 x e1)
  ·exact ih h2 e1 e2
theorem Rmp.ne {S L:List Rp}(h:Rmp S L){x y:Rp}(hx:x∈L)(hy:y∈L)(ne:x≠y):x.2<y.1∨y.2<x.1:=aMy (R:=λx y=>x.2<y.1∨y.2<x.1) (λ_ _ h=>h.symm) h.sep hx hy ne
theorem Rmp.long {S L:List Rp}(h:Rmp S L)(hS:∀s∈S,s.1<s.2):∀x∈L,x.1<x.2:=λx hx=>by
 obtain⟨s,hs,e⟩:=h.st x hx;obtain⟨y,hy,a,b⟩:=h.cov s hs;have:=hS s hs;have wx:=h.wf x hx;have wy:=h.wf y hy;by_cases d:x=y
 ·rw[d] at e ⊢;grind
 ·rcases h.ne hx hy d with f|f<;>grind
theorem Rmp.nodup {S L:List Rp}(h:Rmp S L):L.Nodup:=by
 have sep:=h.sep;have w:=h.wf;clear h
 induction L with
 |nil=>exact nodup_nil
 |cons x L ih =>
  obtain⟨h1,h2⟩:=List.pairwise_cons.mp sep;refine List.nodup_cons.mpr ⟨λhx=>?_,ih h2 λy hy=>w y (mem_cons_of_mem _ hy)⟩;have:=w x mem_cons_self;rcases h1 x hx with c|c<;>grind
noncomputable def wrr:Rat->List Rp->Rat×List Rp
 |e,[]=>(e,[])
 |e,x::xs=>if x.1<=e then wrr (if e<x.2 then x.2 else e) xs else (e,x::xs)
theorem aKW {e:Rat}{x:Rp}{xs:List Rp}(h:x.1<=e):wrr e (x::xs)=wrr (if e<x.2 then x.2 else e) xs:=if_pos h
theorem aEM {e:Rat}{x:Rp}{xs:List Rp}(h:¬x.1<=e):wrr e (x::xs)=(e,x::xs):=if_neg h
structure aML (e0:Rat)(V:List Rp)(e:Rat)(V':List Rp):Prop where
 low:e0<=e
 sub:∀x∈V',x∈V
 pw:V'.Pairwise λx y=>x.2<y.1
 cov:∀x∈V,x∈V'∨(x.1<=e/\x.2<=e)
 fill:∀g,g<=e->g<=e0 ∨ ∃x∈V,x.1<=g/\g<=x.2
 up:∀x∈V',e<x.1
 is:e=e0 ∨ ∃x∈V,e=x.2
 len:V'.length<=V.length
theorem aCA:∀(V:List Rp)(e0:Rat),V.Pairwise (λx y=>x.2<y.1)->(∀x∈V,x.1<=x.2)->aML e0 V (wrr e0 V).1 (wrr e0 V).2
 |[],e0,_,_=>⟨Rat.le_refl,λ_ h=>h,.nil,(λ_ h=>by cases h),λg h=>.inl h,(λ_ h=>by cases h),.inl rfl,Nat.le_refl _⟩
 |x::xs,e0,p,wf=>by
  obtain⟨p1,p2⟩:=List.pairwise_cons.mp p;unfold wrr;by_cases c:x.1<=e0
  ·rw[if_pos c];have h:=aCA xs (if e0<x.2 then x.2 else e0) p2 λy hy=>wf y (mem_cons_of_mem _ hy);generalize wrr (if e0<x.2 then x.2 else e0) xs=r at h ⊢;have hm:e0<=(if e0<x.2 then x.2 else e0)/\x.2<=(if e0<x.2 then x.2 else e0):=by split<;>constructor<;>grind
   have he:(if e0<x.2 then x.2 else e0)=e0∨(if e0<x.2 then x.2 else e0)=x.2:=by split<;>simp
   generalize (if e0<x.2 then x.2 else e0)=e1 at h hm he;have low:=h.low;refine⟨by grind,λy hy=>mem_cons_of_mem _ (h.sub y hy),h.pw,λy hy=>?_,λg hg=>?_,h.up,?_,Nat.le_succ_of_le h.len⟩
   ·rcases List.mem_cons.mp hy with e|e
    ·rw[e];exact .inr ⟨by grind,by grind⟩
    ·exact h.cov y e
   ·rcases h.fill g hg with z|⟨y,hy,z⟩
    ·by_cases d:g<=e0
     ·exact .inl d
     ·refine .inr ⟨x,mem_cons_self,by grind,?_⟩;rcases he with q|q
      ·grind
      ·rw[<- q];exact z
    ·exact .inr ⟨y,mem_cons_of_mem _ hy,z⟩
   ·rcases h.is with z|⟨y,hy,z⟩
    ·rcases he with q|q
     ·exact .inl (z.trans q)
     ·exact .inr ⟨x,mem_cons_self,z.trans q⟩
    ·exact .inr ⟨y,mem_cons_of_mem _ hy,z⟩
  ·rw[if_neg c];refine⟨Rat.le_refl,λ_ h=>h,p,λy hy=>.inl hy,λg h=>.inl h,λy hy=>?_,.inl rfl,Nat.le_refl _⟩;rcases List.mem_cons.mp hy with e|e
   ·rw[e];grind
   ·have:=p1 y e;have:=wf x mem_cons_self;show e0<y.1;grind
def onA (y:Rp)(p:Rat):Prop:=if y.1<y.2 then y.1<=p/\p<=y.2 else y.1<=p∨p<=y.2
noncomputable def oB (V:List Rp)(l:Rp):Option (List Rp) :=
 if l.2<3 then some (V++[l]) else if (wrr (l.2-3) V).2=[]/\l.1<=(wrr (l.2-3) V).1 then none else some ((wrr (l.2-3) V).2++[(l.1,(wrr (l.2-3) V).1)])
structure aJR (V:List Rp)(l:Rp):Prop where
 asc:(V++[l]).Pairwise λx y=>x.2<y.1
 lo:∀x∈V++[l],0<=x.1/\x.1<x.2/\x.1<3
 hi:l.2<6
def aEx (V:List Rp)(l:Rp)(p:Rat):Prop:=(∃x∈V++[l],x.1<=p/\p<=x.2)∨p+3<=l.2
theorem aC4 {V:List Rp}{l:Rp}(h:aJR V l)(e:oB V l=none):∀p,0<=p->p<3->aEx V l p:=by
 unfold oB at e;by_cases c:l.2<3
 ·rw[if_pos c] at e;cases e
 ·rw[if_neg c] at e;have w:=aCA V (l.2-3) (List.pairwise_append.mp h.asc).1 λx hx=>Rat.le_of_lt (h.lo x (mem_append_left _ hx)).2.1;generalize wrr (l.2-3) V=r at e w;by_cases d:r.2=[]/\l.1<=r.1
  ·intro g g0 gm;by_cases q:l.1<=g
   ·exact .inl ⟨l,mem_append_right _ mem_cons_self,q,by grind⟩
   ·have d2:=d.2;rcases w.fill g (by grind) with z|⟨x,hx,z⟩
    ·exact .inr (by grind)
    ·exact .inl ⟨x,mem_append_left _ hx,z⟩
  ·rw[if_neg d] at e;cases e
structure NfR (V:List Rp)(l:Rp)(F:List Rp):Prop where
 bd:∀y∈F,(0<=y.1/\y.1<3)/\(0<=y.2/\y.2<3)/\y.1≠y.2
 pts:∀p,0<=p->p<3->(aEx V l p ↔ ∃y∈F,onA y p)
 sep:∀y∈F,∀z∈F,y≠z->∀p,0<=p->p<3->¬(onA y p/\onA z p)
 nd:(F.map (·.1)).Nodup
 st:∀y∈F,∃x∈V++[l],x.1=y.1
 en:∀y∈F,∃x∈V++[l],x.2=y.2∨x.2=y.2+3
 one:∀x∈V++[l],∃y∈F,∀p,0<=p->p<3->((x.1<=p/\p<=x.2)∨p+3<=x.2)->onA y p
 off:∃p,0<=p/\p<3/\¬aEx V l p
 len:F.length<=V.length+1
theorem aCQ {V F:List Rp}{l:Rp}(h:aJR V l)(e:oB V l=some F):NfR V l F:=by
 obtain⟨pV,_,pl⟩:=List.pairwise_append.mp h.asc;have ml:l∈V++[l]:=mem_append_right _ mem_cons_self;have pl:∀x∈V,x.2<l.1:=λx hx=>pl x hx l mem_cons_self;have lV:∀x∈V,0<=x.1/\x.1<x.2/\x.1<3:=λx hx=>h.lo x (mem_append_left _ hx);have ll:=h.lo l ml;have hi:=h.hi;have pwn:∀{R:Rp->Rp->Prop}{L:List Rp},(∀x y,R x y->R y x)->L.Pairwise R->∀{x y},x∈L->y∈L->x≠y->R x y:=λ{R L} sy hp x y hx hy ne=>by
  induction L with
  |nil=>cases hx
  |cons a L ih =>
   obtain⟨h1,h2⟩:=List.pairwise_cons.mp hp;rcases List.mem_cons.mp hx with e1|e1<;>rcases List.mem_cons.mp hy with e2|e2
   ·exact absurd (e1.trans e2.symm) ne
   ·rw[e1];exact h1 y e2
   ·rw[e2];exact sy _ _ (h1 x e1)
   ·exact ih h2 e1 e2
 have nd:∀{L:List Rp},L.Pairwise (λx y=>x.1<y.1)->(L.map (·.1)).Nodup:=λh=>by unfold Nodup;rw[pairwise_map];exact h.imp λ{a b} h=>by show a.1≠b.1;grind
 unfold oB at e;by_cases c:l.2<3
 ·rw[if_pos c] at e;cases e;have bd:∀x∈V++[l],x.2<3:=λx hx=>by
   rcases List.mem_append.mp hx with z|z
   ·have:=pl x z;grind
   ·rw[List.mem_singleton.mp z];exact c
  have oa:∀x∈V++[l],∀p,onA x p↔x.1<=p/\p<=x.2:=λx hx p=>by unfold onA;rw[if_pos (h.lo x hx).2.1]
  refine⟨λy hy=>?_,λp p0 p1=>?_,λy hy z hz ne p p0 p1=>?_,nd (List.Pairwise.imp_of_mem (λ{a b} ha hb z=>by have:=(h.lo a ha).2.1;grind) h.asc),λy hy=>⟨y,hy,rfl⟩,λy hy=>⟨y,hy,.inl rfl⟩,λx hx=>⟨x,hx,λp p0 p1 z=>?_⟩,⟨(l.2+3)/2,by grind,by grind,λz=>?_⟩,by rw[length_append];exact Nat.le_refl _⟩
  ·have h1:=h.lo y hy;have h2:=bd y hy;exact⟨⟨h1.1,h1.2.2⟩,⟨by grind,h2⟩,by grind⟩
  ·constructor
   ·rintro(⟨x,hx,z⟩|z)
    ·exact⟨x,hx,(oa x hx p).mpr z⟩
    ·exact absurd c (by grind)
   ·rintro⟨x,hx,z⟩;exact .inl ⟨x,hx,(oa x hx p).mp z⟩
  ·rw[oa y hy,oa z hz];have:=pwn (R:=λx y=>x.2<y.1∨y.2<x.1) (λ_ _ h=>h.symm) (h.asc.imp λh=>.inl h) hy hz ne;rintro⟨a,b⟩;grind
  ·rcases z with z|z
   ·exact(oa x hx p).mpr z
   ·have:=bd x hx;exact absurd this (by grind)
  ·rcases z with⟨x,hx,z⟩|z
   ·rcases List.mem_append.mp hx with y|y
    ·have:=pl x y;grind
    ·rw[List.mem_singleton.mp y] at z;grind
   ·grind
 ·rw[if_neg c] at e;have w:=aCA V (l.2-3) pV λx hx=>Rat.le_of_lt (lV x hx).2.1;generalize wrr (l.2-3) V=r at e w;by_cases d:r.2=[]/\l.1<=r.1
  ·rw[if_pos d] at e;cases e
  rw[if_neg d] at e;cases e;obtain⟨E,W⟩:=r;dsimp only at w d ⊢;have eW:E<l.1:=by
   cases W with
   |nil=>exact Rat.not_le.mp λz=>d ⟨rfl,z⟩
   |cons x xs =>
    have h1:=w.up x mem_cons_self;have h2:=pl x (w.sub x mem_cons_self);have h3:=lV x (w.sub x mem_cons_self);grind
  have wl:=w.low;have lW:∀x∈W,0<=x.1/\x.1<x.2/\x.1<3/\x.2<l.1/\E<x.1:=λx hx=>by have h1:=lV x (w.sub x hx);have h2:=pl x (w.sub x hx);exact⟨h1.1,h1.2.1,h1.2.2,h2,w.up x hx⟩
  have E0:0<=E:=by grind
  have oW:∀x∈W,∀p,onA x p↔x.1<=p/\p<=x.2:=λx hx p=>by unfold onA;rw[if_pos (lW x hx).2.1]
  have oL:∀p,onA (l.1,E) p↔l.1<=p∨p<=E:=λp=>by unfold onA;rw[if_neg (show ¬l.1<E by grind)]
  have mL:(l.1,E)∈W++[(l.1,E)]:=mem_append_right _ mem_cons_self;have cv:∀g,0<=g->g<3->(aEx V l g↔g<=E∨(∃x∈W,x.1<=g/\g<=x.2)∨l.1<=g):=λg g0 gm=>by
   constructor
   ·rintro(⟨x,hx,z⟩|z)
    ·rcases List.mem_append.mp hx with hx|hx
     ·rcases w.cov x hx with y|y
      ·exact .inr (.inl ⟨x,y,z⟩)
      ·exact .inl (by grind)
     ·rw[List.mem_singleton.mp hx] at z;exact .inr (.inr z.1)
    ·exact .inl (by grind)
   ·rintro(z|⟨x,hx,z⟩|z)
    ·rcases w.fill g z with y|⟨x,hx,y⟩
     ·exact .inr (by grind)
     ·exact .inl ⟨x,mem_append_left _ hx,y⟩
    ·exact .inl ⟨x,mem_append_left _ (w.sub x hx),z⟩
    ·exact .inl ⟨l,ml,z,by grind⟩
  refine⟨λy hy=>?_,λp p0 p1=>?_,λy hy z hz ne p p0 p1=>?_,?_,λy hy=>?_,λy hy=>?_,λx hx=>?_,?_,?_⟩
  ·rcases List.mem_append.mp hy with hy|hy
   ·have:=lW y hy;exact⟨⟨this.1,this.2.2.1⟩,⟨by grind,by grind⟩,by grind⟩
   ·rw[List.mem_singleton.mp hy];exact⟨⟨ll.1,ll.2.2⟩,⟨E0,by show E<3;grind⟩,by show l.1≠E;grind⟩
  ·rw[cv p p0 p1];constructor
   ·rintro(z|⟨x,hx,z⟩|z)
    ·exact⟨_,mL,(oL p).mpr (.inr z)⟩
    ·exact⟨x,mem_append_left _ hx,(oW x hx p).mpr z⟩
    ·exact⟨_,mL,(oL p).mpr (.inl z)⟩
   ·rintro⟨y,hy,z⟩;rcases List.mem_append.mp hy with hy|hy
    ·exact .inr (.inl ⟨y,hy,(oW y hy p).mp z⟩)
    ·rw[List.mem_singleton.mp hy] at z;exact((oL p).mp z).elim (λz=>.inr (.inr z)) .inl
  ·rcases List.mem_append.mp hy with hy|hy<;>rcases List.mem_append.mp hz with hz|hz
   ·rw[oW y hy,oW z hz];have:=pwn (R:=λx y=>x.2<y.1∨y.2<x.1) (λ_ _ h=>h.symm) (w.pw.imp λh=>.inl h) hy hz ne;rintro⟨a,b⟩;grind
   ·rw[List.mem_singleton.mp hz,oW y hy,oL];have:=lW y hy;rintro⟨a,b⟩;grind
   ·rw[List.mem_singleton.mp hy,oW z hz,oL];have:=lW z hz;rintro⟨a,b⟩;grind
   ·exact absurd ((List.mem_singleton.mp hy).trans (List.mem_singleton.mp hz).symm) ne
  ·refine nd (List.pairwise_append.mpr ⟨List.Pairwise.imp_of_mem (λ{a b} ha hb z=>by have:=(lW a ha).2.1;grind) w.pw,pairwise_singleton _ _,λx hx y hy=>?_⟩);rw[List.mem_singleton.mp hy];have:=lW x hx;show x.1<l.1;grind
  ·rcases List.mem_append.mp hy with hy|hy
   ·exact⟨y,mem_append_left _ (w.sub y hy),rfl⟩
   ·rw[List.mem_singleton.mp hy];exact⟨l,ml,rfl⟩
  ·rcases List.mem_append.mp hy with hy|hy
   ·exact⟨y,mem_append_left _ (w.sub y hy),.inl rfl⟩
   ·rw[List.mem_singleton.mp hy];rcases w.is with z|⟨x,hx,z⟩
    ·exact⟨l,ml,.inr (by show l.2=E+3;grind)⟩
    ·exact⟨x,mem_append_left _ hx,.inl z.symm⟩
  ·rcases List.mem_append.mp hx with hx|hx
   ·rcases w.cov x hx with y|y
    ·refine⟨x,mem_append_left _ y,λp p0 p1 z=>(oW x y p).mpr ?_⟩;have:=lW x y;rcases z with z|z
     ·exact z
     ·grind
    ·refine⟨_,mL,λp p0 p1 z=>(oL p).mpr (.inr ?_)⟩;have:=pl x hx;rcases z with z|z<;>grind
   ·rw[List.mem_singleton.mp hx];refine⟨_,mL,λp p0 p1 z=>(oL p).mpr ?_⟩;rcases z with z|z
    ·exact .inl z.1
    ·exact .inr (by grind)
  ·cases hW:W with
   |nil =>
    refine⟨(E+l.1)/2,by grind,by grind,λz=>?_⟩;rcases (cv _ (by grind) (by grind)).mp z with z|⟨x,hx,z⟩|z
    ·grind
    ·rw[hW] at hx;cases hx
    ·grind
   |cons x xs =>
    have hx:x∈W:=by rw[hW];exact mem_cons_self
    have h1:=lW x hx;refine⟨(E+x.1)/2,by grind,by grind,λz=>?_⟩;rcases (cv _ (by grind) (by grind)).mp z with z|⟨y,hy,z⟩|z
    ·grind
    ·rw[hW] at hy;rcases List.mem_cons.mp hy with e|e
     ·rw[e] at z;grind
     ·have pw:=w.pw;rw[hW] at pw;have:=(List.pairwise_cons.mp pw).1 y e;grind
    ·grind
  ·rw[length_append];have:=w.len;show _+1<=_;omega
noncomputable def lJ (t:Rat):Rat:=if t<0 then 3+t/(1-t) else t/(1+t)
noncomputable def phi (x y p q:Rat):Rat:=if SS x y p q=0 then 1 else lJ (LL x y p q/SS x y p q)
theorem aDH {t x y:Rat}(h0:¬(x=0/\y=0)):phi x y (cJ t x y) (cI t x y)=lJ t:=by obtain⟨a,b⟩:=xC (t:=t) h0;have a':SS x y (cJ t x y) (cI t x y)≠0:=a;have b':LL x y (cJ t x y) (cI t x y)/SS x y (cJ t x y) (cI t x y)=t:=b;unfold phi;rw[if_neg a',b']
theorem aHt {x y:Rat}:phi x y (-x) (-y)=1:=by
 have:SS x y (-x) (-y)=0:=by unfold SS;grind
 unfold phi;rw[if_pos this]
theorem jC {t:Rat}(h:0<=t):lJ t=t/(1+t)/\0<=lJ t/\lJ t<1:=by
 have e:lJ t=t/(1+t):=by unfold lJ;rw[if_neg (by grind)]
 have d:0<1+t:=by grind
 have k:t/(1+t)*(1+t)=t:=by grind
 rw[e];refine⟨rfl,?_,?_⟩
 ·rcases (show 0<=t/(1+t)∨t/(1+t)<0 by grind) with c|c
  ·exact c
  ·have:=Rat.mul_pos (show 0 < -(t/(1+t)) by grind) d;grind
 ·rcases (show t/(1+t)<1∨1<=t/(1+t) by grind) with c|c
  ·exact c
  ·have:=Rat.mul_nonneg (show 0<=t/(1+t)-1 by grind) (Rat.le_of_lt d);grind
theorem jF {t:Rat}(h:t<0):lJ t=3+t/(1-t)/\2<lJ t/\lJ t<3:=by
 have e:lJ t=3+t/(1-t):=by unfold lJ;rw[if_pos h]
 have d:0<1-t:=by grind
 have k:t/(1-t)*(1-t)=t:=by grind
 rw[e];refine⟨rfl,?_,?_⟩
 ·rcases (show -1<t/(1-t)∨t/(1-t)<=-1 by grind) with c|c
  ·grind
  ·have:=Rat.mul_nonneg (show 0<=-1-t/(1-t) by grind) (Rat.le_of_lt d);grind
 ·rcases (show t/(1-t)<0∨0<=t/(1-t) by grind) with c|c
  ·grind
  ·have:=Rat.mul_nonneg c (Rat.le_of_lt d);grind
theorem aG6 {s t:Rat}(hs:0<=s)(ht:0<=t):s/(1+s)<t/(1+t)↔s<t:=by
 have d1:0<1+s:=by grind
 have d2:0<1+t:=by grind
 have e:(t/(1+t)-s/(1+s))*((1+s)*(1+t))=t-s:=by grind
 have dd:=Rat.mul_pos d1 d2;generalize t/(1+t)=T at *;generalize s/(1+s)=S at *;constructor
 ·intro h;have:=Rat.mul_pos (show 0<T-S by grind) dd;grind
 ·intro h;rcases (show S<T∨T-S<=0 by grind) with c|c
  ·exact c
  ·have:=Rat.mul_nonneg (show 0<=-(T-S) by grind) (Rat.le_of_lt dd);grind
theorem aEG {s t:Rat}(hs:s<0)(ht:t<0):s/(1-s)<t/(1-t)↔s<t:=by
 have d1:0<1-s:=by grind
 have d2:0<1-t:=by grind
 have e:(t/(1-t)-s/(1-s))*((1-s)*(1-t))=t-s:=by grind
 have dd:=Rat.mul_pos d1 d2;generalize t/(1-t)=T at *;generalize s/(1-s)=S at *;constructor
 ·intro h;have:=Rat.mul_pos (show 0<T-S by grind) dd;grind
 ·intro h;rcases (show S<T∨T-S<=0 by grind) with c|c
  ·exact c
  ·have:=Rat.mul_nonneg (show 0<=-(T-S) by grind) (Rat.le_of_lt dd);grind
theorem nZ {s t:Rat}:lJ s<lJ t↔((s<0↔t<0)/\s<t)∨(0<=s/\t<0):=by
 by_cases c1:s<0
 ·obtain⟨e1,a1,b1⟩:=jF c1;by_cases c2:t<0
  ·obtain⟨e2,a2,b2⟩:=jF c2;have:=aEG c1 c2;rw[e1,e2];constructor
   ·intro h;exact .inl ⟨⟨λ_=>c2,λ_=>c1⟩,this.mp (by grind)⟩
   ·rintro(⟨_,h⟩|⟨h,_⟩)
    ·have:=this.mpr h;grind
    ·grind
  ·obtain⟨e2,a2,b2⟩:=jC (t:=t) (by grind);constructor
   ·intro h;grind
   ·rintro(⟨h,_⟩|⟨h,_⟩)
    ·exact absurd (h.mp c1) c2
    ·grind
 ·obtain⟨e1,a1,b1⟩:=jC (t:=s) (by grind);by_cases c2:t<0
  ·obtain⟨e2,a2,b2⟩:=jF c2;exact⟨λ_=>.inr ⟨by grind,c2⟩,λ_=>by grind⟩
  ·obtain⟨e2,a2,b2⟩:=jC (t:=t) (by grind);have:=aG6 (show 0<=s by grind) (show 0<=t by grind);rw[e1,e2,this];constructor
   ·intro h;exact .inl ⟨⟨λz=>absurd z c1,λz=>absurd z c2⟩,h⟩
   ·rintro(⟨_,h⟩|⟨_,h⟩)
    ·exact h
    ·exact absurd h c2
theorem aHh (t r u x y:Rat):bD (cJ t x y) (cI t x y) (cJ r x y) (cI r x y) (cJ u x y) (cI u x y)*((1+t*t)*(1+r*r)*(1+u*u))=((r-t)*(u-t)*(u-r))*(4*(x*x+y*y)):=by
 have a1:uu t*(1+t*t)=1-t*t:=by have:=dZ t;unfold uu;grind
 have a2:vv t*(1+t*t)=t+t:=by have:=dZ t;unfold vv;grind
 have b1:uu r*(1+r*r)=1-r*r:=by have:=dZ r;unfold uu;grind
 have b2:vv r*(1+r*r)=r+r:=by have:=dZ r;unfold vv;grind
 have c1:uu u*(1+u*u)=1-u*u:=by have:=dZ u;unfold uu;grind
 have c2:vv u*(1+u*u)=u+u:=by have:=dZ u;unfold vv;grind
 have e:bD (cJ t x y) (cI t x y) (cJ r x y) (cI r x y) (cJ u x y) (cI u x y)=(x*x+y*y)*((uu r-uu t)*(vv u-vv t)-(vv r-vv t)*(uu u-uu t)):=by unfold bD cJ cI;grind
 rw[e];generalize uu t=ut at *;generalize vv t=vt at *;generalize uu r=ur at *;generalize vv r=vr at *;generalize uu u=uu' at *;generalize vv u=vu at *;have k:((ur-ut)*(vu-vt)-(vr-vt)*(uu'-ut))*((1+t*t)*(1+r*r)*(1+u*u))=(ur*(1+r*r))*(vu*(1+u*u))*(1+t*t)-(ur*(1+r*r))*(vt*(1+t*t))*(1+u*u)-(ut*(1+t*t))*(vu*(1+u*u))*(1+r*r)-(vr*(1+r*r))*(uu'*(1+u*u))*(1+t*t)+(vr*(1+r*r))*(ut*(1+t*t))*(1+u*u)+(vt*(1+t*t))*(uu'*(1+u*u))*(1+r*r):=by grind
 have k2:((ur-ut)*(vu-vt)-(vr-vt)*(uu'-ut))*((1+t*t)*(1+r*r)*(1+u*u))=4*((r-t)*(u-t)*(u-r)):=by rw[k,a1,a2,b1,b2,c1,c2];grind
 grind
theorem aAv (t r x y:Rat):bD (cJ t x y) (cI t x y) (cJ r x y) (cI r x y) (-x) (-y)*((1+t*t)*(1+r*r))=(r-t)*(4*(x*x+y*y)):=by
 have a1:uu t*(1+t*t)=1-t*t:=by have:=dZ t;unfold uu;grind
 have a2:vv t*(1+t*t)=t+t:=by have:=dZ t;unfold vv;grind
 have b1:uu r*(1+r*r)=1-r*r:=by have:=dZ r;unfold uu;grind
 have b2:vv r*(1+r*r)=r+r:=by have:=dZ r;unfold vv;grind
 have e:bD (cJ t x y) (cI t x y) (cJ r x y) (cI r x y) (-x) (-y)=(x*x+y*y)*((uu r-uu t)*(0-vv t)-(vv r-vv t)*(-1-uu t)):=by unfold bD cJ cI;grind
 rw[e];generalize uu t=ut at *;generalize vv t=vt at *;generalize uu r=ur at *;generalize vv r=vr at *;have k2:((ur-ut)*(0-vt)-(vr-vt)*(-1-ut))*((1+t*t)*(1+r*r))=4*(r-t):=by
  have:((ur-ut)*(0-vt)-(vr-vt)*(-1-ut))*((1+t*t)*(1+r*r)) = -(ur*(1+r*r))*(vt*(1+t*t))+(vr*(1+r*r))*(1+t*t)-(vt*(1+t*t))*(1+r*r)+(vr*(1+r*r))*(ut*(1+t*t)):=by grind
  rw[this,a1,a2,b1,b2];grind
 grind
theorem mS {a k F G:Rat}(e:a*F=k*G)(hF:0<F)(hG:0<G)(hk:0<k):0<a:=by
 have:=Rat.mul_pos hk hG;rcases (show 0<a∨a<=0 by grind) with c|c
 ·exact c
 ·have:=Rat.mul_nonneg (show 0<=-a by grind) (Rat.le_of_lt hF);grind
def OnR (x y p q:Rat):Prop:=p*p+q*q=x*x+y*y
theorem gE (a b c d e f:Rat):bD a b c d e f=bD c d e f a b/\bD a b c d e f = -bD c d a b e f:=by unfold bD;constructor<;>grind
theorem sq1 (t:Rat):0<1+t*t:=by have:=qA t;grind
theorem nE {x y p q:Rat}(h0:¬(x=0/\y=0))(hc:OnR x y p q):(p = -x/\q = -y/\phi x y p q=1) ∨ ∃t,p=cJ t x y/\q=cI t x y/\phi x y p q=lJ t:=by
 rcases aDU h0 hc with⟨_,rfl,rfl⟩|⟨_,t,_,rfl,rfl⟩
 ·exact .inl ⟨rfl,rfl,aHt⟩
 ·exact .inr ⟨t,rfl,rfl,aDH h0⟩
theorem aBO (t:Rat):lJ t≠1:=by
 rcases (show t<0∨0<=t by grind) with c|c
 ·have:=(jF c).2;grind
 ·have:=(jC c).2;grind
theorem aFt {s t:Rat}(h:lJ s=lJ t):s=t:=by have h1:=nZ (s:=s) (t:=t);have h2:=nZ (s:=t) (t:=s);by_cases c1:s<0<;>by_cases c2:t<0<;>grind
theorem sE {x y p q u v:Rat}(h0:¬(x=0/\y=0))(hc:OnR x y p q)(hd:OnR x y u v)(h:phi x y p q=phi x y u v):p=u/\q=v:=by
 rcases nE h0 hc with⟨rfl,rfl,e1⟩|⟨t,rfl,rfl,e1⟩<;>rcases nE h0 hd with⟨rfl,rfl,e2⟩|⟨r,rfl,rfl,e2⟩
 ·exact⟨rfl,rfl⟩
 ·rw[e1,e2] at h;exact absurd h.symm (aBO r)
 ·rw[e1,e2] at h;exact absurd h (aBO t)
 ·rw[e1,e2] at h;rw[aFt h];exact⟨rfl,rfl⟩
theorem xF {x y p1 q1 p2 q2 p3 q3:Rat}(h0:¬(x=0/\y=0))(h1:OnR x y p1 q1)(h2:OnR x y p2 q2)(h3:OnR x y p3 q3)(l1:phi x y p1 q1<phi x y p2 q2)(l2:phi x y p2 q2<phi x y p3 q3):0<bD p1 q1 p2 q2 p3 q3:=by
 have hN:0<4*(x*x+y*y):=by have:=aBg h0;grind
 rcases nE h0 h1 with⟨rfl,rfl,e1⟩|⟨t1,rfl,rfl,e1⟩<;>rcases nE h0 h2 with⟨rfl,rfl,e2⟩|⟨t2,rfl,rfl,e2⟩<;>rcases nE h0 h3 with⟨rfl,rfl,e3⟩|⟨t3,rfl,rfl,e3⟩<;>(try rw[e1] at l1)<;>(try rw[e2] at l1)<;>(try rw[e2] at l2)<;>(try rw[e3] at l2)
 ·grind
 ·grind
 ·grind
 ·-- opp,t2<t3<0
  have n2:t2<0:=by
   rcases (show t2<0∨0<=t2 by grind) with c|c
   ·exact c
   ·have:=(jC c).2;grind
  have:=nZ.mp l2;rw[(gE _ _ _ _ _ _).1];exact mS (aAv t2 t3 x y) (Rat.mul_pos (sq1 t2) (sq1 t3)) hN (by grind)
 ·grind
 ·-- 0<=t1,opp,t3<0
  have n1:0<=t1:=by
   rcases (show t1<0∨0<=t1 by grind) with c|c
   ·have:=(jF c).2;grind
   ·exact c
  have n3:t3<0:=by
   rcases (show t3<0∨0<=t3 by grind) with c|c
   ·exact c
   ·have:=(jC c).2;grind
  rw[<- (gE _ _ _ _ _ _).1];exact mS (aAv t3 t1 x y) (Rat.mul_pos (sq1 t3) (sq1 t1)) hN (by grind)
 ·-- 0<=t1<t2,opp
  have n2:0<=t2:=by
   rcases (show t2<0∨0<=t2 by grind) with c|c
   ·have:=(jF c).2;grind
   ·exact c
  have:=nZ.mp l1;exact mS (aAv t1 t2 x y) (Rat.mul_pos (sq1 t1) (sq1 t2)) hN (by grind)
 ·have m1:=nZ.mp l1;have m2:=nZ.mp l2;have m3:=nZ.mp (show lJ t1<lJ t3 by grind);have mm:∀{a b:Rat},0<a->0<b->0<a*b:=λh1 h2=>Rat.mul_pos h1 h2;refine mS (aHh t1 t2 t3 x y) (Rat.mul_pos (Rat.mul_pos (sq1 t1) (sq1 t2)) (sq1 t3)) hN ?_;by_cases c1:t1<0
  ·have:t1<t2/\t2<t3:=by grind
   exact mm (mm (by grind) (by grind)) (by grind)
  ·by_cases c2:t2<0
   ·have h:=mm (mm (show 0 < -(t2-t1) by grind) (show 0 < -(t3-t1) by grind)) (show 0<t3-t2 by grind);grind
   ·by_cases c3:t3<0
    ·have h:=mm (mm (show 0<t2-t1 by grind) (show 0 < -(t3-t1) by grind)) (show 0 < -(t3-t2) by grind);grind
    ·exact mm (mm (by grind) (by grind)) (by grind)
theorem aEf {x y p q u v:Rat}(h0:¬(x=0/\y=0))(hc:OnR x y p q)(hd:OnR x y u v):gP x y p q u v=decide (phi x y p q<phi x y u v):=by
 have id0:x=cJ 0 x y/\y=cI 0 x y:=by have:=(aCZ (t:=0) h0).mpr rfl;exact⟨this.1.symm,this.2.symm⟩
 have p0:phi x y x y=0:=by have e:=aDH (t:=0) h0;rw[<- id0.1,<- id0.2] at e;rw[e];unfold lJ;rw[if_neg (by grind)];grind
 have nn:∀{a b:Rat},OnR x y a b->0<=phi x y a b:=λ{a b} h=>by
  rcases nE h0 h with⟨_,_,e⟩|⟨t,_,_,e⟩
  ·rw[e];grind
  ·rw[e];rcases (show t<0∨0<=t by grind) with c|c
   ·have:=(jF c).2;grind
   ·exact(jC c).2.1
 unfold gP;by_cases c:p=x/\q=y
 ·rw[if_pos c,c.1,c.2,p0];by_cases d:u=x/\v=y
  ·rw[decide_eq_true d,d.1,d.2,p0,decide_eq_false (by grind)];rfl
  ·rw[decide_eq_false d];have h1:=nn hd;have h2:phi x y u v≠0:=λz=>d (sE h0 hd rfl (z.trans p0.symm));rw[decide_eq_true (by grind)];rfl
 ·rw[if_neg c];have hx:OnR x y x y:=rfl;have h1:=nn hc;have n1:phi x y p q≠0:=λz=>c (sE h0 hc hx (z.trans p0.symm));have l0:phi x y x y<phi x y p q:=by rw[p0];grind
  have k:sgn (bD x y p q u v)=1↔phi x y p q<phi x y u v:=by
   rw[tE];constructor
   ·intro h;rcases (show phi x y p q<phi x y u v∨phi x y p q=phi x y u v∨phi x y u v<phi x y p q by grind) with z|z|z
    ·exact z
    ·obtain⟨e1,e2⟩:=sE h0 hc hd z;subst e1 e2;have:bD x y p q p q=0:=by unfold bD;grind
     grind
    ·by_cases d:u=x/\v=y
     ·rw[d.1,d.2] at h;have:bD x y p q x y=0:=by unfold bD;grind
      grind
     ·have n2:phi x y u v≠0:=λz=>d (sE h0 hd hx (z.trans p0.symm));have:=xF h0 hx hd hc (by rw[p0];have:=nn hd;grind) z;have e:bD x y p q u v = -bD x y u v p q:=by unfold bD;grind
      grind
   ·intro h;exact xF h0 hx hc hd l0 h
  exact decide_eq_decide.mpr k
structure Ar where
 X:Rat->D
 R:Rat->Prop
def Ar.Ok (c:Ar):Prop:=∀s t,c.R s->c.R t->c.X s=c.X t->s=t
noncomputable def Ar.lt (c:Ar)(x y:D):Bool:=@decide (∃s t,c.R s/\c.R t/\x=c.X s/\y=c.X t/\s<t) (Classical.propDecidable _)
def Ar.dom (c:Ar)(d:D):Prop:=∃t,c.R t/\d=c.X t
noncomputable def Ar.s3 (c:Ar)(s:Rp):S3:=⟨c.X s.1,c.X s.2,.non⟩
def Ar.In (c:Ar)(s:Rp):Prop:=c.R s.1/\c.R s.2
theorem Ar.lt_eq {c:Ar}(h:c.Ok){s t:Rat}(hs:c.R s)(ht:c.R t):c.lt (c.X s) (c.X t)=decide (s<t):=by
 unfold Ar.lt;by_cases l:s<t
 ·rw[decide_eq_true l];exact @decide_eq_true _ (Classical.propDecidable _) ⟨s,t,hs,ht,rfl,rfl,l⟩
 ·rw[decide_eq_false l];exact @decide_eq_false _ (Classical.propDecidable _) λ⟨a,b,ha,hb,e1,e2,z⟩=>l (by rw[h _ _ hs ha e1,h _ _ ht hb e2];exact z)
theorem aEl {R:Rp->Prop}(hR:∀a b,R a->R b->R (a.1,b.2)):∀{W:List Rp}{s:Rp},(∀x∈W,R x)->R s->∀x∈rn W s,R x:=λ{W s} hW hs x hx=>by
 unfold rn at hx;split at hx
 ·rcases List.mem_append.mp hx with z|z
  ·exact hW x z
  ·rw[List.mem_singleton.mp z];exact hs
 ·rename_i l e;have hl:R l:=hW l (List.mem_of_getLast? e);split at hx
  ·rcases List.mem_append.mp hx with z|z
   ·exact hW x z
   ·rw[List.mem_singleton.mp z];exact hs
  ·split at hx
   ·rcases List.mem_append.mp hx with z|z
    ·exact hW x (List.dropLast_subset _ z)
    ·rw[List.mem_singleton.mp z];exact hR _ _ hl hs
   ·exact hW x hx
theorem Ar.jst1 {c:Ar}(h:c.Ok){W:List Rp}{s:Rp}(hW:∀x∈W,c.In x)(hs:c.In s):jst c.lt (W.map c.s3) (c.s3 s)=(rn W s).map c.s3:=by
 unfold jst rn;rw[List.getLast?_map];cases e:W.getLast? with
 |none=>rw[Option.map_none];dsimp only;rw[map_append];rfl
 |some l =>
  rw[Option.map_some];dsimp only;have hl:=hW l (List.mem_of_getLast? e);have e1:c.lt (c.s3 l).b (c.s3 s).a=decide (l.2<s.1):=Ar.lt_eq h hl.2 hs.1;have e2:c.lt (c.s3 l).b (c.s3 s).b=decide (l.2<s.2):=Ar.lt_eq h hl.2 hs.2;by_cases c1:l.2<s.1
  ·rw[if_pos (e1.trans (decide_eq_true c1)),if_pos c1,map_append];rfl
  ·rw[if_neg (λz=>c1 (of_decide_eq_true (e1.symm.trans z))),if_neg c1];by_cases c2:l.2<s.2
   ·rw[if_pos (e2.trans (decide_eq_true c2)),if_pos c2,map_append,List.map_dropLast];rfl
   ·rw[if_neg (λz=>c2 (of_decide_eq_true (e2.symm.trans z))),if_neg c2]
theorem Ar.jsp1 {c:Ar}(h:c.Ok):∀(S W:List Rp),(∀x∈S,c.In x)->(∀x∈W,c.In x)->(S.map c.s3).foldl (jst c.lt) (W.map c.s3)=(S.foldl rn W).map c.s3/\∀x∈S.foldl rn W,c.In x
 |[],W,_,hW=>⟨rfl,hW⟩
 |s::S,W,hS,hW=>by rw[map_cons,foldl_cons,foldl_cons,Ar.jst1 h hW (hS s mem_cons_self)];exact Ar.jsp1 h S (rn W s) (λx hx=>hS x (mem_cons_of_mem _ hx)) (aEl (λa b ha hb=>⟨ha.1,hb.2⟩) hW (hS s mem_cons_self))
theorem Ar.ltOk {c:Ar}(h:c.Ok):aHK c.dom c.lt where
 asym:=λx y ⟨s,hs,e1⟩ ⟨t,ht,e2⟩ z=>by subst e1 e2;rw[Ar.lt_eq h hs ht] at z;rw[Ar.lt_eq h ht hs];have z:=of_decide_eq_true z;exact decide_eq_false (by grind)
 tr:=λx y z ⟨s,hs,e1⟩ ⟨t,ht,e2⟩ ⟨r,hr,e3⟩ a b=>by subst e1 e2 e3;rw[Ar.lt_eq h ht hs] at a;rw[Ar.lt_eq h hr ht] at b;rw[Ar.lt_eq h hr hs];have a:=of_decide_eq_false a;have b:=of_decide_eq_false b;exact decide_eq_false (by grind)
theorem Ar.joined {c:Ar}(h:c.Ok){S:List Rp}(hR:∀s∈S,c.In s)(wf:∀s∈S,s.1<=s.2){zs:List S3}(pm:zs.Perm (S.map c.s3))(so:aCu c.lt (zs.map s3D)):∃J,Rn S J/\jsp c.lt zs=J.map c.s3/\J.length<=S.length/\∀x∈J,c.In x:=by
 obtain⟨Z,rfl,pz⟩:=oG pm.symm S rfl;have hZ:∀s∈Z,c.In s:=λs hs=>hR s (pz.mem_iff.mpr hs);have so':Z.Pairwise λa b=>a.1<=b.1:=by unfold aCu at so;rw[pairwise_map,pairwise_map] at so;refine List.Pairwise.imp_of_mem (λ{a b} ha hb z=>?_) so;have z:c.lt (c.X b.1) (c.X a.1)=false:=z;rw[Ar.lt_eq h (hZ b hb).1 (hZ a ha).1] at z;have:=of_decide_eq_false z;grind
 have lz:=aGI Z [];have lp:=pz.length_eq;have ln:([]:List Rp).length=0:=rfl;have g:=aIJ Rn.nil (λs hs=>wf s (pz.mem_iff.mpr hs)) so' λx hx=>by cases hx
 rw[List.nil_append] at g;obtain⟨j1,j2⟩:=Ar.jsp1 h Z [] hZ λx hx=>by cases hx
 exact⟨Z.foldl rn [],⟨g.c.of_mem λs=>pz.symm.mem_iff,g.asc⟩,j1,by omega,j2⟩
theorem gG {M M':DM}(s:bK M M'){b:AK}(h:M' b=none):M b=none:=by
 cases e:M b with
 |none=>rfl
 |some o=>rw[s _ _ e] at h;cases h
noncomputable def g3 (a b d:Int):Int:=(Int.gcd (Int.gcd a b:Int) d:Int)
noncomputable def sg3 (a b d:Int):Int:=if a<0∨(a=0/\b<0) then -g3 a b d else g3 a b d
noncomputable def nlD (a b d:Int):D:=.tup [.str "line",.int (a.fdiv (sg3 a b d)),.int (b.fdiv (sg3 a b d)),.int (d.fdiv (sg3 a b d))]
noncomputable def lnD (A B C:Rat):D:=nlD (A.num*(B.den:Int)*(C.den:Int)) (B.num*(A.den:Int)*(C.den:Int)) (C.num*(A.den:Int)*(B.den:Int))
theorem aJC (a b d:Int):g3 a b d∣a/\g3 a b d∣b/\g3 a b d∣d:=by unfold g3;have h1:=Int.gcd_dvd_left (Int.gcd a b:Int) d;exact⟨Int.dvd_trans h1 (Int.gcd_dvd_left a b),Int.dvd_trans h1 (Int.gcd_dvd_right a b),Int.gcd_dvd_right _ d⟩
theorem aKx {a b d:Int}(h:¬(a=0/\b=0)):0<g3 a b d:=by unfold g3;have:Int.gcd (Int.gcd a b:Int) d≠0:=λz=>h (Int.gcd_eq_zero_iff.mp (by have:=(Int.gcd_eq_zero_iff.mp z).1;omega));omega
theorem aCB {a b d:Int}(h:¬(a=0/\b=0)):sg3 a b d≠0:=by have:=aKx (d:=d) h;unfold sg3;split<;>omega
theorem aAr (a b d:Int):sg3 a b d∣a/\sg3 a b d∣b/\sg3 a b d∣d:=by
 obtain⟨h1,h2,h3⟩:=aJC a b d;unfold sg3;split
 ·exact⟨Int.neg_dvd.mpr h1,Int.neg_dvd.mpr h2,Int.neg_dvd.mpr h3⟩
 ·exact⟨h1,h2,h3⟩
theorem aJK {a b d:Int}{n:Nat}(h:¬(a=0/\b=0))(ha:Bd n a)(hb:Bd n b):Bd n (sg3 a b d):=by
 obtain⟨h1,h2,_⟩:=aAr a b d;by_cases z:a=0
 ·exact Bd.dvd hb h2 (λy=>h ⟨z,y⟩)
 ·exact Bd.dvd ha h1 z
theorem aJE (k a b d:Int):g3 (k*a) (k*b) (k*d)=k.natAbs*g3 a b d:=by
 unfold g3;rw[Int.gcd_mul_left];have e:((k.natAbs*Int.gcd a b:Nat):Int)=(k.natAbs:Int)*(Int.gcd a b:Int):=by simp
 rw[e];have e2:Int.gcd ((k.natAbs:Int)*(Int.gcd a b:Int)) (k*d)=Int.gcd ((k.natAbs:Int)*(Int.gcd a b:Int)) ((k.natAbs:Int)*d):=by
  rcases Int.natAbs_eq k with z|z
  ·rw[<- z]
  ·have:k*d = -((k.natAbs:Int)*d):=by rw[<- Int.neg_mul,<- z]
   rw[this,Int.gcd_neg]
 rw[e2,Int.gcd_mul_left];simp
theorem aHD {k a b d:Int}(hk:k≠0)(h:¬(a=0/\b=0)):sg3 (k*a) (k*b) (k*d)=k*sg3 a b d:=by
 unfold sg3;rw[aJE];have za:k*a=0↔a=0:=by
  constructor
  ·intro z;exact(Int.mul_eq_zero.mp z).resolve_left hk
  ·rintro rfl;simp
 rcases Int.lt_or_lt_of_ne hk with neg|pos
 ·have e:(k.natAbs:Int) = -k:=by omega
  have na:∀z:Int,k*z<0↔0<z:=λz=>by
   constructor
   ·intro q;rcases Int.lt_trichotomy z 0 with c|c|c
    ·have:=Int.mul_pos_of_neg_of_neg neg c;omega
    ·subst c;omega
    ·exact c
   ·intro q;exact Int.mul_neg_of_neg_of_pos neg q
  rw[e];by_cases c:a<0∨(a=0/\b<0)
  ·rw[if_pos c,if_neg]
   ·grind
   ·rw[na,na,za];omega
  ·rw[if_neg c,if_pos]
   ·grind
   ·rw[na,na,za];omega
 ·have e:(k.natAbs:Int)=k:=by omega
  have na:∀z:Int,k*z<0↔z<0:=λz=>by
   constructor
   ·intro q;rcases Int.lt_trichotomy z 0 with c|c|c
    ·exact c
    ·subst c;omega
    ·have:=Int.mul_pos pos c;omega
   ·intro q;exact Int.mul_neg_of_pos_of_neg pos q
  rw[e];by_cases c:a<0∨(a=0/\b<0)
  ·rw[if_pos c,if_pos]
   ·grind
   ·rw[na,na,za];exact c
  ·rw[if_neg c,if_neg];rw[na,na,za];exact c
theorem aDr {k a b d:Int}(hk:k≠0)(h:¬(a=0/\b=0)):nlD (k*a) (k*b) (k*d)=nlD a b d:=by
 have c:∀{z:Int},sg3 a b d∣z->(k*z).fdiv (k*sg3 a b d)=z.fdiv (sg3 a b d):=λ{z} hz=>by rw[Int.fdiv_eq_ediv_of_dvd (Int.mul_dvd_mul_left k hz),Int.fdiv_eq_ediv_of_dvd hz];obtain⟨q,rfl⟩:=hz;have s0:=aCB (d:=d) h;rw[<- Int.mul_assoc,Int.mul_ediv_cancel_left _ (Int.mul_ne_zero hk s0),Int.mul_ediv_cancel_left _ s0]
 obtain⟨h1,h2,h3⟩:=aAr a b d;unfold nlD;rw[aHD hk h,c h1,c h2,c h3]
theorem yR {A B C l:Rat}(hl:l≠0)(h:¬(A=0/\B=0)):lnD (l*A) (l*B) (l*C)=lnD A B C:=by
 unfold lnD;generalize ha:A.num*(B.den:Int)*(C.den:Int)=a;generalize hb:B.num*(A.den:Int)*(C.den:Int)=b;generalize hd:C.num*(A.den:Int)*(B.den:Int)=d;generalize ha':(l*A).num*((l*B).den:Int)*((l*C).den:Int)=a';generalize hb':(l*B).num*((l*A).den:Int)*((l*C).den:Int)=b';generalize hd':(l*C).num*((l*A).den:Int)*((l*B).den:Int)=d';have dA:=iR A;have dB:=iR B;have dC:=iR C;have eA:∀X Y Z:Rat,((X.num*(Y.den:Int)*(Z.den:Int):Int):Rat)=X*(((X.den:Int):Rat)*((Y.den:Int):Rat)*((Z.den:Int):Rat)):=λX Y Z=>by rw[Rat.intCast_mul,Rat.intCast_mul,dH X];grind
 have a1:(a:Rat)=A*(((A.den:Int):Rat)*((B.den:Int):Rat)*((C.den:Int):Rat)):=by rw[<- ha];exact eA A B C
 have b1:(b:Rat)=B*(((A.den:Int):Rat)*((B.den:Int):Rat)*((C.den:Int):Rat)):=by rw[<- hb,eA B A C];grind
 have d1:(d:Rat)=C*(((A.den:Int):Rat)*((B.den:Int):Rat)*((C.den:Int):Rat)):=by rw[<- hd,eA C A B];grind
 have a2:(a':Rat)=l*A*((((l*A).den:Int):Rat)*(((l*B).den:Int):Rat)*(((l*C).den:Int):Rat)):=by rw[<- ha'];exact eA _ _ _
 have b2:(b':Rat)=l*B*((((l*A).den:Int):Rat)*(((l*B).den:Int):Rat)*(((l*C).den:Int):Rat)):=by rw[<- hb',eA];grind
 have d2:(d':Rat)=l*C*((((l*A).den:Int):Rat)*(((l*B).den:Int):Rat)*(((l*C).den:Int):Rat)):=by rw[<- hd',eA];grind
 have q0:((A.den:Int)*(B.den:Int)*(C.den:Int))≠0:=Int.mul_ne_zero (Int.mul_ne_zero (cA A) (cA B)) (cA C);have q1:(((l*A).den:Int)*((l*B).den:Int)*((l*C).den:Int))≠0:=Int.mul_ne_zero (Int.mul_ne_zero (cA _) (cA _)) (cA _);have ln:l.num≠0:=λz=>hl (kE.mp z);have cross:∀{p p':Int}{X:Rat},(p:Rat)=X*(((A.den:Int):Rat)*((B.den:Int):Rat)*((C.den:Int):Rat))->(p':Rat)=l*X*((((l*A).den:Int):Rat)*(((l*B).den:Int):Rat)*(((l*C).den:Int):Rat)) ->
   ((l.den:Int)*((A.den:Int)*(B.den:Int)*(C.den:Int)))*p'=(l.num*(((l*A).den:Int)*((l*B).den:Int)*((l*C).den:Int)))*p:=λ{p p' X} e1 e2=>by
  rw[<- Rat.intCast_inj];simp only[Rat.intCast_mul];rw[e1,e2,dH l];grind
 have nz:¬(a=0/\b=0):=by
  rintro⟨z1,z2⟩;have zz:(((A.den:Int):Rat)*((B.den:Int):Rat)*((C.den:Int):Rat))≠0:=by have m:∀{p q:Rat},p≠0->q≠0->p*q≠0:=λhp hq z=>(Rat.mul_eq_zero.mp z).elim hp hq;exact m (m dA dB) dC
  rw[z1] at a1;rw[z2] at b1;exact h ⟨(Rat.mul_eq_zero.mp a1.symm).resolve_right zz,(Rat.mul_eq_zero.mp b1.symm).resolve_right zz⟩
 have k1:((l.den:Int)*((A.den:Int)*(B.den:Int)*(C.den:Int)))≠0:=Int.mul_ne_zero (cA l) q0;have k2:(l.num*(((l*A).den:Int)*((l*B).den:Int)*((l*C).den:Int)))≠0:=Int.mul_ne_zero ln q1;have nz':¬(a'=0/\b'=0):=by rintro⟨z1,z2⟩;have e1:=cross a1 a2;have e2:=cross b1 b2;rw[z1,Int.mul_zero] at e1;rw[z2,Int.mul_zero] at e2;exact nz ⟨(Int.mul_eq_zero.mp e1.symm).resolve_left k2,(Int.mul_eq_zero.mp e2.symm).resolve_left k2⟩
 rw[<- aDr k1 nz',cross a1 a2,cross b1 b2,cross d1 d2,aDr k2 nz]
def kZ:DSp:=λds M Q=>∃a b d,ds=[.int a,.int b,.int d]/\¬(a=0/\b=0)/\Bd 8999 a/\Bd 8999 b/\Q (nlD a b d) M
noncomputable abbrev nU:Stmt:=top 26
theorem kY:aR ["a","b","d","shared"] ["a","b","d"] (aI nU):=by ac_rfl
theorem wX (hF:cR K mg "plain_line" nU ["a","b","d"])(bJ:Has P w K mg base 101 "greatest_divisor" ["one","other"] eP):Has P w K mg base 102 "plain_line" ["a","b","d"] kZ:=by
 refine Has.mkZ hF kY (λds M Q ⟨a,b,d,e,_⟩=>by rw[e];rfl) λf cdv A outer s H ds M Q E hr h=>?_;obtain⟨a,b,d,rfl,nz,ba,bb,q⟩:=h;refine⟨_,(aF (aN (i:=3) kY.nd (aE bJ hr (by decide) (aA (aE bJ hr (by decide) (aA (aB 0) (aA (aB 1) aD))) (aA (aB 2) aD))))
  (aF (bO (pG (aC2 (aX kM (aB 0) aC) (zV (pG (jS (aX (dD hr) (aB 0) aC) (jE (aX kM (aB 1) aC))))))) (aH (aN (i:=3) kY.nd (cZ (aB 3)))) aZ)
  (aH (aL (aY (aA cU (aA (aJ eO (aB 0) (aB 3)) (aA (aJ eO (aB 1) (aB 3)) (aA (aJ eO (aB 2) (aB 3)) aD))))))))),?_⟩
 have s0:=aCB (d:=d) nz;have sb:=(aJK (d:=d) nz ba bb).log (by decide);have ok:∀z:Int,CFd z (sg3 a b d):=λz=>⟨s0,Nat.lt_succ_of_lt sb⟩;unfold nlD at q;ac_nf;refine⟨_,_,rfl,_,_,rfl,?_⟩;unfold sg3 g3 at q ok;ac_nf;refine dif (λc=>?_) (λc=>?_)
 ·refine ifT rfl ?_;rw[if_pos (.inl c)] at q ok;exact⟨ok _,ok _,ok _,by decide,M,.refl _,q⟩
 ·rw[dL];by_cases e:a=0
  ·refine ifT (decide_eq_true e) ?_;ac_nf;refine dif (λc2=>?_) (λc2=>?_)
   ·rw[if_pos (.inr ⟨e,c2⟩)] at q ok;exact⟨ok _,ok _,ok _,by decide,M,.refl _,q⟩
   ·rw[if_neg (λz=>z.elim c λz=>c2 z.2)] at q ok;exact⟨ok _,ok _,ok _,by decide,M,.refl _,q⟩
  ·refine ifF (decide_eq_false e) ?_;refine ifF rfl ?_;rw[if_neg (λz=>z.elim c λz=>e z.1)] at q ok;exact⟨ok _,ok _,ok _,by decide,M,.refl _,q⟩
noncomputable def kS (x y u v:Rat):D:=lnD (v-y) (x-u) ((v-y)*x+(x-u)*y)
def aAz:DSp:=λds M Q=>∃x y u v,ds=[PQ x y,PQ u v]/\¬(x=u/\y=v)/\BQ 400 x/\BQ 400 y/\BQ 400 u/\BQ 400 v/\Q (kS x y u v) M
theorem aLL {p r:Rat}{m n:Nat}{M:DM}{Q:DQ}(h1:BQ m p)(h2:BQ n r)(l:m+n<=8998)(q:Q (FQ (p-r)) M):mB [FQ p,FQ r] M Q:=⟨_,_,_,_,rfl,trivial,h1,h2,l,q⟩
theorem aNf {p r:Rat}{m n:Nat}{M:DM}{Q:DQ}(h1:BQ m p)(h2:BQ n r)(l:m+n<=8998)(q:Q (FQ (p*r)) M):jK [FQ p,FQ r] M Q:=⟨_,_,_,_,rfl,trivial,h1,h2,l,q⟩
theorem aMQ {p r:Rat}{m n:Nat}{M:DM}{Q:DQ}(h1:BQ m p)(h2:BQ n r)(l:m+n<=8998)(q:Q (FQ (p+r)) M):kW [FQ p,FQ r] M Q:=⟨_,_,_,_,rfl,trivial,h1,h2,l,q⟩
theorem aN9 {a b d:Int}{M:DM}{Q:DQ}(nz:¬(a=0/\b=0))(ba:Bd 8999 a)(bb:Bd 8999 b)(q:Q (nlD a b d) M):kZ [.int a,.int b,.int d] M Q:=⟨_,_,_,rfl,nz,ba,bb,q⟩
noncomputable abbrev aCg:Stmt:=top 25
theorem vQ:aR ["p","q","a","b","d"] ["p","q"] (aI aCg):=by ac_rfl
theorem aFs (hF:cR K mg "line" aCg ["p","q"])(fC:Has P w K mg base 103 "minus" ["one","other"] mB)(eI:Has P w K mg base 102 "plus" ["one","other"] kW)(cT:Has P w K mg base 102 "times" ["one","other"] jK)(nK:Has P w K mg base 102 "plain_line" ["a","b","d"] kZ):Has P w K mg base 104 "line" ["p","q"] aAz:=by
 refine Has.mkZ hF vQ (λds M Q ⟨x,y,u,v,e,_⟩=>by rw[e];rfl) λf cdv A outer s H ds M Q E hr h=>?_;obtain⟨x,y,u,v,rfl,ne,h1,h2,h3,h4,q⟩:=h;refine⟨_,(aF (bO (aX (dD hr) (aB 0) (aB 1)) (aH zN) aZ)
  (aF (aN (i:=2) vQ.nd (aE fC hr (by decide) (aA (aG (aB 1) aC) (aA (aG (aB 0) aC) aD))))
  (aF (aN (i:=3) vQ.nd (aE fC hr (by decide) (aA (aG (aB 0) aC) (aA (aG (aB 1) aC) aD))))
  (aF (aN (i:=4) vQ.nd (aE eI hr (by decide) (aA (aE cT hr (by decide) (aA (aB 2) (aA (aG (aB 0) aC) aD))) (aA (aE cT hr (by decide) (aA (aB 3) (aA (aG (aB 0) aC) aD))) aD))))
  (aH (aL (aE nK hr (by decide) (aA (aJ bG (aJ bG (aG (aB 2) aC) (aG (aB 3) aC)) (aG (aB 4) aC)) (aA (aJ bG (aJ bG (aG (aB 3) aC) (aG (aB 2) aC)) (aG (aB 4) aC)) (aA (aJ bG (aJ bG (aG (aB 4) aC) (aG (aB 2) aC)) (aG (aB 3) aC)) aD)))))))))),?_⟩
 ac_nf;rw[mI];refine ifF (decide_eq_false ne) ?_;have bA:=h4.sub h2;have bB:=h1.sub h3;have bC:=(bA.mul h1).add (bB.mul h2);refine aLL h4 h2 (by decide) ?_;ac_nf;refine aLL h1 h3 (by decide) ?_;ac_nf;refine aNf bA h1 (by decide) (aNf bB h2 (by decide) (aMQ (bA.mul h1) (bB.mul h2) (by decide) ?_));ac_nf;have nz:¬((v-y).num*((x-u).den:Int)*(((v-y)*x+(x-u)*y).den:Int)=0/\(x-u).num*((v-y).den:Int)*(((v-y)*x+(x-u)*y).den:Int)=0):=by rintro⟨z1,z2⟩;have e1:=kE.mp (((Int.mul_eq_zero.mp ((Int.mul_eq_zero.mp z1).resolve_right (cA _))).resolve_right (cA _)));have e2:=kE.mp (((Int.mul_eq_zero.mp ((Int.mul_eq_zero.mp z2).resolve_right (cA _))).resolve_right (cA _)));exact ne ⟨by grind,by grind⟩
 refine⟨cB bA.1 bB.2,cB (bA.1.mul bB.2) bC.2,cB bB.1 bA.2,cB (bB.1.mul bA.2) bC.2,cB bC.1 bA.2,cB (bC.1.mul bA.2) bB.2,aN9 nz (((bA.1.mul bB.2).mul bC.2).mono (by decide)) (((bB.1.mul bA.2).mul bC.2).mono (by decide)) ⟨M,.refl _,q⟩⟩
theorem tF {s z:Int}(h:s∣z):s*z.fdiv s=z:=by rw[Int.fdiv_eq_ediv_of_dvd h];exact Int.mul_ediv_cancel' h
theorem zZ {n:Nat}{s z:Int}(h:Bd n z)(d:s∣z)(hs:s≠0):Bd n (z.fdiv s):=by
 have e:=congrArg Int.natAbs (tF d);rw[Int.natAbs_mul] at e;have:0<s.natAbs:=Int.natAbs_pos.mpr hs;have:(z.fdiv s).natAbs<=z.natAbs:=by rw[<- e];exact Nat.le_mul_of_pos_left _ this
 exact Nat.lt_of_le_of_lt this h
theorem aGy {A B C:Rat}(nz:¬(A = 0/\B = 0)):∃(a b d:Int)(k:Rat),lnD A B C = .tup [.str "line",.int a,.int b,.int d]/\k≠0/\(a:Rat)=k*A/\(b:Rat)=k*B/\(d:Rat)=k*C /\
  (∀n,Bd n (A.num*(B.den:Int)*(C.den:Int))->Bd n (B.num*(A.den:Int)*(C.den:Int))->Bd n (C.num*(A.den:Int)*(B.den:Int))->Bd n a/\Bd n b/\Bd n d):=by
 have dA:=iR A;have dB:=iR B;have dC:=iR C;have nA:=dH A;have nB:=dH B;have nC:=dH C;have h0:¬(A.num*(B.den:Int)*(C.den:Int)=0/\B.num*(A.den:Int)*(C.den:Int)=0):=λ⟨z1,z2⟩=>by
  have y1:(A.num:Rat)*((B.den:Int):Rat)*((C.den:Int):Rat)=0:=by have:=congrArg (λz:Int=>(z:Rat)) z1;simpa only[Rat.intCast_mul,Rat.intCast_zero] using this
  have y2:(B.num:Rat)*((A.den:Int):Rat)*((C.den:Int):Rat)=0:=by have:=congrArg (λz:Int=>(z:Rat)) z2;simpa only[Rat.intCast_mul,Rat.intCast_zero] using this
  exact nz ⟨by grind,by grind⟩
 have s0:=aCB (d:=C.num*(A.den:Int)*(B.den:Int)) h0;obtain⟨d1,d2,d3⟩:=aAr (A.num*(B.den:Int)*(C.den:Int)) (B.num*(A.den:Int)*(C.den:Int)) (C.num*(A.den:Int)*(B.den:Int));have m1:=tF d1;have m2:=tF d2;have m3:=tF d3;have bd:∀n,Bd n (A.num*(B.den:Int)*(C.den:Int))->Bd n (B.num*(A.den:Int)*(C.den:Int))->Bd n (C.num*(A.den:Int)*(B.den:Int))->Bd n ((A.num*(B.den:Int)*(C.den:Int)).fdiv (sg3 (A.num*(B.den:Int)*(C.den:Int)) (B.num*(A.den:Int)*(C.den:Int)) (C.num*(A.den:Int)*(B.den:Int))))/\Bd n ((B.num*(A.den:Int)*(C.den:Int)).fdiv (sg3 (A.num*(B.den:Int)*(C.den:Int)) (B.num*(A.den:Int)*(C.den:Int)) (C.num*(A.den:Int)*(B.den:Int))))/\Bd n ((C.num*(A.den:Int)*(B.den:Int)).fdiv (sg3 (A.num*(B.den:Int)*(C.den:Int)) (B.num*(A.den:Int)*(C.den:Int)) (C.num*(A.den:Int)*(B.den:Int)))):=λn b1 b2 b3=>⟨zZ b1 d1 s0,zZ b2 d2 s0,zZ b3 d3 s0⟩;have e:lnD A B C = .tup [.str "line",.int ((A.num*(B.den:Int)*(C.den:Int)).fdiv (sg3 (A.num*(B.den:Int)*(C.den:Int)) (B.num*(A.den:Int)*(C.den:Int)) (C.num*(A.den:Int)*(B.den:Int)))),.int ((B.num*(A.den:Int)*(C.den:Int)).fdiv (sg3 (A.num*(B.den:Int)*(C.den:Int)) (B.num*(A.den:Int)*(C.den:Int)) (C.num*(A.den:Int)*(B.den:Int)))),.int ((C.num*(A.den:Int)*(B.den:Int)).fdiv (sg3 (A.num*(B.den:Int)*(C.den:Int)) (B.num*(A.den:Int)*(C.den:Int)) (C.num*(A.den:Int)*(B.den:Int))))]:=rfl;generalize sg3 (A.num*(B.den:Int)*(C.den:Int)) (B.num*(A.den:Int)*(C.den:Int)) (C.num*(A.den:Int)*(B.den:Int))=s at s0 m1 m2 m3 bd e;generalize (A.num*(B.den:Int)*(C.den:Int)).fdiv s=a at m1 bd e;generalize (B.num*(A.den:Int)*(C.den:Int)).fdiv s=b at m2 bd e;generalize (C.num*(A.den:Int)*(B.den:Int)).fdiv s=d at m3 bd e;have sr:(s:Rat)≠0:=λz=>s0 (Rat.intCast_inj.mp (by rw[z];rfl));have r1:(s:Rat)*(a:Rat)=(A.num:Rat)*((B.den:Int):Rat)*((C.den:Int):Rat):=by have:=congrArg (λz:Int=>(z:Rat)) m1;simpa only[Rat.intCast_mul] using this
 have r2:(s:Rat)*(b:Rat)=(B.num:Rat)*((A.den:Int):Rat)*((C.den:Int):Rat):=by have:=congrArg (λz:Int=>(z:Rat)) m2;simpa only[Rat.intCast_mul] using this
 have r3:(s:Rat)*(d:Rat)=(C.num:Rat)*((A.den:Int):Rat)*((B.den:Int):Rat):=by have:=congrArg (λz:Int=>(z:Rat)) m3;simpa only[Rat.intCast_mul] using this
 refine⟨a,b,d,((A.den:Int):Rat)*((B.den:Int):Rat)*((C.den:Int):Rat)/s,e,?_,?_,?_,?_,bd⟩
 ·intro z;have:((A.den:Int):Rat)*((B.den:Int):Rat)*((C.den:Int):Rat)=0:=by grind
  grind
 ·grind
 ·grind
 ·grind
theorem aDg {ax ay bx by' cx cy dx dy:Rat}(h1:¬(ax=bx/\ay=by'))(h2:¬(cx=dx/\cy=dy)):kS ax ay bx by'=kS cx cy dx dy↔bD ax ay bx by' cx cy=0/\bD ax ay bx by' dx dy=0:=by
 constructor
 ·intro e;unfold kS at e;obtain⟨a,b,d,k,e1,hk,ea,eb,ed,_⟩:=aGy (A:=by'-ay) (B:=ax-bx) (C:=(by'-ay)*ax+(ax-bx)*ay) (λz=>h1 ⟨by grind,by grind⟩);obtain⟨a2,b2,d2,k2,e2,hk2,ea2,eb2,ed2,_⟩:=aGy (A:=dy-cy) (B:=cx-dx) (C:=(dy-cy)*cx+(cx-dx)*cy) (λz=>h2 ⟨by grind,by grind⟩);rw[e1,e2] at e;injection e with e
  injection e with _ e
  injection e with y1 e
  injection e with y2 e
  injection e with y3 _
  injection y1 with y1
  injection y2 with y2
  injection y3 with y3
  subst y1 y2 y3;unfold bD;have f1:k*((bx-ax)*(cy-ay)-(by'-ay)*(cx-ax))=0:=by grind
  have f2:k*((bx-ax)*(dy-ay)-(by'-ay)*(dx-ax))=0:=by grind
  exact⟨(Rat.mul_eq_zero.mp f1).resolve_left hk,(Rat.mul_eq_zero.mp f2).resolve_left hk⟩
 ·rintro⟨z1,z2⟩;unfold bD at z1 z2;unfold kS;by_cases c:bx=ax
  ·have hb:by'-ay≠0:=λz=>h1 ⟨c.symm,by grind⟩;have ec:cx=ax:=by
    have:(by'-ay)*(cx-ax)=0:=by grind
    have:=(Rat.mul_eq_zero.mp this).resolve_left hb;grind
   have ed:dx=ax:=by
    have:(by'-ay)*(dx-ax)=0:=by grind
    have:=(Rat.mul_eq_zero.mp this).resolve_left hb;grind
   have hl:(dy-cy)/(by'-ay)≠0:=λz=>h2 ⟨by grind,by grind⟩;have:=yR (A:=by'-ay) (B:=ax-bx) (C:=(by'-ay)*ax+(ax-bx)*ay) hl (λz=>h1 ⟨by grind,by grind⟩);rw[<- this];congr 1<;>grind
  ·have hb:bx-ax≠0:=λz=>c (by grind);have hl:(dx-cx)/(bx-ax)≠0:=λz=>by
    have e1:dx=cx:=by grind
    subst e1;have:(bx-ax)*(dy-cy)=0:=by grind
    have:=(Rat.mul_eq_zero.mp this).resolve_left hb;exact h2 ⟨rfl,by grind⟩
   have:=yR (A:=by'-ay) (B:=ax-bx) (C:=(by'-ay)*ax+(ax-bx)*ay) hl (λz=>h1 ⟨by grind,by grind⟩);rw[<- this];have g1:dy-cy=(dx-cx)/(bx-ax)*(by'-ay):=by grind
   have g2:cx-dx=(dx-cx)/(bx-ax)*(ax-bx):=by grind
   have g3:(dy-cy)*cx+(cx-dx)*cy=(dx-cx)/(bx-ax)*((by'-ay)*ax+(ax-bx)*ay):=by grind
   rw[g3,g1,g2]
def aIA:DSp:=λds M Q=>∃cx cy x y p q,ds=[PQ cx cy,PQ (cx+x) (cy+y),PQ (cx+p) (cy+q)]/\BQ 60 cx/\BQ 60 cy/\BQ 200 x/\BQ 200 y/\BQ 200 p/\BQ 200 q/\Q (if SS x y p q=0 then .non else FQ (LL x y p q/SS x y p q)) M
theorem aLx {x y u v:Rat}{m n:Nat}{M:DM}{Q:DQ}(h1:BQ m x)(h2:BQ m y)(h3:BQ n u)(h4:BQ n v)(l1:m<=4400)(l2:n<=4400)(q:Q (PQ (x-u) (y-v)) M):uR [PQ x y,PQ u v] M Q:=⟨_,_,_,_,rfl,h1.mono l1,h2.mono l1,h3.mono l2,h4.mono l2,q⟩
theorem aNF {x y u v:Rat}{m n:Nat}{M:DM}{Q:DQ}(h1:BQ m x)(h2:BQ m y)(h3:BQ n u)(h4:BQ n v)(l1:m<=4400)(l2:n<=4400)(q:Q (PQ (x+u) (y+v)) M):kU [PQ x y,PQ u v] M Q:=⟨_,_,_,_,rfl,h1.mono l1,h2.mono l1,h3.mono l2,h4.mono l2,q⟩
theorem cG (c x:Rat):c+x-c=x:=by grind
noncomputable abbrev rD:Stmt:=top 32
theorem kT:aR ["c","a","p","start","stop","bottom"] ["c","a","p"] (aI rD):=by ac_rfl
theorem aA1 (hF:cR K mg "share_of" rD ["c","a","p"])(eI:Has P w K mg base 102 "plus" ["one","other"] kW)(rC:Has P w K mg base 103 "over" ["one","other"] aAU)(lX:Has P w K mg base 104 "off" ["p","q"] uR)(eK:Has P w K mg base 104 "dot_product" ["p","q"] jY)(jM:Has P w K mg base 104 "cross_product" ["p","q"] mE):Has P w K mg base 105 "share_of" ["c","a","p"] aIA:=by
 refine Has.mkZ hF kT (λds M Q ⟨x,y,u,v,t,t2,e,_⟩=>by rw[e];rfl) λf cdv A outer s H ds M Q E hr h=>?_;obtain⟨cx,cy,x,y,p,q',rfl,h1,h2,h3,h4,h5,h6,q⟩:=h;refine⟨_,(aF (aN (i:=3) kT.nd (aE lX hr (by decide) (aA (aB 1) (aA (aB 0) aD))))
  (aF (aN (i:=4) kT.nd (aE lX hr (by decide) (aA (aB 2) (aA (aB 0) aD))))
  (aF (aN (i:=5) kT.nd (aE eI hr (by decide) (aA (aE eK hr (by decide) (aA (aB 3) (aA (aB 3) aD))) (aA (aE eK hr (by decide) (aA (aB 3) (aA (aB 4) aD))) aD))))
  (aF (bO (aX (dD hr) (aG (aB 5) aC) aC) (aH (aL sI)) aZ)
  (aH (aL (aE rC hr (by decide) (aA (aE jM hr (by decide) (aA (aB 3) (aA (aB 4) aD))) (aA (aB 5) aD))))))))),?_⟩
 ac_nf;refine aLx (h1.add h3) (h2.add h4) h1 h2 (by decide) (by decide) ?_;rw[cG,cG];ac_nf;refine aLx (h1.add h5) (h2.add h6) h1 h2 (by decide) (by decide) ?_;rw[cG,cG];ac_nf;have c1:BQ 801 (x*x+y*y):=((h3.mul h3).add (h4.mul h4)).mono (by decide);have c2:BQ 801 (x*p+y*q'):=((h3.mul h5).add (h4.mul h6)).mono (by decide);have c3:BQ 801 (x*q'-y*p):=((h3.mul h6).sub (h4.mul h5)).mono (by decide);refine⟨_,_,_,_,rfl,_,_,h3,h4,h3,h4,by decide,_,_,_,_,rfl,_,_,h3,h4,h5,h6,by decide,?_⟩;refine aMQ c1 c2 (by decide) ?_;ac_nf;rw[dL];unfold SS LL at q;by_cases c:x*x+y*y+(x*p+y*q')=0
 ·rw[if_pos c] at q;exact ifT (decide_eq_true (kE.mpr c)) ⟨M,.refl _,q⟩
 ·rw[if_neg c] at q;refine ifF (decide_eq_false λz=>c (kE.mp z)) ⟨_,_,_,_,rfl,_,_,h3,h4,h5,h6,by decide,_,_,_,_,rfl,c,c3,c1.add c2,by decide,M,.refl _,q⟩
def aIS:DSp:=λds M Q=>∃cx cy x y t,ds=[PQ cx cy,PQ (cx+x) (cy+y),FQ t]/\BQ 60 cx/\BQ 60 cy/\BQ 200 x/\BQ 200 y/\BQ 300 t/\Q (PQ (cx+cJ t x y) (cy+cI t x y)) M
noncomputable abbrev rA:Stmt:=top 31
theorem fU:aR ["c","a","t","square","bottom","u","v","x","y"] ["c","a","t"] (aI rA):=by ac_rfl
theorem aAS (hF:cR K mg "at_share" rA ["c","a","t"])(aDd:aDO K mg "ONE" aLH)(eI:Has P w K mg base 102 "plus" ["one","other"] kW)(fC:Has P w K mg base 103 "minus" ["one","other"] mB)(cT:Has P w K mg base 102 "times" ["one","other"] jK)(rC:Has P w K mg base 103 "over" ["one","other"] aAU)(lX:Has P w K mg base 104 "off" ["p","q"] uR)(iK:Has P w K mg base 104 "together" ["p","q"] kU):Has P w K mg base 105 "at_share" ["c","a","t"] aIS:=by
 refine Has.mkZ hF fU (λds M Q ⟨x,y,u,v,t,e,_⟩=>by rw[e];rfl) λf cdv A outer s H ds M Q E hr h=>?_;obtain⟨cx,cy,x,y,t,rfl,h1,h2,h3,h4,h5,q⟩:=h;refine⟨_,(aF (aN (i:=3) fU.nd (aE cT hr (by decide) (aA (aB 2) (aA (aB 2) aD))))
  (aF (aN (i:=4) fU.nd (aE eI hr (by decide) (aA (qN aDd) (aA (aB 3) aD))))
  (aF (aN (i:=5) fU.nd (aE rC hr (by decide) (aA (aE fC hr (by decide) (aA (qN aDd) (aA (aB 3) aD))) (aA (aB 4) aD))))
  (aF (aN (i:=6) fU.nd (aE rC hr (by decide) (aA (aE eI hr (by decide) (aA (aB 2) (aA (aB 2) aD))) (aA (aB 4) aD))))
  (aF (cQ (aE lX hr (by decide) (aA (aB 1) (aA (aB 0) aD))) (eD (n:=2) rfl (aU (aO (i:=7) fU.nd) (aU (aO (i:=8) fU.nd) dG))))
  (aH (aL (aE iK hr (by decide) (aA (aB 0) (aA (aY (aA (aE fC hr (by decide) (aA (aE cT hr (by decide) (aA (aB 5) (aA (aB 7) aD))) (aA (aE cT hr (by decide) (aA (aB 6) (aA (aB 8) aD))) aD))) (aA (aE eI hr (by decide) (aA (aE cT hr (by decide) (aA (aB 6) (aA (aB 7) aD))) (aA (aE cT hr (by decide) (aA (aB 5) (aA (aB 8) aD))) aD))) aD))) aD)))))))))),?_⟩
 have b1:=h5.mul h5;have b2:=bq1.add b1;have b3:=bq1.sub b1;have b4:=h5.add h5;have h0:=dZ t;refine⟨t,t,_,_,rfl,trivial,h5,h5,by decide,1,_,_,_,rfl,trivial,bq1,b1,by decide,1,_,_,_,rfl,trivial,bq1,b1,by decide,?_⟩;refine⟨_,_,_,_,rfl,h0,b3,b2,by decide,t,t,_,_,rfl,trivial,h5,h5,by decide,_,_,_,_,rfl,h0,b4,b2,by decide,?_⟩;refine⟨cx+x,cy+y,cx,cy,rfl,(h1.add h3).mono (by decide),(h2.add h4).mono (by decide),h1.mono (by decide),h2.mono (by decide),?_⟩;rw[cG,cG];refine⟨rfl,?_⟩;have bu:BQ 1300 (uu t):=(BQ.div b3 b2 h0).mono (by decide);have bv:BQ 1300 (vv t):=(BQ.div b4 b2 h0).mono (by decide);refine⟨uu t,x,_,_,rfl,trivial,bu,h3,by decide,vv t,y,_,_,rfl,trivial,bv,h4,by decide,_,_,_,_,rfl,trivial,bu.mul h3,bv.mul h4,by decide,?_⟩;refine⟨vv t,x,_,_,rfl,trivial,bv,h3,by decide,uu t,y,_,_,rfl,trivial,bu,h4,by decide,_,_,_,_,rfl,trivial,bv.mul h3,bu.mul h4,by decide,by show(2:Nat)<=1000;decide,?_⟩;exact⟨cx,cy,cJ t x y,cI t x y,rfl,h1.mono (by decide),h2.mono (by decide),((bu.mul h3).sub (bv.mul h4)).mono (by decide),((bv.mul h3).add (bu.mul h4)).mono (by decide),M,.refl _,q⟩
noncomputable def plc (lap:Int)(x y p q:Rat):D:=.tup [.int lap,.int (plK x y p q),FQ (plZ x y p q)]
def qE:DSp:=λds M Q=>∃cx cy x y p q,ds=[PQ cx cy,PQ (cx+x) (cy+y),PQ (cx+p) (cy+q)]/\BQ 60 cx/\BQ 60 cy/\BQ 200 x/\BQ 200 y/\BQ 200 p/\BQ 200 q/\¬(x=0/\y=0)/\OnR x y p q/\Q (plc 0 x y p q) M
noncomputable abbrev rV:Stmt:=top 37
theorem uT:aR ["c","a","p","share"] ["c","a","p"] (aI rV):=by ac_rfl
theorem aAG (hF:cR K mg "place_of" rV ["c","a","p"])(rG:Has P w K mg base 105 "share_of" ["c","a","p"] aIA):Has P w K mg base 106 "place_of" ["c","a","p"] qE:=by
 refine Has.mkZ hF uT (λds M Q ⟨x,y,u,v,t,t2,e,_⟩=>by rw[e];rfl) λf cdv A outer s H ds M Q E hr h=>?_;obtain⟨cx,cy,x,y,p,q',rfl,h1,h2,h3,h4,h5,h6,h0,hc,q⟩:=h;refine⟨_,(aF (aN (i:=3) uT.nd (aE rG hr (by decide) (aA (aB 0) (aA (aB 1) (aA (aB 2) aD)))))
  (aF (bO (aX aMT (aB 3) sI) (aH (aL (aY (aA aC (aA aC (aA (aY (aA aC (aA aC aD))) aD)))))) aZ)
  (aH (aL (aY (aA aC (aA (lR (aX kM (aG (aB 3) aC) aC) aC aC) (aA (aB 3) aD)))))))),?_⟩
 ac_nf;refine⟨cx,cy,x,y,p,q',rfl,h1,h2,h3,h4,h5,h6,?_⟩;unfold plc at q;rcases aDU h0 hc with⟨hS,rfl,rfl⟩|⟨hS,t,ht,rfl,rfl⟩
 ·rw[if_pos hS];rw[lD.1,lD.2] at q;ac_nf;exact ifT rfl ⟨by decide,by decide,M,.refl _,q⟩
 ·rw[if_neg hS,ht];rw[(kH h0).1,(kH h0).2] at q;ac_nf;refine ifF (b:=false) rfl ?_;refine dif (λc=>?_) (λc=>?_)
  ·rw[if_pos (pH.mp c)] at q;exact⟨by decide,M,.refl _,q⟩
  ·rw[if_neg (λz=>c (pH.mpr z))] at q;exact⟨by decide,M,.refl _,q⟩
noncomputable def lat (a k:Int)(z:Rat)(a' k':Int)(z':Rat):Bool:=if a=a'/\k=k' then decide (z<z') else decide (a<a'∨(a=a'/\k<k'))
def lP:DSp:=λds M Q=>∃a k z a' k' z',ds=[.tup [.int a,.int k,FQ z],.tup [.int a',.int k',FQ z']]/\BQ 300 z/\BQ 300 z'/\Q (.bl (lat a k z a' k' z')) M
theorem sl2 {a b c:D}{M:DM}{Q:DQ}(q:Q (.tup [a,b]) M):aIK (.tup [a,b,c]) none (some 2) M Q:=⟨λz=>absurd (show(2:Nat)=3 from z.2) (by decide),q⟩
theorem aJU (a k a' k':Int):eqD (.tup [.int a,.int k]) (.tup [.int a',.int k'])=decide (a=a'/\k=k'):=by simp only[eqD,iC];by_cases h1:a=a'<;>by_cases h2:k=k'<;>simp[h1,h2]
theorem aJI (a k a' k':Int):ltD (.tup [.int a,.int k]) (.tup [.int a',.int k'])=if a=a'/\k=k' then false else decide (a<a'∨(a=a'/\k<k')):=by
 rw[mT,fJ];by_cases h1:a=a'
 ·rw[if_pos (by rw[h1]),fJ];by_cases h2:k=k'
  ·rw[if_pos (by rw[h2]),if_pos ⟨h1,h2⟩,gM]
  ·rw[if_neg (λz=>h2 (D.int.inj z)),jT,if_neg (λz=>h2 z.2)];exact decide_eq_decide.mpr ⟨λz=>.inr ⟨h1,z⟩,λz=>z.elim (λz=>by omega) λz=>z.2⟩
 ·rw[if_neg (λz=>h1 (D.int.inj z)),jT,if_neg (λz=>h1 z.1)];exact decide_eq_decide.mpr ⟨.inl,λz=>z.elim id λz=>absurd z.1 h1⟩
noncomputable abbrev xI:Stmt:=top 39
theorem aEo:aR ["one","other"] ["one","other"] (aI xI):=by ac_rfl
theorem aCz (hF:cR K mg "sooner" xI ["one","other"])(nW:Has P w K mg base 101 "below" ["one","other"] wR):Has P w K mg base 102 "sooner" ["one","other"] lP:=by
 refine Has.mkZ hF aEo (λds M Q ⟨x,y,u,v,t,t2,e,_⟩=>by rw[e];rfl) λf cdv A outer s H ds M Q E hr h=>?_;obtain⟨a,k,z,a',k',z',rfl,h1,h2,q⟩:=h;refine⟨_,(aF (bO (aX (uS hr) (kC (aB 0) iD (gB aC)) (kC (aB 1) iD (gB aC))) (aH (aL (gI (aKc hr) (kC (aB 0) iD (gB aC)) (kC (aB 1) iD (gB aC))))) aZ)
  (aH (aL (aE nW hr (by decide) (aA (aG (aB 0) aC) (aA (aG (aB 1) aC) aD)))))),?_⟩
 ac_nf;refine sl2 (sl2 ⟨rfl,rfl,?_⟩);rw[aJU];unfold lat at q;by_cases c:a=a'/\k=k'
 ·rw[if_pos c] at q;rw[decide_eq_true c];refine ifF rfl ⟨_,_,_,_,rfl,trivial,h1,h2,by decide,M,.refl _,q⟩
 ·rw[if_neg c] at q;rw[decide_eq_false c];refine ifT rfl (sl2 (sl2 ⟨.t [.i,.i],rfl,rfl,by simp[hs,hss],by simp[hs,hss],M,.refl _,?_⟩));rw[aJI,if_neg c];exact q
def rH:DSp:=λds M Q=>∃a k z n,ds=[.tup [.int a,.int k,FQ z],.int n]/\Q (.tup [.int (a+n),.int k,FQ z]) M
noncomputable abbrev uP:Stmt:=top 40
theorem aCS:aR ["place","laps"] ["place","laps"] (aI uP):=by ac_rfl
theorem aBs (hF:cR K mg "laps_on" uP ["place","laps"]):Has P w K mg base 101 "laps_on" ["place","laps"] rH:=by refine Has.mkZ hF aCS (λds M Q ⟨x,y,u,v,e,_⟩=>by rw[e];rfl) λf cdv A outer s H ds M Q E hr h=>?_;obtain⟨a,k,z,n,rfl,q⟩:=h;refine⟨_,(aH (aL (aY (aA (aJ fD (aG (aB 0) aC) (aB 1)) (aA (aG (aB 0) aC) (aA (aG (aB 0) aC) aD)))))),?_⟩;ac_nf;exact⟨by decide,M,.refl _,q⟩
def oO:DSp:=λds M Q=>∃cx cy x y p q lap,ds=[PQ cx cy,PQ (cx+x) (cy+y),plc lap x y p q]/\BQ 60 cx/\BQ 60 cy/\BQ 200 x/\BQ 200 y/\BQ 300 (plZ x y p q)/\¬(x=0/\y=0)/\OnR x y p q/\Q (PQ (cx+p) (cy+q)) M
noncomputable abbrev rF:Stmt:=top 38
theorem aBV:aR ["c","a","place"] ["c","a","place"] (aI rF):=by ac_rfl
theorem aAo (hF:cR K mg "point_of" rF ["c","a","place"])(iK:Has P w K mg base 104 "together" ["p","q"] kU)(lX:Has P w K mg base 104 "off" ["p","q"] uR)(rY:Has P w K mg base 105 "at_share" ["c","a","t"] aIS):Has P w K mg base 106 "point_of" ["c","a","place"] oO:=by
 refine Has.mkZ hF aBV (λds M Q ⟨x,y,u,v,t,t2,l,e,_⟩=>by rw[e];rfl) λf cdv A outer s H ds M Q E hr h=>?_;obtain⟨cx,cy,x,y,p,q',lap,rfl,h1,h2,h3,h4,hz,h0,hc,q⟩:=h;refine⟨_,(aF (bO (aX (dD hr) (aG (aB 2) aC) aC) (aH (aL (aE iK hr (by decide) (aA (aB 0) (aA (aE lX hr (by decide) (aA (aB 0) (aA (aB 1) aD))) aD))))) aZ)
  (aH (aL (aE rY hr (by decide) (aA (aB 0) (aA (aB 1) (aA (aG (aB 2) aC) aD))))))),?_⟩
 unfold plc;rcases aDU h0 hc with⟨hS,rfl,rfl⟩|⟨hS,t,ht,rfl,rfl⟩
 ·rw[lD.1,lD.2];ac_nf;rw[dL];refine ifT rfl (aLx h1 h2 (h1.add h3) (h2.add h4) (by decide) (by decide) ?_);rw[show cx-(cx+x) = -x by grind,show cy-(cy+y) = -y by grind];exact aNF h1 h2 h3.neg h4.neg (by decide) (by decide) ⟨M,.refl _,q⟩
 ·rw[(kH h0).1,(kH h0).2];rw[(kH h0).2] at hz;ac_nf;rw[dL];refine ifF (decide_eq_false (by split<;>decide)) ⟨cx,cy,x,y,t,rfl,h1,h2,h3,h4,hz,M,.refl _,q⟩
noncomputable def oD (x y:Rat):Int:=if (x.den:Int)=(y.den:Int) then (x.den:Int) else (x.den:Int)*(y.den:Int)
noncomputable def oX (x y:Rat):Int:=if (x.den:Int)=(y.den:Int) then x.num else x.num*(y.den:Int)
noncomputable def oY (x y:Rat):Int:=if (x.den:Int)=(y.den:Int) then y.num else y.num*(x.den:Int)
theorem uI (x y:Rat):0<oD x y:=by
 have h1:(0:Int)<x.den:=by have:=x.den_pos;omega
 have h2:(0:Int)<y.den:=by have:=y.den_pos;omega
 unfold oD;split
 ·exact h1
 ·exact Int.mul_pos h1 h2
theorem aBb (x y:Rat):((oX x y:Int):Rat)=x*(oD x y:Int):=by
 have e:=dH x;unfold oX oD;split
 ·rw[e]
 ·rw[Rat.intCast_mul,Rat.intCast_mul,e];grind
theorem aBP (x y:Rat):((oY x y:Int):Rat)=y*(oD x y:Int):=by
 have e:=dH y;unfold oY oD;split
 ·rename_i h;rw[e,h]
 ·rw[Rat.intCast_mul,Rat.intCast_mul,e];grind
theorem aAf {x y:Rat}{n:Nat}(hx:BQ n x)(hy:BQ n y):Bd (n+n) (oX x y)/\Bd (n+n) (oY x y)/\Bd (n+n) (oD x y):=by
 unfold oX oY oD;refine⟨?_,?_,?_⟩
 ·split
  ·exact hx.1.mono (by omega)
  ·exact hx.1.mul hy.2
 ·split
  ·exact hy.1.mono (by omega)
  ·exact hy.1.mul hx.2
 ·split
  ·exact hx.2.mono (by omega)
  ·exact hx.2.mul hy.2
def gH:DSp:=λds M Q=>∃x y n,ds=[PQ x y]/\BQ n x/\BQ n y/\n<=8998/\Q (.tup [.int (oX x y),.int (oY x y),.int (oD x y)]) M
noncomputable abbrev jL:Stmt:=top 18
theorem iY:aR ["p","x","y"] ["p"] (aI jL):=by ac_rfl
theorem tR (hF:cR K mg "on_one_bottom" jL ["p"]):Has P w K mg base 101 "on_one_bottom" ["p"] gH:=by
 refine Has.mkZ hF iY (λds M Q ⟨x,y,n,e,_⟩=>by rw[e];rfl) λf cdv A outer s H ds M Q E hr h=>?_;obtain⟨x,y,n,rfl,hx,hy,hn,q⟩:=h;refine⟨_,(aF (cQ (aB 0) (eD (n:=2) rfl (aU (aO (i:=1) iY.nd) (aU (aO (i:=2) iY.nd) dG))))
  (aF (bO (aX (dD hr) (aG (aB 1) aC) (aG (aB 2) aC)) (aH (aL (aY (aA (aG (aB 1) aC) (aA (aG (aB 2) aC) (aA (aG (aB 1) aC) aD)))))) aZ)
  (aH (aL (aY (aA (aJ bG (aG (aB 1) aC) (aG (aB 2) aC)) (aA (aJ bG (aG (aB 2) aC) (aG (aB 1) aC)) (aA (aJ bG (aG (aB 1) aC) (aG (aB 2) aC)) aD)))))))),?_⟩
 unfold oX oY oD at q;ac_nf;rw[dL];refine⟨rfl,dif (λc=>?_) (λc=>?_)⟩
 ·rw[if_pos c,if_pos c,if_pos c] at q;exact⟨by decide,M,.refl _,q⟩
 ·rw[if_neg c,if_neg c,if_neg c] at q;exact⟨cB hx.1 hy.2 (by omega),cB hy.1 hx.2 (by omega),cB hx.2 hy.2 (by omega),by decide,M,.refl _,q⟩
def vP:DSp:=λds M Q=>∃i,ds=[.int i]/\Q (.int (if 0<i then 1 else if i=0 then 0 else -1)) M
noncomputable abbrev aCv:Stmt:=top 20
theorem aGU:aR ["number"] ["number"] (aI aCv):=by ac_rfl
theorem aFl (hF:cR K mg "sign" aCv ["number"]):Has P w K mg base 101 "sign" ["number"] vP:=by
 refine Has.mkZ hF aGU (λds M Q ⟨x,e,_⟩=>by rw[e];rfl) λf cdv A outer s H ds M Q E hr h=>?_;obtain⟨i,rfl,q⟩:=h;refine⟨_,(aF (bO (aX aDC (aB 0) aC) (aH (aL aC)) aZ)
  (aH (aL (lR (aX (dD hr) (aB 0) aC) aC (cZ aC))))),?_⟩
 ac_nf;refine dif (λc=>?_) (λc=>?_)
 ·rw[if_pos c] at q;exact⟨M,.refl _,q⟩
 ·rw[if_neg c] at q;rw[dL];refine dif (λd=>?_) (λd=>?_)
  ·rw[if_pos d] at q;exact⟨M,.refl _,q⟩
  ·rw[if_neg d] at q;exact⟨M,.refl _,q⟩
noncomputable def fS (cx cy px py:Rat):Int:=(oX px py*oD cx cy-oX cx cy*oD px py)*(oX px py*oD cx cy-oX cx cy*oD px py)+(oY px py*oD cx cy-oY cx cy*oD px py)*(oY px py*oD cx cy-oY cx cy*oD px py)
theorem aIF (cx cy px py:Rat):((fS cx cy px py:Int):Rat)=((px-cx)*(px-cx)+(py-cy)*(py-cy))*(((oD cx cy:Int):Rat)*((oD px py:Int):Rat))*(((oD cx cy:Int):Rat)*((oD px py:Int):Rat)):=by unfold fS;simp only[Rat.intCast_add,Rat.intCast_mul,Rat.intCast_sub];rw[aBb,aBb,aBP,aBP];grind
def qX:DSp:=λds M Q=>∃cx cy px py n,ds=[PQ cx cy,PQ px py]/\BQ n cx/\BQ n cy/\BQ n px/\BQ n py/\n<=4000/\Q (.tup [.int (fS cx cy px py),.int (oD px py)]) M
noncomputable abbrev mO:Stmt:=top 22
theorem dJ:aR ["c","p","cx","cy","cd","px","py","pd","x","y"] ["c","p"] (aI mO):=by ac_rfl
theorem xW (hF:cR K mg "scaled_far" mO ["c","p"])(cK:Has P w K mg base 101 "on_one_bottom" ["p"] gH):Has P w K mg base 102 "scaled_far" ["c","p"] qX:=by
 refine Has.mkZ hF dJ (λds M Q ⟨cx,cy,px,py,n,e,_⟩=>by rw[e];rfl) λf cdv A outer s H ds M Q E hr h=>?_;obtain⟨cx,cy,px,py,n,rfl,h1,h2,h3,h4,hn,q⟩:=h;refine⟨_,(aF (cQ (aE cK hr (by decide) (aA (aB 0) aD)) (eD (n:=3) rfl (aU (aO (i:=2) dJ.nd) (aU (aO (i:=3) dJ.nd) (aU (aO (i:=4) dJ.nd) dG)))))
  (aF (cQ (aE cK hr (by decide) (aA (aB 1) aD)) (eD (n:=3) rfl (aU (aO (i:=5) dJ.nd) (aU (aO (i:=6) dJ.nd) (aU (aO (i:=7) dJ.nd) dG)))))
  (aF (aN (i:=8) dJ.nd (aJ hO (aJ bG (aB 5) (aB 4)) (aJ bG (aB 2) (aB 7))))
  (aF (aN (i:=9) dJ.nd (aJ hO (aJ bG (aB 6) (aB 4)) (aJ bG (aB 3) (aB 7))))
  (aH (aL (aY (aA (aJ fD (aJ bG (aB 8) (aB 8)) (aJ bG (aB 9) (aB 9))) (aA (aB 7) aD))))))))),?_⟩
 ac_nf;obtain⟨a1,a2,a3⟩:=aAf h1 h2;obtain⟨b1,b2,b3⟩:=aAf h3 h4;have dX:Bd (n+n+(n+n)+1) (oX px py*oD cx cy-oX cx cy*oD px py):=(b1.mul a3).sub (a1.mul b3);have dY:Bd (n+n+(n+n)+1) (oY px py*oD cx cy-oY cx cy*oD px py):=(b2.mul a3).sub (a2.mul b3);refine⟨cx,cy,n,rfl,h1,h2,by omega,?_⟩;ac_nf;refine⟨rfl,px,py,n,rfl,h3,h4,by omega,?_⟩;ac_nf;exact⟨rfl,cB b1 a3 (by omega),cB a1 b3 (by omega),cB b2 a3 (by omega),cB a2 b3 (by omega),cB dX dX (by omega),cB dY dY (by omega),by decide,M,.refl _,q⟩
noncomputable def fF (cx cy px py:Rat):Rat:=(px-cx)*(px-cx)+(py-cy)*(py-cy)
theorem aIC {cx cy px py:Rat}{n:Nat}(h1:BQ n cx)(h2:BQ n cy)(h3:BQ n px)(h4:BQ n py):Bd (8*n+3) (fS cx cy px py):=by obtain⟨a1,a2,a3⟩:=aAf h1 h2;obtain⟨b1,b2,b3⟩:=aAf h3 h4;have dX:Bd (n+n+(n+n)+1) (oX px py*oD cx cy-oX cx cy*oD px py):=(b1.mul a3).sub (a1.mul b3);have dY:Bd (n+n+(n+n)+1) (oY px py*oD cx cy-oY cx cy*oD px py):=(b2.mul a3).sub (a2.mul b3);exact((dX.mul dX).add (dY.mul dY)).mono (by omega)
theorem aG5 (cx cy px py qx qy:Rat):(0<fS cx cy px py*oD qx qy*oD qx qy-fS cx cy qx qy*oD px py*oD px py↔fF cx cy qx qy<fF cx cy px py) /\
  (fS cx cy px py*oD qx qy*oD qx qy-fS cx cy qx qy*oD px py*oD px py=0↔fF cx cy px py=fF cx cy qx qy):=by
 have e:((fS cx cy px py*oD qx qy*oD qx qy-fS cx cy qx qy*oD px py*oD px py:Int):Rat)=(fF cx cy px py-fF cx cy qx qy)*((((oD cx cy:Int):Rat)*((oD px py:Int):Rat)*((oD qx qy:Int):Rat))*(((oD cx cy:Int):Rat)*((oD px py:Int):Rat)*((oD qx qy:Int):Rat))):=by simp only[Rat.intCast_mul,Rat.intCast_sub];rw[aIF,aIF];unfold fF;grind
 have c1:(0:Rat)<((oD cx cy:Int):Rat):=Rat.intCast_pos.mpr (uI _ _);have c2:(0:Rat)<((oD px py:Int):Rat):=Rat.intCast_pos.mpr (uI _ _);have c3:(0:Rat)<((oD qx qy:Int):Rat):=Rat.intCast_pos.mpr (uI _ _);have k0:(0:Rat)<(((oD cx cy:Int):Rat)*((oD px py:Int):Rat)*((oD qx qy:Int):Rat))*(((oD cx cy:Int):Rat)*((oD px py:Int):Rat)*((oD qx qy:Int):Rat)):=Rat.mul_pos (Rat.mul_pos (Rat.mul_pos c1 c2) c3) (Rat.mul_pos (Rat.mul_pos c1 c2) c3);generalize (((oD cx cy:Int):Rat)*((oD px py:Int):Rat)*((oD qx qy:Int):Rat))*(((oD cx cy:Int):Rat)*((oD px py:Int):Rat)*((oD qx qy:Int):Rat))=κ at e k0;generalize fS cx cy px py*oD qx qy*oD qx qy-fS cx cy qx qy*oD px py*oD px py=z at e ⊢;generalize fF cx cy px py=u at e ⊢;generalize fF cx cy qx qy=v at e ⊢;constructor
 ·rw[<- Rat.intCast_pos,e];constructor
  ·intro h;by_cases c:v<u
   ·exact c
   ·have:u-v<=0:=by grind
    have:=Rat.mul_nonneg (a:=v-u) (b:=κ) (by grind) (by grind);grind
  ·intro h;exact Rat.mul_pos (by grind) k0
 ·constructor
  ·intro h;rw[h] at e;have:=(Rat.mul_eq_zero.mp e.symm).resolve_right (by grind);grind
  ·intro h;have:(z:Rat)=0:=by rw[e,h];grind
   exact Rat.intCast_eq_zero_iff.mp this
noncomputable def aFd (cx cy px py qx qy:Rat):Int:=if fF cx cy qx qy<fF cx cy px py then 1 else if fF cx cy px py=fF cx cy qx qy then 0 else -1
def xB:DSp:=λds M Q=>∃cx cy px py qx qy n,ds=[PQ cx cy,PQ px py,PQ qx qy]/\BQ n cx/\BQ n cy/\BQ n px/\BQ n py/\BQ n qx/\BQ n qy/\n<=4000/\Q (.int (aFd cx cy px py qx qy)) M
noncomputable abbrev uB:Stmt:=top 21
theorem kG:aR ["c","p","q","p_square","pd","q_square","qd"] ["c","p","q"] (aI uB):=by ac_rfl
theorem aBU (hF:cR K mg "farther" uB ["c","p","q"])(jR:Has P w K mg base 102 "scaled_far" ["c","p"] qX)(uF:Has P w K mg base 101 "sign" ["number"] vP):Has P w K mg base 103 "farther" ["c","p","q"] xB:=by
 refine Has.mkZ hF kG (λds M Q ⟨cx,cy,px,py,qx,qy,n,e,_⟩=>by rw[e];rfl) λf cdv A outer s H ds M Q E hr h=>?_;obtain⟨cx,cy,px,py,qx,qy,n,rfl,h1,h2,h3,h4,h5,h6,hn,q⟩:=h;refine⟨_,(aF (cQ (aE jR hr (by decide) (aA (aB 0) (aA (aB 1) aD))) (eD (n:=2) rfl (aU (aO (i:=3) kG.nd) (aU (aO (i:=4) kG.nd) dG))))
  (aF (cQ (aE jR hr (by decide) (aA (aB 0) (aA (aB 2) aD))) (eD (n:=2) rfl (aU (aO (i:=5) kG.nd) (aU (aO (i:=6) kG.nd) dG))))
  (aH (aL (aE uF hr (by decide) (aA (aJ hO (aJ bG (aJ bG (aB 3) (aB 6)) (aB 6)) (aJ bG (aJ bG (aB 5) (aB 4)) (aB 4))) aD)))))),?_⟩
 ac_nf;have bP:=aIC h1 h2 h3 h4;have bQ:=aIC h1 h2 h5 h6;have dP:=(aAf h3 h4).2.2;have dQ:=(aAf h5 h6).2.2;refine⟨cx,cy,px,py,n,rfl,h1,h2,h3,h4,hn,?_⟩;ac_nf;refine⟨rfl,cx,cy,qx,qy,n,rfl,h1,h2,h5,h6,hn,?_⟩;ac_nf;refine⟨rfl,cB bP dQ (by omega),cB (bP.mul dQ) dQ (by omega),cB bQ dP (by omega),cB (bQ.mul dP) dP (by omega),_,rfl,M,.refl _,?_⟩;obtain⟨e1,e2⟩:=aG5 cx cy px py qx qy;have e:(if 0<fS cx cy px py*oD qx qy*oD qx qy-fS cx cy qx qy*oD px py*oD px py then 1 else if fS cx cy px py*oD qx qy*oD qx qy-fS cx cy qx qy*oD px py*oD px py=0 then 0 else -1:Int)=aFd cx cy px py qx qy:=by
  unfold aFd;by_cases c:fF cx cy qx qy<fF cx cy px py
  ·rw[if_pos c,if_pos (e1.mpr c)]
  ·rw[if_neg c,if_neg (λz=>c (e1.mp z))];by_cases d:fF cx cy px py=fF cx cy qx qy
   ·rw[if_pos d,if_pos (e2.mpr d)]
   ·rw[if_neg d,if_neg (λz=>d (e2.mp z))]
 rw[e];exact q
theorem aHE (z:Int):(if 0<z then 1 else if z=0 then 0 else -1:Int)=sgn (z:Rat):=by
 unfold sgn;by_cases c:0<z
 ·rw[if_pos c,if_pos (show(0:Rat)<(z:Rat) by exact_mod_cast c)]
 ·rw[if_neg c,if_neg (show ¬(0:Rat)<(z:Rat) from λh=>c (by exact_mod_cast h))];by_cases d:z=0
  ·rw[if_pos d,if_neg (show ¬(z:Rat)<0 by rw[d];decide)]
  ·have h1:z<0:=by omega
   rw[if_neg d,if_pos (show(z:Rat)<0 by exact_mod_cast h1)]
noncomputable abbrev aCJ:Stmt:=top 19
theorem jA:aR ["a","b","p","ax","ay","ad","bx","by","bd","px","py","pd"] ["a","b","p"] (aI aCJ):=by ac_rfl
theorem aF0 (hF:cR K mg "side" aCJ ["a","b","p"])(cK:Has P w K mg base 101 "on_one_bottom" ["p"] gH)(uF:Has P w K mg base 101 "sign" ["number"] vP):Has P w K mg base 102 "side" ["a","b","p"] aAn:=by
 refine Has.mkZ hF jA (λds M Q ⟨x,y,u,v,x2,y2,e,_⟩=>by rw[e];rfl) λf cdv A outer s H ds M Q E hr h=>?_;obtain⟨ax,ay,bx,by',px,py,rfl,h1,h2,h3,h4,h5,h6,q⟩:=h;refine⟨_,(aF (cQ (aE cK hr (by decide) (aA (aB 0) aD)) (eD (n:=3) rfl (aU (aO (i:=3) jA.nd) (aU (aO (i:=4) jA.nd) (aU (aO (i:=5) jA.nd) dG)))))
  (aF (cQ (aE cK hr (by decide) (aA (aB 1) aD)) (eD (n:=3) rfl (aU (aO (i:=6) jA.nd) (aU (aO (i:=7) jA.nd) (aU (aO (i:=8) jA.nd) dG)))))
  (aF (cQ (aE cK hr (by decide) (aA (aB 2) aD)) (eD (n:=3) rfl (aU (aO (i:=9) jA.nd) (aU (aO (i:=10) jA.nd) (aU (aO (i:=11) jA.nd) dG)))))
  (aH (aL (aE uF hr (by decide) (aA (aJ fD (aJ hO (aJ bG (aB 9) (aJ hO (aJ bG (aB 4) (aB 8)) (aJ bG (aB 7) (aB 5)))) (aJ bG (aB 10) (aJ hO (aJ bG (aB 3) (aB 8)) (aJ bG (aB 6) (aB 5))))) (aJ bG (aB 11) (aJ hO (aJ bG (aB 3) (aB 7)) (aJ bG (aB 6) (aB 4))))) aD))))))),?_⟩
 ac_nf;obtain⟨bX1,bY1,bd1⟩:=aAf h1 h2;obtain⟨bX2,bY2,bd2⟩:=aAf h3 h4;obtain⟨bX3,bY3,bd3⟩:=aAf h5 h6;have ex1:=aBb ax ay;have ey1:=aBP ax ay;have ex2:=aBb bx by';have ey2:=aBP bx by';have ex3:=aBb px py;have ey3:=aBP px py;have p1:=uI ax ay;have p2:=uI bx by';have p3:=uI px py;refine⟨ax,ay,900,rfl,h1,h2,by decide,?_⟩;ac_nf;refine⟨rfl,bx,by',900,rfl,h3,h4,by decide,?_⟩;ac_nf;refine⟨rfl,px,py,900,rfl,h5,h6,by decide,?_⟩;ac_nf;generalize oX ax ay=X1 at *;generalize oY ax ay=Y1 at *;generalize oD ax ay=d1 at *;generalize oX bx by'=X2 at *;generalize oY bx by'=Y2 at *;generalize oD bx by'=d2 at *;generalize oX px py=X3 at *;generalize oY px py=Y3 at *;generalize oD px py=d3 at *;have k1:IntMulOk Y1 d2:=cB bY1 bd2;have k2:IntMulOk Y2 d1:=cB bY2 bd1;have k3:IntMulOk X3 (Y1*d2-Y2*d1):=cB bX3 ((bY1.mul bd2).sub (bY2.mul bd1));have k4:IntMulOk X1 d2:=cB bX1 bd2;have k5:IntMulOk X2 d1:=cB bX2 bd1;have k6:IntMulOk Y3 (X1*d2-X2*d1):=cB bY3 ((bX1.mul bd2).sub (bX2.mul bd1));have k7:IntMulOk X1 Y2:=cB bX1 bY2;have k8:IntMulOk X2 Y1:=cB bX2 bY1;have k9:IntMulOk d3 (X1*Y2-X2*Y1):=cB bd3 ((bX1.mul bY2).sub (bX2.mul bY1));refine⟨rfl,k1,k2,k3,k4,k5,k6,k7,k8,k9,_,rfl,M,.refl _,?_⟩;have e:((X3*(Y1*d2-Y2*d1)-Y3*(X1*d2-X2*d1)+d3*(X1*Y2-X2*Y1):Int):Rat)=bD ax ay bx by' px py*((d1:Rat)*d2*d3):=by simp only[Rat.intCast_add,Rat.intCast_sub,Rat.intCast_mul];rw[ex1,ey1,ex2,ey2,ex3,ey3];unfold bD;grind
 rw[aHE,e,sG (Rat.mul_pos (Rat.mul_pos (aJx p1) (aJx p2)) (aJx p3))];exact q
noncomputable abbrev xG:Stmt:=top 23
theorem aDR:aR ["p","q"] ["p","q"] (aI xG):=by ac_rfl
theorem aC1 (hF:cR K mg "before" xG ["p","q"])(nW:Has P w K mg base 101 "below" ["one","other"] wR):Has P w K mg base 102 "before" ["p","q"] mC:=by
 refine Has.mkZ hF aDR (λds M Q ⟨x,y,u,v,e,_⟩=>by rw[e];rfl) λf cdv A outer s H ds M Q E hr h=>?_;obtain⟨x,y,u,v,rfl,h1,h2,h3,h4,q⟩:=h;refine⟨_,(aF (bO (aX (dD hr) (aG (aB 0) aC) (aG (aB 1) aC)) (aH (aL (aE nW hr (by decide) (aA (aG (aB 0) aC) (aA (aG (aB 1) aC) aD))))) aZ)
  (aH (aL (aE nW hr (by decide) (aA (aG (aB 0) aC) (aA (aG (aB 1) aC) aD)))))),?_⟩
 unfold bef at q;refine⟨rfl,rfl,?_⟩;rw[show(id (eqD (FQ x) (FQ u)))=decide (x=u) from xJ x u];refine dif (λc=>?_) (λc=>?_)
 ·rw[if_pos c] at q;exact⟨y,v,_,_,rfl,trivial,h2,h4,by decide,M,.refl _,q⟩
 ·rw[if_neg c] at q;exact⟨x,u,_,_,rfl,trivial,h1,h3,by decide,M,.refl _,q⟩
noncomputable def onS (x y u v a b:Rat):Bool:=decide (bD x y u v a b=0)&&(!bef a b x y && !bef u v a b)
theorem aBY {z:Rat}:sgn z=0↔z=0:=by
 unfold sgn;by_cases h:0<z
 ·rw[if_pos h];constructor
  ·intro e;exact absurd e (by decide)
  ·rintro rfl;exact absurd h (by decide)
 rw[if_neg h];by_cases h2:z<0
 ·rw[if_pos h2];constructor
  ·intro e;exact absurd e (by decide)
  ·rintro rfl;exact absurd h2 (by decide)
 rw[if_neg h2];exact⟨λ_=>by grind,λ_=>rfl⟩
def oU:DSp:=λds M Q=>(∃x y u v a b,ds=[pcD (.str x y u v),PQ a b]/\BQ 900 x/\BQ 900 y/\BQ 900 u/\BQ 900 v/\BQ 900 a/\BQ 900 b/\Q (.bl (onS x y u v a b)) M) ∨
 (∃x y a b,ds=[pcD (.dot x y),PQ a b]/\Q (.bl (decide (a=x/\b=y))) M)
noncomputable abbrev lE:Stmt:=top 27
theorem wI:aR ["piece","p"] ["piece","p"] (aI lE):=by ac_rfl
theorem vI (hF:cR K mg "on_straight" lE ["piece","p"])(uG:Has P w K mg base 102 "side" ["a","b","p"] aAn)(gQ:Has P w K mg base 102 "before" ["p","q"] mC):Has P w K mg base 103 "on_straight" ["piece","p"] oU:=by
 refine Has.mkZ hF wI (λds M Q h=>by rcases h with⟨x,y,u,v,a,b,e,_⟩|⟨x,y,a,b,e,_⟩<;>(rw[e];rfl)) λf cdv A outer s H ds M Q E hr h=>?_;refine⟨_,(aF (bO (aX (dD hr) (aG (aB 0) aC) cU) (aH (aL (gI (dD hr) (aB 1) (aG (aB 0) aC)))) aZ)
  (aH (aL (aDw (gI (dD hr) (aE uG hr (by decide) (aA (aG (aB 0) aC) (aA (aG (aB 0) aC) (aA (aB 1) aD)))) aC) (aDw (aAg (aE gQ hr (by decide) (aA (aB 1) (aA (aG (aB 0) aC) aD)))) (aDJ (aAg (aE gQ hr (by decide) (aA (aG (aB 0) aC) (aA (aB 1) aD)))))))))),?_⟩
 rcases h with⟨x,y,u,v,a,b,rfl,h1,h2,h3,h4,h5,h6,q⟩|⟨x,y,a,b,rfl,q⟩
 ·dsimp only[pcD];ac_nf;simp_arith;have m:∀{z:Rat},BQ 900 z->BQ 4400 z:=λh=>h.mono (by decide);rw[if_neg (by decide)];refine⟨_,_,_,_,_,_,rfl,h1,h2,h3,h4,h5,h6,?_⟩;simp_arith;unfold onS at q;by_cases c:bD x y u v a b=0
  ·rw[if_pos (aBY.mpr c)];rw[decide_eq_true c,Bool.true_and] at q;refine⟨_,_,_,_,rfl,m h5,m h6,m h1,m h2,?_⟩;cases d:bef a b x y with
   |true =>
    rw[d] at q;exact⟨M,.refl _,q⟩
   |false =>
    rw[d] at q;exact⟨_,_,_,_,rfl,m h3,m h4,m h5,m h6,M,.refl _,q⟩
  ·rw[if_neg (λz=>c (aBY.mp z))];rw[decide_eq_false c,Bool.false_and] at q;exact⟨M,.refl _,q⟩
 ·dsimp only[pcD];ac_nf;simp_arith;rw[if_pos trivial];exact⟨M,.refl _,q⟩
def aB1:DSp:=λds M Q=>∃c ax ay px py qx qy,ds=[c,PQ ax ay,PQ px py,PQ qx qy]/\BQ 900 ax/\BQ 900 ay/\BQ 900 px/\BQ 900 py/\BQ 900 qx/\BQ 900 qy/\Q (.bl (gP ax ay px py qx qy)) M
noncomputable abbrev aAC:Stmt:=top 30
theorem aGd:aR ["c","a","p","q"] ["c","a","p","q"] (aI aAC):=by ac_rfl
theorem aDY (hF:cR K mg "ahead" aAC ["c","a","p","q"])(uG:Has P w K mg base 102 "side" ["a","b","p"] aAn):Has P w K mg base 103 "ahead" ["c","a","p","q"] aB1:=by
 refine Has.mkZ hF aGd (λds M Q ⟨c,x,y,u,v,x2,y2,e,_⟩=>by rw[e];rfl) λf cdv A outer s H ds M Q E hr h=>?_;obtain⟨c,ax,ay,px,py,qx,qy,rfl,h1,h2,h3,h4,h5,h6,q⟩:=h;refine⟨_,(aF (bO (aX (dD hr) (aB 2) (aB 1)) (aH (aL (gI (uS hr) (aB 3) (aB 1)))) aZ)
  (aH (aL (gI (dD hr) (aE uG hr (by decide) (aA (aB 1) (aA (aB 2) (aA (aB 3) aD)))) aC)))),?_⟩
 ac_nf;simp_arith;unfold gP at q;by_cases c1:px=ax/\py=ay
 ·rw[if_pos c1] at q ⊢;exact⟨M,.refl _,q⟩
 ·rw[if_neg c1] at q ⊢;refine⟨ax,ay,px,py,qx,qy,rfl,h1,h2,h3,h4,h5,h6,?_⟩;simp_arith;exact⟨M,.refl _,q⟩
theorem aBm (cx cy x y p q u v:Rat):gP (cx+x) (cy+y) (cx+p) (cy+q) (cx+u) (cy+v)=gP x y p q u v:=by
 unfold gP;have e1:(cx+p=cx+x/\cy+q=cy+y)↔(p=x/\q=y):=⟨λ⟨a,b⟩=>⟨by grind,by grind⟩,λ⟨a,b⟩=>⟨by grind,by grind⟩⟩;have e2:(cx+u=cx+x/\cy+v=cy+y)↔(u=x/\v=y):=⟨λ⟨a,b⟩=>⟨by grind,by grind⟩,λ⟨a,b⟩=>⟨by grind,by grind⟩⟩;have e3:bD (cx+x) (cy+y) (cx+p) (cy+q) (cx+u) (cy+v)=bD x y p q u v:=by unfold bD;grind
 rw[e3];by_cases h1:p=x/\q=y<;>by_cases h2:u=x/\v=y<;>simp[h1,h2,e1,e2]
noncomputable def onP:Pc->Rat->Rat->Bool
 |.dot x y,a,b=>decide (a=x/\b=y)
 |.str x y u v,a,b=>onS x y u v a b
 |.arc cx cy ax ay bx by',a,b=>decide (fF cx cy a b=fF cx cy ax ay) && !gP ax ay bx by' a b
 |.ring cx cy ax ay,a,b=>decide (fF cx cy a b=fF cx cy ax ay)
theorem qR {cx cy px py qx qy:Rat}:aFd cx cy px py qx qy=0↔fF cx cy px py=fF cx cy qx qy:=by
 unfold aFd;by_cases c:fF cx cy qx qy<fF cx cy px py
 ·rw[if_pos c];exact⟨λz=>absurd z (by decide),λz=>by rw[z] at c;exact absurd c Rat.lt_irrefl⟩
 ·rw[if_neg c];by_cases d:fF cx cy px py=fF cx cy qx qy
  ·rw[if_pos d];exact⟨λ_=>d,λ_=>rfl⟩
  ·rw[if_neg d];exact⟨λz=>absurd z (by decide),λz=>absurd z d⟩
def sp_on:DSp:=λds M Q=>∃pc a b,ds=[pcD pc,PQ a b]/\pcB 900 pc/\BQ 900 a/\BQ 900 b/\Q (.bl (onP pc a b)) M
noncomputable abbrev aJ1:Stmt:=top 29
theorem aLJ:aR ["piece","p"] ["piece","p"] (aI aJ1):=by ac_rfl
theorem aJz (hF:cR K mg "on" aJ1 ["piece","p"])(lK:Has P w K mg base 103 "on_straight" ["piece","p"] oU)(uD:Has P w K mg base 103 "farther" ["c","p","q"] xB)(aAx:Has P w K mg base 103 "ahead" ["c","a","p","q"] aB1):Has P w K mg base 104 "on" ["piece","p"] sp_on:=by
 refine Has.mkZ hF aLJ (λds M Q ⟨x,y,u,e,_⟩=>by rw[e];rfl) λf cdv A outer s H ds M Q E hr h=>?_;obtain⟨pc,a,b,rfl,hB,ha,hb,q⟩:=h;refine⟨_,(aF (bO (pG (aC2 (aX (dD hr) (aG (aB 0) aC) cU) (zV (aX (dD hr) (aG (aB 0) aC) cU)))) (aH (aL (aE lK hr (by decide) (aA (aB 0) (aA (aB 1) aD))))) aZ)
  (aF (bO (aX (uS hr) (aE uD hr (by decide) (aA (aG (aB 0) aC) (aA (aB 1) (aA (aG (aB 0) aC) aD)))) aC) (aH (aL aAh)) aZ)
  (aH (aL (aJ7 (gI (dD hr) (aG (aB 0) aC) cU) (aDJ (aAg (aE aAx hr (by decide) (aA (aG (aB 0) aC) (aA (aG (aB 0) aC) (aA (aG (aB 0) aC) (aA (aB 1) aD)))))))))))),?_⟩
 cases pc with
 |dot x y =>
  dsimp only[pcD];ac_nf;rw[cV];refine dif (λ_=>?_) (λc=>absurd rfl c);exact ifT rfl (.inr ⟨x,y,a,b,rfl,M,.refl _,q⟩)
 |str x y u v =>
  dsimp only[pcD];ac_nf;rw[cV];refine dif (λc=>absurd c (by decide)) (λ_=>?_);rw[cV];refine dif (λ_=>?_) (λc=>absurd rfl c);exact .inl ⟨x,y,u,v,a,b,rfl,hB.1,hB.2.1,hB.2.2.1,hB.2.2.2,ha,hb,M,.refl _,q⟩
 |ring cx cy ax ay =>
  obtain⟨b1,b2,b3,b4⟩:=hB;dsimp only[pcD];ac_nf;rw[cV];refine dif (λc=>absurd c (by decide)) (λ_=>?_);rw[cV];refine dif (λc=>absurd c (by decide)) (λ_=>?_);refine⟨_,_,_,_,_,_,900,rfl,b1,b2,ha,hb,b3,b4,by decide,?_⟩;ac_nf;rw[dL];dsimp only[onP] at q;by_cases c:fF cx cy a b=fF cx cy ax ay
  ·rw[decide_eq_true (qR.mpr c)];rw[decide_eq_true c] at q;refine ifF rfl ?_;rw[cV];exact⟨M,.refl _,q⟩
  ·rw[decide_eq_false (λz=>c (qR.mp z))];rw[decide_eq_false c] at q;exact ifT rfl ⟨M,.refl _,q⟩
 |arc cx cy ax ay bx by' =>
  obtain⟨b1,b2,b3,b4,b5,b6⟩:=hB;dsimp only[pcD];ac_nf;rw[cV];refine dif (λc=>absurd c (by decide)) (λ_=>?_);rw[cV];refine dif (λc=>absurd c (by decide)) (λ_=>?_);refine⟨_,_,_,_,_,_,900,rfl,b1,b2,ha,hb,b3,b4,by decide,?_⟩;ac_nf;rw[dL];dsimp only[onP] at q;by_cases c:fF cx cy a b=fF cx cy ax ay
  ·rw[decide_eq_true (qR.mpr c)];rw[decide_eq_true c,Bool.true_and] at q;refine ifF rfl ?_;rw[cV];exact⟨_,_,_,_,_,_,_,rfl,b3,b4,b5,b6,ha,hb,M,.refl _,q⟩
  ·rw[decide_eq_false (λz=>c (qR.mp z))];rw[decide_eq_false c,Bool.false_and] at q;exact ifT rfl ⟨M,.refl _,q⟩
noncomputable def cD:Pc->D
 |.dot _ _=>.non
 |.str x y u v=>kS x y u v
 |.arc cx cy ax ay _ _=>.tup [.str "circle",PQ cx cy,FQ ((cx-ax)*(cx-ax)+(cy-ay)*(cy-ay))]
 |.ring cx cy ax ay=>.tup [.str "circle",PQ cx cy,FQ ((cx-ax)*(cx-ax)+(cy-ay)*(cy-ay))]
def wQ:DSp:=λds M Q=>∃p,ds=[pcD p]/\pcB 400 p/\(∀x y u v,p=.str x y u v->¬(x=u/\y=v))/\Q (cD p) M
theorem aM9 {x y u v:Rat}{M:DM}{Q:DQ}(h1:BQ 400 x)(h2:BQ 400 y)(h3:BQ 400 u)(h4:BQ 400 v)(q:Q (FQ ((x-u)*(x-u)+(y-v)*(y-v))) M):aCI [PQ x y,PQ u v] M Q:=⟨_,_,_,_,rfl,h1.mono (by decide),h2.mono (by decide),h3.mono (by decide),h4.mono (by decide),q⟩
theorem aOj {x y u v:Rat}{M:DM}{Q:DQ}(ne:¬(x=u/\y=v))(h1:BQ 400 x)(h2:BQ 400 y)(h3:BQ 400 u)(h4:BQ 400 v)(q:Q (kS x y u v) M):aAz [PQ x y,PQ u v] M Q:=⟨_,_,_,_,rfl,ne,h1,h2,h3,h4,q⟩
noncomputable abbrev uL:Stmt:=top 44
theorem aCK:aR ["piece"] ["piece"] (aI uL):=by ac_rfl
theorem aB6 (hF:cR K mg "carrier" uL ["piece"])(aCj:Has P w K mg base 104 "line" ["p","q"] aAz)(aFf:Has P w K mg base 105 "far" ["p","q"] aCI):Has P w K mg base 106 "carrier" ["piece"] wQ:=by
 refine Has.mkZ hF aCK (λds M Q ⟨p,e,_⟩=>by rw[e];rfl) λf cdv A outer s H ds M Q E hr h=>?_;obtain⟨p,rfl,b,ok,q⟩:=h;refine⟨_,(aF (bO (aX (dD hr) (aG (aB 0) aC) cU) (aH (aL sI)) aZ)
  (aF (bO (aX (dD hr) (aG (aB 0) aC) cU) (aH (aL (aE aCj hr (by decide) (aA (aG (aB 0) aC) (aA (aG (aB 0) aC) aD))))) aZ)
  (aH (aL (aY (aA cU (aA (aG (aB 0) aC) (aA (aE aFf hr (by decide) (aA (aG (aB 0) aC) (aA (aG (aB 0) aC) aD))) aD)))))))),?_⟩
 cases p with
 |dot x y =>
  dsimp only[pcD,cD] at q ⊢;ac_nf;rw[cV];exact ifT (by decide) ⟨M,.refl _,q⟩
 |str x y u v =>
  dsimp only[pcD,cD] at q ⊢;ac_nf;rw[cV];refine ifF (by decide) ?_;ac_nf;rw[cV];exact ifT (by decide) (aOj (ok x y u v rfl) b.1 b.2.1 b.2.2.1 b.2.2.2 ⟨M,.refl _,q⟩)
 |arc x y u v u2 v2 =>
  dsimp only[pcD,cD] at q ⊢;ac_nf;rw[cV];refine ifF (by decide) ?_;ac_nf;rw[cV];exact ifF (by decide) (aM9 b.1 b.2.1 b.2.2.1 b.2.2.2.1 ⟨by decide,M,.refl _,q⟩)
 |ring x y u v =>
  dsimp only[pcD,cD] at q ⊢;ac_nf;rw[cV];refine ifF (by decide) ?_;ac_nf;rw[cV];exact ifF (by decide) (aM9 b.1 b.2.1 b.2.2.1 b.2.2.2 ⟨by decide,M,.refl _,q⟩)
noncomputable def cap:Pc->List (Rat×Rat)
 |.dot x y=>[(x,y)]
 |.str x y u v=>[(x,y),(u,v)]
 |.arc _ _ ax ay bx b_y=>[(ax,ay),(bx,b_y)]
 |.ring _ _ ax ay=>[(ax,ay)]
def Va:Pc->Prop
 |.dot x y=>BQ 400 x/\BQ 400 y
 |.str x y u v=>bef x y u v=true/\BQ 400 x/\BQ 400 y/\BQ 400 u/\BQ 400 v
 |.arc cx cy ax ay bx b_y=>(BQ 60 cx/\BQ 60 cy)/\(BQ 200 (ax-cx)/\BQ 200 (ay-cy))/\(BQ 200 (bx-cx)/\BQ 200 (b_y-cy))/\¬(ax-cx=0/\ay-cy=0)/\OnR (ax-cx) (ay-cy) (bx-cx) (b_y-cy)/\¬(ax=bx/\ay=b_y)
 |.ring cx cy ax ay=>(BQ 60 cx/\BQ 60 cy)/\(BQ 200 (ax-cx)/\BQ 200 (ay-cy))/\¬(ax-cx=0/\ay-cy=0)
structure Nf (T U:List Pc):Prop where
 va:∀u∈U,Va u
 car:∀u∈U,∃t∈T,cD u=cD t
 nod:∀u∈U,∀x y,u ≠ .dot x y
 pts:∀a b,(∃u∈U,onP u a b=true) ↔ ∃t∈T,onP t a b=true
 sep:∀u∈U,∀v∈U,u≠v->∀a b,¬(onP u a b=true/\onP v a b=true)
 nd:U.Nodup
 ends:∀u∈U,∀e∈cap u,∃t∈T,e∈cap t
 one:∀t∈T,∃u∈U,∀a b,onP t a b=true->onP u a b=true
 len:U.length<=T.length
structure Li where
 ax:Rat
 ay:Rat
 bx:Rat
 b_y:Rat
noncomputable def Li.X (c:Li)(k:Rat):Rat:=c.ax+(c.bx-c.ax)*k
noncomputable def Li.Y (c:Li)(k:Rat):Rat:=c.ay+(c.b_y-c.ay)*k
def Li.up (c:Li):Prop:=bef c.ax c.ay c.bx c.b_y=true
theorem aFA {k k' x u:Rat}(h:k<k')(hx:x<u):x+(u-x)*k<x+(u-x)*k':=by have:=Rat.mul_pos (show 0<k'-k by grind) (show 0<u-x by grind);grind
theorem Li.lt {c:Li}(h:c.up){s t:Rat}(l:s<t):bef (c.X s) (c.Y s) (c.X t) (c.Y t)=true:=by
 unfold Li.up bef at h;unfold bef Li.X Li.Y;by_cases e:c.ax=c.bx
 ·rw[if_pos e] at h;have hb:=of_decide_eq_true h;rw[e,if_pos (by grind)];exact decide_eq_true (aFA l hb)
 ·rw[if_neg e] at h;have hb:=of_decide_eq_true h;have:=aFA l hb;rw[if_neg (λz=>by rw[z] at this;grind)];exact decide_eq_true this
theorem Li.bfx {c:Li}(h:c.up)(s t:Rat):bef (c.X s) (c.Y s) (c.X t) (c.Y t)=decide (s<t):=by
 rcases (show s<t∨s=t∨t<s by grind) with l|l|l
 ·rw[Li.lt h l,decide_eq_true l]
 ·rw[l,iI,decide_eq_false (by grind)]
 ·have e:¬(c.X t=c.X s/\c.Y t=c.Y s):=λ⟨z1,z2⟩=>by have:=Li.lt h l;rw[z1,z2,iI] at this;cases this
  rw[jH e,Li.lt h l,decide_eq_false (by grind)];rfl
theorem Li.inj {c:Li}(h:c.up){s t:Rat}(e1:c.X s=c.X t)(e2:c.Y s=c.Y t):s=t:=by have a:=Li.bfx h s t;have b:=Li.bfx h t s;rw[e1,e2,iI] at a;rw[e1,e2,iI] at b;have a:=of_decide_eq_false a.symm;have b:=of_decide_eq_false b.symm;grind
theorem Li.par {c:Li}(h:c.up){x y:Rat}(z:bD c.ax c.ay c.bx c.b_y x y=0):∃k,x=c.X k/\y=c.Y k:=by
 unfold bD at z;unfold Li.X Li.Y;by_cases e:c.bx=c.ax
 ·have hy:c.b_y-c.ay≠0:=λw=>by have h:bef c.ax c.ay c.bx c.b_y=true:=h;rw[e,show c.b_y=c.ay by grind,iI] at h;cases h
  have hx:x=c.ax:=by
   have:(c.b_y-c.ay)*(x-c.ax)=0:=by grind
   have:=(Rat.mul_eq_zero.mp this).resolve_left hy;grind
  exact⟨(y-c.ay)/(c.b_y-c.ay),by grind,by grind⟩
 ·have hx:c.bx-c.ax≠0:=λw=>e (by grind);exact⟨(x-c.ax)/(c.bx-c.ax),by grind,by grind⟩
theorem Li.acr (c:Li)(s t x y:Rat):bD (c.X s) (c.Y s) (c.X t) (c.Y t) x y=(t-s)*bD c.ax c.ay c.bx c.b_y x y:=by unfold bD Li.X Li.Y;grind
theorem Li.zero (c:Li)(t:Rat):bD c.ax c.ay c.bx c.b_y (c.X t) (c.Y t)=0:=by unfold bD Li.X Li.Y;grind
noncomputable def Li.str (c:Li)(s:Rp):Pc:=.str (c.X s.1) (c.Y s.1) (c.X s.2) (c.Y s.2)
theorem Li.on {c:Li}(h:c.up){s:Rp}(l:s.1<s.2)(x y:Rat):onP (c.str s) x y=true ↔ ∃t,x=c.X t/\y=c.Y t/\s.1<=t/\t<=s.2:=by
 have e:onP (c.str s) x y=(decide (bD (c.X s.1) (c.Y s.1) (c.X s.2) (c.Y s.2) x y=0)&&(!bef x y (c.X s.1) (c.Y s.1) && !bef (c.X s.2) (c.Y s.2) x y)):=rfl;rw[e,c.acr];constructor
 ·intro q;have q1:(s.2-s.1)*bD c.ax c.ay c.bx c.b_y x y=0:=by have:=(Bool.and_eq_true_iff.mp q).1;exact of_decide_eq_true this
  obtain⟨t,rfl,rfl⟩:=Li.par h ((Rat.mul_eq_zero.mp q1).resolve_left (by grind));have q2:=(Bool.and_eq_true_iff.mp q).2;rw[Li.bfx h,Li.bfx h] at q2;have q3:=Bool.and_eq_true_iff.mp q2;refine⟨t,rfl,rfl,?_,?_⟩
  ·have:=q3.1;simp at this;exact Rat.not_lt.mp this
  ·have:=q3.2;simp at this;exact Rat.not_lt.mp this
 ·rintro⟨t,rfl,rfl,a,b⟩;rw[c.zero,Li.bfx h,Li.bfx h,decide_eq_true (by grind),decide_eq_false (by grind),decide_eq_false (by grind)];rfl
theorem Li.line {c:Li}(h:c.up){s:Rp}(l:s.1<s.2):cD (c.str s)=kS c.ax c.ay c.bx c.b_y:=by
 have n0:¬(c.ax=c.bx/\c.ay=c.b_y):=λ⟨z1,z2⟩=>by have h:bef c.ax c.ay c.bx c.b_y=true:=h;rw[z1,z2,iI] at h;cases h
 have n1:¬(c.X s.1=c.X s.2/\c.Y s.1=c.Y s.2):=λ⟨z1,z2⟩=>by have:=Li.inj h z1 z2;grind
 show kS (c.X s.1) (c.Y s.1) (c.X s.2) (c.Y s.2)=_;refine(aDg n1 n0).mpr ⟨?_,?_⟩
 ·rw[c.acr];unfold bD;grind
 ·rw[c.acr];unfold bD;grind
noncomputable def Li.ar (c:Li):Ar:=⟨λk=>PQ (c.X k) (c.Y k),λk=>BQ 400 (c.X k)/\BQ 400 (c.Y k)⟩
theorem aAd {x y u v:Rat}(h:PQ x y=PQ u v):x=u/\y=v:=by
 unfold PQ FQ at h;injection h with h
 injection h with h1 h
 injection h with h2 _
 injection h1 with h1
 injection h1 with h1 h3
 injection h3 with h3 _
 injection h1 with h1
 injection h3 with h3
 injection h2 with h2
 injection h2 with h2 h4
 injection h4 with h4 _
 injection h2 with h2
 injection h4 with h4
 exact⟨Rat.ext h1 (by exact_mod_cast h3),Rat.ext h2 (by exact_mod_cast h4)⟩
theorem Li.arOk {c:Li}(h:c.up):c.ar.Ok:=λs t _ _ e=>by obtain⟨e1,e2⟩:=aAd e;exact Li.inj h e1 e2
theorem Li.all {c:Li}(h:c.up){T:List Pc}(hT:∀t∈T,∃x y u v,t=.str x y u v/\Va t/\cD t=kS c.ax c.ay c.bx c.b_y):∃S:List Rp,T=S.map c.str/\∀s∈S,s.1<s.2/\c.ar.In s:=by
 induction T with
 |nil=>exact⟨[],rfl,λs hs=>by cases hs⟩
 |cons t T ih =>
  obtain⟨S,e,hS⟩:=ih λt ht=>hT t (mem_cons_of_mem _ ht);obtain⟨x,y,u,v,rfl,va,ca⟩:=hT t mem_cons_self;have n0:¬(c.ax=c.bx/\c.ay=c.b_y):=λ⟨z1,z2⟩=>by have h:bef c.ax c.ay c.bx c.b_y=true:=h;rw[z1,z2,iI] at h;cases h
  have n1:¬(x=u/\y=v):=λ⟨z1,z2⟩=>by have h:=va.1;rw[z1,z2,iI] at h;cases h
  have ca:kS x y u v=kS c.ax c.ay c.bx c.b_y:=ca;obtain⟨a1,a2⟩:=(aDg n0 n1).mp ca.symm;obtain⟨k,rfl,rfl⟩:=Li.par h a1;obtain⟨k',rfl,rfl⟩:=Li.par h a2;have l:k<k':=by have:=va.1;rw[Li.bfx h] at this;exact of_decide_eq_true this
  refine⟨(k,k')::S,by rw[e];rfl,λs hs=>?_⟩;rcases List.mem_cons.mp hs with z|z
  ·rw[z];exact⟨l,⟨va.2.1,va.2.2.1⟩,va.2.2.2.1,va.2.2.2.2⟩
  ·exact hS s z
theorem Li.str_inj {c:Li}(h:c.up){s t:Rp}(e:c.str s=c.str t):s=t:=by
 unfold Li.str at e;injection e with e1 e2 e3 e4
 exact Prod.ext (Li.inj h e1 e2) (Li.inj h e3 e4)
theorem Li.nf {c:Li}(h:c.up){S J:List Rp}(hS:∀s∈S,s.1<s.2/\c.ar.In s)(n:Rmp S J)(l:J.length<=S.length):Nf (S.map c.str) (J.map c.str):=by
 have lg:=n.long λs hs=>(hS s hs).1;have nod:∀s x y,c.str s ≠ .dot x y:=λs x y e=>by unfold Li.str at e;cases e
 refine⟨λu hu=>?_,λu hu=>?_,λu hu x y=>?_,λa b=>?_,λu hu v hv ne a b=>?_,?_,λu hu e he=>?_,λt ht=>?_,by rw[length_map,length_map];exact l⟩
 ·obtain⟨x,hx,rfl⟩:=List.mem_map.mp hu;obtain⟨s,hs,e1⟩:=n.st x hx;obtain⟨t,ht,e2⟩:=n.en x hx;have i1:=(hS s hs).2.1;have i2:=(hS t ht).2.2;rw[e1] at i1;rw[e2] at i2;exact⟨by rw[Li.bfx h];exact decide_eq_true (lg x hx),i1.1,i1.2,i2.1,i2.2⟩
 ·obtain⟨x,hx,rfl⟩:=List.mem_map.mp hu;obtain⟨s,hs,_⟩:=n.st x hx;exact⟨_,List.mem_map.mpr ⟨s,hs,rfl⟩,by rw[Li.line h (lg x hx),Li.line h (hS s hs).1]⟩
 ·obtain⟨z,_,rfl⟩:=List.mem_map.mp hu;exact nod z x y
 ·constructor
  ·rintro⟨u,hu,o⟩;obtain⟨x,hx,rfl⟩:=List.mem_map.mp hu;obtain⟨t,e1,e2,z⟩:=(Li.on h (lg x hx) a b).mp o;obtain⟨s,hs,z⟩:=(n.pts t).mp ⟨x,hx,z⟩;exact⟨_,List.mem_map.mpr ⟨s,hs,rfl⟩,(Li.on h (hS s hs).1 a b).mpr ⟨t,e1,e2,z⟩⟩
  ·rintro⟨u,hu,o⟩;obtain⟨s,hs,rfl⟩:=List.mem_map.mp hu;obtain⟨t,e1,e2,z⟩:=(Li.on h (hS s hs).1 a b).mp o;obtain⟨x,hx,z⟩:=(n.pts t).mpr ⟨s,hs,z⟩;exact⟨_,List.mem_map.mpr ⟨x,hx,rfl⟩,(Li.on h (lg x hx) a b).mpr ⟨t,e1,e2,z⟩⟩
 ·obtain⟨x,hx,rfl⟩:=List.mem_map.mp hu;obtain⟨y,hy,rfl⟩:=List.mem_map.mp hv;have d:x≠y:=λe=>ne (by rw[e]);rintro⟨o1,o2⟩;obtain⟨t,e1,e2,z⟩:=(Li.on h (lg x hx) a b).mp o1;obtain⟨t',e3,e4,z'⟩:=(Li.on h (lg y hy) a b).mp o2;have:=Li.inj h (e1.symm.trans e3) (e2.symm.trans e4);subst this;rcases n.ne hx hy d with f|f<;>grind
 ·have:=n.nodup;unfold Nodup at this ⊢;rw[pairwise_map];exact this.imp λh1 z=>h1 (Li.str_inj h z)
 ·obtain⟨x,hx,rfl⟩:=List.mem_map.mp hu;obtain⟨s,hs,e1⟩:=n.st x hx;obtain⟨t,ht,e2⟩:=n.en x hx;have he:e=(c.X x.1,c.Y x.1)∨e=(c.X x.2,c.Y x.2):=by have:e∈[(c.X x.1,c.Y x.1),(c.X x.2,c.Y x.2)]:=he;simpa using this
  rcases he with z|z
  ·exact⟨_,List.mem_map.mpr ⟨s,hs,rfl⟩,by rw[z,<- e1];exact mem_cons_self⟩
  ·exact⟨_,List.mem_map.mpr ⟨t,ht,rfl⟩,by rw[z,<- e2];exact mem_cons_of_mem _ mem_cons_self⟩
 ·obtain⟨s,hs,rfl⟩:=List.mem_map.mp ht;obtain⟨x,hx,a1,a2⟩:=n.cov s hs;refine⟨_,List.mem_map.mpr ⟨x,hx,rfl⟩,λa b o=>?_⟩;obtain⟨t,e1,e2,z⟩:=(Li.on h (hS s hs).1 a b).mp o;exact(Li.on h (lg x hx) a b).mpr ⟨t,e1,e2,by grind,by grind⟩
def aF1 (pt:Addr):DSp:=λds M Q=>∃(l:Addr)(T:List Pc),ds = [.ref l]/\M (.l l) = some (T.map pcD)/\T≠[]/\(∀t∈T,Va t/\∃x y u v,t = .str x y u v)/\(∀t∈T,∀t'∈T,cD t = cD t')/\T.length<=100/\M (.x pt) = some [.str "joined_spans.<locals>.<lambda>"] /\
 ∀(p:Addr)(M':DM) (U:List Pc),bK M M'->M (.l p)=none->M' (.l p)=some (U.map pcD)->Nf T U->Q (.ref p) M'
theorem Li.ear {c:Li}(h:c.up)(gQ:Has P w K mg base 102 "before" ["p","q"] mC){g:Addr}(hg:mg "before"=some (.ref g)):aBu P w K mg base 106 g c.ar.dom c.ar.lt :=
 ⟨_,_,_,hg,gQ.mono (by decide),λx y M Q ⟨s,hs,e1⟩ ⟨t,ht,e2⟩ q=>by have m:∀{z:Rat},BQ 400 z->BQ 4400 z:=λh=>h.mono (by decide);rw[e1,e2,Ar.lt_eq (Li.arOk h) hs ht] at q;refine⟨_,_,_,_,by rw[e1,e2];rfl,m hs.1,m hs.2,m ht.1,m ht.2,?_⟩;rw[Li.bfx h];exact q⟩
noncomputable def Li.sD (c:Li)(s:Rp):D:=s3D (c.ar.s3 s)
noncomputable abbrev eC:Stmt:=top 47
theorem jQ:aR ["stretches","spans"] ["stretches"] (aI eC):=by ac_rfl
theorem oS {pt:Addr}(hF:cR K mg "joined_stretches" eC ["stretches"])(gQ:Has P w K mg base 102 "before" ["p","q"] mC)(eQ:Has P w K mg base 120 "joined_spans" ["spans","earlier"] (aGm P w K mg base pt)):Has P w K mg base 122 "joined_stretches" ["stretches"] (aF1 pt):=by
 obtain⟨gb,_,_,hgb,_⟩:=id gQ;have g_before:aDO K mg "before" (.ref gb):=⟨_,.ref gb,hgb,rfl,λH=>dM⟩;refine Has.mkZ hF jQ (λds M Q ⟨_,_,e,_⟩=>by rw[e];rfl) λf cdv A outer s H ds M Q E hr h=>?_;obtain⟨l,T,rfl,hl,Tne,hT,hC,ln,hP,q⟩:=h;refine⟨_,(aF (aCM (i:=1) (⟨rfl,by decide +kernel,by decide +kernel,by decide +kernel,rfl,by decide +kernel⟩:oE ["stretches","spans"] (aI eC) ["piece"] [none] _) rfl jQ.nd (aB 0) (λ_ _ _ _ _=>(aO (i:=0) (show Nodup (["piece"]:List Str) by decide +kernel))) (λ_ _ _ _ _=>(aY (aA (aG (aB 0) aC) (aA (aG (aB 0) aC) (aA sI aD))))))
  (aH (aL (mP (⟨rfl,by decide +kernel,by decide +kernel,by decide +kernel,rfl,by decide +kernel⟩:oE ["stretches","spans"] (aI eC) ["p","q","number"] [none,none,none] _) rfl (aE eQ hr (by decide) (aA (aB 1) (aA (qN g_before) aD))) (λ_ _ _ _ _=>(eD (n:=3) rfl (aU (aO (i:=0) (show Nodup (["p","q","number"]:List Str) by decide +kernel)) (aU (aO (i:=1) (show Nodup (["p","q","number"]:List Str) by decide +kernel)) (aU (aO (i:=2) (show Nodup (["p","q","number"]:List Str) by decide +kernel)) dG))))) (λ_ _ _ _ _=>(aY (aA cU (aA (aB 0) (aA (aB 1) aD))))))))),?_⟩
 obtain⟨t0,T',eT⟩:=List.exists_cons_of_ne_nil Tne;have m0:t0∈T:=by rw[eT];exact mem_cons_self
 obtain⟨va0,ax,ay,bx,b_y,e0⟩:=hT t0 m0;obtain⟨c,hc⟩:∃c:Li,c=⟨ax,ay,bx,b_y⟩:=⟨_,rfl⟩;have up:c.up:=by rw[hc];rw[e0] at va0;exact va0.1
 have hT2:∀t∈T,∃x y u v,t=.str x y u v/\Va t/\cD t=kS c.ax c.ay c.bx c.b_y:=λt ht=>by obtain⟨va,x,y,u,v,e⟩:=hT t ht;exact⟨x,y,u,v,e,va,by rw[hC t ht t0 m0,e0,hc];rfl⟩
 obtain⟨S,eS,hS⟩:=Li.all up hT2;clear hT2 hT hC e0 va0 m0 eT Tne hc;subst eS;rw[map_map] at hl;rw[length_map] at ln;ac_nf;refine⟨_,hl,by rw[length_map];omega,λi ys M'=>M'=M/\ys=(S.take i).map c.sD,⟨rfl,rfl⟩,?_,?_,?_⟩
 ·rintro i ys M' _ ⟨rfl,_⟩ a e;cases e;exact hl
 ·rintro i d ys M' hd ⟨rfl,rfl⟩;rw[getElem?_map] at hd;obtain⟨s,hs,rfl⟩:=Option.map_eq_some_iff.mp hd;dsimp only[Function.comp,Li.str,pcD];ac_nf;exact⟨by decide,rfl,by rw[gO hs,map_append];rfl⟩
 rintro ys M' - ⟨e0,rfl⟩ p1 hp1;rw[e0] at hp1 ⊢;clear e0 M';rw[length_map,take_length];ac_nf;have s1:bK M (bE M p1 (S.map c.sD)):=bK.new hp1 _;refine⟨p1,gb,S.map c.ar.s3,c.ar.dom,c.ar.lt,rfl,by rw[aK,map_map];rfl,λx hx=>?_,by rw[length_map];omega,by rw[iL];exact hP,Li.ear up gQ hgb,Ar.ltOk (Li.arOk up),λp2 M2 zs s2 n2 e2 pm so=>?_⟩
 ·obtain⟨s,hs,rfl⟩:=List.mem_map.mp hx;exact⟨⟨_,(hS s hs).2.1,rfl⟩,_,(hS s hs).2.2,rfl⟩
 obtain⟨J,cj,ej,lj,_⟩:=Ar.joined (Li.arOk up) (λs hs=>(hS s hs).2) (λs hs=>Rat.le_of_lt (hS s hs).1) pm so;rw[ej,map_map] at e2;ac_nf;refine⟨_,e2,by rw[length_map];omega,λi ys M'=>M'=M2/\ys=(J.take i).map λs=>pcD (c.str s),⟨rfl,rfl⟩,?_,?_,?_⟩
 ·rintro i ys M' _ ⟨rfl,_⟩ a e;cases e;exact e2
 ·rintro i d ys M' hd ⟨rfl,rfl⟩;rw[getElem?_map] at hd;obtain⟨s,hs,rfl⟩:=Option.map_eq_some_iff.mp hd;dsimp only[Function.comp,s3D,Ar.s3];ac_nf;exact⟨rfl,by decide,rfl,by rw[gO hs,map_append];rfl⟩
 rintro ys M3 - ⟨e0,rfl⟩ p3 hp3;rw[e0] at hp3 ⊢;clear e0 M3;rw[length_map,take_length];exact qY (q p3 _ (J.map c.str) (s1.trans (s2.trans (bK.new hp3 _))) (gG (s1.trans s2) hp3) (by rw[aK,map_map];rfl) (Li.nf up hS cj.c lj))
structure Ci where
 cx:Rat
 cy:Rat
 x:Rat
 y:Rat
structure Ci.Ok (c:Ci):Prop where
 h0:¬(c.x=0/\c.y=0)
 bx:BQ 60 c.cx
 b_y:BQ 60 c.cy
 b1:BQ 200 c.x
 b2:BQ 200 c.y
structure Ci.On (c:Ci)(w:Rat×Rat):Prop where
 on:OnR c.x c.y w.1 w.2
 b1:BQ 200 w.1
 b2:BQ 200 w.2
 bz:BQ 300 (plZ c.x c.y w.1 w.2)
noncomputable def Ci.ph (c:Ci)(w:Rat×Rat):Rat:=phi c.x c.y w.1 w.2
theorem Ci.bd {c:Ci}(h:c.Ok){w:Rat×Rat}(hw:OnR c.x c.y w.1 w.2):0<=c.ph w/\c.ph w<3:=by
 unfold Ci.ph;rcases nE h.h0 hw with⟨_,_,e⟩|⟨t,_,_,e⟩
 ·rw[e];constructor<;>grind
 ·rw[e];rcases (show t<0∨0<=t by grind) with c|c
  ·have:=(jF c).2;constructor<;>grind
  ·have:=(jC c).2;constructor<;>grind
theorem Ci.inj {c:Ci}(h:c.Ok){v w:Rat×Rat}(hv:OnR c.x c.y v.1 v.2)(hw:OnR c.x c.y w.1 w.2)(e:c.ph v=c.ph w):v=w:=by obtain⟨a,b⟩:=sE h.h0 hv hw e;exact Prod.ext a b
noncomputable def Ci.wy (c:Ci)(t:Rat):Rat×Rat:=@dite _ (∃w,c.On w/\c.ph w=t) (Classical.propDecidable _) (λh=>h.choose) λ_=>(0,0)
theorem Ci.wy_ph {c:Ci}(h:c.Ok){w:Rat×Rat}(hw:c.On w):c.wy (c.ph w)=w:=by have e:∃v,c.On v/\c.ph v=c.ph w:=⟨w,hw,rfl⟩;unfold Ci.wy;rw[dif_pos e];exact Ci.inj h e.choose_spec.1.on hw.on e.choose_spec.2
noncomputable def Ci.ar (c:Ci):Ar:=⟨λt=>plc (if t<3 then 0 else 1) c.x c.y (c.wy (if t<3 then t else t-3)).1 (c.wy (if t<3 then t else t-3)).2,λt=>∃w,c.On w/\(t=c.ph w∨t=c.ph w+3)⟩
theorem Ci.X0 {c:Ci}(h:c.Ok){w:Rat×Rat}(hw:c.On w):c.ar.X (c.ph w)=plc 0 c.x c.y w.1 w.2:=by have:=(Ci.bd h hw.on).2;show plc (if c.ph w<3 then 0 else 1) c.x c.y (c.wy (if c.ph w<3 then c.ph w else c.ph w-3)).1 (c.wy (if c.ph w<3 then c.ph w else c.ph w-3)).2=_;rw[if_pos this,if_pos this,Ci.wy_ph h hw]
theorem Ci.X1 {c:Ci}(h:c.Ok){w:Rat×Rat}(hw:c.On w):c.ar.X (c.ph w+3)=plc 1 c.x c.y w.1 w.2:=by
 have:=(Ci.bd h hw.on).1;have n:¬c.ph w+3<3:=by grind
 show plc (if c.ph w+3<3 then 0 else 1) c.x c.y (c.wy (if c.ph w+3<3 then c.ph w+3 else c.ph w+3-3)).1 (c.wy (if c.ph w+3<3 then c.ph w+3 else c.ph w+3-3)).2=_;rw[if_neg n,if_neg n,show c.ph w+3-3=c.ph w by grind,Ci.wy_ph h hw]
theorem Ci.lat0 {c:Ci}(h:c.Ok)(a:Int){v w:Rat×Rat}(hv:c.On v)(hw:c.On w):lat a (plK c.x c.y v.1 v.2) (plZ c.x c.y v.1 v.2) a (plK c.x c.y w.1 w.2) (plZ c.x c.y w.1 w.2)=decide (c.ph v<c.ph w):=by
 have e:=(aFI h.h0 hv.on hw.on).symm.trans (aEf h.h0 hv.on hw.on);unfold aKE at e;unfold Ci.ph;rw[<- e];unfold lat;by_cases k:plK c.x c.y v.1 v.2=plK c.x c.y w.1 w.2
 ·rw[if_pos ⟨rfl,k⟩,if_pos k]
 ·rw[if_neg (λz=>k z.2),if_neg k];exact decide_eq_decide.mpr ⟨λz=>z.elim (λz=>by omega) λz=>z.2,λz=>.inr ⟨rfl,z⟩⟩
theorem Ci.sooC {c:Ci}(h:c.Ok){s t:Rat}(hs:c.ar.R s)(ht:c.ar.R t){M:DM}{Q:DQ}(q:Q (.bl (decide (s<t))) M):lP [c.ar.X s,c.ar.X t] M Q:=by
 obtain⟨v,hv,ev⟩:=hs;obtain⟨w,hw,ew⟩:=ht;have b1:=Ci.bd h hv.on;have b2:=Ci.bd h hw.on;rcases ev with rfl|rfl<;>rcases ew with rfl|rfl
 ·rw[Ci.X0 h hv,Ci.X0 h hw];refine⟨_,_,_,_,_,_,rfl,hv.bz,hw.bz,?_⟩;rw[Ci.lat0 h 0 hv hw];exact q
 ·rw[Ci.X0 h hv,Ci.X1 h hw];refine⟨_,_,_,_,_,_,rfl,hv.bz,hw.bz,?_⟩;unfold lat;rw[if_neg (λz=>absurd z.1 (by decide)),decide_eq_true (.inl (by decide))];rw[decide_eq_true (by grind)] at q;exact q
 ·rw[Ci.X1 h hv,Ci.X0 h hw];refine⟨_,_,_,_,_,_,rfl,hv.bz,hw.bz,?_⟩;unfold lat;rw[if_neg (λz=>absurd z.1 (by decide)),decide_eq_false (λz=>z.elim (λz=>absurd z (by decide)) λz=>absurd z.1 (by decide))];rw[decide_eq_false (by grind)] at q;exact q
 ·rw[Ci.X1 h hv,Ci.X1 h hw];refine⟨_,_,_,_,_,_,rfl,hv.bz,hw.bz,?_⟩;rw[Ci.lat0 h 1 hv hw];rw[show decide (c.ph v+3<c.ph w+3)=decide (c.ph v<c.ph w) from decide_eq_decide.mpr ⟨λz=>by grind,λz=>by grind⟩] at q;exact q
theorem aCT {x y:Rat}(h:FQ x=FQ y):x=y:=by
 unfold FQ at h;injection h with h
 injection h with h1 h
 injection h1 with h1
 injection h with h2 _
 injection h2 with h2
 exact Rat.ext h1 (by exact_mod_cast h2)
theorem aHL {a b:Int}{x y p q u v:Rat}(h:plc a x y p q=plc b x y u v):a=b/\plK x y p q=plK x y u v/\plZ x y p q=plZ x y u v:=by
 unfold plc at h;injection h with h
 injection h with h1 h
 injection h with h2 h
 injection h with h3 _
 injection h1 with h1
 injection h2 with h2
 exact⟨h1,h2,aCT h3⟩
theorem Ci.arOk {c:Ci}(h:c.Ok):c.ar.Ok:=λs t hs ht e=>by
 obtain⟨v,hv,ev⟩:=hs;obtain⟨w,hw,ew⟩:=ht;have same:∀{a b:Int},plc a c.x c.y v.1 v.2=plc b c.x c.y w.1 w.2->a=b/\c.ph v=c.ph w:=λe=>by
  obtain⟨e1,e2,e3⟩:=aHL e;have a:=Ci.lat0 h 0 hv hw;have b:=Ci.lat0 h 0 hw hv;have z:∀k q,lat 0 k q 0 k q=false:=λk q=>by unfold lat;rw[if_pos ⟨rfl,rfl⟩];exact decide_eq_false Rat.lt_irrefl
  rw[e2,e3,z] at a;rw[e2,e3,z] at b;have a:=of_decide_eq_false a.symm;have b:=of_decide_eq_false b.symm;exact⟨e1,by grind⟩
 rcases ev with rfl|rfl<;>rcases ew with rfl|rfl
 ·rw[Ci.X0 h hv,Ci.X0 h hw] at e;exact(same e).2
 ·rw[Ci.X0 h hv,Ci.X1 h hw] at e;exact absurd (same e).1 (by decide)
 ·rw[Ci.X1 h hv,Ci.X0 h hw] at e;exact absurd (same e).1 (by decide)
 ·rw[Ci.X1 h hv,Ci.X1 h hw] at e;rw[(same e).2]
theorem zK (a b c d e f:Rat):bD a b c d e f = -bD a b e f c d:=by unfold bD;grind
theorem Ci.on_arc {c:Ci}(h:c.Ok){a b p:Rat×Rat}(ha:OnR c.x c.y a.1 a.2)(hb:OnR c.x c.y b.1 b.2)(hp:OnR c.x c.y p.1 p.2)(ne:a≠b):gP a.1 a.2 b.1 b.2 p.1 p.2=false↔onA (c.ph a,c.ph b) (c.ph p):=by
 have L:∀{u v w:Rat×Rat},OnR c.x c.y u.1 u.2->OnR c.x c.y v.1 v.2->OnR c.x c.y w.1 w.2->c.ph u<c.ph v->c.ph v<c.ph w->0<bD u.1 u.2 v.1 v.2 w.1 w.2:=λhu hv hw l1 l2=>xF h.h0 hu hv hw l1 l2;have z1:p=a->bD a.1 a.2 b.1 b.2 p.1 p.2=0:=λe=>by rw[e];unfold bD;grind
 have z2:p=b->bD a.1 a.2 b.1 b.2 p.1 p.2=0:=λe=>by rw[e];unfold bD;grind
 have e0:gP a.1 a.2 b.1 b.2 p.1 p.2=decide (0<bD a.1 a.2 b.1 b.2 p.1 p.2):=by unfold gP;rw[if_neg (λz=>ne (Prod.ext z.1 z.2).symm)];exact decide_eq_decide.mpr tE
 rw[e0,decide_eq_false_iff_not];have tri:∀u v:Rat×Rat,OnR c.x c.y u.1 u.2->OnR c.x c.y v.1 v.2->c.ph u<c.ph v∨u=v∨c.ph v<c.ph u:=λu v hu hv=>by
  rcases (show c.ph u<c.ph v∨c.ph u=c.ph v∨c.ph v<c.ph u by grind) with z|z|z
  ·exact .inl z
  ·exact .inr (.inl (Ci.inj h hu hv z))
  ·exact .inr (.inr z)
 have pos:∀{A:Rat}{B:Prop},0<A->¬B->(¬0<A↔B):=λa b=>⟨λz=>absurd a z,λz=>absurd z b⟩;have neg:∀{A:Rat}{B:Prop},A<=0->B->(¬0<A↔B):=λa b=>⟨λ_=>b,λ_ z=>by grind⟩;unfold onA;dsimp only;rcases tri a b ha hb with l|l|l
 ·rw[if_pos l];rcases tri p a hp ha with o|o|o
  ·refine pos ?_ (by grind);have:=L hp ha hb o l;rw[(gE _ _ _ _ _ _).1] at this;exact this
  ·exact neg (by rw[z1 o];grind) (by rw[o];constructor<;>grind)
  ·rcases tri p b hp hb with o2|o2|o2
   ·have:=L ha hp hb o o2;rw[zK] at this;exact neg (by grind) (by constructor<;>grind)
   ·exact neg (by rw[z2 o2];grind) (by rw[o2];constructor<;>grind)
   ·exact pos (L ha hb hp l o2) (by grind)
 ·exact absurd l ne
 ·rw[if_neg (by grind)];rcases tri p b hp hb with o|o|o
  ·have:=L hp hb ha o l;rw[(gE _ _ _ _ _ _).1,(gE _ _ _ _ _ _).1,zK] at this;exact neg (by grind) (.inr (by grind))
  ·exact neg (by rw[z2 o];grind) (.inr (by rw[o];grind))
  ·rcases tri p a hp ha with o2|o2|o2
   ·refine pos ?_ (by grind);have:=L hb hp ha o o2;rw[(gE _ _ _ _ _ _).1,(gE _ _ _ _ _ _).1] at this;exact this
   ·exact neg (by rw[z1 o2];grind) (.inl (by rw[o2];grind))
   ·have:=L hb ha hp l o2;rw[(gE _ _ _ _ _ _).2] at this;exact neg (by grind) (.inl (by grind))
noncomputable def Ci.arc (c:Ci)(a b:Rat×Rat):Pc:=.arc c.cx c.cy (c.cx+a.1) (c.cy+a.2) (c.cx+b.1) (c.cy+b.2)
noncomputable def Ci.ring (c:Ci)(a:Rat×Rat):Pc:=.ring c.cx c.cy (c.cx+a.1) (c.cy+a.2)
noncomputable def Ci.wp (c:Ci)(X Y:Rat):Rat×Rat:=(X-c.cx,Y-c.cy)
theorem Ci.far {c:Ci}{a:Rat×Rat}(ha:OnR c.x c.y a.1 a.2)(X Y:Rat):(fF c.cx c.cy X Y=fF c.cx c.cy (c.cx+a.1) (c.cy+a.2))↔OnR c.x c.y (c.wp X Y).1 (c.wp X Y).2:=by
 unfold OnR at ha ⊢;unfold fF Ci.wp;dsimp only;constructor
 ·intro z;grind
 ·intro z;grind
theorem Ci.onRing {c:Ci}{a:Rat×Rat}(ha:OnR c.x c.y a.1 a.2)(X Y:Rat):onP (c.ring a) X Y=true↔OnR c.x c.y (c.wp X Y).1 (c.wp X Y).2:=by show decide (fF c.cx c.cy X Y=fF c.cx c.cy (c.cx+a.1) (c.cy+a.2))=true↔_;rw[decide_eq_true_eq];exact Ci.far ha X Y
theorem Ci.onArc {c:Ci}(h:c.Ok){a b:Rat×Rat}(ha:OnR c.x c.y a.1 a.2)(hb:OnR c.x c.y b.1 b.2)(ne:a≠b)(X Y:Rat):onP (c.arc a b) X Y=true↔OnR c.x c.y (c.wp X Y).1 (c.wp X Y).2/\onA (c.ph a,c.ph b) (c.ph (c.wp X Y)):=by
 have e:onP (c.arc a b) X Y=(decide (fF c.cx c.cy X Y=fF c.cx c.cy (c.cx+a.1) (c.cy+a.2)) && !gP (c.cx+a.1) (c.cy+a.2) (c.cx+b.1) (c.cy+b.2) X Y):=rfl;have eX:X=c.cx+(c.wp X Y).1:=by unfold Ci.wp;grind
 have eY:Y=c.cy+(c.wp X Y).2:=by unfold Ci.wp;grind
 rw[e,Bool.and_eq_true_iff,decide_eq_true_eq,Ci.far ha X Y];refine and_congr_right λhp=>?_;have:gP (c.cx+a.1) (c.cy+a.2) (c.cx+b.1) (c.cy+b.2) X Y=gP a.1 a.2 b.1 b.2 (c.wp X Y).1 (c.wp X Y).2:=by
  conv=>lhs;rw[eX,eY]
  exact aBm _ _ _ _ _ _ _ _
 rw[this,Bool.not_eq_true',Ci.on_arc h ha hb hp ne]
noncomputable def Ci.sp (c:Ci)(y:(Rat×Rat)×(Rat×Rat)):Rp:=(c.ph y.1,if c.ph y.1<c.ph y.2 then c.ph y.2 else c.ph y.2+3)
structure Ci.Two (c:Ci)(y:(Rat×Rat)×(Rat×Rat)):Prop where
 a:c.On y.1
 b:c.On y.2
 ne:y.1≠y.2
theorem Ci.sp_bd {c:Ci}(h:c.Ok){y:(Rat×Rat)×(Rat×Rat)}(hy:c.Two y):(0<=(c.sp y).1/\(c.sp y).1<3)/\(c.sp y).1<(c.sp y).2/\(c.sp y).2<6:=by have b1:=Ci.bd h hy.a.on;have b2:=Ci.bd h hy.b.on;unfold Ci.sp;dsimp only;refine⟨b1,?_,?_⟩<;>split<;>grind
theorem Ci.sp_on {c:Ci}(h:c.Ok){y:(Rat×Rat)×(Rat×Rat)}(hy:c.Two y){p:Rat}(p0:0<=p)(p1:p<3):(((c.sp y).1<=p/\p<=(c.sp y).2)∨p+3<=(c.sp y).2)↔onA (c.ph y.1,c.ph y.2) p:=by
 have b1:=Ci.bd h hy.a.on;have b2:=Ci.bd h hy.b.on;unfold Ci.sp onA;dsimp only;by_cases l:c.ph y.1<c.ph y.2
 ·rw[if_pos l,if_pos l];constructor
  ·rintro(z|z)
   ·exact z
   ·grind
  ·exact .inl
 ·rw[if_neg l,if_neg l];constructor
  ·rintro(z|z)
   ·exact .inl z.1
   ·exact .inr (by grind)
  ·rintro(z|z)
   ·exact .inl ⟨z,by grind⟩
   ·exact .inr (by grind)
theorem Ci.cyc {c:Ci}(h:c.Ok){A:List ((Rat×Rat)×(Rat×Rat))}(hA:∀y∈A,c.Two y){V:List Rp}{l:Rp}(n:Rn (A.map c.sp) (V++[l])):aJR V l/\∀p,0<=p->p<3->(aEx V l p ↔ ∃y∈A,onA (c.ph y.1,c.ph y.2) p):=by
 have inS:∀s∈A.map c.sp,(0<=s.1/\s.1<3)/\s.1<s.2/\s.2<6:=λs hs=>by obtain⟨y,hy,rfl⟩:=List.mem_map.mp hs;exact Ci.sp_bd h (hA y hy)
 have lg:=n.c.long λs hs=>(inS s hs).2.1;have ml:l∈V++[l]:=mem_append_right _ mem_cons_self;have lo:∀x∈V++[l],0<=x.1/\x.1<x.2/\x.1<3:=λx hx=>by obtain⟨s,hs,e⟩:=n.c.st x hx;have:=(inS s hs).1;rw[e] at this;exact⟨this.1,lg x hx,this.2⟩
 have hi:l.2<6:=by obtain⟨s,hs,e⟩:=n.c.en l ml;rw[<- e];exact(inS s hs).2.2
 have lV:∀x∈V,x.2<l.1:=λx hx=>(List.pairwise_append.mp n.asc).2.2 x hx l mem_cons_self;refine⟨⟨n.asc,lo,hi⟩,λp p0 p1=>?_⟩;have step:aEx V l p ↔ ∃s∈A.map c.sp,(s.1<=p/\p<=s.2)∨p+3<=s.2:=by
  constructor
  ·rintro(z|z)
   ·obtain⟨s,hs,z⟩:=(n.c.pts p).mp z;exact⟨s,hs,.inl z⟩
   ·obtain⟨s,hs,z⟩:=(n.c.pts (p+3)).mp ⟨l,ml,by have:=lo l ml;grind,z⟩;exact⟨s,hs,.inr z.2⟩
  ·rintro⟨s,hs,z|z⟩
   ·exact .inl ((n.c.pts p).mpr ⟨s,hs,z⟩)
   ·obtain⟨x,hx,z⟩:=(n.c.pts (p+3)).mpr ⟨s,hs,by have:=inS s hs;grind,z⟩;rcases List.mem_append.mp hx with y|y
    ·have:=lV x y;have:=lo l ml;grind
    ·rw[List.mem_singleton.mp y] at z;exact .inr z.2
 rw[step];constructor
 ·rintro⟨s,hs,z⟩;obtain⟨y,hy,rfl⟩:=List.mem_map.mp hs;exact⟨y,hy,(Ci.sp_on h (hA y hy) p0 p1).mp z⟩
 ·rintro⟨y,hy,z⟩;exact⟨_,List.mem_map.mpr ⟨y,hy,rfl⟩,(Ci.sp_on h (hA y hy) p0 p1).mpr z⟩
theorem Ci.carA {c:Ci}{a:Rat×Rat}(ha:OnR c.x c.y a.1 a.2)(b:Rat×Rat):cD (c.arc a b) = .tup [.str "circle",PQ c.cx c.cy,FQ (c.x*c.x+c.y*c.y)]/\cD (c.ring a) = .tup [.str "circle",PQ c.cx c.cy,FQ (c.x*c.x+c.y*c.y)]:=by
 have e:(c.cx-(c.cx+a.1))*(c.cx-(c.cx+a.1))+(c.cy-(c.cy+a.2))*(c.cy-(c.cy+a.2))=c.x*c.x+c.y*c.y:=by unfold OnR at ha;grind
 constructor
 ·show D.tup [.str "circle",PQ c.cx c.cy,FQ ((c.cx-(c.cx+a.1))*(c.cx-(c.cx+a.1))+(c.cy-(c.cy+a.2))*(c.cy-(c.cy+a.2)))]=_;rw[e]
 ·show D.tup [.str "circle",PQ c.cx c.cy,FQ ((c.cx-(c.cx+a.1))*(c.cx-(c.cx+a.1))+(c.cy-(c.cy+a.2))*(c.cy-(c.cy+a.2)))]=_;rw[e]
theorem uH (c x:Rat):c+x-c=x:=by grind
theorem Ci.ne0 {c:Ci}(h:c.Ok){a:Rat×Rat}(ha:OnR c.x c.y a.1 a.2):¬(a.1=0/\a.2=0):=λ⟨z1,z2⟩=>by unfold OnR at ha;rw[z1,z2] at ha;have:=aBg h.h0;grind
theorem Ci.vaA {c:Ci}(h:c.Ok){a b:Rat×Rat}(ha:c.On a)(hb:c.On b)(ne:a≠b):Va (c.arc a b):=by show(BQ 60 c.cx/\BQ 60 c.cy)/\(BQ 200 (c.cx+a.1-c.cx)/\BQ 200 (c.cy+a.2-c.cy))/\(BQ 200 (c.cx+b.1-c.cx)/\BQ 200 (c.cy+b.2-c.cy))/\¬(c.cx+a.1-c.cx=0/\c.cy+a.2-c.cy=0)/\OnR (c.cx+a.1-c.cx) (c.cy+a.2-c.cy) (c.cx+b.1-c.cx) (c.cy+b.2-c.cy)/\¬(c.cx+a.1=c.cx+b.1/\c.cy+a.2=c.cy+b.2);rw[uH,uH,uH,uH];exact⟨⟨h.bx,h.b_y⟩,⟨ha.b1,ha.b2⟩,⟨hb.b1,hb.b2⟩,Ci.ne0 h ha.on,hb.on.trans ha.on.symm,λz=>ne (Prod.ext (by grind) (by grind))⟩
theorem Ci.vaR {c:Ci}(h:c.Ok){a:Rat×Rat}(ha:c.On a):Va (c.ring a):=by show(BQ 60 c.cx/\BQ 60 c.cy)/\(BQ 200 (c.cx+a.1-c.cx)/\BQ 200 (c.cy+a.2-c.cy))/\¬(c.cx+a.1-c.cx=0/\c.cy+a.2-c.cy=0);rw[uH,uH];exact⟨⟨h.bx,h.b_y⟩,⟨ha.b1,ha.b2⟩,Ci.ne0 h ha.on⟩
def Ci.El (c:Ci)(t:Pc):Prop:=(∃a,c.On a/\t=c.ring a) ∨ ∃y,c.Two y/\t=c.arc y.1 y.2
theorem Ci.nf_ring {c:Ci}(h:c.Ok){T:List Pc}(hT:∀t∈T,c.El t){a:Rat×Rat}(ha:c.On a)(hd:∃t∈T,(c.cx+a.1,c.cy+a.2)∈cap t)(al:∀X Y,OnR c.x c.y (c.wp X Y).1 (c.wp X Y).2->∃t∈T,onP t X Y=true):Nf T [c.ring a]:=by
 have onT:∀t∈T,∀X Y,onP t X Y=true->OnR c.x c.y (c.wp X Y).1 (c.wp X Y).2:=λt ht X Y o=>by
  rcases hT t ht with⟨b,hb,rfl⟩|⟨y,hy,rfl⟩
  ·exact(Ci.onRing hb.on X Y).mp o
  ·exact((Ci.onArc h hy.a.on hy.b.on hy.ne X Y).mp o).1
 obtain⟨t0,m0,c0⟩:=hd;refine⟨λu hu=>?_,λu hu=>?_,λu hu x y e=>?_,λX Y=>?_,λu hu v hv ne=>?_,by simp,λu hu e he=>?_,λt ht=>⟨_,mem_cons_self,λX Y o=>(Ci.onRing ha.on X Y).mpr (onT t ht X Y o)⟩,?_⟩
 ·rw[List.mem_singleton.mp hu];exact Ci.vaR h ha
 ·refine⟨t0,m0,?_⟩;rw[List.mem_singleton.mp hu,(Ci.carA ha.on (0,0)).2];rcases hT t0 m0 with⟨b,hb,rfl⟩|⟨y,hy,rfl⟩
  ·rw[(Ci.carA hb.on (0,0)).2]
  ·rw[(Ci.carA hy.a.on _).1]
 ·rw[List.mem_singleton.mp hu] at e;unfold Ci.ring at e;cases e
 ·constructor
  ·rintro⟨u,hu,o⟩;rw[List.mem_singleton.mp hu] at o;exact al X Y ((Ci.onRing ha.on X Y).mp o)
  ·rintro⟨t,ht,o⟩;exact⟨_,mem_cons_self,(Ci.onRing ha.on X Y).mpr (onT t ht X Y o)⟩
 ·exact absurd ((List.mem_singleton.mp hu).trans (List.mem_singleton.mp hv).symm) ne
 ·rw[List.mem_singleton.mp hu] at he;have:e∈[(c.cx+a.1,c.cy+a.2)]:=he;rw[List.mem_singleton.mp this];exact⟨t0,m0,c0⟩
 ·exact List.length_pos_iff.mpr λz=>by rw[z] at m0;cases m0
theorem Ci.nf_arcs {c:Ci}(h:c.Ok){A:List ((Rat×Rat)×(Rat×Rat))}(hA:∀y∈A,c.Two y){V F:List Rp}{l:Rp}(n:Rn (A.map c.sp) (V++[l]))(ln:(V++[l]).length<=A.length)(e:oB V l=some F):Nf (A.map λy=>c.arc y.1 y.2) (F.map λy=>c.arc (c.wy y.1) (c.wy y.2))/\∀y∈F,∃a b,c.On a/\c.On b/\a≠b/\y=(c.ph a,c.ph b):=by
 obtain⟨cy,cv⟩:=Ci.cyc h hA n;have r:=aCQ cy e;have two:∀y∈F,∃a b,c.Two (a,b)/\y=(c.ph a,c.ph b)/\(∃z∈A,z.1=a)/\∃z∈A,z.2=b:=λy hy=>by
  obtain⟨bd1,bd2,ne⟩:=r.bd y hy;obtain⟨x,hx,e1⟩:=r.st y hy;obtain⟨s,hs,e2⟩:=n.c.st x hx;obtain⟨z,hz,rfl⟩:=List.mem_map.mp hs;obtain⟨x',hx',e3⟩:=r.en y hy;obtain⟨s',hs',e4⟩:=n.c.en x' hx';obtain⟨z',hz',rfl⟩:=List.mem_map.mp hs';have q1:y.1=c.ph z.1:=by rw[<- e1,<- e2];rfl
  have b':=Ci.bd h (hA z' hz').b.on;have q2:y.2=c.ph z'.2:=by have e4:(if c.ph z'.1<c.ph z'.2 then c.ph z'.2 else c.ph z'.2+3)=x'.2:=e4;split at e4<;>rcases e3 with e3|e3<;>grind
  exact⟨z.1,z'.2,⟨(hA z hz).a,(hA z' hz').b,λw=>ne (by rw[q1,q2,show z.1=z'.2 from w])⟩,Prod.ext q1 q2,⟨z,hz,rfl⟩,z',hz',rfl⟩
 have wy:∀y∈F,∃a b,c.Two (a,b)/\y=(c.ph a,c.ph b)/\c.arc (c.wy y.1) (c.wy y.2)=c.arc a b/\(∃z∈A,z.1=a)/\∃z∈A,z.2=b:=λy hy=>by obtain⟨a,b,t,e,g1,g2⟩:=two y hy;refine⟨a,b,t,e,?_,g1,g2⟩;rw[e];show c.arc (c.wy (c.ph a)) (c.wy (c.ph b))=_;rw[Ci.wy_ph h t.a,Ci.wy_ph h t.b]
 have on:∀y∈F,∀X Y,onP (c.arc (c.wy y.1) (c.wy y.2)) X Y=true↔OnR c.x c.y (c.wp X Y).1 (c.wp X Y).2/\onA y (c.ph (c.wp X Y)):=λy hy X Y=>by obtain⟨a,b,t,e,e2,_⟩:=wy y hy;rw[e2,Ci.onArc h t.a.on t.b.on t.ne,e]
 have onT:∀z∈A,∀X Y,onP (c.arc z.1 z.2) X Y=true↔OnR c.x c.y (c.wp X Y).1 (c.wp X Y).2/\onA (c.ph z.1,c.ph z.2) (c.ph (c.wp X Y)):=λz hz X Y=>Ci.onArc h (hA z hz).a.on (hA z hz).b.on (hA z hz).ne X Y;refine⟨⟨λu hu=>?_,λu hu=>?_,λu hu x y e=>?_,λX Y=>?_,λu hu v hv ne X Y=>?_,?_,λu hu e he=>?_,λt ht=>?_,?_⟩,λy hy=>?_⟩
 ·obtain⟨y,hy,rfl⟩:=List.mem_map.mp hu;obtain⟨a,b,t,_,e2,_⟩:=wy y hy;rw[e2];exact Ci.vaA h t.a t.b t.ne
 ·obtain⟨y,hy,rfl⟩:=List.mem_map.mp hu;obtain⟨a,b,t,_,e2,⟨z,hz,_⟩,_⟩:=wy y hy;exact⟨_,List.mem_map.mpr ⟨z,hz,rfl⟩,by rw[e2,(Ci.carA t.a.on _).1,(Ci.carA (hA z hz).a.on _).1]⟩
 ·obtain⟨z,_,rfl⟩:=List.mem_map.mp hu;unfold Ci.arc at e;cases e
 ·constructor
  ·rintro⟨u,hu,o⟩;obtain⟨y,hy,rfl⟩:=List.mem_map.mp hu;obtain⟨o1,o2⟩:=(on y hy X Y).mp o;have b:=Ci.bd h o1;obtain⟨z,hz,o3⟩:=(cv _ b.1 b.2).mp ((r.pts _ b.1 b.2).mpr ⟨y,hy,o2⟩);exact⟨_,List.mem_map.mpr ⟨z,hz,rfl⟩,(onT z hz X Y).mpr ⟨o1,o3⟩⟩
  ·rintro⟨u,hu,o⟩;obtain⟨z,hz,rfl⟩:=List.mem_map.mp hu;obtain⟨o1,o2⟩:=(onT z hz X Y).mp o;have b:=Ci.bd h o1;obtain⟨y,hy,o3⟩:=(r.pts _ b.1 b.2).mp ((cv _ b.1 b.2).mpr ⟨z,hz,o2⟩);exact⟨_,List.mem_map.mpr ⟨y,hy,rfl⟩,(on y hy X Y).mpr ⟨o1,o3⟩⟩
 ·obtain⟨y,hy,rfl⟩:=List.mem_map.mp hu;obtain⟨z,hz,rfl⟩:=List.mem_map.mp hv;have d:y≠z:=λe=>ne (by rw[e]);rintro⟨o1,o2⟩;obtain⟨p1,p2⟩:=(on y hy X Y).mp o1;obtain⟨_,p3⟩:=(on z hz X Y).mp o2;have b:=Ci.bd h p1;exact r.sep y hy z hz d _ b.1 b.2 ⟨p2,p3⟩
 ·have nd:=r.nd;unfold Nodup at nd ⊢;rw[pairwise_map] at nd ⊢;refine List.Pairwise.imp_of_mem (λ{y z} hy hz n w=>n ?_) nd;obtain⟨a,b,t,e,e2,_⟩:=wy y hy;obtain⟨a',b',t',e',e2',_⟩:=wy z hz;rw[e2,e2'] at w;unfold Ci.arc at w;injection w with _ _ w1 w2 _ _
  rw[e,e'];show c.ph a=c.ph a';rw[show a=a' from Prod.ext (by grind) (by grind)]
 ·obtain⟨y,hy,rfl⟩:=List.mem_map.mp hu;obtain⟨a,b,t,_,e2,⟨z,hz,g1⟩,z',hz',g2⟩:=wy y hy;rw[e2] at he;have he:e∈[(c.cx+a.1,c.cy+a.2),(c.cx+b.1,c.cy+b.2)]:=he;rcases List.mem_cons.mp he with w|w
  ·exact⟨_,List.mem_map.mpr ⟨z,hz,rfl⟩,by rw[w,<- g1];exact mem_cons_self⟩
  ·rw[List.mem_singleton.mp w];exact⟨_,List.mem_map.mpr ⟨z',hz',rfl⟩,by rw[<- g2];exact mem_cons_of_mem _ mem_cons_self⟩
 ·obtain⟨z,hz,rfl⟩:=List.mem_map.mp ht;obtain⟨x,hx,a1,a2⟩:=n.c.cov (c.sp z) (List.mem_map.mpr ⟨z,hz,rfl⟩);obtain⟨y,hy,o⟩:=r.one x hx;refine⟨_,List.mem_map.mpr ⟨y,hy,rfl⟩,λX Y q=>?_⟩;obtain⟨o1,o2⟩:=(onT z hz X Y).mp q;have b:=Ci.bd h o1;refine(on y hy X Y).mpr ⟨o1,o _ b.1 b.2 ?_⟩;rcases (Ci.sp_on h (hA z hz) b.1 b.2).mpr o2 with w|w
  ·exact .inl ⟨by grind,by grind⟩
  ·exact .inr (by grind)
 ·rw[length_map,length_map];have:=r.len;rw[length_append] at ln;have ln:V.length+1<=A.length:=ln;omega
 ·obtain⟨a,b,t,e,_⟩:=wy y hy;exact⟨a,b,t.a,t.b,t.ne,e⟩
noncomputable def isR:Pc->Bool
 |.ring _ _ _ _=>true
 |_=>false
noncomputable def stP:Pc->Rat×Rat
 |.dot x y=>(x,y)
 |.str x y _ _=>(x,y)
 |.arc _ _ ax ay _ _=>(ax,ay)
 |.ring _ _ ax ay=>(ax,ay)
theorem Ci.plcC {c:Ci}(h:c.Ok){a:Rat×Rat}(ha:c.On a){M:DM}{Q:DQ}(q:Q (c.ar.X (c.ph a)) M):qE [PQ c.cx c.cy,PQ (c.cx+c.x) (c.cy+c.y),PQ (c.cx+a.1) (c.cy+a.2)] M Q:=by rw[Ci.X0 h ha] at q;exact⟨_,_,_,_,_,_,rfl,h.bx,h.b_y,h.b1,h.b2,ha.b1,ha.b2,h.h0,ha.on,q⟩
theorem Ci.poiC {c:Ci}(h:c.Ok){a:Rat×Rat}(ha:c.On a){M:DM}{Q:DQ}(q:Q (PQ (c.cx+a.1) (c.cy+a.2)) M):oO [PQ c.cx c.cy,PQ (c.cx+c.x) (c.cy+c.y),c.ar.X (c.ph a)] M Q:=by rw[Ci.X0 h ha];exact⟨_,_,_,_,_,_,_,rfl,h.bx,h.b_y,h.b1,h.b2,ha.bz,h.h0,ha.on,q⟩
theorem Ci.lapC {c:Ci}(h:c.Ok){a:Rat×Rat}(ha:c.On a):∃k z,c.ar.X (c.ph a)=.tup [.int 0,.int k,FQ z]/\c.ar.X (c.ph a+3)=.tup [.int 1,.int k,FQ z]:=⟨_,_,Ci.X0 h ha,Ci.X1 h ha⟩
theorem Ci.R0 {c:Ci}{a:Rat×Rat}(ha:c.On a):c.ar.R (c.ph a):=⟨a,ha,.inl rfl⟩
theorem Ci.R1 {c:Ci}{a:Rat×Rat}(ha:c.On a):c.ar.R (c.ph a+3):=⟨a,ha,.inr rfl⟩
theorem Ci.ear {c:Ci}(h:c.Ok)(fG:Has P w K mg base 102 "sooner" ["one","other"] lP){g:Addr}(hg:mg "sooner"=some (.ref g)):aBu P w K mg base 106 g c.ar.dom c.ar.lt :=
 ⟨_,_,_,hg,fG.mono (by decide),λx y M Q ⟨s,hs,e1⟩ ⟨t,ht,e2⟩ q=>by rw[e1,e2] at q ⊢;rw[Ar.lt_eq (Ci.arOk h) hs ht] at q;exact Ci.sooC h hs ht q⟩
noncomputable def Ci.sD (c:Ci)(s:Rp):D:=s3D (c.ar.s3 s)
def sL:DSp:=λds M Q=>∃(c:Ci)(y:(Rat×Rat)×(Rat×Rat)),ds=[PQ (c.cx+c.x) (c.cy+c.y),pcD (c.arc y.1 y.2),.non]/\c.Ok/\c.Two y/\Q (c.sD (c.sp y)) M
noncomputable abbrev rM:Stmt:=top 41
theorem oK:aR ["a","piece","number","start","stop"] ["a","piece","number"] (aI rM):=by ac_rfl
theorem aAT (hF:cR K mg "arc_span" rM ["a","piece","number"])(nF:Has P w K mg base 106 "place_of" ["c","a","p"] qE)(fG:Has P w K mg base 102 "sooner" ["one","other"] lP)(jV:Has P w K mg base 101 "laps_on" ["place","laps"] rH):Has P w K mg base 108 "arc_span" ["a","piece","number"] sL:=by
 refine Has.mkZ hF oK (λds M Q ⟨_,_,e,_⟩=>by rw[e];rfl) λf cdv A outer s H ds M Q E hr h=>?_;obtain⟨c,y,rfl,ok,two,q⟩:=h;refine⟨_,(aF (aN (i:=3) oK.nd (aE nF hr (by decide) (aA (aG (aB 1) aC) (aA (aB 0) (aA (aG (aB 1) aC) aD)))))
  (aF (aN (i:=4) oK.nd (aE nF hr (by decide) (aA (aG (aB 1) aC) (aA (aB 0) (aA (aG (aB 1) aC) aD)))))
  (aH (aL (aY (aA (aB 3) (aA (lR (iJ (aE fG hr (by decide) (aA (aB 3) (aA (aB 4) aD)))) (aB 4) (aE jV hr (by decide) (aA (aB 4) (aA aC aD)))) (aA (aB 2) aD)))))))),?_⟩
 dsimp only[Ci.arc,pcD];ac_nf;refine Ci.plcC ok two.a ?_;ac_nf;refine Ci.plcC ok two.b ?_;ac_nf;refine Ci.sooC ok (Ci.R0 two.a) (Ci.R0 two.b) ?_;ac_nf;unfold Ci.sD Ci.sp at q;by_cases z:c.ph y.1<c.ph y.2
 ·rw[if_pos z] at q;exact ifT (decide_eq_true z) ⟨by decide,M,.refl _,q⟩
 ·rw[if_neg z] at q;obtain⟨kk,zz,g1,g2⟩:=Ci.lapC ok two.b;have q:Q (.tup [c.ar.X (c.ph y.1),c.ar.X (c.ph y.2+3),.non]) M:=q;rw[g2] at q;rw[g1];exact ifF (decide_eq_false z) ⟨_,_,_,_,rfl,by decide,M,.refl _,q⟩
theorem Ci.ix {c:Ci}{t:Pc}(h:c.El t){M:DM}{Q:DQ}:(Q (.str (if isR t then "ring" else "arc")) M->mZ (pcD t) (.int 0) M Q)/\(Q (PQ c.cx c.cy) M->mZ (pcD t) (.int 1) M Q)/\(∀x y,stP t=(x,y)->Q (PQ x y) M->mZ (pcD t) (.int 2) M Q):=by
 rcases h with⟨a,_,rfl⟩|⟨a,_,rfl⟩
 ·unfold Ci.ring;dsimp only[pcD,isR,stP];ac_nf;exact⟨id,id,λx y e h=>by obtain⟨rfl,rfl⟩:=Prod.mk.inj e;exact h⟩
 ·unfold Ci.arc;dsimp only[pcD,isR,stP];ac_nf;exact⟨id,id,λx y e h=>by obtain⟨rfl,rfl⟩:=Prod.mk.inj e;exact h⟩
theorem Ci.stEl {c:Ci}{t:Pc}(h:c.El t):∃a,c.On a/\stP t=(c.cx+a.1,c.cy+a.2)/\stP t∈cap t:=by
 rcases h with⟨a,ha,rfl⟩|⟨a,ha,rfl⟩
 ·exact⟨a,ha,rfl,mem_cons_self⟩
 ·exact⟨a.1,ha.a,rfl,mem_cons_self⟩
theorem Ci.rgEl {c:Ci}{t:Pc}(h:c.El t)(e:isR t=true):∃a,c.On a/\t=c.ring a:=by
 rcases h with h|⟨a,ha,rfl⟩
 ·exact h
 ·unfold Ci.arc isR at e;cases e
theorem Ci.arcs {c:Ci}:∀{T:List Pc},(∀t∈T,c.El t)->(∀t∈T,isR t=false)->∃A:List ((Rat×Rat)×(Rat×Rat)),T=A.map (λy=>c.arc y.1 y.2)/\∀y∈A,c.Two y
 |[],_,_=>⟨[],rfl,λy hy=>by cases hy⟩
 |t::T,h1,h2=>by
  obtain⟨A,e,hA⟩:=Ci.arcs (c:=c) (T:=T) (λt ht=>h1 t (mem_cons_of_mem _ ht)) λt ht=>h2 t (mem_cons_of_mem _ ht);rcases h1 t mem_cons_self with⟨a,ha,e2⟩|⟨a,ha,e2⟩
  ·have:=h2 t mem_cons_self;rw[e2] at this;cases this
  ·refine⟨a::A,by rw[e,e2];rfl,λy hy=>?_⟩;rcases List.mem_cons.mp hy with z|z
   ·rw[z];exact ha
   ·exact hA y z
structure Gc (T:List Pc)(c:Ci):Prop where
 ok:c.Ok
 el:∀t∈T,c.El t
 fst:T.head?.map stP=some (c.cx+c.x,c.cy+c.y)
def aFh (pt:Addr):DSp:=λds M Q=>∃(l:Addr)(c:Ci) (T:List Pc),ds = [.ref l]/\Gc T c/\M (.l l) = some (T.map pcD)/\T.length<=100/\M (.x pt) = some [.str "joined_spans.<locals>.<lambda>"] /\
 ∀(p:Addr)(M':DM) (U:List Pc),bK M M'->M (.l p)=none->M' (.l p)=some (U.map pcD)->Nf T U->Q (.ref p) M'
noncomputable abbrev fH:Stmt:=top 48
theorem cF:aR ["pieces","c","a","ring","runs","start","stop","number"] ["pieces"] (aI fH):=by ac_rfl
theorem vE {pt:Addr}(hF:cR K mg "joined_arcs" fH ["pieces"])(rL:Has P w K mg base 108 "arc_span" ["a","piece","number"] sL)(fG:Has P w K mg base 102 "sooner" ["one","other"] lP)(jV:Has P w K mg base 101 "laps_on" ["place","laps"] rH)(nM:Has P w K mg base 106 "point_of" ["c","a","place"] oO)(eQ:Has P w K mg base 120 "joined_spans" ["spans","earlier"] (aGm P w K mg base pt))(qW:mg "any" = none)(iH:mg "len" = none):Has P w K mg base 122 "joined_arcs" ["pieces"] (aFh pt):=by
 obtain⟨gs,_,_,hgs,_⟩:=id fG;have g_sooner:aDO K mg "sooner" (.ref gs):=⟨_,.ref gs,hgs,rfl,λH=>dM⟩;refine Has.mkZ hF cF (λds M Q ⟨_,_,_,e,_⟩=>by rw[e];rfl) λf cdv A outer s H ds M Q E hr h=>?_;obtain⟨l,c,T,rfl,⟨ok,hT,hd⟩,hl,lT,hP,q⟩:=h;refine⟨_,(aF (aN (i:=1) cF.nd (aG (aG (aB 0) aC) aC))
  (aF (aN (i:=2) cF.nd (aG (aG (aB 0) aC) aC))
  (aF (aN (i:=3) cF.nd (fP (aA (aY (aA cU (aA (aB 1) (aA (aB 2) aD)))) aD)))
  (aF (bO (iJ (cO (aAe rfl) qW (aA (mP (⟨rfl,by decide +kernel,by decide +kernel,by decide +kernel,rfl,by decide +kernel⟩:oE ["pieces","c","a","ring","runs","start","stop","number"] (aI fH) ["piece"] [none] _) rfl (aB 0) (λ_ _ _ _ _=>(aO (i:=0) (show Nodup (["piece"]:List Str) by decide +kernel))) (λ_ _ _ _ _=>(gI (dD hr) (aG (aB 0) aC) cU))) aD))) (aH (aL (aB 3))) aZ)
  (aF (aN (i:=4) cF.nd (aE eQ hr (by decide) (aA (mP (⟨rfl,by decide +kernel,by decide +kernel,by decide +kernel,rfl,by decide +kernel⟩:oE ["pieces","c","a","ring","runs","start","stop","number"] (aI fH) ["piece","a"] [none,some 2] _) rfl (aB 0) (λ_ _ _ _ _=>(aO (i:=0) (show Nodup (["piece","a"]:List Str) by decide +kernel))) (λ_ _ _ _ _=>(aE rL hr (by decide) (aA (aB 1) (aA (aB 0) (aA sI aD)))))) (aA (qN g_sooner) aD))))
  (aF (cQ (aG (aB 4) (cZ aC)) (eD (n:=3) rfl (aU (aO (i:=5) cF.nd) (aU (aO (i:=6) cF.nd) (aU (aO (i:=7) cF.nd) dG)))))
  (sO (bO (aX (dD hr) (aG (aB 6) aC) aC) (aF (aN (i:=6) cF.nd (aE jV hr (by decide) (aA (aB 6) (aA (cZ aC) aD))))
  (sO (qG PassesOwn.never (pG (jS (aX aDC (cO mN iH (aA (aB 4) aD)) aC) (jE (vN (iJ (aE fG hr (by decide) (aA (aB 6) (aA (aG (aG (aB 4) aC) aC) aD)))))))) (aF (aN (i:=6) cF.nd (lR (iJ (aE fG hr (by decide) (aA (aB 6) (aA (aG (aG (aB 4) aC) aC) aD)))) (aG (aG (aB 4) aC) aC) (aB 6)))
  (aH (aN (i:=4) cF.nd (lY (aB 4) (gB aC) iD)))))
  (aF (bO (pG (jS (aX (dD hr) (cO mN iH (aA (aB 4) aD)) aC) (jE (vN (iJ (aE fG hr (by decide) (aA (aB 6) (aA (aB 5) aD)))))))) (aH (aL (aB 3))) aZ)
  (aH (cQ (aY (aA (aB 5) (aA (aB 6) (aA (aB 7) aD)))) (kX (aB 4) (cZ aC))))))) aZ)
  (aH (aL (mP (⟨rfl,by decide +kernel,by decide +kernel,by decide +kernel,rfl,by decide +kernel⟩:oE ["pieces","c","a","ring","runs","start","stop","number"] (aI fH) ["run","c","a"] [none,some 1,some 2] _) rfl (aB 4) (λ_ _ _ _ _=>(aO (i:=0) (show Nodup (["run","c","a"]:List Str) by decide +kernel))) (λ_ _ _ _ _=>(aY (aA cU (aA (aB 1) (aA (aE nM hr (by decide) (aA (aB 1) (aA (aB 2) (aA (aG (aB 0) aC) aD)))) (aA (aE nM hr (by decide) (aA (aB 1) (aA (aB 2) (aA (aG (aB 0) aC) aD)))) aD)))))))))))))))),?_⟩
 ac_nf;obtain⟨x0,T',eT⟩:∃x0 T',T=x0::T':=by
  cases T with
  |nil=>cases hd
  |cons a b=>exact⟨a,b,rfl⟩
 have m0:x0∈T:=by rw[eT];exact mem_cons_self
 have i0:=hT x0 m0;have hd:stP x0=(c.cx+c.x,c.cy+c.y):=by rw[eT] at hd;exact Option.some.inj hd
 have at0:atI (T.map pcD) 0=some (pcD x0):=by rw[eT];exact nX (j:=0) rfl
 have me:c.On (c.x,c.y):=by obtain⟨a,ha,e,_⟩:=Ci.stEl i0;rw[hd] at e;obtain⟨e1,e2⟩:=Prod.mk.inj e;rw[show(c.x,c.y)=a from Prod.ext (by dsimp only;grind) (by dsimp only;grind)];exact ha
 have cp0:(c.cx+c.x,c.cy+c.y)∈cap x0:=by obtain⟨_,_,_,e⟩:=Ci.stEl i0;rw[hd] at e;exact e
 refine⟨_,_,hl,at0,(Ci.ix i0).2.1 ⟨_,_,hl,at0,(Ci.ix i0).2.2 _ _ hd ⟨by decide,by decide,λpr hpr=>?_⟩⟩⟩;have s1:=bK.new hpr [pcD (c.ring (c.x,c.y))];have hr1:bE M pr [pcD (c.ring (c.x,c.y))] (.l pr)=some [pcD (c.ring (c.x,c.y))]:=aK;show ∃ds,bE M pr [pcD (c.ring (c.x,c.y))] _=_/\aIs _ _ _ _ _ (bE M pr [pcD (c.ring (c.x,c.y))]) _;generalize bE M pr [pcD (c.ring (c.x,c.y))]=M1 at s1 hr1 ⊢;refine⟨_,s1 _ _ hl,by rw[length_map];omega,λi ys M'=>M'=M1/\ys=((T.take i).map isR).map D.bl,⟨rfl,rfl⟩,?_,?_,?_⟩
 ·rintro i ys M' _ ⟨rfl,_⟩ a e;cases e;exact s1 _ _ hl
 ·rintro i d ys M' hd2 ⟨rfl,rfl⟩;rw[getElem?_map] at hd2;obtain⟨x,hx,rfl⟩:=Option.map_eq_some_iff.mp hd2;ac_nf;refine(Ci.ix (hT x (mem_of_getElem? hx))).1 ?_;rw[cV];refine⟨rfl,?_⟩;rw[gO hx,map_append,map_append];cases e:isR x with
  |true=>simp[e]
  |false=>rw[if_neg (by decide),map_cons,e];rfl
 rintro ys M2 - ⟨e0,rfl⟩ pa hpa;rw[e0] at hpa ⊢;clear e0 M2;rw[length_map,take_length];refine⟨_,aK,?_⟩;have s2:=s1.trans (bK.new hpa (map D.bl (T.map isR)));have hr2:=(bK.new hpa (map D.bl (T.map isR))) _ _ hr1;generalize bE M1 pa (map D.bl (T.map isR))=M2 at s2 hr2 ⊢;by_cases y2:∃x∈T,isR x=true
 ·obtain⟨x,hx,hy⟩:=id y2;have ea:(T.map isR).any id=true:=List.any_eq_true.mpr ⟨true,List.mem_map.mpr ⟨x,hx,hy⟩,rfl⟩;refine ifT ea (qY (q pr M2 [c.ring (c.x,c.y)] s2 hpr hr2 (Ci.nf_ring ok hT me ⟨x0,m0,cp0⟩ λX Y o=>⟨x,hx,?_⟩)));obtain⟨a,ha,e⟩:=Ci.rgEl (hT x hx) hy;rw[e];exact(Ci.onRing ha.on X Y).mpr o
 have nR:∀x∈T,isR x=false:=λx hx=>Bool.not_eq_true _ ▸ λz=>y2 ⟨x,hx,z⟩;have ea:(T.map isR).any id=false:=List.any_eq_false.mpr λb hb=>by obtain⟨x,hx,e⟩:=List.mem_map.mp hb;rw[<- e,nR x hx];decide
 obtain⟨A,eA,hA⟩:=Ci.arcs hT nR;have lA:A.length<=100:=by rw[eA,length_map] at lT;exact lT
 have Ane:A≠[]:=λz=>by rw[eA,z] at m0;cases m0
 clear m0 at0 nR y2 i0 hT;have hlA:M2 (.l l)=some (A.map λy=>pcD (c.arc y.1 y.2)):=by rw[s2 _ _ hl,eA,map_map];rfl
 refine ifF ea ⟨_,hlA,by rw[length_map];omega,λi ys M'=>M'=M2/\ys=(A.take i).map λx=>c.sD (c.sp x),⟨rfl,rfl⟩,?_,?_,?_⟩
 ·rintro i ys M' _ ⟨rfl,_⟩ a e;cases e;exact hlA
 ·rintro i d ys M' hd2 ⟨rfl,rfl⟩;rw[getElem?_map] at hd2;obtain⟨x,hx,rfl⟩:=Option.map_eq_some_iff.mp hd2;ac_nf;exact⟨c,x,rfl,ok,hA x (mem_of_getElem? hx),rfl,by rw[gO hx,map_append];rfl⟩
 rintro ys M3 - ⟨e0,rfl⟩ pb hpb;rw[e0] at hpb ⊢;clear e0 M3;rw[length_map,take_length];have s3:=s2.trans (bK.new hpb (A.map λx=>c.sD (c.sp x)));have hr3:=(bK.new hpb (A.map λx=>c.sD (c.sp x))) _ _ hr2;have hS3:bE M2 pb (A.map λx=>c.sD (c.sp x)) (.l pb)=some (((A.map c.sp).map c.ar.s3).map s3D):=by rw[aK,map_map,map_map];rfl
 generalize bE M2 pb (A.map λx=>c.sD (c.sp x))=M3 at s3 hr3 hS3 ⊢;have inS:∀y∈A.map c.sp,c.ar.In y/\y.1<=y.2:=λy hy=>by
  obtain⟨x,hx,rfl⟩:=List.mem_map.mp hy;have tw:=hA x hx;refine⟨⟨Ci.R0 tw.a,?_⟩,Rat.le_of_lt (Ci.sp_bd ok tw).2.1⟩;show c.ar.R (if c.ph x.1<c.ph x.2 then c.ph x.2 else c.ph x.2+3);split
  ·exact Ci.R0 tw.b
  ·exact Ci.R1 tw.b
 refine⟨pb,gs,(A.map c.sp).map c.ar.s3,c.ar.dom,c.ar.lt,rfl,hS3,λy hy=>?_,by rw[length_map,length_map];omega,s3 _ _ hP,Ci.ear ok fG hgs,Ar.ltOk (Ci.arOk ok),λp2 M4 zs s4 n4 e4 pm so=>?_⟩
 ·obtain⟨z,hz,rfl⟩:=List.mem_map.mp hy;have:=(inS z hz).1;exact⟨⟨_,this.1,rfl⟩,_,this.2,rfl⟩
 obtain⟨J,cj,ej,lj,jin⟩:=Ar.joined (Ci.arOk ok) (λy hy=>(inS y hy).1) (λy hy=>(inS y hy).2) pm so;rw[ej,map_map] at e4;rw[length_map] at lj;have Jne:J≠[]:=λz=>by obtain⟨a,A',e⟩:=List.exists_cons_of_ne_nil Ane;obtain⟨y,hy,_⟩:=cj.c.cov (c.sp a) (List.mem_map.mpr ⟨a,by rw[e];exact mem_cons_self,rfl⟩);rw[z] at hy;cases hy
 obtain⟨V,lst,eJ⟩:∃V lst,J=V++[lst]:=by
  rcases List.eq_nil_or_concat J with z|⟨V,lst,z⟩
  ·exact absurd z Jne
  ·exact⟨V,lst,by rw[z,List.concat_eq_append]⟩
 subst eJ;have hr4:=s4 _ _ hr3;have n4:=gG s3 n4;have s4:=s3.trans s4;have e4:M4 (.l p2)=some ((V++[lst]).map c.sD):=e4;have hat:atI ((V++[lst]).map c.sD) (-1)=some (c.sD lst):=by rw[map_append];exact aAB _ _
 obtain⟨cy,cv⟩:=Ci.cyc ok hA cj;have nfa:∀F,oB V lst=some F->Nf T (F.map λy=>c.arc (c.wy y.1) (c.wy y.2))/\∀y∈F,∃a b,c.On a/\c.On b/\a≠b/\y=(c.ph a,c.ph b):=λF e=>by rw[eA];exact Ci.nf_arcs ok hA cj lj e
 have nfr:oB V lst=none->Nf T [c.ring (c.x,c.y)]:=λe=>by
  rw[eA];refine Ci.nf_ring ok (λt ht=>?_) me ?_ λX Y o=>?_
  ·obtain⟨y,hy,rfl⟩:=List.mem_map.mp ht;exact .inr ⟨y,hA y hy,rfl⟩
  ·exact⟨x0,by rw[<- eA,eT];exact mem_cons_self,cp0⟩
  ·have b:=Ci.bd ok o;obtain⟨y,hy,z⟩:=(cv _ b.1 b.2).mp (aC4 cy e _ b.1 b.2);exact⟨_,List.mem_map.mpr ⟨y,hy,rfl⟩,(Ci.onArc ok (hA y hy).a.on (hA y hy).b.on (hA y hy).ne X Y).mpr ⟨o,z⟩⟩
 have ml:lst∈V++[lst]:=mem_append_right _ mem_cons_self;have inl:=jin lst ml;have inV:∀x∈V,c.ar.In x:=λx hx=>jin x (mem_append_left _ hx);clear ej so pm inS s3 hr3 hS3 s2 hr2 s1 hr1 hpb hpa ea cj jin Jne cv;ac_nf;refine⟨_,_,e4,hat,?_⟩;dsimp only[Ci.sD,s3D,Ar.s3];ac_nf;refine⟨rfl,λρ N=>bK M N/\∃(F:List Rp)(q:Addr) (o5 o6 o7:Option D),N (.l q)=some (F.map c.sD)/\oB V lst=some F/\F.length<=A.length/\ρ=[some (.ref l),some (PQ c.cx c.cy),some (PQ (c.cx+c.x) (c.cy+c.y)),some (.ref pr),some (.ref q),o5,o6,o7],?_,?_⟩
 ·by_cases z:lst.2<3
  ·obtain⟨wl,hw,ew⟩:=inl.2;have bw:=Ci.bd ok hw.on;have ew:lst.2=c.ph wl:=by rcases ew with e|e<;>grind
   obtain⟨k,zz,g1,_⟩:=Ci.lapC ok hw;rw[ew,g1];ac_nf;rw[dL];exact ifF (decide_eq_false (by decide)) ⟨s4,V++[lst],p2,_,_,_,e4,by unfold oB;rw[if_pos z],lj,rfl⟩
  obtain⟨wl,hw,ew⟩:=inl.2;have bw:=Ci.bd ok hw.on;have ew:lst.2=c.ph wl+3:=by rcases ew with e|e<;>grind
  obtain⟨k,zz,g1,g2⟩:=Ci.lapC ok hw;have e3:lst.2-3=c.ph wl:=by grind
  have R0:c.ar.R (lst.2-3):=by rw[e3];exact Ci.R0 hw
  rw[ew,g2];ac_nf;rw[dL];refine ifT (decide_eq_true rfl) ⟨_,_,_,_,rfl,?_⟩;ac_nf;rw[show(1:Int) + -1=0 from rfl,<- g1,<- e3];clear g1 g2;refine⟨λρ N=>∃(W:List Rp)(e:Rat) (qv:Addr),c.ar.R e/\wrr (lst.2-3) V=(e,W)/\W.length<=V.length/\bK M N/\M (.l qv)=none/\N (.l pr)=some [pcD (c.ring (c.x,c.y))]/\N (.l qv)=some ((W++[lst]).map c.sD)/\ρ=[some (.ref l),some (PQ c.cx c.cy),some (PQ (c.cx+c.x) (c.cy+c.y)),some (.ref pr),some (.ref qv),some (c.ar.X lst.1),some (c.ar.X e),some .non],?_,?_⟩
  ·refine tZ (λn ρ N=>∃(W:List Rp)(e:Rat) (qv:Addr),n=W.length/\c.ar.R e/\wrr (lst.2-3) V=wrr e W/\(∀x∈W,x∈V)/\W.length<=V.length/\bK M N/\M (.l qv)=none/\N (.l pr)=some [pcD (c.ring (c.x,c.y))]/\N (.l qv)=some ((W++[lst]).map c.sD)/\ρ=[some (.ref l),some (PQ c.cx c.cy),some (PQ (c.cx+c.x) (c.cy+c.y)),some (.ref pr),some (.ref qv),some (c.ar.X lst.1),some (c.ar.X e),some .non]) _ ⟨V,lst.2-3,p2,rfl,R0,rfl,λ_ h=>h,Nat.le_refl _,s4,n4,hr4,e4,rfl⟩ ?_;rintro n ρ N ⟨W,e,qv,rfl,he,ew,sub,lW,sN,nq,hrN,hq,rfl⟩;ac_nf;refine⟨_,hq,?_⟩;cases W with
   |nil =>
    refine ifF (decide_eq_false (show ¬((1:Int)<((1:Nat):Int)) by decide)) ?_;exact⟨[],e,qv,he,ew,Nat.zero_le _,sN,nq,hrN,hq,rfl⟩
   |cons x W =>
    have hx:=inV x (sub x mem_cons_self);have a0:atI (((x::W)++[lst]).map c.sD) 0=some (c.sD x):=nX (j:=0) rfl;refine ifT (decide_eq_true (by simp;omega)) ⟨_,_,hq,a0,?_⟩;dsimp only[Ci.sD,s3D,Ar.s3];ac_nf;refine Ci.sooC ok he hx.1 ?_;ac_nf;by_cases c1:e<x.1
    ·refine ifF (by rw[decide_eq_true c1];rfl) ⟨x::W,e,qv,he,?_,lW,sN,nq,hrN,hq,rfl⟩;rw[ew];exact aEM (by grind)
    ·refine ifT (by rw[decide_eq_false c1];rfl) ⟨_,_,hq,a0,?_⟩;dsimp only[Ci.sD,s3D,Ar.s3];ac_nf;refine Ci.sooC ok he hx.2 ?_;ac_nf;have nx:∀e',e'=(if e<x.2 then x.2 else e)->∀p,N (.l p)=none->∃m',m'<(x::W).length/\∃W' e2 qv,m'=W'.length/\c.ar.R e2/\wrr (lst.2-3) V=wrr e2 W'/\(∀x∈W',x∈V)/\W'.length<=V.length/\bK M (bE N p (Dd.cutD (((x::W)++[lst]).map c.sD) (some 1) none))/\M (.l qv)=none/\bE N p (Dd.cutD (((x::W)++[lst]).map c.sD) (some 1) none) (.l pr)=some [pcD (c.ring (c.x,c.y))]/\bE N p (Dd.cutD (((x::W)++[lst]).map c.sD) (some 1) none) (.l qv)=some ((W'++[lst]).map c.sD)/\[some (.ref l),some (PQ c.cx c.cy),some (PQ (c.cx+c.x) (c.cy+c.y)),some (.ref pr),some (.ref p),some (c.ar.X lst.1),some (c.ar.X e'),some .non]=[some (.ref l),some (PQ c.cx c.cy),some (PQ (c.cx+c.x) (c.cy+c.y)),some (.ref pr),some (.ref qv),some (c.ar.X lst.1),some (c.ar.X e2),some .non]:=λe' ee p hp=>by
      refine⟨W.length,Nat.lt_succ_self _,W,e',p,rfl,?_,?_,λy hy=>sub y (mem_cons_of_mem _ hy),Nat.le_of_succ_le lW,sN.trans (bK.new hp _),gG sN hp,(bK.new hp _) _ _ hrN,?_,rfl⟩
      ·rw[ee];split
       ·exact hx.2
       ·exact he
      ·rw[ew,ee];exact aKW (by grind)
      ·rw[aK,show(1:Int)=((1:Nat):Int) from rfl,sW];rfl
     by_cases c2:e<x.2
     ·refine ifT (decide_eq_true c2) ⟨_,_,hq,a0,?_⟩;dsimp only[Ci.sD,s3D,Ar.s3];ac_nf;exact⟨_,hq,nx x.2 (by rw[if_pos c2])⟩
     ·exact ifF (decide_eq_false c2) ⟨_,hq,nx e (by rw[if_neg c2])⟩
  ·rintro _ N ⟨W,e,qv,he,ew,lW,sN,nq,hrN,hq,rfl⟩;ac_nf;refine⟨_,hq,?_⟩;have lj':V.length+1<=A.length:=by rw[length_append] at lj;exact lj
   have ixl:ixN ((W++[lst]).map c.sD).length (-1)=some W.length:=by rw[length_map,length_append];exact aDb
   have nx:¬(W=[]/\lst.1<=e)->bK M (bE N qv (((W++[lst]).map c.sD).set W.length (.tup [c.ar.X lst.1,c.ar.X e,.non])))/\∃(F:List Rp)(q:Addr) (o5 o6 o7:Option D),bE N qv (((W++[lst]).map c.sD).set W.length (.tup [c.ar.X lst.1,c.ar.X e,.non])) (.l q)=some (F.map c.sD)/\oB V lst=some F/\F.length<=A.length/\[some (.ref l),some (PQ c.cx c.cy),some (PQ (c.cx+c.x) (c.cy+c.y)),some (.ref pr),some (.ref qv),some (c.ar.X lst.1),some (c.ar.X e),some .non]=[some (.ref l),some (PQ c.cx c.cy),some (PQ (c.cx+c.x) (c.cy+c.y)),some (.ref pr),some (.ref q),o5,o6,o7]:=λhn=>by
    refine⟨λb o g=>by rw[fE (bS g nq)];exact sN _ _ g,W++[(lst.1,e)],qv,_,_,_,?_,?_,by rw[length_append];show _+1<=_;omega,rfl⟩
    ·rw[aK,map_append,map_append,List.set_append_right _ _ (by rw[length_map];exact Nat.le_refl _),length_map,Nat.sub_self];rfl
    ·unfold oB;rw[if_neg z,ew,if_neg hn]
   have eL:((((W++[lst]).map c.sD).length:Nat):Int)=(W.length:Int)+1:=by rw[length_map,length_append];rfl
   rw[eL,dL];by_cases w0:W=[]
   ·refine ifT (decide_eq_true (by rw[w0];rfl)) ?_;refine Ci.sooC ok he inl.1 ?_;by_cases c1:e<lst.1
    ·exact ifF (by rw[decide_eq_true c1];rfl) ⟨by decide,_,W.length,hq,ixl,nx λz=>by have:=z.2;grind⟩
    ·refine ifT (by rw[decide_eq_false c1];rfl) (qY (q pr N [c.ring (c.x,c.y)] sN hpr hrN (nfr ?_)));unfold oB;rw[if_neg z,ew,if_pos ⟨w0,by grind⟩]
   ·have nw:¬(W.length:Int)+1=1:=λz=>w0 (List.length_eq_zero_iff.mp (by omega));exact ifF (decide_eq_false nw) (ifF rfl ⟨by decide,_,W.length,hq,ixl,nx λz=>w0 z.1⟩)
 ·rintro _ N ⟨sN,F,q2,o5,o6,o7,hq,hF,lF,rfl⟩;obtain⟨nf,dF⟩:=nfa F hF;ac_nf;refine⟨_,hq,by rw[length_map];omega,λi ys M'=>M'=N/\ys=(F.take i).map λy=>pcD (c.arc (c.wy y.1) (c.wy y.2)),⟨rfl,rfl⟩,?_,?_,?_⟩
  ·rintro i ys M' _ ⟨rfl,_⟩ a e;cases e;exact hq
  ·rintro i d ys M' hd2 ⟨rfl,rfl⟩;rw[getElem?_map] at hd2;obtain⟨y,hy,rfl⟩:=Option.map_eq_some_iff.mp hd2;obtain⟨a,b,ha,hb,_,ey⟩:=dF y (mem_of_getElem? hy);have e:pcD (c.arc (c.wy y.1) (c.wy y.2)) = .tup [.str "arc",PQ c.cx c.cy,PQ (c.cx+a.1) (c.cy+a.2),PQ (c.cx+b.1) (c.cy+b.2)]:=by rw[ey];show pcD (c.arc (c.wy (c.ph a)) (c.wy (c.ph b)))=_;rw[Ci.wy_ph ok ha,Ci.wy_ph ok hb];rfl
   have ed:c.sD y=.tup [c.ar.X (c.ph a),c.ar.X (c.ph b),.non]:=by rw[ey];rfl
   rw[ed];ac_nf;refine Ci.poiC ok ha ?_;ac_nf;refine Ci.poiC ok hb ?_;ac_nf;exact⟨by decide,rfl,by rw[gO hy,map_append,map_cons,e];rfl⟩
  rintro ys M5 - ⟨e0,rfl⟩ p3 hp3;rw[e0] at hp3 ⊢;clear e0 M5;rw[length_map,take_length];exact qY (q p3 _ (F.map λy=>c.arc (c.wy y.1) (c.wy y.2)) (sN.trans (bK.new hp3 _)) (gG sN hp3) (by rw[aK,map_map];rfl) nf)
noncomputable def isD:Pc->Bool
 |.dot _ _=>true
 |_=>false
noncomputable def isC:Pc->Bool
 |.arc _ _ _ _ _ _=>true
 |.ring _ _ _ _=>true
 |_=>false
noncomputable def ctP:Pc->Rat×Rat
 |.dot x y=>(x,y)
 |.str x y _ _=>(x,y)
 |.arc cx cy _ _ _ _=>(cx,cy)
 |.ring cx cy _ _=>(cx,cy)
structure Nfs (T U:List Pc):Prop where
 va:∀u∈U,Va u
 car:∀u∈U,∃t∈T,cD u=cD t
 nod:∀u∈U,∀x y,u ≠ .dot x y
 pts:∀a b,(∃u∈U,onP u a b=true) ↔ ∃t∈T,onP t a b=true
 sep:∀u∈U,∀v∈U,u≠v->cD u=cD v->∀a b,¬(onP u a b=true/\onP v a b=true)
 nd:U.Nodup
 ends:∀u∈U,∀e∈cap u,∃t∈T,cD t=cD u/\e∈cap t
 one:∀t∈T,∃u∈U,cD u=cD t/\∀a b,onP t a b=true->onP u a b=true
 len:U.length<=T.length
theorem Nfs.nil:Nfs [] [] :=
 ⟨λ_ h=>(by cases h),λ_ h=>(by cases h),λ_ h=>(by cases h),λa b=>⟨λ⟨_,h,_⟩=>(by cases h),λ⟨_,h,_⟩=>(by cases h)⟩,λ_ h=>(by cases h),nodup_nil,λ_ h=>(by cases h),λ_ h=>(by cases h),Nat.le_refl _⟩
theorem Nf.nfs {T U:List Pc}(h:Nf T U)(hC:∀t∈T,∀t'∈T,cD t=cD t'):Nfs T U:=by
 refine⟨h.va,h.car,h.nod,h.pts,λu hu v hv n _=>h.sep u hu v hv n,h.nd,λu hu e he=>?_,λt ht=>?_,h.len⟩
 ·obtain⟨t,ht,z⟩:=h.ends u hu e he;obtain⟨t0,h0,z0⟩:=h.car u hu;exact⟨t,ht,by rw[z0];exact hC t ht t0 h0,z⟩
 ·obtain⟨u,hu,z⟩:=h.one t ht;obtain⟨t0,h0,z0⟩:=h.car u hu;exact⟨u,hu,by rw[z0];exact hC t0 h0 t ht,z⟩
theorem Nfs.add {T U T' U':List Pc}(h:Nfs T U)(h':Nfs T' U')(dj:∀t∈T,∀t'∈T',cD t≠cD t'):Nfs (T++T') (U++U'):=by
 have dj2:∀u∈U,∀u'∈U',cD u≠cD u':=λu hu u' hu'=>by obtain⟨t,ht,e⟩:=h.car u hu;obtain⟨t',ht',e'⟩:=h'.car u' hu';rw[e,e'];exact dj t ht t' ht'
 have l {α:Type} {A B:List α} {x:α} (z:x∈A):x∈A++B:=mem_append_left _ z;have r {α:Type} {A B:List α} {x:α} (z:x∈B):x∈A++B:=mem_append_right _ z;refine⟨λu hu=>?_,λu hu=>?_,λu hu=>?_,λa b=>?_,λu hu v hv n c=>?_,?_,λu hu e he=>?_,λt ht=>?_,?_⟩
 ·exact(List.mem_append.mp hu).elim (h.va u) (h'.va u)
 ·rcases List.mem_append.mp hu with z|z
  ·obtain⟨t,ht,e⟩:=h.car u z;exact⟨t,l ht,e⟩
  ·obtain⟨t,ht,e⟩:=h'.car u z;exact⟨t,r ht,e⟩
 ·exact(List.mem_append.mp hu).elim (h.nod u) (h'.nod u)
 ·constructor
  ·rintro⟨u,hu,o⟩;rcases List.mem_append.mp hu with z|z
   ·obtain⟨t,ht,e⟩:=(h.pts a b).mp ⟨u,z,o⟩;exact⟨t,l ht,e⟩
   ·obtain⟨t,ht,e⟩:=(h'.pts a b).mp ⟨u,z,o⟩;exact⟨t,r ht,e⟩
  ·rintro⟨u,hu,o⟩;rcases List.mem_append.mp hu with z|z
   ·obtain⟨t,ht,e⟩:=(h.pts a b).mpr ⟨u,z,o⟩;exact⟨t,l ht,e⟩
   ·obtain⟨t,ht,e⟩:=(h'.pts a b).mpr ⟨u,z,o⟩;exact⟨t,r ht,e⟩
 ·rcases List.mem_append.mp hu with z|z<;>rcases List.mem_append.mp hv with y|y
  ·exact h.sep u z v y n c
  ·exact absurd c (dj2 u z v y)
  ·exact absurd c.symm (dj2 v y u z)
  ·exact h'.sep u z v y n c
 ·rw[nodup_append];exact⟨h.nd,h'.nd,λa ha b hb e=>dj2 a ha b hb (by rw[e])⟩
 ·rcases List.mem_append.mp hu with z|z
  ·obtain⟨t,ht,e⟩:=h.ends u z e he;exact⟨t,l ht,e⟩
  ·obtain⟨t,ht,e⟩:=h'.ends u z e he;exact⟨t,r ht,e⟩
 ·rcases List.mem_append.mp ht with z|z
  ·obtain⟨u,hu,e⟩:=h.one t z;exact⟨u,l hu,e⟩
  ·obtain⟨u,hu,e⟩:=h'.one t z;exact⟨u,r hu,e⟩
 ·rw[length_append,length_append];have:=h.len;have:=h'.len;omega
theorem Nfs.of_mem {T T' U:List Pc}(h:Nfs T U)(m:∀t,t∈T↔t∈T')(l:T.length<=T'.length):Nfs T' U:=by
 refine⟨h.va,λu hu=>?_,h.nod,λa b=>(h.pts a b).trans ?_,h.sep,h.nd,λu hu e he=>?_,λt ht=>h.one t ((m t).mpr ht),Nat.le_trans h.len l⟩
 ·obtain⟨t,ht,e⟩:=h.car u hu;exact⟨t,(m t).mp ht,e⟩
 ·exact⟨λ⟨t,ht,e⟩=>⟨t,(m t).mp ht,e⟩,λ⟨t,ht,e⟩=>⟨t,(m t).mpr ht,e⟩⟩
 ·obtain⟨t,ht,e⟩:=h.ends u hu e he;exact⟨t,(m t).mp ht,e⟩
noncomputable def grp (T:List Pc)(k:D):List Pc:=T.filter λt=>decide (cD t=k)
theorem qI {T:List Pc}{k:D}{t:Pc}:t∈grp T k↔t∈T/\cD t=k:=by unfold grp;rw[List.mem_filter,decide_eq_true_eq]
theorem wU {α:Type}(p:α->Bool):∀T:List α,(T.filter p).length+(T.filter λt=>!p t).length=T.length
 |[]=>rfl
 |t::T=>by
  have:=wU p T;cases e:p t with
  |true =>
   rw[filter_cons_of_pos e,List.filter_cons_of_neg (by rw[e];decide),length_cons,length_cons];omega
  |false =>
   rw[List.filter_cons_of_neg (by rw[e];decide),filter_cons_of_pos (by rw[e];rfl),length_cons,length_cons];omega
theorem aAa:∀{ks:List D},ks.Nodup->∀T:List Pc,(ks.flatMap (grp T)).length<=T.length
 |[],_,T=>Nat.zero_le _
 |k::ks,h,T=>by
  obtain⟨h1,h2⟩:=List.nodup_cons.mp h;have ih:=aAa h2 (T.filter λt=>!decide (cD t=k));have e:ks.flatMap (grp T)=ks.flatMap (grp (T.filter λt=>!decide (cD t=k))):=by
   rw[List.flatMap_def,List.flatMap_def];congr 1;refine List.map_congr_left λk' hk=>?_;unfold grp;rw[List.filter_filter];refine List.filter_congr λt _=>?_;by_cases z:cD t=k'
   ·have:cD t≠k:=λy=>h1 (by rw[<- y,z];exact hk);rw[decide_eq_true z,decide_eq_false this];rfl
   ·rw[decide_eq_false z];rfl
  rw[List.flatMap_cons,length_append,e];have:=wU (λt=>decide (cD t=k)) T;have g:(grp T k).length=(T.filter λt=>decide (cD t=k)).length:=rfl;omega
theorem aGf {p:Pc}(h:Va p):pcB 400 p:=by
 have m:∀{c a:Rat},BQ 60 c->BQ 200 (a-c)->BQ 400 a:=λ{c a} h1 h2=>by have:=h1.add h2;rw[show c+(a-c)=a by grind] at this;exact this.mono (by decide)
 cases p with
 |dot x y=>exact h
 |str x y u v=>exact h.2
 |arc cx cy ax ay bx b_y =>
  obtain⟨⟨c1,c2⟩,⟨a1,a2⟩,⟨b1,b2⟩,_⟩:=h;exact⟨c1.mono (by decide),c2.mono (by decide),m c1 a1,m c2 a2,m c1 b1,m c2 b2⟩
 |ring cx cy ax ay =>
  obtain⟨⟨c1,c2⟩,⟨a1,a2⟩,_⟩:=h;exact⟨c1.mono (by decide),c2.mono (by decide),m c1 a1,m c2 a2⟩
theorem aCF {B C:Nat}{p:Pc}(h:pcB B p)(l:B<=C):pcB C p:=by
 cases p with
 |dot x y=>exact⟨h.1.mono l,h.2.mono l⟩
 |str x y u v=>exact⟨h.1.mono l,h.2.1.mono l,h.2.2.1.mono l,h.2.2.2.mono l⟩
 |arc a b c d e f=>exact⟨h.1.mono l,h.2.1.mono l,h.2.2.1.mono l,h.2.2.2.1.mono l,h.2.2.2.2.1.mono l,h.2.2.2.2.2.mono l⟩
 |ring a b c d=>exact⟨h.1.mono l,h.2.1.mono l,h.2.2.1.mono l,h.2.2.2.mono l⟩
theorem aLD {p:Pc}(h:Va p):∀x y u v,p=.str x y u v->¬(x=u/\y=v):=λx y u v e ⟨z1,z2⟩=>by rw[e] at h;have:=h.1;rw[z1,z2,iI] at this;cases this
theorem sH (x y u v:Rat):∃a b d:Int,kS x y u v = .tup [.str "line",.int a,.int b,.int d]:=⟨_,_,_,rfl⟩
theorem aAZ {p:Pc}(h:isD p=false):(∃ds,cD p=.tup ds)/\eU 6 (cD p)=true:=by
 cases p with
 |dot x y=>cases h
 |str x y u v =>
  obtain⟨a,b,d,e⟩:=sH x y u v;have e:cD (.str x y u v) = .tup [.str "line",.int a,.int b,.int d]:=e;rw[e];exact⟨⟨_,rfl⟩,rfl⟩
 |arc a b c d e f=>exact⟨⟨_,rfl⟩,rfl⟩
 |ring a b c d=>exact⟨⟨_,rfl⟩,rfl⟩
theorem aGZ {x y u v:Rat}{t:Pc}(n:isD t=false)(e:cD t=cD (.str x y u v)):∃x y u v,t=.str x y u v:=by
 obtain⟨a,b,d,e2⟩:=sH x y u v;have e:cD t = .tup [.str "line",.int a,.int b,.int d]:=e.trans e2;cases t with
 |dot x y=>cases n
 |str x y u v=>exact⟨_,_,_,_,rfl⟩
 |arc _ _ _ _ _ _ =>
  unfold cD at e;injection e with e
  injection e with e _
  injection e with e
  exact absurd e (by decide)
 |ring _ _ _ _ =>
  unfold cD at e;injection e with e
  injection e with e _
  injection e with e
  exact absurd e (by decide)
theorem aA8 {cx cy ax ay:Rat}{t:Pc}(h:Va t)(e:cD t = .tup [.str "circle",PQ cx cy,FQ ((cx-ax)*(cx-ax)+(cy-ay)*(cy-ay))]):(∃px py,t=.ring cx cy px py/\OnR (ax-cx) (ay-cy) (px-cx) (py-cy)/\BQ 200 (px-cx)/\BQ 200 (py-cy)) ∨ ∃px py qx qy,t=.arc cx cy px py qx qy/\(OnR (ax-cx) (ay-cy) (px-cx) (py-cy)/\BQ 200 (px-cx)/\BQ 200 (py-cy))/\(OnR (ax-cx) (ay-cy) (qx-cx) (qy-cy)/\BQ 200 (qx-cx)/\BQ 200 (qy-cy))/\¬(px=qx/\py=qy):=by
 cases t with
 |dot x y=>unfold cD at e;cases e
 |str x y u v =>
  obtain⟨a,b,d,e2⟩:=sH x y u v;have e2:cD (.str x y u v) = .tup [.str "line",.int a,.int b,.int d]:=e2;rw[e2] at e;injection e with e
  injection e with e _
  injection e with e
  exact absurd e (by decide)
 |arc c1 c2 px py qx qy =>
  unfold cD at e;injection e with e
  injection e with _ e
  injection e with e1 e
  injection e with e2 _
  obtain⟨rfl,rfl⟩:=aAd e1;have e2:=aCT e2;obtain⟨_,⟨a1,a2⟩,⟨b1,b2⟩,_,on,ne⟩:=h;have o:OnR (ax-c1) (ay-c2) (px-c1) (py-c2):=by unfold OnR;grind
  exact .inr ⟨_,_,_,_,rfl,⟨o,a1,a2⟩,⟨by unfold OnR at o on ⊢;grind,b1,b2⟩,ne⟩
 |ring c1 c2 px py =>
  unfold cD at e;injection e with e
  injection e with _ e
  injection e with e1 e
  injection e with e2 _
  obtain⟨rfl,rfl⟩:=aAd e1;have e2:=aCT e2;obtain⟨_,⟨a1,a2⟩,_⟩:=h;exact .inl ⟨_,_,rfl,by unfold OnR;grind,a1,a2⟩
def Hz (S:List Pc):Prop:=∀s∈S,∀t∈S,isC s=true->cD t=cD s->∀e∈cap t,BQ 300 (plZ ((stP s).1-(ctP s).1) ((stP s).2-(ctP s).2) (e.1-(ctP s).1) (e.2-(ctP s).2))
theorem aIz {T:List Pc}{s:Pc}(h0:T.head?=some s)(hc:isC s=true)(va:∀t∈T,Va t)(ca:∀t∈T,cD t=cD s)(hz:Hz T):∃c,Gc T c:=by
 have ms:s∈T:=List.mem_of_mem_head? h0;have hz:=λt ht=>hz s ms t ht hc (ca t ht);have vs:=va s ms;obtain⟨cx,cy,ax,ay,e1,e2,e3,⟨b1,b2⟩,⟨b3,b4⟩,n0⟩:∃cx cy ax ay,stP s = (ax,ay)/\ctP s = (cx,cy)/\cD s = .tup [.str "circle",PQ cx cy,FQ ((cx-ax)*(cx-ax)+(cy-ay)*(cy-ay))]/\(BQ 60 cx/\BQ 60 cy)/\(BQ 200 (ax-cx)/\BQ 200 (ay-cy))/\¬(ax-cx=0/\ay-cy=0):=by
  cases s with
  |dot x y=>cases hc
  |str x y u v=>cases hc
  |arc cx cy ax ay _ _=>exact⟨cx,cy,ax,ay,rfl,rfl,rfl,vs.1,vs.2.1,vs.2.2.2.1⟩
  |ring cx cy ax ay=>exact⟨cx,cy,ax,ay,rfl,rfl,rfl,vs.1,vs.2.1,vs.2.2⟩
 have ba:∀c a:Rat,c+(a-c)=a:=λc a=>by grind
 rw[e1,e2] at hz;refine⟨⟨cx,cy,ax-cx,ay-cy⟩,⟨n0,b1,b2,b3,b4⟩,λt ht=>?_,?_⟩
 ·rcases aA8 (va t ht) ((ca t ht).trans e3) with⟨px,py,e,o,g1,g2⟩|⟨px,py,qx,qy,e,⟨o,g1,g2⟩,⟨o',g1',g2'⟩,ne⟩
  ·refine .inl ⟨(px-cx,py-cy),⟨o,g1,g2,hz t ht (px,py) (by rw[e];exact mem_cons_self)⟩,?_⟩;rw[e];show Pc.ring cx cy px py=Pc.ring cx cy (cx+(px-cx)) (cy+(py-cy));rw[ba,ba]
  ·refine .inr ⟨((px-cx,py-cy),(qx-cx,qy-cy)),⟨⟨o,g1,g2,hz t ht (px,py) (by rw[e];exact mem_cons_self)⟩,⟨o',g1',g2',hz t ht (qx,qy) (by rw[e];exact mem_cons_of_mem _ mem_cons_self)⟩,λz=>ne ?_⟩,?_⟩
   ·obtain⟨z1,z2⟩:=Prod.mk.inj z;exact⟨by grind,by grind⟩
   ·rw[e];show Pc.arc cx cy px py qx qy=Pc.arc cx cy (cx+(px-cx)) (cy+(py-cy)) (cx+(qx-cx)) (cy+(qy-cy));rw[ba,ba,ba,ba]
 ·rw[h0,Option.map_some,e1];show some (ax,ay)=some (cx+(ax-cx),cy+(ay-cy));rw[ba,ba]
theorem vV:∀{kvs:List (D×D)}{k v:D},(kvs.map (·.1)).Nodup->(k,v)∈kvs->wP kvs k=some v
 |[],_,_,_,h=>by cases h
 |p::kvs,k,v,nd,h=>by
  rw[map_cons] at nd;obtain⟨n1,n2⟩:=List.nodup_cons.mp nd;unfold wP;rcases List.mem_cons.mp h with z|z
  ·rw[<- z,List.find?_cons_of_pos (by exact decide_eq_true rfl)];rfl
  ·have:p.1≠k:=λe=>n1 (by rw[e];exact List.mem_map.mpr ⟨_,z,rfl⟩);rw[List.find?_cons_of_neg (by rw[decide_eq_false this];decide)];exact vV n2 z
noncomputable def aIZ:Pc->Str
 |.dot _ _=>"dot"
 |.str _ _ _ _=>"stretch"
 |.arc _ _ _ _ _ _=>"arc"
 |.ring _ _ _ _=>"ring"
theorem aE1 {p:Pc}{M:DM}{Q:DQ}(q:Q (.str (aIZ p)) M):mZ (pcD p) (.int 0) M Q:=by cases p<;>· dsimp only[pcD,aIZ] at q ⊢;ac_nf;exact q
theorem aDu (p:Pc):decide (aIZ p=("dot":Str))=isD p:=by cases p<;>rfl
theorem aFo {p:Pc}(h:isD p=true):∃n:Rat×Rat,p=.dot n.1 n.2:=by
 cases p with
 |dot x y=>exact⟨(x,y),rfl⟩
 |str x y u v=>cases h
 |arc a b c d e f=>cases h
 |ring a b c d=>cases h
noncomputable def yA (n:Rat×Rat):D:=pcD (.dot n.1 n.2)
theorem aBk {m n:Rat×Rat}(e:yA m=yA n):m=n:=by
 unfold yA pcD at e;injection e with e
 injection e with _ e
 injection e with e _
 obtain⟨e1,e2⟩:=aAd e;exact Prod.ext e1 e2
noncomputable def kvP (ns:List (Rat×Rat)):List (D×D):=ns.map λn=>(yA n,.bl true)
theorem tG (ns:List (Rat×Rat)):(kvP ns).map (·.1)=ns.map yA:=by unfold kvP;rw[map_map];rfl
theorem tkP {ns:List (Rat×Rat)}(nd:ns.Nodup):TK (kvP ns):=by
 refine⟨λp hp=>?_,?_⟩
 ·obtain⟨n,_,rfl⟩:=List.mem_map.mp hp;exact⟨⟨_,rfl⟩,rfl⟩
 ·rw[tG];unfold Nodup at nd ⊢;rw[pairwise_map];exact nd.imp λn e=>n (aBk e)
def aET:DSp:=λds M Q=>∃(l1 l2:Addr)(S J:List Pc),ds=[.ref l1,.ref l2]/\M (.l l1)=some (S.map pcD)/\M (.l l2)=some (J.map pcD)/\(∀x∈S,Va x)/\(∀x∈J,Va x)/\S.length<=100/\J.length<=100 /\
 ∀(p:Addr)(M':DM) (ns:List (Rat×Rat)),bK M M'->M (.l p)=none->M' (.l p)=some (ns.map yA)->ns.Nodup->(∀n,n∈ns ↔ .dot n.1 n.2∈S/\¬ ∃x∈J,onP x n.1 n.2=true)->ns.length<=(S.filter isD).length->Q (.ref p) M'
noncomputable abbrev kQ:Stmt:=top 46
theorem mY:aR ["pieces","others","dots","piece"] ["pieces","others"] (aI kQ):=by ac_rfl
theorem yI (hF:cR K mg "lone_dots" kQ ["pieces","others"])(aCt:Has P w K mg base 104 "on" ["piece","p"] sp_on)(qW:mg "any" = none)(nT:mg "list" = none):Has P w K mg base 122 "lone_dots" ["pieces","others"] aET:=by
 refine Has.mkZ hF mY (λds M Q ⟨_,_,_,_,e,_⟩=>by rw[e];rfl) λf cdv A outer s H ds M Q E hr h=>?_;obtain⟨l1,l2,S,J,rfl,h1,h2,hS,hJ,ln1,ln2,q⟩:=h;refine⟨_,(aF (aN (i:=2) mY.nd zD)
  (aF (qC PassesOwn.never rfl (aB 0) (aO (i:=3) mY.nd) (aH (bO (pG (jS (aX (dD hr) (aG (aB 3) aC) cU) (jS (aX (aEu hr) (aB 3) (aB 2) rfl) (jE (vN (iJ (cO (aAe rfl) qW (aA (mP (⟨rfl,by decide +kernel,by decide +kernel,by decide +kernel,rfl,by decide +kernel⟩:oE ["pieces","others","dots","piece"] (aI kQ) ["other","piece"] [none,some 3] _) rfl (aB 1) (λ_ _ _ _ _=>(aO (i:=0) (show Nodup (["other","piece"]:List Str) by decide +kernel))) (λ_ _ _ _ _=>(aE aCt hr (by decide) (aA (aB 0) (aA (aG (aB 1) aC) aD))))) aD)))))))) (aH (cQ aAh (aEb hr (aB 2) (aB 3)))) aZ)))
  (aH (aL (iV (aFT rfl) nT (aA (aB 2) aD)))))),?_⟩
 ac_nf;intro g hg;have s0:=bK.newK hg [];refine⟨_,s0 _ _ h1,λi ρ M'=>bK M M'/\(∃ns:List (Rat×Rat),M' (.d g)=some (gA w (kvP ns))/\ns.Nodup/\(∀n,n∈ns ↔ .dot n.1 n.2∈S.take i/\¬ ∃x∈J,onP x n.1 n.2=true)/\ns.length<=((S.take i).filter isD).length)/\∃o,ρ=[some (.ref l1),some (.ref l2),some (.ref g),o],⟨s0,⟨[],jU,nodup_nil,λn=>by simp,Nat.zero_le _⟩,none,rfl⟩,?_,?_,?_⟩
 ·rintro i ρ M' _ ⟨s1,_⟩ a e;cases e;exact s1 _ _ h1
 ·rintro i d ρ M' hd ⟨s1,⟨ns,hn,nd,mem,ln⟩,o,rfl⟩;rw[getElem?_map] at hd;obtain⟨s,hs,rfl⟩:=Option.map_eq_some_iff.mp hd;have tk:=tkP nd;have tki:=gO hs;have is:=hS s (mem_of_getElem? hs);have skip:(∀n,s=.dot n.1 n.2->n∈ns ∨ ∃x∈J,onP x n.1 n.2=true)->∀n,n∈ns ↔ .dot n.1 n.2∈S.take (i+1)/\¬ ∃x∈J,onP x n.1 n.2=true:=λhz n=>by rw[tki,List.mem_append,mem_singleton,mem];refine⟨λz=>⟨.inl z.1,z.2⟩,λ⟨z,y⟩=>z.elim (λz=>⟨z,y⟩) λz=>?_⟩;exact(hz n z.symm).elim (λz=>(mem n).mp z) λz=>absurd z y
  have lup:((S.take i).filter isD).length<=((S.take (i+1)).filter isD).length:=by rw[tki,filter_append,length_append];omega
  ac_nf;refine aE1 ?_;rw[cV,aDu];by_cases z:isD s=true
  ·obtain⟨n0,rfl⟩:=aFo z;have lup1:((S.take (i+1)).filter isD).length=((S.take i).filter isD).length+1:=by rw[tki,filter_append,length_append,filter_cons_of_pos z];rfl
   refine ifT z ⟨_,hn,tk,⟨⟨_,rfl⟩,rfl⟩,?_⟩;rw[show pcD (.dot n0.1 n0.2)=yA n0 from rfl];ac_nf;by_cases y:n0∈ns
   ·have hk:yA n0∈(kvP ns).map (·.1):=by rw[tG];exact List.mem_map.mpr ⟨_,y,rfl⟩
    exact ifF (by rw[decide_eq_true hk];rfl) (ifF rfl ⟨s1,⟨ns,hn,nd,skip λn e=>.inl (by injection e with e1 e2;rw[<- show n0=n from Prod.ext e1 e2];exact y),by omega⟩,_,rfl⟩)
   ·have hk:yA n0∉(kvP ns).map (·.1):=by rw[tG];intro hk;obtain⟨n,hn,e⟩:=List.mem_map.mp hk;exact y (by rw[<- aBk e];exact hn)
    refine ifT (by rw[decide_eq_false hk];rfl) ⟨_,s1 _ _ h2,by rw[length_map];omega,λj ys M2=>M2=M'/\ys=((J.take j).map λx=>onP x n0.1 n0.2).map D.bl,⟨rfl,rfl⟩,?_,?_,?_⟩
    ·rintro j ys M2 _ ⟨rfl,_⟩ a e;cases e;exact s1 _ _ h2
    ·rintro j d ys M2 hd2 ⟨rfl,rfl⟩;rw[getElem?_map] at hd2;obtain⟨x,hx,rfl⟩:=Option.map_eq_some_iff.mp hd2;dsimp only[yA,pcD];ac_nf;exact⟨x,_,_,rfl,aCF (aGf (hJ x (mem_of_getElem? hx))) (by decide),is.1.mono (by decide),is.2.mono (by decide),rfl,by rw[gO hx,map_append,map_append];rfl⟩
    rintro ys M2 - ⟨e0,rfl⟩ pa hpa;rw[e0] at hpa ⊢;clear e0 M2;rw[length_map,take_length];refine⟨_,aK,?_⟩;have s2:=s1.trans (bK.new hpa (map D.bl (J.map λx=>onP x n0.1 n0.2)));have hn2:bE M' pa (map D.bl (J.map λx=>onP x n0.1 n0.2)) (.d g)=some (gA w (kvP ns)):=by rw[lL];exact hn
    generalize bE M' pa (map D.bl (J.map λx=>onP x n0.1 n0.2))=M2 at s2 hn2 ⊢;by_cases y2:∃x∈J,onP x n0.1 n0.2=true
    ·obtain⟨x,hx,hy⟩:=id y2;have ea:(J.map λx=>onP x n0.1 n0.2).any id=true:=List.any_eq_true.mpr ⟨true,List.mem_map.mpr ⟨x,hx,hy⟩,rfl⟩;exact ifF (by rw[ea];rfl) ⟨s2,⟨ns,hn2,nd,skip λn e=>.inr (by injection e with e1 e2;rw[<- e1,<- e2];exact y2),by omega⟩,_,rfl⟩
    ·have ea:(J.map λx=>onP x n0.1 n0.2).any id=false:=List.any_eq_false.mpr λb hb=>by obtain⟨x,hx,e⟩:=List.mem_map.mp hb;intro z;have z:b=true:=z;rw[z] at e;exact y2 ⟨x,hx,e⟩
     have lk:(kvP ns).length=ns.length:=by unfold kvP;rw[length_map]
     have lns:ns.length<=100:=Nat.le_trans ln (Nat.le_trans (length_filter_le _ _) (Nat.le_trans (List.length_take_le' _ _) ln1));refine ifT (by rw[ea];rfl) ⟨_,hn2,tk,by omega,⟨⟨_,rfl⟩,rfl⟩,λb o e=>by rw[xY (bS e hg)];exact s2 _ _ e,⟨ns++[n0],?_,?_,λn=>?_,by rw[length_append];show _+1<=_;omega⟩,_,rfl⟩
     ·rw[jU];unfold qT;rw[if_neg hk];unfold kvP;rw[map_append];rfl
     ·rw[nodup_append];exact⟨nd,by simp,λa ha b hb e=>y (by rw[mem_singleton] at hb;rw[<- hb,<- e];exact ha)⟩
     ·rw[tki,List.mem_append,List.mem_append,mem_singleton,mem_singleton,mem];have es:((Pc.dot n.1 n.2)=.dot n0.1 n0.2)↔n=n0:=⟨λe=>by injection e with e1 e2;exact Prod.ext e1 e2,λe=>by rw[e]⟩;rw[es];constructor
      ·rintro(⟨a,b⟩|a)
       ·exact⟨.inl a,b⟩
       ·exact⟨.inr a,by rw[a];exact y2⟩
      ·rintro⟨a|a,b⟩
       ·exact .inl ⟨a,b⟩
       ·exact .inr a
  ·exact ifF (by simpa using z) ⟨s1,⟨ns,hn,nd,skip λn e=>absurd (by rw[e];rfl) z,by omega⟩,_,rfl⟩
 ·rintro ρ M' ⟨s1,⟨ns,hn,nd,mem,ln⟩,o,rfl⟩;rw[length_map] at mem ln;rw[take_length] at mem ln;ac_nf;refine⟨_,hn,λp hp=>qY (q p _ ns (s1.trans (bK.new hp _)) (gG s1 hp) ?_ nd mem ln)⟩;rw[aK,yU,tG]
noncomputable def kvG (G:List (D×Addr)):List (D×D):=G.map λx=>(x.1,.ref x.2)
theorem mF (G:List (D×Addr)):(kvG G).map (·.1)=G.map (·.1):=by unfold kvG;rw[map_map];rfl
theorem aC5 {α β:Type}{f:α->β}:∀{L:List α},(L.map f).Nodup->∀{a b:α},a∈L->b∈L->f a=f b->a=b
 |[],_,_,_,h,_,_=>by cases h
 |c::L,h,a,b,ha,hb,e=>by
  rw[map_cons] at h;obtain⟨n1,n2⟩:=List.nodup_cons.mp h;rcases List.mem_cons.mp ha with z|z<;>rcases List.mem_cons.mp hb with y|y
  ·rw[z,y]
  ·exact absurd (List.mem_map.mpr ⟨b,y,by rw[<- e,z]⟩) n1
  ·exact absurd (List.mem_map.mpr ⟨a,z,by rw[e,y]⟩) n1
  ·exact aC5 n2 z y e
theorem aAy {T:List Pc}{s:Pc}{k:D}:grp (T++[s]) k=if cD s=k then grp T k++[s] else grp T k:=by
 unfold grp;rw[filter_append];by_cases e:cD s=k
 ·rw[if_pos e,filter_cons_of_pos (by exact decide_eq_true e)];rfl
 ·rw[if_neg e,List.filter_cons_of_neg (by rw[decide_eq_false e];decide),List.filter_nil,append_nil]
structure aC0 (w:World)(T:List Pc)(M:DM)(g:Addr)(G:List (D×Addr))(M':DM):Prop where
 dict:M' (.d g)=some (gA w (kvG G))
 tk:TK (kvG G)
 here:∀x∈G,M (.l x.2)=none/\M' (.l x.2)=some ((grp T x.1).map pcD)
 all:∀t∈T,∃x∈G,cD t=x.1
 has:∀x∈G,∃t∈T,cD t=x.1
 len:G.length<=T.length
 nd:(G.map (·.2)).Nodup
theorem aC0.old {w:World}{T:List Pc}{M M':DM}{g:Addr}{G:List (D×Addr)}(h:aC0 w T M g G M'){s:Pc}{x:D×Addr}(hx:x∈G)(e:cD s=x.1){p:Addr}(hp:M' (.l p)=none):aC0 w (T++[s]) M g G (bE (bE M' p []) x.2 ((grp T x.1).map pcD++[pcD s])):=by
 have kn:(G.map (·.1)).Nodup:=by rw[<- mF];exact h.tk.nd
 refine⟨by rw[lL,lL];exact h.dict,h.tk,λy hy=>⟨(h.here y hy).1,?_⟩,λt ht=>?_,λy hy=>?_,by rw[length_append];have:=h.len;omega,h.nd⟩
 ·by_cases c:y.2=x.2
  ·have:=aC5 h.nd hy hx c;rw[this,aK,aAy,if_pos e,map_append];rfl
  ·have n:cD s≠y.1:=λz=>c (by rw[aC5 kn hy hx (z.symm.trans e)]);rw[bV c,bV (aV (h.here y hy).2 hp),aAy,if_neg n];exact(h.here y hy).2
 ·rcases List.mem_append.mp ht with z|z
  ·exact h.all t z
  ·rw[List.mem_singleton.mp z];exact⟨x,hx,e⟩
 ·obtain⟨t,ht,z⟩:=h.has y hy;exact⟨t,mem_append_left _ ht,z⟩
theorem aC0.new {w:World}{T:List Pc}{M M':DM}{g:Addr}{G:List (D×Addr)}(h:aC0 w T M g G M'){s:Pc}(n:cD s∉(kvG G).map (·.1))(key:(∃ds,cD s=.tup ds)/\eU 6 (cD s)=true){p:Addr}(hp:M' (.l p)=none)(hpM:M (.l p)=none):aC0 w (T++[s]) M g (G++[(cD s,p)]) (bE (tD (bE M' p []) g (gA w (qT (kvG G) (cD s) (.ref p)))) p ([]++[pcD s])):=by
 have ek:kvG (G++[(cD s,p)])=qT (kvG G) (cD s) (.ref p):=by unfold qT;rw[if_neg n];unfold kvG;rw[map_append];rfl
 have n2:∀y∈G,cD s≠y.1:=λy hy z=>n (by rw[mF];exact List.mem_map.mpr ⟨y,hy,z.symm⟩);refine⟨by rw[lL,jU,ek],by rw[ek];exact h.tk.put key,λy hy=>?_,λt ht=>?_,λy hy=>?_,?_,?_⟩
 ·rcases List.mem_append.mp hy with z|z
  ·have e:=h.here y z;have np:=aV e.2 hp;refine⟨e.1,?_⟩;rw[bV np,vU,bV np,aAy,if_neg (n2 y z)];exact e.2
  ·rw[List.mem_singleton.mp z];refine⟨hpM,?_⟩;have:grp T (cD s)=[]:=List.filter_eq_nil_iff.mpr λt ht c=>by obtain⟨x,hx,e⟩:=h.all t ht;exact n2 x hx (by rw[<- e];exact(of_decide_eq_true c).symm)
   rw[aK,aAy,if_pos rfl,this];rfl
 ·rcases List.mem_append.mp ht with z|z
  ·obtain⟨x,hx,e⟩:=h.all t z;exact⟨x,mem_append_left _ hx,e⟩
  ·rw[List.mem_singleton.mp z];exact⟨_,mem_append_right _ mem_cons_self,rfl⟩
 ·rcases List.mem_append.mp hy with z|z
  ·obtain⟨t,ht,e⟩:=h.has y z;exact⟨t,mem_append_left _ ht,e⟩
  ·rw[List.mem_singleton.mp z];exact⟨s,mem_append_right _ mem_cons_self,rfl⟩
 ·rw[length_append,length_append];have:=h.len;show _+1<=_+1;omega
 ·rw[map_append,nodup_append];refine⟨h.nd,by simp,λa ha b hb e=>?_⟩;obtain⟨y,hy,rfl⟩:=List.mem_map.mp ha;have:b∈[p]:=hb;rw[List.mem_singleton.mp this] at e;exact aV (h.here y hy).2 hp e
theorem aH3 {w:World}{M N:DM}{g:Addr}{kvs:List (D×D)}(s:bK M N)(hg:M (.d g)=none)(hx:N (.x g)=none):bK M (aBz w N g kvs):=λb o e=>by rw[nI (λz=>by rw[z] at e;rw[s _ _ e] at hx;cases hx) (bS e hg)];exact s _ _ e
theorem aG4 {w:World}{M N:DM}{g:Addr}{kvs:List (D×D)}(s:bK M N)(hg:M (.d g)=none)(hx:M (.x g)=none):bK M (aB0 w N g kvs):=λb o e=>by rw[qK (bS e hx) (bS e hg)];exact s _ _ e
noncomputable def ptS:Sh:=.t [.t [.i,.i],.t [.i,.i]]
theorem aLA (x:Pc):hs (.t (.s::[ptS,ptS,ptS])) (pcD x)/\pcD x ≠ .tup []:=by cases x<;>exact⟨by simp[hs,hss,pcD,PQ,FQ,ptS],by simp[pcD]⟩
theorem aJv (x:Pc):eU 6 (pcD x)=true:=by cases x<;>rfl
structure Few (S F:List Pc):Prop where
 nf:∃(U:List Pc)(ns:List (Rat×Rat)),F.Perm (U++ns.map λn:Rat×Rat=>Pc.dot n.1 n.2)/\Nfs (S.filter λp=>!isD p) U/\ns.Nodup/\∀n,n∈ns ↔ .dot n.1 n.2∈S/\¬ ∃x∈U,onP x n.1 n.2=true
 va:∀f∈F,Va f
 pts:∀a b,(∃f∈F,onP f a b=true) ↔ ∃s∈S,onP s a b=true
 len:F.length<=S.length
 so:(F.map pcD).Pairwise (λa b=>ltD b a=false)
theorem aJS {S U F:List Pc}{ns:List (Rat×Rat)}(hS:∀s∈S,Va s)(nf:Nfs (S.filter λp=>!isD p) U)(nd:ns.Nodup)(mem:∀n,n∈ns ↔ .dot n.1 n.2∈S/\¬ ∃x∈U,onP x n.1 n.2=true)(ln:ns.length<=(S.filter isD).length)(pF:(U++ns.map λn:Rat×Rat=>Pc.dot n.1 n.2).Perm F)(so:(F.map pcD).Pairwise (λa b=>ltD b a=false)):Few S F:=by
 refine⟨⟨U,ns,pF.symm,nf,nd,mem⟩,λf hf=>?_,λa b=>?_,?_,so⟩
 ·rcases List.mem_append.mp (pF.mem_iff.mpr hf) with z|z
  ·exact nf.va f z
  ·obtain⟨n,hn,rfl⟩:=List.mem_map.mp z;exact hS _ ((mem n).mp hn).1
 ·constructor
  ·rintro⟨f,hf,o⟩;rcases List.mem_append.mp (pF.mem_iff.mpr hf) with z|z
   ·obtain⟨t,ht,o⟩:=(nf.pts a b).mp ⟨f,z,o⟩;exact⟨t,(List.mem_filter.mp ht).1,o⟩
   ·obtain⟨n,hn,rfl⟩:=List.mem_map.mp z;exact⟨_,((mem n).mp hn).1,o⟩
  ·rintro⟨s,hs,o⟩;by_cases c:isD s=true
   ·obtain⟨n,rfl⟩:=aFo c;have e:a=n.1/\b=n.2:=of_decide_eq_true o;rw[e.1,e.2];by_cases y:∃x∈U,onP x n.1 n.2=true
    ·obtain⟨x,hx,y⟩:=y;exact⟨x,pF.mem_iff.mp (mem_append_left _ hx),y⟩
    ·exact⟨_,pF.mem_iff.mp (mem_append_right _ (List.mem_map.mpr ⟨n,(mem n).mpr ⟨hs,y⟩,rfl⟩)),decide_eq_true ⟨rfl,rfl⟩⟩
   ·obtain⟨u,hu,o⟩:=(nf.pts a b).mpr ⟨s,List.mem_filter.mpr ⟨hs,by simpa using c⟩,o⟩;exact⟨u,pF.mem_iff.mp (mem_append_left _ hu),o⟩
 ·have:=pF.length_eq;rw[length_append,length_map] at this;have:=nf.len;have:=wU isD S;omega
def wS (pt:Addr):DSp:=λds M Q=>∃(l:Addr)(S:List Pc),ds = [.ref l]/\M (.l l) = some (S.map pcD)/\(∀s∈S,Va s)/\Hz S/\S.length<=31/\M (.x pt) = some [.str "joined_spans.<locals>.<lambda>"] /\
 ∀(p:Addr)(M':DM) (F:List Pc),bK M M'->M (.l p)=none->M' (.l p)=some (F.map pcD)->Few S F->Q (.ref p) M'
noncomputable abbrev xZ:Stmt:=top 45
theorem jW:aR ["pieces","groups","piece","whole","each"] ["pieces"] (aI xZ):=by ac_rfl
theorem aC3 {pt:Addr}(hF:cR K mg "joined" xZ ["pieces"])(uO:Has P w K mg base 106 "carrier" ["piece"] wQ)(gX:Has P w K mg base 122 "joined_stretches" ["stretches"] (aF1 pt))(lO:Has P w K mg base 122 "joined_arcs" ["pieces"] (aFh pt))(pU:Has P w K mg base 122 "lone_dots" ["pieces","others"] aET)(xO:mg "sorted" = none):Has P w K mg base 124 "joined" ["pieces"] (wS pt):=by
 refine Has.mkZ hF jW (λds M Q ⟨_,_,e,_⟩=>by rw[e];rfl) λf cdv A outer s H ds M Q E hr h=>?_;obtain⟨l,S,rfl,hl,hS,hz,ln,hP,q⟩:=h;refine⟨_,(aF (aN (i:=1) jW.nd zD)
  (aF (qC PassesOwn.never rfl (aB 0) (aO (i:=2) jW.nd) (aH (bO (aX (uS hr) (aG (aB 2) aC) cU) (aH (jG (iX (aEe hr (aB 1) (aE uO hr (by decide) (aA (aB 2) aD)) (fP aD)) (aB 2)))) aZ)))
  (aF (aN (i:=3) jW.nd (fP aD))
  (sO (aDX 1 PassesOwn.never rfl (aO (i:=4) jW.nd) (aH (aFO (i:=3) jW.nd (lR (aX (dD hr) (aG (aB 4) aC) cU) (aE gX hr (by decide) (aA (aDE hr (aB 1) (aB 4)) aD)) (aE lO hr (by decide) (aA (aDE hr (aB 1) (aB 4)) aD))))))
  (aH (aL (cO (aD1 hr) xO (aA (aJ fD (aB 3) (aE pU hr (by decide) (aA (aB 0) (aA (aB 3) aD)))) aD)))))))),?_⟩
 ac_nf;intro g hg;have s0:=bK.newK hg [];refine⟨_,s0 _ _ hl,λi ρ M'=>bK M M'/\(∃G,aC0 w ((S.take i).filter λp=>!isD p) M g G M')/\∃o,ρ=[some (.ref l),some (.ref g),o,none,none],⟨s0,⟨[],jU,TK.nil,λ_ h=>(by cases h),λ_ h=>(by cases h),λ_ h=>(by cases h),Nat.zero_le _,nodup_nil⟩,none,rfl⟩,?_,?_,?_⟩
 ·rintro i ρ M' _ ⟨s1,_⟩ a e;cases e;exact s1 _ _ hl
 ·rintro i d ρ M' hd ⟨s1,⟨G,gr⟩,o,rfl⟩;rw[getElem?_map] at hd;obtain⟨s,hs,rfl⟩:=Option.map_eq_some_iff.mp hd;have is:=hS s (mem_of_getElem? hs);ac_nf;refine aE1 ?_;rw[cV,aDu];cases z:isD s with
  |true =>
   have et:((S.take (i+1)).filter λp=>!isD p)=(S.take i).filter λp=>!isD p:=by rw[gO hs,filter_append,List.filter_cons_of_neg (by rw[z];decide),List.filter_nil,append_nil]
   exact ifF rfl ⟨s1,⟨G,by rw[et];exact gr⟩,_,rfl⟩
  |false =>
   have et:((S.take (i+1)).filter λp=>!isD p)=((S.take i).filter λp=>!isD p)++[s]:=by rw[gO hs,filter_append,filter_cons_of_pos (by rw[z];rfl),List.filter_nil]
   have lT:((S.take i).filter λp=>!isD p).length<=31:=Nat.le_trans (length_filter_le _ _) (Nat.le_trans (List.length_take_le' _ _) ln);have lG:(kvG G).length<=31:=by unfold kvG;rw[length_map];exact Nat.le_trans gr.len lT
   refine ifT rfl ⟨⟨_,gr.dict,gr.tk⟩,s,rfl,aGf is,aLD is,by decide,λp hp=>?_⟩;have hpM:=gG s1 hp;have s2:=s1.trans (bK.new hp []);by_cases k:cD s∈(kvG G).map (·.1)
   ·obtain⟨x,hx,e⟩:=List.mem_map.mp (by rw[mF] at k;exact k);have ha:=(gr.here x hx).2;have ha2:bE M' p [] (.l x.2)=some ((grp ((S.take i).filter λp=>!isD p) x.1).map pcD):=by rw[bV (aV ha hp)];exact ha
    have lg:(grp ((S.take i).filter λp=>!isD p) x.1).length<=31:=Nat.le_trans (length_filter_le _ _) lT;refine⟨_,by rw[lL];exact gr.dict,gr.tk,by omega,aAZ z,.inl ⟨.ref x.2,vV gr.tk.nd (by rw[<- e];exact List.mem_map.mpr ⟨x,hx,rfl⟩),⟨_,ha2⟩,_,_,rfl,ha2,by rw[length_map];omega,λb o e=>?_,⟨G,by rw[et];exact gr.old hx e.symm hp⟩,_,rfl⟩⟩;rw[fE (bS e (gr.here x hx).1)];exact s2 _ _ e
   ·refine⟨_,by rw[lL];exact gr.dict,gr.tk,by omega,aAZ z,.inr ⟨k,⟨_,by rw[vU];exact aK⟩,_,_,rfl,by rw[vU];exact aK,by decide,λb o e=>?_,⟨_,by rw[et];exact gr.new k (aAZ z) hp hpM⟩,_,rfl⟩⟩;rw[fE (bS e hpM),xY (bS e hg)];exact s2 _ _ e
 ·rintro ρ M' ⟨s1,⟨G,gr⟩,o,rfl⟩;rw[length_map,take_length] at gr;have lT:(S.filter λp=>!isD p).length<=S.length:=length_filter_le _ _;have hT:∀t∈S.filter (λp=>!isD p),t∈S/\isD t=false:=λt ht=>by obtain⟨a,b⟩:=List.mem_filter.mp ht;exact⟨a,by simpa using b⟩
  generalize eT:S.filter (λp=>!isD p)=T at gr lT hT;ac_nf;refine⟨by decide,λp hp=>⟨λρ N=>bK M N/\(∃U,N (.l p)=some (U.map pcD)/\Nfs T U)/\∃o o',ρ=[some (.ref l),some (.ref g),o,some (.ref p),o'],?_,?_⟩⟩
  ·have hpM:=gG s1 hp;have s2:=s1.trans (bK.new hp []);have np:∀y∈G,y.2≠p:=λy hy=>aV (gr.here y hy).2 hp;have kn:(G.map (·.1)).Nodup:=by rw[<- mF];exact gr.tk.nd
   refine⟨_,by rw[lL];exact gr.dict,gr.tk,λhx=>⟨λi ρ N=>bK M N/\N (.x g)=some (.bl true::gA w (kvG G))/\(∀y∈G,N (.l y.2)=some ((grp T y.1).map pcD))/\(∃U,N (.l p)=some (U.map pcD)/\Nfs (((G.map (·.1)).take i).flatMap (grp T)) U)/\∃o o',ρ=[some (.ref l),some (.ref g),o,some (.ref p),o'],⟨aH3 s2 hg hx,aGg,λy hy=>?_,⟨[],?_,Nfs.nil⟩,_,_,rfl⟩,λ_ _ _ _ _ a e=>(by cases e),?_,?_⟩⟩
   ·rw[nI (by intro z;cases z) (by intro z;cases z),bV (np y hy)];exact(gr.here y hy).2
   ·rw[nI (by intro z;cases z) (by intro z;cases z)];exact aK
   ·rintro i d ρ N hd ⟨sN,hfx,hG,⟨U,hfp,nf⟩,o,o',rfl⟩;rw[mF] at hd;have hd0:=hd;rw[getElem?_map] at hd;obtain⟨⟨k,a⟩,hk,rfl⟩:=Option.map_eq_some_iff.mp hd;have mk:=mem_of_getElem? hk;have tki:(G.map (·.1)).take (i+1)=(G.map (·.1)).take i++[k]:=gO hd0;have ma:(k,D.ref a)∈kvG G:=List.mem_map.mpr ⟨_,mk,rfl⟩;have ha:N (.l a)=some ((grp T k).map pcD):=hG _ mk;have kN:∀k'∈(G.map (·.1)).take i,k'≠k:=λk' hk'=>by have:=List.Nodup.sublist (List.take_sublist (i+1) _) kn;rw[tki,nodup_append] at this;exact this.2.2 k' hk' k mem_cons_self
    have gT:∀t∈grp T k,Va t/\isD t=false/\cD t=k/\t∈S:=λt ht=>by obtain⟨a,b⟩:=qI.mp ht;exact⟨hS t (hT t a).1,(hT t a).2,b,(hT t a).1⟩
    have gC:∀t∈grp T k,∀t'∈grp T k,cD t=cD t':=λt ht t' ht'=>(gT t ht).2.2.1.trans (gT t' ht').2.2.1.symm;have gne:grp T k≠[]:=λz=>by obtain⟨t,ht,e⟩:=gr.has _ mk;have:=qI.mpr ⟨ht,e⟩;rw[z] at this;cases this
    have gL:(grp T k).length<=31:=Nat.le_trans (length_filter_le _ _) (by omega);obtain⟨s0,T',eg⟩:=List.exists_cons_of_ne_nil gne;have m0:s0∈grp T k:=by rw[eg];exact mem_cons_self
    obtain⟨v0,d0,c0,_⟩:=gT s0 m0;have next:∀(p2:Addr)(N1:DM) (U2:List Pc) (o o':Option D),bK N N1->N (.l p2)=none->N1 (.l p2)=some (U2.map pcD)->Nf (grp T k) U2->bK M (bE N1 p (U.map pcD++U2.map pcD))/\bE N1 p (U.map pcD++U2.map pcD) (.x g)=some (.bl true::gA w (kvG G))/\(∀y∈G,bE N1 p (U.map pcD++U2.map pcD) (.l y.2)=some ((grp T y.1).map pcD))/\(∃U',bE N1 p (U.map pcD++U2.map pcD) (.l p)=some (U'.map pcD)/\Nfs (((G.map (·.1)).take (i+1)).flatMap (grp T)) U')/\∃o1 o2,[some (.ref l),some (.ref g),o,some (.ref p),o']=[some (.ref l),some (.ref g),o1,some (.ref p),o2]:=λp2 N1 U2 o o' s3 n2 e2 nf2=>by refine⟨λb o e=>by rw[fE (bS e hpM)];exact s3 _ _ (sN _ _ e),by rw[iL];exact s3 _ _ hfx,λy hy=>by rw[bV (np y hy)];exact s3 _ _ (hG y hy),⟨U++U2,by rw[aK,map_append],?_⟩,_,_,rfl⟩;rw[tki,List.flatMap_append];refine nf.add (T':=[k].flatMap (grp T)) (by rw[List.flatMap_cons,List.flatMap_nil,append_nil];exact nf2.nfs gC) λt ht t' ht'=>?_;obtain⟨k',hk',z⟩:=List.mem_flatMap.mp ht;obtain⟨k2,hk2,z2⟩:=List.mem_flatMap.mp ht';rw[List.mem_singleton.mp hk2] at z2;rw[(qI.mp z).2,(qI.mp z2).2];exact kN k' hk'
    have lU:U.length<=31:=by have h1:=nf.len;have h2:=aAa (List.Nodup.sublist (List.take_sublist i _) kn) T;omega
    cases s0 with
    |dot x y=>cases d0
    |str x y u v =>
     obtain⟨b1,b2,b3,ek⟩:=sH x y u v;obtain rfl:k = .tup [.str "line",.int b1,.int b2,.int b3]:=c0.symm.trans ek;ac_nf;rw[cV];refine ifT (by decide) ⟨_,.ref a,hfx,gr.tk,⟨⟨_,rfl⟩,rfl⟩,vV gr.tk.nd ma,a,_,rfl,ha,gne,λt ht=>⟨(gT t ht).1,aGZ (gT t ht).2.1 (gC t ht _ m0)⟩,gC,by omega,sN _ _ hP,λp2 N1 U2 s3 n2 e2 nf2=>?_⟩;ac_nf;exact⟨_,_,s3 _ _ hfp,e2,by rw[length_map,length_map];have:=nf2.len;omega,next p2 N1 U2 _ _ s3 n2 e2 nf2⟩
    |arc cx cy ax ay bx b_y =>
     obtain⟨c,gc⟩:=aIz (T:=grp T k) (s:=.arc cx cy ax ay bx b_y) (by rw[eg];rfl) rfl (λt ht=>(gT t ht).1) (λt ht=>gC t ht _ m0) λs hs t ht=>hz s (gT s hs).2.2.2 t (gT t ht).2.2.2;obtain rfl:k = .tup [.str "circle",PQ cx cy,FQ ((cx-ax)*(cx-ax)+(cy-ay)*(cy-ay))]:=c0.symm;ac_nf;rw[cV];refine ifF (by decide) ⟨_,.ref a,hfx,gr.tk,⟨⟨_,rfl⟩,rfl⟩,vV gr.tk.nd ma,a,c,_,rfl,gc,ha,by omega,sN _ _ hP,λp2 N1 U2 s3 n2 e2 nf2=>?_⟩;ac_nf;exact⟨_,_,s3 _ _ hfp,e2,by rw[length_map,length_map];have:=nf2.len;omega,next p2 N1 U2 _ _ s3 n2 e2 nf2⟩
    |ring cx cy ax ay =>
     obtain⟨c,gc⟩:=aIz (T:=grp T k) (s:=.ring cx cy ax ay) (by rw[eg];rfl) rfl (λt ht=>(gT t ht).1) (λt ht=>gC t ht _ m0) λs hs t ht=>hz s (gT s hs).2.2.2 t (gT t ht).2.2.2;obtain rfl:k = .tup [.str "circle",PQ cx cy,FQ ((cx-ax)*(cx-ax)+(cy-ay)*(cy-ay))]:=c0.symm;ac_nf;rw[cV];refine ifF (by decide) ⟨_,.ref a,hfx,gr.tk,⟨⟨_,rfl⟩,rfl⟩,vV gr.tk.nd ma,a,c,_,rfl,gc,ha,by omega,sN _ _ hP,λp2 N1 U2 s3 n2 e2 nf2=>?_⟩;ac_nf;exact⟨_,_,s3 _ _ hfp,e2,by rw[length_map,length_map];have:=nf2.len;omega,next p2 N1 U2 _ _ s3 n2 e2 nf2⟩
   ·rintro ρ N ⟨sN,hfx,_,⟨U,hfp,nf⟩,o,o',rfl⟩;refine⟨hfx,aG4 sN hg (gG s2 hx),⟨U,?_,?_⟩,_,_,rfl⟩
    ·rw[qK (by intro z;cases z) (by intro z;cases z)];exact hfp
    ·rw[mF,take_length] at nf;refine nf.of_mem (λt=>⟨λz=>?_,λz=>?_⟩) (aAa kn T)
     ·obtain⟨k,_,z⟩:=List.mem_flatMap.mp z;exact(qI.mp z).1
     ·obtain⟨x,hx,e⟩:=gr.all t z;exact List.mem_flatMap.mpr ⟨x.1,List.mem_map.mpr ⟨x,hx,rfl⟩,qI.mpr ⟨z,e⟩⟩
  rintro _ N ⟨s1,⟨U,hJ,nf⟩,o,o',rfl⟩;clear gr hp;have lU:=nf.len;ac_nf;refine⟨l,p,S,U,rfl,s1 _ _ hl,hJ,hS,nf.va,by omega,by omega,λp2 N2 ns s2 n2 e2 nd mem lns=>?_⟩;have ln2:ns.length<=31:=Nat.le_trans lns (Nat.le_trans (length_filter_le _ _) ln);have er:U.map pcD++ns.map yA=(U++ns.map λn:Rat×Rat=>Pc.dot n.1 n.2).map pcD:=by rw[map_append,map_map];rfl
  refine⟨_,_,s2 _ _ hJ,e2,by rw[length_map,length_map];omega,λp3 hp3=>⟨_,.s,[ptS,ptS,ptS],aK,λd hd=>?_,?_,by rw[length_append,length_map,length_map];omega,λp4 zs hp4 pm so=>?_⟩⟩
  ·rw[er] at hd;obtain⟨x,_,rfl⟩:=List.mem_map.mp hd;exact aLA x
  ·rw[er];exact List.all_eq_true.mpr λd hd=>by obtain⟨x,_,rfl⟩:=List.mem_map.mp hd;exact aJv x
  rw[er] at pm hp4 ⊢;obtain⟨F,rfl,pF⟩:=oG pm.symm _ rfl;have s3:=(s1.trans s2).trans ((bK.new hp3 _).trans (bK.new hp4 (F.map pcD)));exact qY (q p4 _ F s3 (gG (s1.trans (s2.trans (bK.new hp3 _))) hp4) aK (aJS hS (by rw[eT];exact nf) nd mem lns pF so))
theorem uuQ (t:Rat):(((t.den*t.den-t.num*t.num:Int)):Rat)/((t.den*t.den+t.num*t.num:Int):Rat)=uu t:=by have k1:=iR t;have k2:=dZ t;have e1:=dH t;rw[Rat.intCast_sub,Rat.intCast_add,Rat.intCast_mul,Rat.intCast_mul,e1];unfold uu;grind
theorem vvQ (t:Rat):(((2*t.num*t.den:Int)):Rat)/((t.den*t.den+t.num*t.num:Int):Rat)=vv t:=by have k1:=iR t;have k2:=dZ t;have e1:=dH t;rw[Rat.intCast_add,Rat.intCast_mul,Rat.intCast_mul,Rat.intCast_mul,Rat.intCast_mul,e1];unfold vv;grind
theorem qQ (t:Rat):0<(t.den:Int)*t.den+t.num*t.num:=by
 have h1:=Int.mul_pos (den_pos t) (den_pos t);have h2:0<=t.num*t.num:=by
  rcases Int.le_total 0 t.num with h|h
  ·exact Int.mul_nonneg h h
  ·exact Int.mul_nonneg_of_nonpos_of_nonpos h h
 omega
theorem aL6 {n:Nat}{t:Rat}(h:BQ n t):BQ (n+n+1) (uu t):=by rw[<- uuQ];exact .make (by have:=qQ t;omega) ((h.2.mul h.2).sub (h.1.mul h.1)) ((h.2.mul h.2).add (h.1.mul h.1))
theorem aNo {n:Nat}{t:Rat}(h:BQ n t):BQ (n+n+2) (vv t):=by
 rw[<- vvQ];have h2:Bd 2 2:=by unfold Bd;decide
 exact .make (by have:=qQ t;omega) (((h2.mul h.1).mul h.2).mono (by omega)) (((h.2.mul h.2).add (h.1.mul h.1)).mono (by omega))
def oA:DSp:=aBT
noncomputable abbrev jZ:Stmt:=top 61
theorem cL:aR ["_law_c","_law_a","_law_t","_law_top","_law_bottom","_law_whole_here","_law_u","_law_v","_law_x","_law_y","_law_way"] ["_law_c","_law_a","_law_t"] (aI jZ):=by ac_rfl
theorem uQ (hF:cR K mg "_law_at_share" jZ ["_law_c","_law_a","_law_t"])(bH:Has P w K mg base 101 "_law_lowest" ["_law_top","_law_bottom"] dS)(cH:Has P w K mg base 102 "_law_sum" ["_law_one","_law_other","_law_by"] gY)(cS:Has P w K mg base 102 "_law_product" ["_law_one","_law_other"] iB)(bW:Has P w K mg base 103 "_law_both" ["_law_p","_law_q","_law_by"] fY):Has P w K mg base 104 "_law_at_share" ["_law_c","_law_a","_law_t"] oA:=by
 refine Has.mkZ hF cL (λds M Q ⟨x,y,u,v,t,e,_⟩=>by rw[e];rfl) λf cdv A outer s H ds M Q E hr h=>?_;obtain⟨cx,cy,ax,ay,t,rfl,h1,h2,h3,h4,h5,q⟩:=h;refine⟨_,(aF (cQ (aB 2) (eD (n:=2) rfl (aU (aO (i:=3) cL.nd) (aU (aO (i:=4) cL.nd) dG))))
  (aF (aN (i:=5) cL.nd (aJ fD (aJ bG (aB 4) (aB 4)) (aJ bG (aB 3) (aB 3))))
  (aF (aN (i:=6) cL.nd (aE bH hr (by decide) (aA (aJ hO (aJ bG (aB 4) (aB 4)) (aJ bG (aB 3) (aB 3))) (aA (aB 5) aD))))
  (aF (aN (i:=7) cL.nd (aE bH hr (by decide) (aA (aJ bG (aJ bG aC (aB 3)) (aB 4)) (aA (aB 5) aD))))
  (aF (cQ (aE bW hr (by decide) (aA (aB 1) (aA (aB 0) (aA (cZ aC) aD)))) (eD (n:=2) rfl (aU (aO (i:=8) cL.nd) (aU (aO (i:=9) cL.nd) dG))))
  (aF (aN (i:=10) cL.nd (aY (aA (aE cH hr (by decide) (aA (aE cS hr (by decide) (aA (aB 6) (aA (aB 8) aD))) (aA (aE cS hr (by decide) (aA (aB 7) (aA (aB 9) aD))) (aA (cZ aC) aD)))) (aA (aE cH hr (by decide) (aA (aE cS hr (by decide) (aA (aB 7) (aA (aB 8) aD))) (aA (aE cS hr (by decide) (aA (aB 6) (aA (aB 9) aD))) (aA aC aD)))) aD))))
  (aH (aL (aE bW hr (by decide) (aA (aB 0) (aA (aB 10) (aA aC aD)))))))))))),?_⟩
 ac_nf;have hw:=qQ t;have bw:Bd 421 ((t.den:Int)*t.den+t.num*t.num):=(h5.2.mul h5.2).add (h5.1.mul h5.1);have b2:Bd 2 2:=by unfold Bd;decide
 refine⟨rfl,cB h5.2 h5.2,cB h5.1 h5.1,cB h5.2 h5.2,cB h5.1 h5.1,_,_,rfl,by omega,bw.mono (by decide),cB b2 h5.1,cB (b2.mul h5.1) h5.2,_,_,rfl,by omega,bw.mono (by decide),?_⟩;rw[uuQ,vvQ];ac_nf;have bu:BQ 421 (uu t):=aL6 h5;have bv:BQ 422 (vv t):=aNo h5;have bx:BQ 401 (zs (-1) ax cx):=aIN h3 h1;have bY:BQ 401 (zs (-1) ay cy):=aIN h4 h2;refine⟨ax,ay,cx,cy,-1,_,_,rfl,.inr rfl,h3,h4,h1,h2,by decide,?_⟩;ac_nf;refine⟨rfl,?_⟩;refine⟨uu t,_,_,_,rfl,trivial,bu,bx,by decide,vv t,_,_,_,rfl,trivial,bv,bY,by decide,_,_,_,_,_,rfl,.inr rfl,bu.mul bx,bv.mul bY,by decide,?_⟩;ac_nf;refine⟨vv t,_,_,_,rfl,trivial,bv,bx,by decide,uu t,_,_,_,rfl,trivial,bu,bY,by decide,_,_,_,_,_,rfl,.inl rfl,bv.mul bx,bu.mul bY,by decide,by decide,?_⟩;ac_nf;exact⟨cx,cy,cJ t (ax-cx) (ay-cy),cI t (ax-cx) (ay-cy),1,_,_,rfl,.inl rfl,h1,h2,((bu.mul bx).sub (bv.mul bY)).mono (by decide:_<=2000),((bv.mul bx).add (bu.mul bY)).mono (by decide:_<=2000),by decide,M,.refl _,q⟩
def sR:DSp:=qB 40000 3 (IsF 24)
noncomputable abbrev oV:Stmt:=top 64
theorem sZ:aR ["_law_from","_law_way"] ["_law_from"] (aI oV):=by ac_rfl
theorem yH (hF:cR K mg "_law_share" oV ["_law_from"])(aW:Has P w K mg base 101 "_law_draw" ["_law_from","_law_many"] eG)(bH:Has P w K mg base 101 "_law_lowest" ["_law_top","_law_bottom"] dS):Has P w K mg base 102 "_law_share" ["_law_from"] sR:=by
 refine Has.mkZ hF sZ qL λf cdv A outer s H ds M Q E hr h=>?_;obtain⟨a,n,rfl,fd,hn,q⟩:=h;refine⟨_,(aF (aN (i:=1) sZ.nd (aE aW hr (by decide) (aA (aB 0) (aA aC aD))))
  (aF (bO (aX (dD hr) (aB 1) aC) (aH (aL (aG (fP (aA (aY (aA aC (aA aC aD))) (aA (aY (aA aC (aA aC aD))) (aA (aY (aA (cZ aC) (aA aC aD))) (aA (aY (aA aC (aA aC aD))) (aA (aY (aA (cZ aC) (aA aC aD))) aD)))))) (aE aW hr (by decide) (aA (aB 0) (aA aC aD)))))) aZ)
  (aF (bO (aX (dD hr) (aB 1) aC) (aH (aL (aE bH hr (by decide) (aA (aJ hO (aE aW hr (by decide) (aA (aB 0) (aA aC aD))) aC) (aA (aJ fD aC (aE aW hr (by decide) (aA (aB 0) (aA aC aD)))) aD))))) aZ)
  (aH (aL (aE bH hr (by decide) (aA (aJ hO (aE aW hr (by decide) (aA (aB 0) (aA (aJ bG aC (aJ pL aC aC)) aD))) (aJ pL aC aC)) (aA (aJ fD aC (aE aW hr (by decide) (aA (aB 0) (aA (aJ pL aC aC) aD)))) aD)))))))),?_⟩
 ac_nf;refine⟨a,4,n,rfl,fd,by omega,by decide,bdk (by decide),λway M1 w0 w1 fd1 av1=>⟨rfl,rfl,zB (λ_=>?_) (λ_=>⟨rfl,rfl,zB (λ_=>?_) (λ_=>?_)⟩)⟩⟩
 ·ac_nf;refine⟨by show(2:Nat)<=1000;decide,by show(2:Nat)<=1000;decide,by show(2:Nat)<=1000;decide,by show(2:Nat)<=1000;decide,by show(2:Nat)<=1000;decide,by show(5:Nat)<=1000;decide,λpl hpl=>?_⟩;have hap:a≠pl:=by obtain⟨c,k,f,e,_⟩:=fd1;exact aV e hpl
  have fdp:FdN (bE M1 pl [.tup [.int 0,.int 1],.tup [.int 1,.int 1],.tup [.int (-1),.int 1],.tup [.int 1,.int 2],.tup [.int (-2),.int 1]]) a (n+1):=by obtain⟨c,k,f,e,k0,k1⟩:=fd1;exact⟨c,k,f,by rw[bV hap];exact e,k0,k1⟩
  refine⟨a,5,_,rfl,fdp,by omega,by decide,bdk (by decide),λr M2 r0 r1 fd2 av2=>?_⟩;ac_nf;have hl:M2 pl=some [.tup [.int 0,.int 1],.tup [.int 1,.int 1],.tup [.int (-1),.int 1],.tup [.int 1,.int 2],.tup [.int (-2),.int 1]]:=by rw[av2 pl (Ne.symm hap)];exact aK
  have fdn:FdN (aDS M2 pl) a (n+3):=by obtain⟨c,k,f,e,k0,k1⟩:=fd2;exact⟨c,k,f,by rw[aHY hap];exact e,k0,by omega⟩
  have hpM:M pl=none:=by rw[<- av1 pl (Ne.symm hap)];exact hpl
  have avn:Adv M (aDS M2 pl) a:=.of λb hb=>by
   by_cases z:b=.l pl
   ·subst z;rw[zE,hpM]
   ·rw[aBR z,av2.ak hb,fE z];exact av1.ak hb
  have fin:∀d,IsF 24 d->Dn Q d M2:=λd h=>⟨_,aEI _ _,q d _ h fdn avn⟩;have k:r=0∨r=1∨r=2∨r=3∨r=4:=by omega
  rcases k with rfl|rfl|rfl|rfl|rfl
  ·exact⟨_,_,hl,rfl,fin _ (mG (by decide) (by decide))⟩
  ·exact⟨_,_,hl,rfl,fin _ (mG (by decide) (by decide))⟩
  ·exact⟨_,_,hl,rfl,fin _ (mG (by decide) (by decide))⟩
  ·exact⟨_,_,hl,rfl,fin _ ⟨(⟨1,2,by decide,by decide⟩:Rat),rfl,⟨by show(1:Int).natAbs<2^24;decide,by show((2:Nat):Int).natAbs<2^24;decide⟩⟩⟩
  ·exact⟨_,_,hl,rfl,fin _ (mG (by decide) (by decide))⟩
 ·refine⟨a,41,_,rfl,fd1,by omega,by decide,bdk (by decide),λr M2 r0 r1 fd2 av2=>?_⟩;refine⟨a,12,_,rfl,fd2,by omega,by decide,bdk (by decide),λr' M3 s0 s1 fd3 av3=>?_⟩;exact⟨_,_,rfl,by omega,(aDK (by omega) (by omega)).mono (by decide),M3,.refl _,q _ M3 (qJ (by omega) (by omega) (by omega) (by omega)) (fd3.mono (by omega)) ((av1.trans av2).trans av3)⟩
 ·refine⟨⟨by decide,by decide,by decide⟩,aAj (by unfold Bd;decide),a,_,_,rfl,fd1,by omega,by decide,bdk (by decide),λr M2 r0 r1 fd2 av2=>?_⟩;have r1:r<2000:=r1;refine⟨⟨by decide,by decide,by decide⟩,⟨by decide,by decide,by decide⟩,a,_,_,rfl,fd2,by omega,by decide,bdk (by decide),λr' M3 s0 s1 fd3 av3=>?_⟩;have s1:r'<1000:=s1;have e:((10:Int)^Int.toNat 3)=1000:=by decide
  exact⟨_,_,rfl,by omega,(aDK (by omega) (by omega)).mono (by decide),M3,.refl _,q _ M3 (qJ (by omega) (by rw[e];omega) (by rw[e];omega) (by omega)) (fd3.mono (by omega)) ((av1.trans av2).trans av3)⟩
theorem bq0:BQ 24 0:=⟨by show(0:Int).natAbs<2^24;decide,by show((1:Nat):Int).natAbs<2^24;decide⟩
def IsS (d:D):Prop:=∃cx cy x y,d=.tup [PQ cx cy,PQ (cx+x) (cy+y)]/\BQ 24 cx/\BQ 24 cy/\BQ 24 x/\BQ 24 y/\¬(x=0/\y=0)
def kR:DSp:=qB 20000 12 IsS
noncomputable abbrev iU:Stmt:=top 65
theorem fO:aR ["_law_from","_law_c","_law_way"] ["_law_from"] (aI iU):=by ac_rfl
theorem rQ (hF:cR K mg "_law_start_here" iU ["_law_from"])(cE:Has P w K mg base 103 "_law_spot" ["_law_from"] hV)(bW:Has P w K mg base 103 "_law_both" ["_law_p","_law_q","_law_by"] fY):Has P w K mg base 104 "_law_start_here" ["_law_from"] kR:=by
 refine Has.mkZ hF fO qL λf cdv A outer s H ds M Q E hr h=>?_;obtain⟨a,n,rfl,fd,hn,q⟩:=h;refine⟨_,(aF (aN (i:=1) fO.nd (aE cE hr (by decide) (aA (aB 0) aD)))
  (aF (aN (i:=2) fO.nd (aE cE hr (by decide) (aA (aB 0) aD)))
  (aF (bO (aX (dD hr) (aB 2) (aY (aA (aY (aA aC (aA aC aD))) (aA (aY (aA aC (aA aC aD))) aD)))) (aH (aN (i:=2) fO.nd (aY (aA (aY (aA aC (aA aC aD))) (aA (aY (aA aC (aA aC aD))) aD))))) aZ)
  (aH (aL (aY (aA (aB 1) (aA (aE bW hr (by decide) (aA (aB 1) (aA (aB 2) (aA aC aD)))) aD)))))))),?_⟩
 ac_nf;refine⟨a,_,rfl,fd,by omega,λd M2 ⟨cx,cy,ec,hcx,hcy⟩ fd2 av2=>⟨a,_,rfl,fd2,by omega,λd' M3 ⟨x,y,ew,hx,hy⟩ fd3 av3=>?_⟩⟩;subst ec ew;refine⟨by show(2:Nat)<=1000;decide,by show(2:Nat)<=1000;decide,by show(2:Nat)<=1000;decide,rfl,rfl,zB (λc=>?_) (λc=>?_)⟩
 ·refine⟨by show(2:Nat)<=1000;decide,by show(2:Nat)<=1000;decide,by show(2:Nat)<=1000;decide,cx,cy,1,0,1,24,24,rfl,.inl rfl,hcx,hcy,bq1.mono (by decide),bq0,by decide,by show(2:Nat)<=1000;decide,M3,.refl _,q _ M3 ⟨cx,cy,1,0,rfl,hcx,hcy,bq1.mono (by decide),bq0,λz=>absurd z.1 (by decide)⟩ (fd3.mono (by omega)) (av2.trans av3)⟩
 ·refine⟨cx,cy,x,y,1,24,24,rfl,.inl rfl,hcx,hcy,hx,hy,by decide,by show(2:Nat)<=1000;decide,M3,.refl _,q _ M3 ⟨cx,cy,x,y,rfl,hcx,hcy,hx,hy,?_⟩ (fd3.mono (by omega)) (av2.trans av3)⟩;rintro⟨rfl,rfl⟩;exact absurd c (by decide)
structure Wb (n k:Nat)(v:Rat×Rat):Prop where
 is:∃X Y D:Int,D≠0/\v.1=(X:Rat)/(D:Rat)/\v.2=(Y:Rat)/(D:Rat)/\Bd n X/\Bd n Y/\Bd k D
theorem Wb.of {x y:Rat}(h1:BQ 24 x)(h2:BQ 24 y):Wb 48 48 (x,y):=by
 refine⟨x.num*y.den,y.num*x.den,x.den*y.den,Int.mul_ne_zero (cA x) (cA y),?_,?_,h1.1.mul h2.2,h2.1.mul h1.2,h1.2.mul h2.2⟩
 ·have h1:=iR x;have h2:=iR y;show x=_;rw[Rat.intCast_mul,Rat.intCast_mul,dH];grind
 ·have h1:=iR x;have h2:=iR y;show y=_;rw[Rat.intCast_mul,Rat.intCast_mul,dH];grind
theorem Wb.mono {n k m l:Nat}{v:Rat×Rat}(h:Wb n k v)(a:n<=m)(b:k<=l):Wb m l v:=by obtain⟨X,Y,D,d,e1,e2,b1,b2,b3⟩:=h.is;exact⟨X,Y,D,d,e1,e2,b1.mono a,b2.mono a,b3.mono b⟩
theorem Wb.neg {n k:Nat}{x y:Rat}(h:Wb n k (x,y)):Wb n k (-x,-y):=by
 obtain⟨X,Y,D,d,e1,e2,b1,b2,b3⟩:=h.is;refine⟨-X,-Y,D,d,?_,?_,b1.neg,b2.neg,b3⟩
 ·show -x=_;rw[show x=_ from e1];push_cast;grind
 ·show -y=_;rw[show y=_ from e2];push_cast;grind
theorem Wb.two {n k:Nat}{x y:Rat}(h:Wb n k (x,y)):Wb (n+1) k (x+x,y+y):=by
 obtain⟨X,Y,D,d,e1,e2,b1,b2,b3⟩:=h.is;refine⟨X+X,Y+Y,D,d,?_,?_,(b1.add b1).mono (by omega),(b2.add b2).mono (by omega),b3⟩
 ·show x+x=_;rw[show x=_ from e1];push_cast;grind
 ·show y+y=_;rw[show y=_ from e2];push_cast;grind
theorem Wb.rot {n k:Nat}{x y t:Rat}(h:Wb n k (x,y))(ht:BQ 24 t):Wb (n+50) (k+49) (cJ t x y,cI t x y):=by
 obtain⟨X,Y,D,d,e1,e2,b1,b2,b3⟩:=h.is;have e1:x=(X:Rat)/(D:Rat):=e1;have e2:y=(Y:Rat)/(D:Rat):=e2;have hd:(D:Rat)≠0:=by exact_mod_cast d
 have W:=qQ t;have hw:(((t.den*t.den+t.num*t.num:Int)):Rat)≠0:=by exact_mod_cast (show((t.den:Int)*t.den+t.num*t.num)≠0 by omega)
 have u:=uuQ t;have v:=vvQ t;have c1:Bd 49 ((t.den:Int)*t.den-t.num*t.num):=((ht.2.mul ht.2).sub (ht.1.mul ht.1)).mono (by decide);have c2:Bd 49 (2*t.num*t.den):=by have:=(ht.1.add ht.1).mul ht.2;rw[show 2*t.num*(t.den:Int)=(t.num+t.num)*t.den by grind];exact this.mono (by decide)
 have c3:Bd 49 ((t.den:Int)*t.den+t.num*t.num):=((ht.2.mul ht.2).add (ht.1.mul ht.1)).mono (by decide);refine⟨((t.den:Int)*t.den-t.num*t.num)*X-(2*t.num*t.den)*Y,(2*t.num*t.den)*X+((t.den:Int)*t.den-t.num*t.num)*Y,D*((t.den:Int)*t.den+t.num*t.num),Int.mul_ne_zero d (by omega),?_,?_,((c1.mul b1).sub (c2.mul b2)).mono (by omega),((c2.mul b1).add (c1.mul b2)).mono (by omega),(b3.mul c3).mono (by omega)⟩
 ·show cJ t x y=_;unfold cJ;rw[<- u,<- v,e1,e2];generalize ((t.den:Int)*t.den+t.num*t.num)=w at hw;generalize ((t.den:Int)*t.den-t.num*t.num)=a;generalize (2*t.num*(t.den:Int))=b;push_cast;grind
 ·show cI t x y=_;unfold cI;rw[<- u,<- v,e1,e2];generalize ((t.den:Int)*t.den+t.num*t.num)=w at hw;generalize ((t.den:Int)*t.den-t.num*t.num)=a;generalize (2*t.num*(t.den:Int))=b;push_cast;grind
theorem Wb.bz {x y u v:Rat}(h:Wb 99 97 (x,y))(h':Wb 99 97 (u,v)):BQ 300 (plZ x y u v):=by
 unfold plZ;by_cases c:SS x y u v=0
 ·rw[if_pos c];exact bq0.mono (by decide)
 rw[if_neg c];obtain⟨X,Y,D,d,e1,e2,b1,b2,b3⟩:=h.is;obtain⟨U,V,E,d',f1,f2,g1,g2,g3⟩:=h'.is;have e1:x=(X:Rat)/(D:Rat):=e1;have e2:y=(Y:Rat)/(D:Rat):=e2;have f1:u=(U:Rat)/(E:Rat):=f1;have f2:v=(V:Rat)/(E:Rat):=f2;have hd:(D:Rat)≠0:=by exact_mod_cast d
 have hd':(E:Rat)≠0:=by exact_mod_cast d'
 have k1:LL x y u v=((D*(X*V-Y*U):Int):Rat)/(((D*D*E:Int)):Rat):=by unfold LL;rw[e1,e2,f1,f2];push_cast;grind
 have k2:SS x y u v=(((X*X+Y*Y)*E+D*(X*U+Y*V):Int):Rat)/(((D*D*E:Int)):Rat):=by unfold SS;rw[e1,e2,f1,f2];push_cast;grind
 have hz:(((D*D*E:Int)):Rat)≠0:=by exact_mod_cast Int.mul_ne_zero (Int.mul_ne_zero d d) d'
 have n1:Bd 300 (D*(X*V-Y*U)):=(b3.mul ((b1.mul g2).sub (b2.mul g1))).mono (by decide);have n2:Bd 300 ((X*X+Y*Y)*E+D*(X*U+Y*V)):=((((b1.mul b1).add (b2.mul b2)).mul g3).add (b3.mul ((b1.mul g1).add (b2.mul g2)))).mono (by decide);have nz:(X*X+Y*Y)*E+D*(X*U+Y*V)≠0:=λz=>by rw[z] at k2;exact c (by rw[k2];push_cast;grind)
 have nzQ:(((X*X+Y*Y)*E+D*(X*U+Y*V):Int):Rat)≠0:=by exact_mod_cast nz
 rw[k1,k2];generalize D*(X*V-Y*U)=p at n1 k1;generalize (X*X+Y*Y)*E+D*(X*U+Y*V)=q at n2 nz nzQ k2;generalize (((D*D*E:Int)):Rat)=z at hz;rw[show(p:Rat)/z/((q:Rat)/z)=(p:Rat)/(q:Rat) by grind];exact .make nz n1 n2
def Wa (p:Pc):Prop:=isC p=true->∀e∈cap p,Wb 99 97 (e.1-(ctP p).1,e.2-(ctP p).2)
theorem aMS {S:List Pc}(h:∀s∈S,Va s/\Wa s):Hz S:=λs hs t ht hc e p he=>by
 have st:stP s∈cap s:=by cases s<;>exact mem_cons_self
 have hw:=(h s hs).2 hc _ st;have ct:isC t=true/\ctP t=ctP s:=by
  have go:∀cx cy ax ay,cD s = .tup [.str "circle",PQ cx cy,FQ ((cx-ax)*(cx-ax)+(cy-ay)*(cy-ay))]->ctP s=(cx,cy)->isC t=true/\ctP t=ctP s:=λcx cy ax ay e1 e2=>by
   rcases aA8 (h t ht).1 (e.trans e1) with⟨_,_,z,_⟩|⟨_,_,_,_,z,_⟩
   ·rw[z];exact⟨rfl,e2.symm⟩
   ·rw[z];exact⟨rfl,e2.symm⟩
  cases s with
  |dot x y=>cases hc
  |str x y u v=>cases hc
  |arc cx cy ax ay bx b_y=>exact go cx cy ax ay rfl rfl
  |ring cx cy ax ay=>exact go cx cy ax ay rfl rfl
 have hw':=(h t ht).2 ct.1 p he;rw[ct.2] at hw';exact Wb.bz hw hw'
noncomputable def aFN (x u:Rat)(t:Rat):Rat:=x+(u-x)*t
theorem aBF {x y u v:Rat}{z:Int}{m n:Nat}{M:DM}{Q:DQ}(hz:z=1∨z = -1)(h1:BQ m x)(h2:BQ m y)(h3:BQ n u)(h4:BQ n v)(l:m+n<=8998)(q:Q (PQ (zs z x u) (zs z y v)) M):fY [PQ x y,PQ u v,.int z] M Q:=⟨_,_,_,_,_,_,_,rfl,hz,h1,h2,h3,h4,l,q⟩
theorem aEW {p r:Rat}{z:Int}{m n:Nat}{M:DM}{Q:DQ}(hz:z=1∨z = -1)(h1:BQ m p)(h2:BQ n r)(l:m+n<=8998)(q:Q (FQ (zs z p r)) M):gY [FQ p,FQ r,.int z] M Q:=⟨_,_,_,_,_,rfl,hz,h1,h2,l,q⟩
theorem aMF {p r:Rat}{m n:Nat}{M:DM}{Q:DQ}(h1:BQ m p)(h2:BQ n r)(l:m+n<=8998)(q:Q (FQ (p*r)) M):iB [FQ p,FQ r] M Q:=⟨_,_,_,_,rfl,trivial,h1,h2,l,q⟩
def nJ:DSp:=λds M Q=>∃x y u v t,ds=[PQ x y,PQ u v,FQ t]/\BQ 100 x/\BQ 100 y/\BQ 100 u/\BQ 100 v/\BQ 60 t/\Q (PQ (aFN x u t) (aFN y v t)) M
noncomputable abbrev oI:Stmt:=top 67
theorem tO:aR ["_law_p","_law_q","_law_by","_law_way"] ["_law_p","_law_q","_law_by"] (aI oI):=by ac_rfl
theorem yB (hF:cR K mg "_law_mixed" oI ["_law_p","_law_q","_law_by"])(bW:Has P w K mg base 103 "_law_both" ["_law_p","_law_q","_law_by"] fY)(cH:Has P w K mg base 102 "_law_sum" ["_law_one","_law_other","_law_by"] gY)(cS:Has P w K mg base 102 "_law_product" ["_law_one","_law_other"] iB):Has P w K mg base 104 "_law_mixed" ["_law_p","_law_q","_law_by"] nJ:=by
 refine Has.mkZ hF tO (λds M Q ⟨x,y,u,v,t,e,_⟩=>by rw[e];rfl) λf cdv A outer s H ds M Q E hr h=>?_;obtain⟨x,y,u,v,t,rfl,h1,h2,h3,h4,ht,q⟩:=h;refine⟨_,(aF (aN (i:=3) tO.nd (aE bW hr (by decide) (aA (aB 1) (aA (aB 0) (aA (cZ aC) aD)))))
  (aH (aL (aY (aA (aE cH hr (by decide) (aA (aG (aB 0) aC) (aA (aE cS hr (by decide) (aA (aG (aB 3) aC) (aA (aB 2) aD))) (aA aC aD)))) (aA (aE cH hr (by decide) (aA (aG (aB 0) aC) (aA (aE cS hr (by decide) (aA (aG (aB 3) aC) (aA (aB 2) aD))) (aA aC aD)))) aD)))))),?_⟩
 ac_nf;refine aBF (.inr rfl) h3 h4 h1 h2 (by decide) ?_;rw[uJ,uJ];ac_nf;have b1:=h3.sub h1;have b2:=h4.sub h2;refine aMF b1 ht (by decide) (aEW (.inl rfl) h1 (b1.mul ht) (by decide) (aMF b2 ht (by decide) (aEW (.inl rfl) h2 (b2.mul ht) (by decide) ⟨by decide,M,.refl _,?_⟩)));rw[iW,iW];exact q
def uW:DSp:=λds M Q=>∃a n,ds=[.ref a]/\FdN M a n/\n<=20000/\∀x y u v M',bef x y u v=true->BQ 60 x->BQ 60 y->BQ 60 u->BQ 60 v->FdN M' a (n+12)->Adv M M' a->Q (.tup [PQ x y,PQ u v]) M'
noncomputable abbrev rT:Stmt:=top 69
theorem kK:aR ["_law_from","_law_p","_law_q"] ["_law_from"] (aI rT):=by ac_rfl
theorem aAp (hF:cR K mg "_law_base" rT ["_law_from"])(cE:Has P w K mg base 103 "_law_spot" ["_law_from"] hV)(cH:Has P w K mg base 102 "_law_sum" ["_law_one","_law_other","_law_by"] gY)(iA:Has P w K mg base 101 "_law_first" ["_law_p","_law_q"] nQ):Has P w K mg base 104 "_law_base" ["_law_from"] uW:=by
 refine Has.mkZ hF kK (λds M Q ⟨a,n,e,_⟩=>by rw[e];rfl) λf cdv A outer s H ds M Q E hr h=>?_;obtain⟨a,n,rfl,fd,hn,q⟩:=h;refine⟨_,(aF (aN (i:=1) kK.nd (aE cE hr (by decide) (aA (aB 0) aD)))
  (aF (aN (i:=2) kK.nd (aE cE hr (by decide) (aA (aB 0) aD)))
  (aF (bO (aX (dD hr) (aB 1) (aB 2)) (aH (aN (i:=2) kK.nd (aY (aA (aG (aB 1) aC) (aA (aE cH hr (by decide) (aA (aG (aB 1) aC) (aA (aY (aA aC (aA aC aD))) (aA aC aD)))) aD))))) aZ)
  (aF (bO (iJ (aE iA hr (by decide) (aA (aB 2) (aA (aB 1) aD)))) (aH (aL (aY (aA (aB 2) (aA (aB 1) aD))))) aZ)
  (aH (aL (aY (aA (aB 1) (aA (aB 2) aD))))))))),?_⟩
 ac_nf;refine⟨a,_,rfl,fd,by omega,λd1 M1 ⟨x,y,ex,hx,hy⟩ fd1 av1=>?_⟩;subst ex;ac_nf;refine⟨a,_,rfl,fd1,by omega,λd2 M2 ⟨u,v,eu,hu,hv⟩ fd2 av2=>?_⟩;subst eu;ac_nf;rw[mI];have av:=av1.trans av2;have m:∀{z:Rat},BQ 24 z->BQ 60 z:=λh=>h.mono (by decide);have k:∀{z:Rat},BQ 60 z->BQ 4400 z:=λh=>h.mono (by decide);by_cases c:x=u/\y=v
 ·refine ifT (decide_eq_true c) ?_;ac_nf;have b1:BQ 60 (y+1):=(hy.add bq1).mono (by decide);refine⟨by decide,?_⟩;rw[show(D.tup [.int 1,.int 1])=FQ 1 from rfl];refine aEW (.inl rfl) hy bq1 (by decide) ?_;rw[iW];ac_nf;have bb:bef x y x (y+1)=true:=by unfold bef;rw[if_pos rfl,decide_eq_true (by grind)]
  refine⟨by decide,_,_,_,_,rfl,k (m hx),k b1,k (m hx),k (m hy),?_⟩;have ne:¬(x=x/\y=y+1):=λz=>by have:=z.2;grind
  rw[jH ne,bb];exact⟨by decide,M2,.refl _,q _ _ _ _ _ bb (m hx) (m hy) (m hx) b1 (fd2.mono (by omega)) av⟩
 ·refine ifF (decide_eq_false c) ⟨_,_,_,_,rfl,k (m hu),k (m hv),k (m hx),k (m hy),?_⟩;rw[jH c];cases bb:bef x y u v with
  |true=>exact⟨by decide,M2,.refl _,q _ _ _ _ _ bb (m hx) (m hy) (m hu) (m hv) (fd2.mono (by omega)) av⟩
  |false =>
   have b2:=jH c;rw[bb] at b2;exact⟨by decide,M2,.refl _,q _ _ _ _ _ b2 (m hu) (m hv) (m hx) (m hy) (fd2.mono (by omega)) av⟩
def eZ (M M':DM)(a:Addr):Prop:=∀b,b≠AK.l a->∀o,M b=some o->M' b=some o
theorem eZ.trans {M M1 M2:DM}{a:Addr}(h:eZ M M1 a)(h2:eZ M1 M2 a):eZ M M2 a:=λb n o e=>h2 b n o (h b n o e)
theorem fV {M M':DM}{a:Addr}(h:Adv M M' a):eZ M M' a:=λb n o e=>by rw[h.ak n];exact e
theorem aDs {M M':DM}{a:Addr}(h:bK M M'):eZ M M' a:=λb _ o e=>h b o e
theorem eZ.fd {M:DM}{a p:Addr}{n:Nat}{o:List D}(h:FdN M a n)(hp:M (.l p)=none):FdN (bE M p o) a n:=by obtain⟨c,k,f,e,k0,k1⟩:=h;exact⟨c,k,f,by rw[bV (aV e hp)];exact e,k0,k1⟩
def IsW (cx cy x y:Rat)(d:D):Prop:=∃p q,d=PQ (cx+p) (cy+q)/\OnR x y p q/\BQ 200 p/\BQ 200 q/\Wb 99 97 (p,q)
theorem aEJ (c x:Rat):zs (-1) (zs 1 c c) (c+x)=c + -x:=by rw[iW,uJ];grind
def pI:DSp:=λds M Q=>∃a n cx cy x y many,ds=[.ref a,PQ cx cy,PQ (cx+x) (cy+y),.int many]/\0<=many/\many<=10/\BQ 24 cx/\BQ 24 cy/\BQ 49 x/\BQ 49 y/\Wb 49 48 (x,y)/\FdN M a n/\n<=20000 /\
 ∀p M' es,M (.l p)=none->M' (.l p)=some es->es.length=many.toNat->(∀d∈es,IsW cx cy x y d)->FdN M' a (n+40)->eZ M M' a->Q (.ref p) M'
noncomputable abbrev rJ:Stmt:=top 66
theorem jI:aR ["_law_from","_law_c","_law_a","_law_many","_law_found","_law_k","_law_p"] ["_law_from","_law_c","_law_a","_law_many"] (aI rJ):=by ac_rfl
theorem aA0 (hF:cR K mg "_law_some" rJ ["_law_from","_law_c","_law_a","_law_many"])(kF:Has P w K mg base 104 "_law_at_share" ["_law_c","_law_a","_law_t"] oA)(oJ:Has P w K mg base 102 "_law_share" ["_law_from"] sR)(aW:Has P w K mg base 101 "_law_draw" ["_law_from","_law_many"] eG)(bW:Has P w K mg base 103 "_law_both" ["_law_p","_law_q","_law_by"] fY)(mQ:mg "range" = none):Has P w K mg base 105 "_law_some" ["_law_from","_law_c","_law_a","_law_many"] pI:=by
 refine Has.mkZ hF jI (λds M Q ⟨a,n,x,y,u,v,m,e,_⟩=>by rw[e];rfl) λf cdv A outer s H ds M Q E hr h=>?_;obtain⟨a,n,cx,cy,x,y,many,rfl,m0,m1,h1,h2,h3,h4,wb,fd,hn,q⟩:=h;refine⟨_,(aF (aN (i:=4) jI.nd (fP aD))
  (aF (aGJ PassesOwn.never rfl mQ (aA (aB 3) aD) (aO (i:=5) jI.nd) (aF (aN (i:=6) jI.nd (aE kF hr (by decide) (aA (aB 1) (aA (aB 2) (aA (aE oJ hr (by decide) (aA (aB 0) aD)) aD)))))
  (aF (bO (aX (dD hr) (aE aW hr (by decide) (aA (aB 0) (aA aC aD))) aC) (aH (aN (i:=6) jI.nd (aE bW hr (by decide) (aA (aE bW hr (by decide) (aA (aB 1) (aA (aB 1) (aA aC aD)))) (aA (aB 2) (aA (cZ aC) aD)))))) aZ)
  (aH (jG (iX (aB 4) (aB 6)))))))
  (aH (aL (aB 4))))),?_⟩
 ac_nf;have ex:cx+x-cx=x:=by grind
 have ey:cy+y-cy=y:=by grind
 have bax:BQ 74 (cx+x):=h1.add h3;have bay:BQ 74 (cy+y):=h2.add h4;refine⟨by decide,λp hp=>⟨⟨by omega,by omega⟩,?_⟩⟩;have hap:a≠p:=by obtain⟨c,k,f,e,_⟩:=fd;exact aV e hp
 refine⟨λi ρ M'=>(∃es,M' (.l p)=some es/\es.length=i/\∀d∈es,IsW cx cy x y d)/\FdN M' a (n+4*i)/\eZ M M' a/\∃o1 o2,ρ=[some (.ref a),some (PQ cx cy),some (PQ (cx+x) (cy+y)),some (.int many),some (.ref p),o1,o2],⟨⟨[],aK,rfl,λd hd=>nomatch hd⟩,(eZ.fd fd hp).mono (by omega),aDs (bK.new hp _),_,_,rfl⟩,?_,?_⟩
 ·rintro i ρ M1 hi ⟨⟨es,g1,g2,g3⟩,fd1,oth,o1,o2,rfl⟩;ac_nf;refine⟨a,_,rfl,fd1,by omega,λd M2 ⟨t,et,ht⟩ fd2 av2=>?_⟩;subst et;refine⟨cx,cy,cx+x,cy+y,t,rfl,h1.mono (by decide),h2.mono (by decide),bax.mono (by decide),bay.mono (by decide),ht.mono (by decide),?_⟩;rw[ex,ey];ac_nf;refine⟨a,6,_,rfl,fd2,by omega,by decide,bdk (by decide),λr M3 r0 r1 fd3 av3=>?_⟩;simp_arith;have gp:M3 (.l p)=some es:=by rw[av3 p (Ne.symm hap),av2 p (Ne.symm hap)];exact g1
  have fin:∀d,IsW cx cy x y d->∀o1,(∃es',bE M3 p (es++[d]) (.l p)=some es'/\es'.length=i+1/\∀d∈es',IsW cx cy x y d)/\FdN (bE M3 p (es++[d])) a (n+4*(i+1))/\eZ M (bE M3 p (es++[d])) a/\∃o1' o2',[some (.ref a),some (PQ cx cy),some (PQ (cx+x) (cy+y)),some (.int many),some (.ref p),o1,some d]=[some (.ref a),some (PQ cx cy),some (PQ (cx+x) (cy+y)),some (.int many),some (.ref p),o1',o2']:=λd hd o1=>by
   refine⟨⟨_,aK,by rw[length_append,g2];rfl,λe he=>?_⟩,?_,λb b1 o e=>?_,_,_,rfl⟩
   ·rcases List.mem_append.mp he with z|z
    ·exact g3 e z
    ·rw[List.mem_singleton.mp z];exact hd
   ·obtain⟨c,k,f,e,k0,k1⟩:=fd3;exact⟨c,k,f,by rw[bV hap];exact e,k0,by omega⟩
   ·rw[fE (bS e hp),av3.ak b1,av2.ak b1];exact oth b b1 o e
  have bu:BQ 49 (uu t):=aL6 ht;have bv:BQ 50 (vv t):=aNo ht;by_cases c:r=0
  ·rw[if_pos c];refine⟨cx,cy,cx,cy,1,_,_,rfl,.inl rfl,h1,h2,h1,h2,by decide,_,_,cx+x,cy+y,-1,_,_,rfl,.inr rfl,h1.add h1,h2.add h2,bax,bay,by decide,?_⟩;rw[aEJ,aEJ];ac_nf;exact⟨⟨_,gp⟩,_,_,rfl,gp,by omega,fin _ ⟨-x,-y,rfl,by unfold OnR;grind,h3.neg.mono (by decide),h4.neg.mono (by decide),wb.neg.mono (by decide) (by decide)⟩ _⟩
  ·rw[if_neg c];ac_nf;exact⟨⟨_,gp⟩,_,_,rfl,gp,by omega,fin _ ⟨_,_,rfl,aKs t x y,((bu.mul h3).sub (bv.mul h4)).mono (by decide),((bv.mul h3).add (bu.mul h4)).mono (by decide),wb.rot ht⟩ _⟩
 ·rintro ρ M1 ⟨⟨es,g1,g2,g3⟩,fd1,oth,o1,o2,rfl⟩;ac_nf;exact⟨M1,.refl _,q p M1 es hp g1 g2 g3 (fd1.mono (by omega)) oth⟩
theorem aGw {B T:Nat}{x u t:Rat}(hx:BQ B x)(hu:BQ B u)(ht:BQ T t):BQ (3*B+T+2) (aFN x u t):=(hx.add ((hu.sub hx).mul ht)).mono (by omega)
theorem yF {a:Addr}{many:Int}{n:Nat}{M:DM}{Q:DQ}(fd:FdN M a n)(hn:n<=100000)(h0:0<many)(hb:Bd 8999 many)(q:∀r M',0<=r->r<many->FdN M' a (n+1)->Adv M M' a->Q (.int r) M'):eG [.ref a,.int many] M Q:=⟨_,_,_,rfl,fd,hn,h0,hb,q⟩
theorem aNM {t b:Int}{M:DM}{Q:DQ}(h:b≠0)(hb:Bd 8999 b)(q:Q (FQ ((t:Rat)/(b:Rat))) M):dS [.int t,.int b] M Q:=⟨_,_,rfl,h,hb,q⟩
theorem aNT {x y u v t:Rat}{M:DM}{Q:DQ}(h1:BQ 100 x)(h2:BQ 100 y)(h3:BQ 100 u)(h4:BQ 100 v)(h5:BQ 60 t)(q:Q (PQ (aFN x u t) (aFN y v t)) M):nJ [PQ x y,PQ u v,FQ t] M Q:=⟨_,_,_,_,_,rfl,h1,h2,h3,h4,h5,q⟩
def kA:DSp:=λds M Q=>∃a n x y u v,ds=[.ref a,.tup [PQ x y,PQ u v]]/\BQ 100 x/\BQ 100 y/\BQ 100 u/\BQ 100 v/\FdN M a n/\n<=20000/\∀X Y M',BQ 400 X->BQ 400 Y->FdN M' a (n+1)->Adv M M' a->Q (PQ X Y) M'
noncomputable abbrev lM:Stmt:=top 70
theorem xD:aR ["_law_from","_law_line"] ["_law_from","_law_line"] (aI lM):=by ac_rfl
theorem vH (hF:cR K mg "_law_weighed" lM ["_law_from","_law_line"])(aW:Has P w K mg base 101 "_law_draw" ["_law_from","_law_many"] eG)(bH:Has P w K mg base 101 "_law_lowest" ["_law_top","_law_bottom"] dS)(pS:Has P w K mg base 104 "_law_mixed" ["_law_p","_law_q","_law_by"] nJ):Has P w K mg base 105 "_law_weighed" ["_law_from","_law_line"] kA:=by refine Has.mkZ hF xD (λds M Q ⟨a,n,x,y,u,v,e,_⟩=>by rw[e];rfl) λf cdv A outer s H ds M Q E hr h=>?_;obtain⟨a,n,x,y,u,v,rfl,h1,h2,h3,h4,fd,hn,q⟩:=h;refine⟨_,(aH (aL (aE pS hr (by decide) (aA (aG (aB 1) aC) (aA (aG (aB 1) aC) (aA (aE bH hr (by decide) (aA (aJ hO (aE aW hr (by decide) (aA (aB 0) (aA aC aD))) aC) (aA aC aD))) aD)))))),?_⟩;ac_nf;refine yF fd (by omega) (by decide) (bdk (by decide)) λr M1 r0 r1 fd1 av1=>?_;ac_nf;refine aNM (by decide) (bdk (by decide)) ?_;have bt:BQ 24 (((r-16:Int):Rat)/((8:Int):Rat)):=.make (by decide) (aGs (by omega) (by omega)) (aGs (by decide) (by decide));refine aNT h1 h2 h3 h4 (bt.mono (by decide)) ?_;exact⟨M1,.refl _,q _ _ M1 ((aGw h1 h3 bt).mono (by decide)) ((aGw h2 h4 bt).mono (by decide)) fd1 av1⟩
def sA:DSp:=λds M Q=>∃a n x y u v cx cy wx wy,ds=[.ref a,.tup [PQ x y,PQ u v],PQ cx cy,PQ (cx+wx) (cy+wy)]/\BQ 100 x/\BQ 100 y/\BQ 100 u/\BQ 100 v/\BQ 24 cx/\BQ 24 cy/\BQ 49 wx/\BQ 49 wy/\¬(wx=0/\wy=0)/\Wb 49 48 (wx,wy)/\FdN M a n/\n<=19000 /\
 ∀p M',Va p->Wa p->FdN M' a (n+100)->eZ M M' a->Q (pcD p) M'
noncomputable abbrev pX:Stmt:=top 71
theorem gJ:aR ["_law_from","_law_line","_law_c","_law_a","_law_way","_law_p","_law_q"] ["_law_from","_law_line","_law_c","_law_a"] (aI pX):=by ac_rfl
theorem yD (hF:cR K mg "_law_piece" pX ["_law_from","_law_line","_law_c","_law_a"])(cE:Has P w K mg base 103 "_law_spot" ["_law_from"] hV)(aW:Has P w K mg base 101 "_law_draw" ["_law_from","_law_many"] eG)(iP:Has P w K mg base 105 "_law_some" ["_law_from","_law_c","_law_a","_law_many"] pI)(dU:Has P w K mg base 105 "_law_weighed" ["_law_from","_law_line"] kA)(iA:Has P w K mg base 101 "_law_first" ["_law_p","_law_q"] nQ):Has P w K mg base 106 "_law_piece" ["_law_from","_law_line","_law_c","_law_a"] sA:=by
 refine Has.mkZ hF gJ (λds M Q ⟨_,_,_,_,_,_,_,_,_,_,e,_⟩=>by rw[e];rfl) λf cdv A outer s H ds M Q E hr h=>?_;obtain⟨a,n,x,y,u,v,cx,cy,wx,wy,rfl,h1,h2,h3,h4,c1,c2,w1,w2,w0,wb,fd,hn,q⟩:=h;refine⟨_,(aF (aN (i:=4) gJ.nd (aE aW hr (by decide) (aA (aB 0) (aA aC aD))))
  (aF (cQ (aE iP hr (by decide) (aA (aB 0) (aA (aB 2) (aA (aB 3) (aA aC aD))))) (eD (n:=2) rfl (aU (aO (i:=5) gJ.nd) (aU (aO (i:=6) gJ.nd) dG))))
  (aF (bO (aX (dD hr) (aB 4) aC) (aH (aL (aY (aA cU (aA (aG (fP (aA (aE cE hr (by decide) (aA (aB 0) aD)) (aA (aB 5) (aA (aE dU hr (by decide) (aA (aB 0) (aA (aB 1) aD))) aD)))) (aE aW hr (by decide) (aA (aB 0) (aA aC aD)))) aD))))) aZ)
  (aF (bO (pG (jS (aX (dD hr) (aB 4) aC) (jE (aX (dD hr) (aE aW hr (by decide) (aA (aB 0) (aA aC aD))) aC)))) (aH (aL (aY (aA cU (aA (aB 2) (aA (aB 5) aD)))))) aZ)
  (aF (bO (pG (jS (aX kM (aB 4) aC) (jE (aX (uS hr) (aB 5) (aB 6))))) (aH (aL (aY (aA cU (aA (aB 2) (aA (aB 5) (aA (aB 6) aD))))))) aZ)
  (aF (aN (i:=5) gJ.nd (aE dU hr (by decide) (aA (aB 0) (aA (aB 1) aD))))
  (aF (aN (i:=6) gJ.nd (aE dU hr (by decide) (aA (aB 0) (aA (aB 1) aD))))
  (aF (bO (aX (dD hr) (aB 5) (aB 6)) (aH (aL (aY (aA cU (aA (aB 5) aD))))) aZ)
  (aF (bO (iJ (aE iA hr (by decide) (aA (aB 6) (aA (aB 5) aD)))) (aH (aL (aY (aA cU (aA (aB 6) (aA (aB 5) aD)))))) aZ)
  (aH (aL (aY (aA cU (aA (aB 5) (aA (aB 6) aD))))))))))))))),?_⟩
 ac_nf;refine yF fd (by omega) (by decide) (bdk (by decide)) λway M1 r0 r1 fd1 av1=>?_;ac_nf;refine⟨a,_,cx,cy,wx,wy,2,rfl,by decide,by decide,c1,c2,w1,w2,wb,fd1,by omega,λpe M2 es hpe hes hle hall fd2 k2=>?_⟩
 match es,hle with
 |[d1,d2],_ =>
 obtain⟨px,py,rfl,on1,bp1,bp2,wp⟩:=hall d1 (by simp);obtain⟨qx,qy,rfl,on2,bq1,bq2,wq⟩:=hall d2 (by simp);have k2:eZ M M2 a:=(fV av1).trans k2;have npx:¬(px=0/\py=0):=λ⟨z1,z2⟩=>by unfold OnR at on1;rw[z1,z2] at on1;have:=aBg w0;grind
 have bpx:BQ 400 (cx+px):=(c1.add bp1).mono (by decide);have bpy:BQ 400 (cy+py):=(c2.add bp2).mono (by decide);have dot:∀X Y M',BQ 400 X->BQ 400 Y->FdN M' a (n+80)->eZ M M' a->Dn Q (.tup [.str "dot",PQ X Y]) M':=λX Y M' hX hY fd k=>⟨M',.refl _,q (.dot X Y) M' ⟨hX,hY⟩ (λz=>by cases z) (fd.mono (by omega)) k⟩;have ring:∀M',FdN M' a (n+80)->eZ M M' a->Dn Q (.tup [.str "ring",PQ cx cy,PQ (cx+px) (cy+py)]) M':=λM' fd k=>by
  refine⟨M',.refl _,q (.ring cx cy (cx+px) (cy+py)) M' ⟨⟨c1.mono (by decide),c2.mono (by decide)⟩,?_,?_⟩ (λ_ e he=>?_) (fd.mono (by omega)) k⟩
  ·rw[cG,cG];exact⟨bp1,bp2⟩
  ·rw[cG,cG];exact npx
  ·rw[List.mem_singleton.mp he];show Wb 99 97 (cx+px-cx,cy+py-cy);rw[cG,cG];exact wp
 have arc:¬(cx+px = cx+qx/\cy+py = cy+qy)->∀M',FdN M' a (n+80)->eZ M M' a->Dn Q (.tup [.str "arc",PQ cx cy,PQ (cx+px) (cy+py),PQ (cx+qx) (cy+qy)]) M':=λne M' fd k=>by
  refine⟨M',.refl _,q (.arc cx cy (cx+px) (cy+py) (cx+qx) (cy+qy)) M' ⟨⟨c1.mono (by decide),c2.mono (by decide)⟩,?_,?_,?_,?_,ne⟩ (λ_ e he=>?_) (fd.mono (by omega)) k⟩
  ·rw[cG,cG];exact⟨bp1,bp2⟩
  ·rw[cG,cG];exact⟨bq1,bq2⟩
  ·rw[cG,cG];exact npx
  ·rw[cG,cG,cG,cG];exact on2.trans on1.symm
  ·show Wb 99 97 (e.1-cx,e.2-cy);rcases List.mem_cons.mp he with z|z
   ·rw[z];dsimp only;rw[cG,cG];exact wp
   ·rw[List.mem_singleton.mp z];dsimp only;rw[cG,cG];exact wq
 have str:∀X Y X' Y' M',bef X Y X' Y' = true->BQ 400 X->BQ 400 Y->BQ 400 X'->BQ 400 Y'->FdN M' a (n+80)->eZ M M' a->Dn Q (.tup [.str "stretch",PQ X Y,PQ X' Y']) M':=λX Y X' Y' M' b e1 e2 e3 e4 fd k=>⟨M',.refl _,q (.str X Y X' Y') M' ⟨b,e1,e2,e3,e4⟩ (λz=>by cases z) (fd.mono (by omega)) k⟩;clear q hall;ac_nf;refine⟨_,hes,rfl,?_⟩;ac_nf;rw[dL];by_cases z0:way=0
 ·refine ifT (decide_eq_true z0) ⟨a,_,rfl,fd2,by omega,λd M3 ⟨sx,sy,es,hsx,hsy⟩ fd3 av3=>?_⟩;subst es;refine⟨a,_,x,y,u,v,rfl,h1,h2,h3,h4,fd3,by omega,λX Y M4 hX hY fd4 av4=>⟨by decide,λp hp=>?_⟩⟩;have hap:p≠a:=by obtain⟨c,k,f,e,_⟩:=fd4;exact(aV e hp).symm
  refine yF (eZ.fd fd4 hp) (by omega) (by decide) (bdk (by decide)) λr M5 s0 s1 fd5 av5=>?_;have k5:eZ M M5 a:=((k2.trans (fV av3)).trans (fV av4)).trans ((aDs (bK.new hp _)).trans (fV av5));have hl:M5 (.l p)=some [PQ sx sy,PQ (cx+px) (cy+py),PQ X Y]:=by rw[av5 p hap];exact aK
  have k:r=0∨r=1∨r=2:=by omega
  rcases k with rfl|rfl|rfl
  ·exact⟨_,_,hl,rfl,by decide,dot _ _ _ (hsx.mono (by decide)) (hsy.mono (by decide)) (fd5.mono (by omega)) k5⟩
  ·exact⟨_,_,hl,rfl,by decide,dot _ _ _ bpx bpy (fd5.mono (by omega)) k5⟩
  ·exact⟨_,_,hl,rfl,by decide,dot _ _ _ hX hY (fd5.mono (by omega)) k5⟩
 refine ifF (decide_eq_false z0) ?_;ac_nf;rw[dL];by_cases z1:way=1
 ·refine ifT (decide_eq_true z1) ?_;ac_nf;refine yF fd2 (by omega) (by decide) (bdk (by decide)) λr M3 s0 s1 fd3 av3=>?_;have k3:eZ M M3 a:=k2.trans (fV av3);rw[dL];by_cases zr:r=0
  ·exact ifT (decide_eq_true zr) ⟨by decide,ring _ (fd3.mono (by omega)) k3⟩
  refine ifF (decide_eq_false zr) ?_;ac_nf;by_cases z5:way<5
  ·refine ifT (decide_eq_true z5) ?_;ac_nf;rw[mI];by_cases zz:cx+px=cx+qx/\cy+py=cy+qy
   ·refine ifF (by rw[decide_eq_true zz];rfl) ?_;ac_nf;refine⟨a,_,x,y,u,v,rfl,h1,h2,h3,h4,fd3,by omega,λX Y M6 hX hY fd6 av6=>?_⟩;ac_nf;refine⟨a,_,x,y,u,v,rfl,h1,h2,h3,h4,fd6,by omega,λX' Y' M7 hX' hY' fd7 av7=>?_⟩;ac_nf;rw[mI];have k7:eZ M M7 a:=(k3.trans (fV av6)).trans (fV av7);have f7:FdN M7 a (n+80):=fd7.mono (by omega);have up:∀{z:Rat},BQ 400 z->BQ 4400 z:=λh=>h.mono (by decide);by_cases zd:X=X'/\Y=Y'
    ·exact ifT (decide_eq_true zd) ⟨by decide,dot _ _ _ hX hY f7 k7⟩
    ·refine ifF (decide_eq_false zd) ⟨_,_,_,_,rfl,up hX',up hY',up hX,up hY,?_⟩;have bf:=jH zd;cases b:bef X' Y' X Y with
     |true=>exact⟨by decide,str _ _ _ _ _ b hX' hY' hX hY f7 k7⟩
     |false =>
      rw[b] at bf;exact⟨by decide,str _ _ _ _ _ (by simpa using bf.symm) hX hY hX' hY' f7 k7⟩
   ·exact ifT (by rw[decide_eq_false zz];rfl) ⟨by decide,arc zz _ (fd3.mono (by omega)) k3⟩
  ·refine ifF (decide_eq_false z5) ?_;ac_nf;refine⟨a,_,x,y,u,v,rfl,h1,h2,h3,h4,fd3,by omega,λX Y M6 hX hY fd6 av6=>?_⟩;ac_nf;refine⟨a,_,x,y,u,v,rfl,h1,h2,h3,h4,fd6,by omega,λX' Y' M7 hX' hY' fd7 av7=>?_⟩;ac_nf;rw[mI];have k7:eZ M M7 a:=(k3.trans (fV av6)).trans (fV av7);have f7:FdN M7 a (n+80):=fd7.mono (by omega);have up:∀{z:Rat},BQ 400 z->BQ 4400 z:=λh=>h.mono (by decide);by_cases zd:X=X'/\Y=Y'
   ·exact ifT (decide_eq_true zd) ⟨by decide,dot _ _ _ hX hY f7 k7⟩
   ·refine ifF (decide_eq_false zd) ⟨_,_,_,_,rfl,up hX',up hY',up hX,up hY,?_⟩;have bf:=jH zd;cases b:bef X' Y' X Y with
    |true=>exact⟨by decide,str _ _ _ _ _ b hX' hY' hX hY f7 k7⟩
    |false =>
     rw[b] at bf;exact⟨by decide,str _ _ _ _ _ (by simpa using bf.symm) hX hY hX' hY' f7 k7⟩
 refine ifF (decide_eq_false z1) (ifF rfl ?_);ac_nf;by_cases z5:way<5
 ·refine ifT (decide_eq_true z5) ?_;ac_nf;rw[mI];by_cases zz:cx+px=cx+qx/\cy+py=cy+qy
  ·refine ifF (by rw[decide_eq_true zz];rfl) ?_;ac_nf;refine⟨a,_,x,y,u,v,rfl,h1,h2,h3,h4,fd2,by omega,λX Y M6 hX hY fd6 av6=>?_⟩;ac_nf;refine⟨a,_,x,y,u,v,rfl,h1,h2,h3,h4,fd6,by omega,λX' Y' M7 hX' hY' fd7 av7=>?_⟩;ac_nf;rw[mI];have k7:eZ M M7 a:=(k2.trans (fV av6)).trans (fV av7);have f7:FdN M7 a (n+80):=fd7.mono (by omega);have up:∀{z:Rat},BQ 400 z->BQ 4400 z:=λh=>h.mono (by decide);by_cases zd:X=X'/\Y=Y'
   ·exact ifT (decide_eq_true zd) ⟨by decide,dot _ _ _ hX hY f7 k7⟩
   ·refine ifF (decide_eq_false zd) ⟨_,_,_,_,rfl,up hX',up hY',up hX,up hY,?_⟩;have bf:=jH zd;cases b:bef X' Y' X Y with
    |true=>exact⟨by decide,str _ _ _ _ _ b hX' hY' hX hY f7 k7⟩
    |false =>
     rw[b] at bf;exact⟨by decide,str _ _ _ _ _ (by simpa using bf.symm) hX hY hX' hY' f7 k7⟩
  ·exact ifT (by rw[decide_eq_false zz];rfl) ⟨by decide,arc zz _ (fd2.mono (by omega)) k2⟩
 ·refine ifF (decide_eq_false z5) ?_;ac_nf;refine⟨a,_,x,y,u,v,rfl,h1,h2,h3,h4,fd2,by omega,λX Y M6 hX hY fd6 av6=>?_⟩;ac_nf;refine⟨a,_,x,y,u,v,rfl,h1,h2,h3,h4,fd6,by omega,λX' Y' M7 hX' hY' fd7 av7=>?_⟩;ac_nf;rw[mI];have k7:eZ M M7 a:=(k2.trans (fV av6)).trans (fV av7);have f7:FdN M7 a (n+80):=fd7.mono (by omega);have up:∀{z:Rat},BQ 400 z->BQ 4400 z:=λh=>h.mono (by decide);by_cases zd:X=X'/\Y=Y'
  ·exact ifT (decide_eq_true zd) ⟨by decide,dot _ _ _ hX hY f7 k7⟩
  ·refine ifF (decide_eq_false zd) ⟨_,_,_,_,rfl,up hX',up hY',up hX,up hY,?_⟩;have bf:=jH zd;cases b:bef X' Y' X Y with
   |true=>exact⟨by decide,str _ _ _ _ _ b hX' hY' hX hY f7 k7⟩
   |false =>
    rw[b] at bf;exact⟨by decide,str _ _ _ _ _ (by simpa using bf.symm) hX hY hX' hY' f7 k7⟩
def tM:DSp:=λds M Q=>∃a n x y u v cx cy wx wy,ds=[.ref a,.tup [PQ x y,PQ u v],PQ cx cy,PQ (cx+wx) (cy+wy)]/\BQ 100 x/\BQ 100 y/\BQ 100 u/\BQ 100 v/\BQ 24 cx/\BQ 24 cy/\BQ 49 wx/\BQ 49 wy/\Wb 49 48 (wx,wy)/\FdN M a n/\n<=19000 /\
 ∀p M' X Y X' Y',M (.l p)=none->M' (.l p)=some [PQ X Y,PQ X' Y']->BQ 800 X->BQ 800 Y->BQ 800 X'->BQ 800 Y'->FdN M' a (n+100)->eZ M M' a->Q (.ref p) M'
theorem eZ.none {M M':DM}{a:Addr}(h:eZ M M' a){p:Addr}(hp:p≠a)(e:M' (.l p)=none):M (.l p)=none:=by
 cases z:M (.l p) with
 |none=>rfl
 |some o =>
  rw[h _ (λz=>hp (AK.l.inj z)) o z] at e;cases e
noncomputable abbrev oH:Stmt:=top 72
theorem tP:aR ["_law_from","_law_line","_law_c","_law_a","_law_found"] ["_law_from","_law_line","_law_c","_law_a"] (aI oH):=by ac_rfl
theorem yJ (hF:cR K mg "_law_spots" oH ["_law_from","_law_line","_law_c","_law_a"])(cE:Has P w K mg base 103 "_law_spot" ["_law_from"] hV)(fW:Has P w K mg base 102 "_law_small" ["_law_from"] nV)(cH:Has P w K mg base 102 "_law_sum" ["_law_one","_law_other","_law_by"] gY)(aW:Has P w K mg base 101 "_law_draw" ["_law_from","_law_many"] eG)(iP:Has P w K mg base 105 "_law_some" ["_law_from","_law_c","_law_a","_law_many"] pI)(dU:Has P w K mg base 105 "_law_weighed" ["_law_from","_law_line"] kA):Has P w K mg base 106 "_law_spots" ["_law_from","_law_line","_law_c","_law_a"] tM:=by
 refine Has.mkZ hF tP (λds M Q ⟨_,_,_,_,_,_,_,_,_,_,e,_⟩=>by rw[e];rfl) λf cdv A outer s H ds M Q E hr h=>?_;obtain⟨a,n,x,y,u,v,cx,cy,wx,wy,rfl,h1,h2,h3,h4,c1,c2,w1,w2,wb,fd,hn,q⟩:=h;refine⟨_,(aF (aN (i:=4) tP.nd (aJ fD (fP (aA (aE dU hr (by decide) (aA (aB 0) (aA (aB 1) aD))) aD)) (aE iP hr (by decide) (aA (aB 0) (aA (aB 2) (aA (aB 3) (aA aC aD)))))))
  (aF (bO (aX (dD hr) (aE aW hr (by decide) (aA (aB 0) (aA aC aD))) aC) (aH (cQ (aE cE hr (by decide) (aA (aB 0) aD)) (kX (aB 4) aC))) aZ)
  (aF (bO (aX (dD hr) (aE aW hr (by decide) (aA (aB 0) (aA aC aD))) aC) (aH (cQ (aY (aA (aG (aG (aB 4) aC) aC) (aA (aE cH hr (by decide) (aA (aG (aG (aB 4) aC) aC) (aA (aE fW hr (by decide) (aA (aB 0) aD)) (aA aC aD)))) aD))) (kX (aB 4) aC))) aZ)
  (aH (aL (aB 4)))))),?_⟩
 ac_nf;refine⟨a,_,x,y,u,v,rfl,h1,h2,h3,h4,fd,by omega,λX Y M1 hX hY fd1 av1=>?_⟩;ac_nf;refine⟨by decide,λp1 hp1=>⟨a,_,cx,cy,wx,wy,1,rfl,by decide,by decide,c1,c2,w1,w2,wb,eZ.fd fd1 hp1,by omega,λpe M2 es hpe hes hle hall fd2 k2=>?_⟩⟩
 match es,hle with
 |[d1],_ =>
 obtain⟨px,py,rfl,on1,bp1,bp2,_⟩:=hall d1 (by simp);have n1:p1≠a:=by obtain⟨c,k,f,e,_⟩:=fd1;exact(aV e hp1).symm
 have hl1:M2 (.l p1)=some [PQ X Y]:=k2 _ (λz=>n1 (AK.l.inj z)) _ aK;have k2:eZ M M2 a:=(fV av1).trans ((aDs (bK.new hp1 _)).trans k2);have bX2:BQ 300 (cx+px):=(c1.add bp1).mono (by decide);have bY2:BQ 300 (cy+py):=(c2.add bp2).mono (by decide);refine⟨_,_,hl1,hes,by show 1+1<=1000;decide,λp hp=>?_⟩;have hap:p≠a:=by obtain⟨c,k,f,e,_⟩:=fd2;exact(aV e hp).symm
 have hpM:M (.l p)=none:=k2.none hap hp;have hl2:bE M2 p ([PQ X Y]++[PQ (cx+px) (cy+py)]) (.l p)=some [PQ X Y,PQ (cx+px) (cy+py)]:=aK;refine yF (eZ.fd fd2 hp) (by omega) (by decide) (bdk (by decide)) λr M3 s0 s1 fd3 av3=>?_;have hl3:M3 (.l p)=some [PQ X Y,PQ (cx+px) (cy+py)]:=by rw[av3 p hap];exact hl2
 have k3:eZ M M3 a:=(k2.trans (aDs (bK.new hp _))).trans (fV av3);rw[dL];by_cases z0:r=0
 ·refine ifT (decide_eq_true z0) ⟨a,_,rfl,fd3,by omega,λd M4 ⟨sx,sy,es,hsx,hsy⟩ fd4 av4=>?_⟩;subst es;have k4:eZ M M4 a:=k3.trans (fV av4);have hl4:M4 (.l p)=some [PQ X Y,PQ (cx+px) (cy+py)]:=by rw[av4 p hap];exact hl3
  refine⟨_,0,hl4,rfl,?_⟩;have hl5:bE M4 p ([PQ X Y,PQ (cx+px) (cy+py)].set 0 (PQ sx sy)) (.l p)=some [PQ sx sy,PQ (cx+px) (cy+py)]:=aK;have k5:eZ M (bE M4 p ([PQ X Y,PQ (cx+px) (cy+py)].set 0 (PQ sx sy))) a:=λb n o e=>by rw[fE (bS e hpM)];exact k4 b n o e
  have fd5:FdN (bE M4 p ([PQ X Y,PQ (cx+px) (cy+py)].set 0 (PQ sx sy))) a (n+90):=by obtain⟨c,k,f,e,k0,k1⟩:=fd4;exact⟨c,k,f,by rw[bV hap.symm];exact e,k0,by omega⟩
  generalize bE M4 p ([PQ X Y,PQ (cx+px) (cy+py)].set 0 (PQ sx sy))=M5 at hl5 k5 fd5 ⊢;refine yF fd5 (by omega) (by decide) (bdk (by decide)) λr2 M6 s2 s3 fd6 av6=>?_;have k6:eZ M M6 a:=k5.trans (fV av6);have hl6:M6 (.l p)=some [PQ sx sy,PQ (cx+px) (cy+py)]:=by rw[av6 p hap];exact hl5
  rw[dL];by_cases z2:r2=0
  ·refine ifT (decide_eq_true z2) ?_;refine⟨_,_,hl6,rfl,_,_,hl6,rfl,?_⟩;ac_nf;refine⟨a,_,rfl,fd6,by omega,λd M7 ⟨t,et,ht⟩ fd7 av7=>?_⟩;subst et;have k7:eZ M M7 a:=k6.trans (fV av7);have hl7:M7 (.l p)=some [PQ sx sy,PQ (cx+px) (cy+py)]:=by rw[av7 p hap];exact hl6
   refine aEW (.inl rfl) bY2 ht (by decide) ?_;rw[iW];refine⟨by decide,_,1,hl7,rfl,_,.refl _,q p _ sx sy _ _ hpM aK (hsx.mono (by decide)) (hsy.mono (by decide)) (bX2.mono (by decide)) ((bY2.add ht).mono (by decide)) ?_ λb n o e=>by rw[fE (bS e hpM)];exact k7 b n o e⟩;obtain⟨c,k,f,e,k0,k1⟩:=fd7;exact⟨c,k,f,by rw[bV hap.symm];exact e,k0,by omega⟩
  ·refine ifF (decide_eq_false z2) ⟨M6,.refl _,q p M6 _ _ _ _ hpM hl6 (hsx.mono (by decide)) (hsy.mono (by decide)) (bX2.mono (by decide)) (bY2.mono (by decide)) (fd6.mono (by omega)) k6⟩
 refine ifF (decide_eq_false z0) ?_;refine yF fd3 (by omega) (by decide) (bdk (by decide)) λr2 M6 s2 s3 fd6 av6=>?_;have k6:eZ M M6 a:=k3.trans (fV av6);have hl6:M6 (.l p)=some [PQ X Y,PQ (cx+px) (cy+py)]:=by rw[av6 p hap];exact hl3
 rw[dL];by_cases z2:r2=0
 ·refine ifT (decide_eq_true z2) ?_;refine⟨_,_,hl6,rfl,_,_,hl6,rfl,?_⟩;ac_nf;refine⟨a,_,rfl,fd6,by omega,λd M7 ⟨t,et,ht⟩ fd7 av7=>?_⟩;subst et;have k7:eZ M M7 a:=k6.trans (fV av7);have hl7:M7 (.l p)=some [PQ X Y,PQ (cx+px) (cy+py)]:=by rw[av7 p hap];exact hl6
  refine aEW (.inl rfl) bY2 ht (by decide) ?_;rw[iW];refine⟨by decide,_,1,hl7,rfl,_,.refl _,q p _ X Y _ _ hpM aK (hX.mono (by decide)) (hY.mono (by decide)) (bX2.mono (by decide)) ((bY2.add ht).mono (by decide)) ?_ λb n o e=>by rw[fE (bS e hpM)];exact k7 b n o e⟩;obtain⟨c,k,f,e,k0,k1⟩:=fd7;exact⟨c,k,f,by rw[bV hap.symm];exact e,k0,by omega⟩
 ·refine ifF (decide_eq_false z2) ⟨M6,.refl _,q p M6 _ _ _ _ hpM hl6 (hX.mono (by decide)) (hY.mono (by decide)) (bX2.mono (by decide)) (bY2.mono (by decide)) (fd6.mono (by omega)) k6⟩
def sp_law (pt:Addr):DSp:=λds M Q=>∃ns:List Int,ds = [.fz (ns.map D.int)]/\ns.length<=63/\M (.x pt) = some [.str "joined_spans.<locals>.<lambda>"]/\∀M',Q (.bl true) M'
def IsL (n:Nat)(d:D):Prop:=∃x y u v,d=.tup [PQ x y,PQ u v]/\BQ n x/\BQ n y/\BQ n u/\BQ n v
theorem IsL.mono {n m:Nat}{d:D}(h:IsL n d)(l:n<=m):IsL m d:=by obtain⟨x,y,u,v,e,h1,h2,h3,h4⟩:=h;exact⟨x,y,u,v,e,h1.mono l,h2.mono l,h3.mono l,h4.mono l⟩
def IsR (d:D):Prop:=∃cx cy wx wy,d=.tup [PQ cx cy,PQ (cx+wx) (cy+wy)]/\BQ 24 cx/\BQ 24 cy/\BQ 49 wx/\BQ 49 wy/\¬(wx=0/\wy=0)/\Wb 49 48 (wx,wy)
theorem IsR.of {d:D}(h:IsS d):IsR d:=by obtain⟨cx,cy,x,y,e1,b1,b2,b3,b4,h0⟩:=h;exact⟨cx,cy,x,y,e1,b1,b2,b3.mono (by decide),b4.mono (by decide),h0,(Wb.of b3 b4).mono (by decide) (by decide)⟩
structure Hm (pt p1 p2 C A B:Addr)(L0 L1 R0 R1:D)(CE:List D)(S:List Pc)(PS:List (Rat×Rat))(N:DM):Prop where
 h1:N (.l p1)=some [L0,L1]
 h2:N (.l p2)=some [R0,R1]
 hP:N (.x pt) = some [.str "joined_spans.<locals>.<lambda>"]
 hC:N (.l C)=some CE
 hA:N (.l A)=some (S.map pcD)
 hB:N (.l B)=some (PS.map λn=>PQ n.1 n.2)
section
variable {pt p1 p2 C A B:Addr}{L0 L1 R0 R1:D}{CE:List D}{S:List Pc}{PS:List (Rat×Rat)}{N N':DM}{a:Addr}
theorem Hm.ne (h:Hm pt p1 p2 C A B L0 L1 R0 R1 CE S PS N)(hn:N (.l a)=none):p1≠a/\p2≠a/\C≠a/\A≠a/\B≠a:=⟨aV h.h1 hn,aV h.h2 hn,aV h.hC hn,aV h.hA hn,aV h.hB hn⟩
theorem Hm.keep (h:Hm pt p1 p2 C A B L0 L1 R0 R1 CE S PS N)(n:p1≠a/\p2≠a/\C≠a/\A≠a/\B≠a)(k:eZ N N' a):Hm pt p1 p2 C A B L0 L1 R0 R1 CE S PS N' :=
 ⟨k _ (λz=>n.1 (AK.l.inj z)) _ h.h1,k _ (λz=>n.2.1 (AK.l.inj z)) _ h.h2,k (.x pt) (by intro z;cases z) _ h.hP,k _ (λz=>n.2.2.1 (AK.l.inj z)) _ h.hC,k _ (λz=>n.2.2.2.1 (AK.l.inj z)) _ h.hA,k _ (λz=>n.2.2.2.2 (AK.l.inj z)) _ h.hB⟩
theorem Hm.sub (h:Hm pt p1 p2 C A B L0 L1 R0 R1 CE S PS N)(k:bK N N'):Hm pt p1 p2 C A B L0 L1 R0 R1 CE S PS N':=⟨k _ _ h.h1,k _ _ h.h2,k _ _ h.hP,k _ _ h.hC,k _ _ h.hA,k _ _ h.hB⟩
theorem Hm.putA (h:Hm pt p1 p2 C A B L0 L1 R0 R1 CE S PS N)(d:p1≠A/\p2≠A/\C≠A/\B≠A)(s:Pc):Hm pt p1 p2 C A B L0 L1 R0 R1 CE (S++[s]) PS (bE N A (S.map pcD++[pcD s])) :=
 ⟨by rw[bV d.1];exact h.h1,by rw[bV d.2.1];exact h.h2,by rw[iL];exact h.hP,by rw[bV d.2.2.1];exact h.hC,by rw[aK,map_append];rfl,by rw[bV d.2.2.2];exact h.hB⟩
theorem Hm.putB (h:Hm pt p1 p2 C A B L0 L1 R0 R1 CE S PS N)(d:p1≠B/\p2≠B/\C≠B/\A≠B)(qs:List (Rat×Rat)){es:List D}(e:es=qs.map λn=>PQ n.1 n.2):Hm pt p1 p2 C A B L0 L1 R0 R1 CE S (PS++qs) (bE N B ((PS.map λn=>PQ n.1 n.2)++es)) :=
 ⟨by rw[bV d.1];exact h.h1,by rw[bV d.2.1];exact h.h2,by rw[iL];exact h.hP,by rw[bV d.2.2.1];exact h.hC,by rw[bV d.2.2.2];exact h.hA,by rw[aK,map_append,e]⟩
end
theorem aBD:∀{L:List D},(∀d∈L,∃c,d=.int c)->∃cs:List Int,L=cs.map D.int
 |[],_=>⟨[],rfl⟩
 |d::L,h=>by obtain⟨c,rfl⟩:=h d (mem_cons_self ..);obtain⟨cs,e⟩:=aBD λx hx=>h x (mem_cons_of_mem _ hx);exact⟨c::cs,by rw[e];rfl⟩
theorem aK9 (ns:List Int)(a b:Nat):∃cs:List Int,Dd.cutD (ns.map D.int) (some (a:Int)) (some (b:Int))=cs.map D.int/\cs.length<=b-a:=by
 obtain⟨cs,e⟩:=aBD (L:=Dd.cutD (ns.map D.int) (some (a:Int)) (some (b:Int))) λd hd=>by obtain⟨c,_,e⟩:=List.mem_map.mp (aG8 hd);exact⟨c,e.symm⟩
 have l:(Dd.cutD (ns.map D.int) (some (a:Int)) (some (b:Int))).length<=b-a:=by unfold Dd.cutD;rw[HT.sIx_nat,HT.sIx_nat,length_take,length_drop,length_map];omega
 rw[e,length_map] at l;exact⟨cs,e,l⟩
theorem aEP {d e:D}{r:Int}(h0:0<=r)(h1:r<2){Pd:D->Prop}(hd:Pd d)(he:Pd e):∃x,atI [d,e] r=some x/\Pd x:=by
 have k:r=0∨r=1:=by omega
 rcases k with rfl|rfl
 ·exact⟨d,rfl,hd⟩
 ·exact⟨e,rfl,he⟩
theorem aAs {α:Type}{l:List α}(h:l.length=2):∃a b,l=[a,b]:=by
 match l,h with
 |[a,b],_=>exact⟨a,b,rfl⟩
noncomputable abbrev lZ:Stmt:=top 73
theorem fN:aR ["_law_script","_law_from","_law_lines","_law_rounds","_law_by","_law_c","_law_a","_law_pieces","_law_points","_law_k","_law_cell","_law_line","_law_found","_law_p","_law_there"] ["_law_script"] (aI lZ):=by ac_rfl
theorem aHC {pt f0:Addr}{fd0:FuncData}(hF:L2.Fun K "law" "law" lZ f0 fd0)(nS:Has P w K mg base 101 "_law_feed" ["_law_cell"] uU)(lI:Has P w K mg base 101 "_law_cell_at" ["_law_script","_law_k"] pT)(rE:Has P w K mg base 104 "_law_base" ["_law_from"] uW)(iO:Has P w K mg base 104 "_law_start_here" ["_law_from"] kR)(aW:Has P w K mg base 101 "_law_draw" ["_law_from","_law_many"] eG)(cE:Has P w K mg base 103 "_law_spot" ["_law_from"] hV)(bW:Has P w K mg base 103 "_law_both" ["_law_p","_law_q","_law_by"] fY)(oZ:Has P w K mg base 106 "_law_piece" ["_law_from","_law_line","_law_c","_law_a"] sA)(pN:Has P w K mg base 106 "_law_spots" ["_law_from","_law_line","_law_c","_law_a"] tM)(wE:Has P w K mg base 124 "joined" ["pieces"] (wS pt))(aCt:Has P w K mg base 104 "on" ["piece","p"] sp_on)(qW:mg "any" = none)(nT:mg "list" = none)(iH:mg "len" = none)(mQ:mg "range" = none)(wD:mg "int" = none)(pQ:mg "enumerate"=none) :
  oC P w K mg base CX0 151 f0 fd0 ["_law_script"] (sT K (sp_law pt)):=by
 refine Fun.okZ hF fN (λds M Q ⟨ns,e,_⟩=>by rw[e];rfl) λcdv A outer s H ds M Q E hr h=>?_;obtain⟨ns,rfl,lns,hP,fin⟩:=h;refine⟨_,(aF (aN (i:=1) fN.nd (aE nS hr (by decide) (aA (aE lI hr (by decide) (aA (aB 0) (aA aC aD))) aD)))
  (aF (wJ (i:=2) (⟨rfl,by decide +kernel,by decide +kernel,by decide +kernel,rfl,by decide +kernel⟩:oE ["_law_script","_law_from","_law_lines","_law_rounds","_law_by","_law_c","_law_a","_law_pieces","_law_points","_law_k","_law_cell","_law_line","_law_found","_law_p","_law_there"] (aI lZ) ["_law_k","_law_from"] [none,some 1] _) rfl fN.nd mQ (aA aC aD) (λ_ _ _ _ _=>(aO (i:=0) (show Nodup (["_law_k","_law_from"]:List Str) by decide +kernel))) (λ_ _ _ _ _=>(aE rE hr (by decide) (aA (aB 1) aD))))
  (aF (wJ (i:=3) (⟨rfl,by decide +kernel,by decide +kernel,by decide +kernel,rfl,by decide +kernel⟩:oE ["_law_script","_law_from","_law_lines","_law_rounds","_law_by","_law_c","_law_a","_law_pieces","_law_points","_law_k","_law_cell","_law_line","_law_found","_law_p","_law_there"] (aI lZ) ["_law_k","_law_from"] [none,some 1] _) rfl fN.nd mQ (aA aC aD) (λ_ _ _ _ _=>(aO (i:=0) (show Nodup (["_law_k","_law_from"]:List Str) by decide +kernel))) (λ_ _ _ _ _=>(aE iO hr (by decide) (aA (aB 1) aD))))
  (sO (bO (aX (dD hr) (aE aW hr (by decide) (aA (aB 1) (aA aC aD))) aC) (aF (aN (i:=4) fN.nd (aE cE hr (by decide) (aA (aB 1) aD)))
  (aF (cQ (aY (aA (aE bW hr (by decide) (aA (aG (aG (aB 2) aC) aC) (aA (aB 4) (aA aC aD)))) (aA (aE bW hr (by decide) (aA (aG (aG (aB 2) aC) aC) (aA (aB 4) (aA aC aD)))) aD))) (kX (aB 2) aC))
  (aF (cQ (aG (aB 3) aC) (eD (n:=2) rfl (aU (aO (i:=5) fN.nd) (aU (aO (i:=6) fN.nd) dG))))
  (aH (cQ (aY (aA (aB 5) (aA (aE bW hr (by decide) (aA (aE bW hr (by decide) (aA (aB 6) (aA (aB 6) (aA aC aD)))) (aA (aB 5) (aA (cZ aC) aD)))) aD))) (kX (aB 3) aC)))))) aZ)
  (aF (aN (i:=7) fN.nd (fP aD))
  (aF (aN (i:=8) fN.nd (fP aD))
  (aF (aE0 PassesOwn.never rfl pQ (aA (aJ fD (lY (aB 0) (gB aC) (gB aC)) (aJ aHk (fP (aA aC aD)) (iV aCl wD (aA (gI kM (cO mN iH (aA (aB 0) aD)) aC) aD)))) aD) (eD (n:=2) rfl (aU (aO (i:=9) fN.nd) (aU (aO (i:=10) fN.nd) dG))) (aF (aN (i:=1) fN.nd (aE nS hr (by decide) (aA (aB 10) aD)))
  (aF (aN (i:=11) fN.nd (aG (aB 2) (aE aW hr (by decide) (aA (aB 1) (aA aC aD)))))
  (aF (cQ (aG (aB 3) (aE aW hr (by decide) (aA (aB 1) (aA aC aD)))) (eD (n:=2) rfl (aU (aO (i:=5) fN.nd) (aU (aO (i:=6) fN.nd) dG))))
  (aH (bO (aX (dD hr) (aJ oR (aB 9) aC) aC) (aF (jG (iX (aB 7) (aE oZ hr (by decide) (aA (aB 1) (aA (aB 11) (aA (aB 5) (aA (aB 6) aD)))))))
  (aH (jG (wM (aB 8) (iV aDo nT (aA (kC (aG (aB 7) (cZ aC)) (gB (aJ fD aC (iV aCl wD (aA (gI aKf (aG (aG (aB 7) (cZ aC)) aC) (aY (aA cU (aA cU aD))) rfl) aD)))) iD) aD)))))) (aH (jG (wM (aB 8) (aE pN hr (by decide) (aA (aB 1) (aA (aB 11) (aA (aB 5) (aA (aB 6) aD))))))))))))))
  (aF (aN (i:=12) fN.nd (aE wE hr (by decide) (aA (aB 7) aD)))
  (aF (qC PassesOwn.never rfl (aB 8) (aO (i:=13) fN.nd) (aF (aN (i:=14) fN.nd (cO (aAe rfl) qW (aA (mP (⟨rfl,by decide +kernel,by decide +kernel,by decide +kernel,rfl,by decide +kernel⟩:oE ["_law_script","_law_from","_law_lines","_law_rounds","_law_by","_law_c","_law_a","_law_pieces","_law_points","_law_k","_law_cell","_law_line","_law_found","_law_p","_law_there"] (aI lZ) ["_law_one","_law_p"] [none,some 13] _) rfl (aB 7) (λ_ _ _ _ _=>(aO (i:=0) (show Nodup (["_law_one","_law_p"]:List Str) by decide +kernel))) (λ_ _ _ _ _=>(aE aCt hr (by decide) (aA (aB 0) (aA (aB 1) aD))))) aD)))
  (aH (bO (aX (uS hr) (cO (aAe rfl) qW (aA (mP (⟨rfl,by decide +kernel,by decide +kernel,by decide +kernel,rfl,by decide +kernel⟩:oE ["_law_script","_law_from","_law_lines","_law_rounds","_law_by","_law_c","_law_a","_law_pieces","_law_points","_law_k","_law_cell","_law_line","_law_found","_law_p","_law_there"] (aI lZ) ["_law_one","_law_p"] [none,some 13] _) rfl (aB 12) (λ_ _ _ _ _=>(aO (i:=0) (show Nodup (["_law_one","_law_p"]:List Str) by decide +kernel))) (λ_ _ _ _ _=>(aE aCt hr (by decide) (aA (aB 0) (aA (aB 1) aD))))) aD)) (aB 14)) (aH (aL aAh)) aZ))))
  (aH (aL (gI aM7 (cO mN iH (aA (aB 12) aD)) (cO mN iH (aA (aB 7) aD)))))))))))))),?_⟩
 ac_nf;refine⟨ns,0,rfl,λc0=>⟨c0,rfl,λpf Mf hpf fdf avf=>?_⟩⟩;ac_nf;refine⟨⟨by decide,by decide⟩,by decide,λi ys M'=>FdN M' pf (12*i)/\Adv Mf M' pf/\∀d∈ys,IsL 60 d,⟨fdf,Adv.refl _ _,λd h=>by cases h⟩,?_,?_⟩
 ·rintro i ys M1 hi ⟨fd1,av1,hy⟩;ac_nf;refine⟨pf,_,rfl,fd1,by omega,λx y u v M2 _ hx hy' hu hv fd2 av2=>⟨fd2.mono (by omega),av1.trans av2,λd hd=>?_⟩⟩;rcases List.mem_append.mp hd with z|z
  ·exact hy d z
  ·rw[List.mem_singleton.mp z];exact⟨x,y,u,v,rfl,hx,hy',hu,hv⟩
 rintro ys M1 lys ⟨fd1,av1,hys⟩ p1 hp1;obtain⟨L0,L1,rfl⟩:=aAs lys;have iL0:=hys L0 mem_cons_self;have iL1:=hys L1 (mem_cons_of_mem _ mem_cons_self);have hP1:M1 (.x pt) = some [.str "joined_spans.<locals>.<lambda>"]:=by rw[av1.x,avf.x];exact hP
 have np1:p1≠pf:=by obtain⟨c,k,f,e,_⟩:=fd1;exact(aV e hp1).symm
 have fd2:=eZ.fd (o:=[L0,L1]) fd1 hp1;have h1:bE M1 p1 [L0,L1] (.l p1)=some [L0,L1]:=aK;have hP2:bE M1 p1 [L0,L1] (.x pt) = some [.str "joined_spans.<locals>.<lambda>"]:=by rw[iL];exact hP1
 generalize bE M1 p1 [L0,L1]=M2 at fd2 h1 hP2 ⊢;clear hys lys hP1 av1 fd1 hp1 avf fdf hpf hP;ac_nf;refine⟨⟨by decide,by decide⟩,by decide,λi ys M'=>FdN M' pf (24+12*i)/\Adv M2 M' pf/\∀d∈ys,IsS d,⟨fd2.mono (by omega),Adv.refl _ _,λd h=>by cases h⟩,?_,?_⟩
 ·rintro i ys M3 hi ⟨fd3,av3,hy⟩;ac_nf;refine⟨pf,_,rfl,fd3,by omega,λd M4 iS fd4 av4=>⟨fd4.mono (by omega),av3.trans av4,λd hd=>?_⟩⟩;rcases List.mem_append.mp hd with z|z
  ·exact hy d z
  ·rw[List.mem_singleton.mp z];exact iS
 rintro ys M3 lys ⟨fd3,av3,hys⟩ p2 hp2;obtain⟨R0,R1,rfl⟩:=aAs lys;have iR0:=hys R0 mem_cons_self;have iR1:=hys R1 (mem_cons_of_mem _ mem_cons_self);have hP3:M3 (.x pt) = some [.str "joined_spans.<locals>.<lambda>"]:=by rw[av3.x];exact hP2
 have h13:M3 (.l p1)=some [L0,L1]:=by rw[av3 p1 np1];exact h1
 have n12:p1≠p2:=aV h13 hp2;have np2:p2≠pf:=by obtain⟨c,k,f,e,_⟩:=fd3;exact(aV e hp2).symm
 have fd4:=eZ.fd (o:=[R0,R1]) fd3 hp2;have h2:bE M3 p2 [R0,R1] (.l p2)=some [R0,R1]:=aK;have h1:bE M3 p2 [R0,R1] (.l p1)=some [L0,L1]:=by rw[bV n12];exact h13
 have hP4:bE M3 p2 [R0,R1] (.x pt) = some [.str "joined_spans.<locals>.<lambda>"]:=by rw[iL];exact hP3
 generalize bE M3 p2 [R0,R1]=M4 at fd4 h1 h2 hP4 ⊢;clear hys lys hP3 av3 fd3 hp2 h13 hP2 fd2;ac_nf;refine⟨λρ N=>∃L0 L1 R0 R1 o4 o5 o6,IsL 100 L0/\IsL 100 L1/\IsR R0/\IsR R1/\N (.l p1) = some [L0,L1]/\N (.l p2) = some [R0,R1]/\N (.x pt) = some [.str "joined_spans.<locals>.<lambda>"]/\ρ=[some (.fz (ns.map D.int)),some (.ref pf),some (.ref p1),some (.ref p2),o4,o5,o6,none,none,none,none,none,none,none,none],?_,?_⟩
 ·refine yF fd4 (by omega) (by decide) (bdk (by decide)) λr M5 s0 s1 fd5 av5=>?_;have h15:M5 (.l p1)=some [L0,L1]:=by rw[av5 p1 np1];exact h1
  have h25:M5 (.l p2)=some [R0,R1]:=by rw[av5 p2 np2];exact h2
  have hP5:M5 (.x pt) = some [.str "joined_spans.<locals>.<lambda>"]:=by rw[av5.x];exact hP4
  rw[dL];by_cases z:r=0
  ·refine ifT (decide_eq_true z) ⟨pf,_,rfl,fd5,by omega,λd M6 ⟨sx,sy,es,hsx,hsy⟩ fd6 av6=>?_⟩;subst es;have h16:M6 (.l p1)=some [L0,L1]:=by rw[av6 p1 np1];exact h15
   have h26:M6 (.l p2)=some [R0,R1]:=by rw[av6 p2 np2];exact h25
   have hP6:M6 (.x pt) = some [.str "joined_spans.<locals>.<lambda>"]:=by rw[av6.x];exact hP5
   obtain⟨x,y,u,v,rfl,x1,x2,x3,x4⟩:=iL0;refine⟨_,_,h16,rfl,?_⟩;ac_nf;refine aBF (.inl rfl) x1 x2 hsx hsy (by decide) ⟨_,_,h16,rfl,?_⟩;ac_nf;refine aBF (.inl rfl) x3 x4 hsx hsy (by decide) ⟨by decide,_,1,h16,rfl,?_⟩;rw[iW,iW,iW,iW];have h1n:bE M6 p1 ([D.tup [PQ x y,PQ u v],L1].set 1 (.tup [PQ (x+sx) (y+sy),PQ (u+sx) (v+sy)])) (.l p1)=some [D.tup [PQ x y,PQ u v],.tup [PQ (x+sx) (y+sy),PQ (u+sx) (v+sy)]]:=aK;have h2n:bE M6 p1 ([D.tup [PQ x y,PQ u v],L1].set 1 (.tup [PQ (x+sx) (y+sy),PQ (u+sx) (v+sy)])) (.l p2)=some [R0,R1]:=by rw[bV n12.symm];exact h26
   have hPn:bE M6 p1 ([D.tup [PQ x y,PQ u v],L1].set 1 (.tup [PQ (x+sx) (y+sy),PQ (u+sx) (v+sy)])) (.x pt) = some [.str "joined_spans.<locals>.<lambda>"]:=by rw[iL];exact hP6
   generalize bE M6 p1 ([D.tup [PQ x y,PQ u v],L1].set 1 (.tup [PQ (x+sx) (y+sy),PQ (u+sx) (v+sy)]))=M7 at h1n h2n hPn ⊢;refine⟨_,_,h2n,rfl,?_⟩;have iR0':=IsR.of iR0;obtain⟨cx,cy,wx,wy,rfl,b1,b2,b3,b4,h0⟩:=iR0;ac_nf;have m1:BQ 49 (cx+wx):=b1.add b3;have m2:BQ 49 (cy+wy):=b2.add b4;refine⟨rfl,aBF (.inl rfl) m1 m2 m1 m2 (by decide) ?_⟩;rw[iW,iW];refine aBF (.inr rfl) (m1.add m1) (m2.add m2) b1 b2 (by decide) ?_;rw[uJ,uJ,show cx+wx+(cx+wx)-cx=cx+(wx+wx) by grind,show cy+wy+(cy+wy)-cy=cy+(wy+wy) by grind];refine⟨by decide,_,1,h2n,rfl,?_⟩;refine⟨_,_,_,_,_,_,_,IsL.mono ⟨x,y,u,v,rfl,x1,x2,x3,x4⟩ (by decide),⟨_,_,_,_,rfl,(x1.add hsx).mono (by decide),(x2.add hsy).mono (by decide),(x3.add hsx).mono (by decide),(x4.add hsy).mono (by decide)⟩,iR0',⟨cx,cy,wx+wx,wy+wy,rfl,b1,b2,b3.add b3,b4.add b4,λz=>h0 ⟨by have:=z.1;grind,by have:=z.2;grind⟩,(Wb.of b3 b4).two⟩,by rw[bV n12];exact h1n,aK,by rw[iL];exact hPn,rfl⟩
  ·exact ifF (decide_eq_false z) ⟨L0,L1,R0,R1,_,_,_,iL0.mono (by decide),iL1.mono (by decide),IsR.of iR0,IsR.of iR1,h15,h25,hP5,rfl⟩
 clear iL0 iL1 iR0 iR1 fd4 h1 h2 hP4;rintro _ N ⟨L0,L1,R0,R1,o4,o5,o6,iL0,iL1,iR0,iR1,h1,h2,hPN,rfl⟩;ac_nf;refine⟨by decide,λA hA=>⟨by decide,λB hB=>?_⟩⟩;have nAB:A≠B:=aV aK hB;have s1:=(bK.new hA []).trans (bK.new hB []);have hA1:bE (bE N A []) B [] (.l A)=some []:=by rw[bV nAB];exact aK
 have hB1:bE (bE N A []) B [] (.l B)=some []:=aK;generalize bE (bE N A []) B []=N1 at s1 hA1 hB1 ⊢;obtain⟨cs,ecs,lcs⟩:=aK9 ns 1 17;have ecs:Dd.cutD (ns.map D.int) (some 1) (some 17)=cs.map D.int:=ecs;rw[ecs];intro q1 hq1;refine⟨by decide,λq2 hq2=>⟨_,aK,by decide,by split<;>decide,by split<;>decide,by split<;>decide,λq3 hq3=>?_⟩⟩;have s2:=s1.trans ((bK.new hq1 (cs.map D.int)).trans (bK.new hq2 [.int 0]));have n12:q1≠q2:=aV aK hq2;have hx:bE (bE N1 q1 (cs.map D.int)) q2 [.int 0] (.l q1)=some (cs.map D.int):=by rw[bV n12];exact aK
 obtain⟨zs,ez,lz⟩:∃zs:List Int,(replicate (Int.toNat (if decide ((((ns.map D.int).length:Nat):Int)<2)=true then 1 else 0)) [D.int 0]).flatten=zs.map D.int/\zs.length<=1:=by
  split
  ·exact⟨[0],rfl,Nat.le_refl _⟩
  ·exact⟨[],rfl,Nat.zero_le _⟩
 rw[ez];have n13:q1≠q3:=aV hx hq3;have hx3:bE (bE (bE N1 q1 (cs.map D.int)) q2 [.int 0]) q3 (zs.map D.int) (.l q1)=some (cs.map D.int):=by rw[bV n13];exact hx
 refine⟨_,_,hx3,aK,by rw[length_map,length_map];omega,λC hC=>⟨_,aK,?_⟩⟩;have s3:=s2.trans (bK.new hq3 (zs.map D.int));have s13:bK N1 (bE (bE (bE N1 q1 (cs.map D.int)) q2 [.int 0]) q3 (zs.map D.int)):=(bK.new hq1 (cs.map D.int)).trans ((bK.new hq2 [.int 0]).trans (bK.new hq3 (zs.map D.int)));rw[<- map_append];have sC:=bK.new hC ((cs++zs).map D.int);have hm:Hm pt p1 p2 C A B L0 L1 R0 R1 ((cs++zs).map D.int) [] [] (bE (bE (bE (bE N1 q1 (cs.map D.int)) q2 [.int 0]) q3 (zs.map D.int)) C ((cs++zs).map D.int)) :=
  ⟨sC _ _ (s3 _ _ h1),sC _ _ (s3 _ _ h2),sC _ _ (s3 _ _ hPN),aK,sC _ _ (s13 _ _ hA1),sC _ _ (s13 _ _ hB1)⟩
 have lC:(cs++zs).length<=17:=by rw[length_append];omega
 have nAC:A≠C:=aV (s13 _ _ hA1) hC;have nBC:B≠C:=aV (s13 _ _ hB1) hC;have n1A:p1≠A:=aV h1 hA;have n2A:p2≠A:=aV h2 hA;have n1B:p1≠B:=aV (bK.new hA [] _ _ h1) hB;have n2B:p2≠B:=aV (bK.new hA [] _ _ h2) hB;generalize bE (bE (bE (bE N1 q1 (cs.map D.int)) q2 [.int 0]) q3 (zs.map D.int)) C ((cs++zs).map D.int)=N2 at hm ⊢;clear sC s13 s3 hx3 hx s2 s1 hA1 hB1 hq1 hq2 hq3 n12 n13 h1 h2 hPN hA hB hC ez ecs N1;generalize (cs++zs)=ce at hm lC ⊢;refine⟨λi ρ M'=>∃(S:List Pc)(PS:List (Rat×Rat)) (o1 o5 o6 o9 o10 o11:Option D),Hm pt p1 p2 C A B L0 L1 R0 R1 (ce.map D.int) S PS M'/\(∀s∈S,Va s/\Wa s)/\(∀n∈PS,BQ 800 n.1/\BQ 800 n.2)/\S.length<=i/\PS.length<=2*i/\ρ=[some (.fz (ns.map D.int)),o1,some (.ref p1),some (.ref p2),o4,o5,o6,some (.ref A),some (.ref B),o9,o10,o11,none,none,none],⟨[],[],_,_,_,_,_,_,hm,λ_ h=>(by cases h),λ_ h=>(by cases h),Nat.le_refl _,Nat.le_refl _,rfl⟩,?_,?_,?_⟩
 ·rintro i ρ M' _ ⟨S,PS,_,_,_,_,_,_,hm,_⟩;exact hm.hC
 ·rintro i d ρ M' hd ⟨S,PS,o1,o5,o6,o9,o10,o11,hm,hS,hPS,lS,lPS,rfl⟩;have hi:=(List.getElem?_eq_some_iff.mp hd).1;rw[length_map] at hi;rw[getElem?_map] at hd;obtain⟨c,_,rfl⟩:=Option.map_eq_some_iff.mp hd;ac_nf;refine⟨rfl,c,rfl,λpf2 M1 hpf fdf avf=>?_⟩;have ne:=hm.ne hpf;have hm1:=hm.keep ne (fV avf);ac_nf;refine yF fdf (by omega) (by decide) (bdk (by decide)) λr M2 r0 r1 fd2 av2=>?_;have hm2:=hm1.keep ne (fV av2);obtain⟨L,eL,x,y,u,v,rfl,x1,x2,x3,x4⟩:=aEP r0 r1 iL0 iL1;refine⟨_,_,hm2.h1,eL,?_⟩;ac_nf;refine yF fd2 (by omega) (by decide) (bdk (by decide)) λr' M3 r0' r1' fd3 av3=>?_;have hm3:=hm2.keep ne (fV av3);obtain⟨R,eR,cx,cy,wx,wy,rfl,c1,c2,w1,w2,w0,wb⟩:=aEP r0' r1' iR0 iR1;refine⟨_,_,hm3.h2,eR,?_⟩;ac_nf;refine⟨rfl,by decide,?_⟩;rw[dL];by_cases z:(i:Int).fmod 2=0
  ·refine ifT (decide_eq_true z) ⟨⟨_,hm3.hA⟩,pf2,_,x,y,u,v,cx,cy,wx,wy,rfl,x1,x2,x3,x4,c1,c2,w1,w2,w0,wb,fd3,by omega,λp M4 va wa fd4 k4=>?_⟩;have hm4:=hm3.keep ne k4;refine⟨_,_,rfl,hm4.hA,by rw[length_map];omega,?_⟩;have hm5:=hm4.putA ⟨n1A,n2A,nAC.symm,nAB.symm⟩ p;generalize bE M4 A (S.map pcD++[pcD p])=M5 at hm5 ⊢;have at1:atI ((S++[p]).map pcD) (-1)=some (pcD p):=by rw[map_append];exact aAB _ _
   refine⟨⟨_,hm5.hB⟩,_,_,hm5.hA,at1,_,_,hm5.hA,at1,?_⟩;have hS5:∀s∈S++[p],Va s/\Wa s:=λs hs=>by
    rcases List.mem_append.mp hs with z|z
    ·exact hS s z
    ·rw[List.mem_singleton.mp z];exact⟨va,wa⟩
   have fin5:∀(qs:List (Rat×Rat)) (xs:List D),xs=(qs.map λn=>PQ n.1 n.2)->qs.length<=2->(∀n∈qs,BQ 800 n.1/\BQ 800 n.2)->∀q,M5 (.l q)=none->∃(ds:List D)(q':Addr) (es:List D),[D.ref q]=[D.ref q']/\bE M5 q xs (.l B)=some ds/\bE M5 q xs (.l q')=some es/\ds.length+es.length<=1000/\∃(S:List Pc)(PS:List (Rat×Rat)) (o1 o5 o6 o9 o10 o11:Option D),Hm pt p1 p2 C A B L0 L1 R0 R1 (ce.map D.int) S PS (bE (bE M5 q xs) B (ds++es))/\(∀s∈S,Va s/\Wa s)/\(∀n∈PS,BQ 800 n.1/\BQ 800 n.2)/\S.length<=i+1/\PS.length<=2*(i+1)/\[some (.fz (ns.map D.int)),some (.ref pf2),some (.ref p1),some (.ref p2),o4,some (PQ cx cy),some (PQ (cx+wx) (cy+wy)),some (.ref A),some (.ref B),some (.int (i:Int)),some (.int c),some (.tup [PQ x y,PQ u v]),none,none,none]=[some (.fz (ns.map D.int)),o1,some (.ref p1),some (.ref p2),o4,o5,o6,some (.ref A),some (.ref B),o9,o10,o11,none,none,none]:=λqs xs ex lq hq q hn=>by
    have hm6:=hm5.sub (bK.new hn xs);refine⟨_,q,xs,rfl,hm6.hB,aK,?_,_,_,_,_,_,_,_,_,hm6.putB ⟨n1B,n2B,nBC.symm,nAB⟩ qs ex,hS5,λn hn=>?_,by rw[length_append];show _+1<=_;omega,by rw[length_append];omega,rfl⟩
    ·rw[ex,length_map,length_map];omega
    ·exact(List.mem_append.mp hn).elim (hPS n) (hq n)
   have up:∀{z:Rat},BQ 400 z->BQ 800 z:=λh=>h.mono (by decide);have vb:=aGf va;cases p with
   |dot a b =>
    dsimp only[pcD];ac_nf;exact⟨by decide,[("arc":Str),("ring":Str)],rfl,(by decide:¬(HT.sIx 2 0 (some 1)=0/\HT.sIx 2 2 none=2)),λq hq=>fin5 [(a,b)] _ rfl (by show(1:Nat)<=2;decide) (λn hn=>by rw[List.mem_singleton.mp hn];exact⟨up vb.1,up vb.2⟩) q hq⟩
   |str a b a' b' =>
    dsimp only[pcD];ac_nf;refine⟨by decide,[("arc":Str),("ring":Str)],rfl,(by decide:¬(HT.sIx 3 0 (some 1)=0/\HT.sIx 3 3 none=3)),λq hq=>fin5 [(a,b),(a',b')] _ rfl (by show(2:Nat)<=2;decide) (λn hn=>?_) q hq⟩;rcases List.mem_cons.mp hn with w|w
    ·rw[w];exact⟨up vb.1,up vb.2.1⟩
    ·rw[List.mem_singleton.mp w];exact⟨up vb.2.2.1,up vb.2.2.2⟩
   |arc cx' cy' ax ay bx b_y =>
    dsimp only[pcD];ac_nf;refine⟨by decide,[("arc":Str),("ring":Str)],rfl,(by decide:¬(HT.sIx 4 0 (some 2)=0/\HT.sIx 4 4 none=4)),λq hq=>fin5 [(ax,ay),(bx,b_y)] _ rfl (by show(2:Nat)<=2;decide) (λn hn=>?_) q hq⟩;rcases List.mem_cons.mp hn with w|w
    ·rw[w];exact⟨up vb.2.2.1,up vb.2.2.2.1⟩
    ·rw[List.mem_singleton.mp w];exact⟨up vb.2.2.2.2.1,up vb.2.2.2.2.2⟩
   |ring cx' cy' ax ay =>
    dsimp only[pcD];ac_nf;exact⟨by decide,[("arc":Str),("ring":Str)],rfl,(by decide:¬(HT.sIx 3 0 (some 2)=0/\HT.sIx 3 3 none=3)),λq hq=>fin5 [(ax,ay)] _ rfl (by show(1:Nat)<=2;decide) (λn hn=>by rw[List.mem_singleton.mp hn];exact⟨up vb.2.2.1,up vb.2.2.2⟩) q hq⟩
  ·refine ifF (decide_eq_false z) ⟨⟨_,hm3.hB⟩,pf2,_,x,y,u,v,cx,cy,wx,wy,rfl,x1,x2,x3,x4,c1,c2,w1,w2,wb,fd3,by omega,λp M4 X Y X' Y' n4 e4 b1 b2 b3 b4 fd4 k4=>?_⟩;have hm4:=hm3.keep ne k4;refine⟨_,p,_,rfl,hm4.hB,e4,by rw[length_map];show _+2<=_;omega,_,_,_,_,_,_,_,_,hm4.putB ⟨n1B,n2B,nBC.symm,nAB⟩ [(X,Y),(X',Y')] rfl,hS,λn hn=>?_,by omega,by rw[length_append];show _+2<=_;omega,rfl⟩;rcases List.mem_append.mp hn with w|w
   ·exact hPS n w
   ·rcases List.mem_cons.mp w with w|w
    ·rw[w];exact⟨b1,b2⟩
    ·rw[List.mem_singleton.mp w];exact⟨b3,b4⟩
 ·rintro ρ M' ⟨S,PS,o1,o5,o6,o9,o10,o11,hm,hS,hPS,lS,lPS,rfl⟩;rw[length_map] at lS lPS;ac_nf;refine⟨A,S,rfl,hm.hA,λs hs=>(hS s hs).1,aMS hS,by omega,hm.hP,λp M1 F s1 n1 e1 few=>?_⟩;have hm1:=hm.sub s1;have lF:=few.len;refine⟨_,hm1.hB,λi ρ N=>bK M1 N/\∃o13 o14,ρ=[some (.fz (ns.map D.int)),o1,some (.ref p1),some (.ref p2),o4,o5,o6,some (.ref A),some (.ref B),o9,o10,o11,some (.ref p),o13,o14],⟨.refl _,_,_,rfl⟩,?_,?_,?_⟩
  ·rintro i ρ N _ ⟨sN,_⟩ a e;cases e;exact sN _ _ hm1.hB
  ·rintro i d ρ N hd ⟨sN,o13,o14,rfl⟩;rw[getElem?_map] at hd;obtain⟨n,hn,rfl⟩:=Option.map_eq_some_iff.mp hd;have bn:=hPS n (mem_of_getElem? hn);have hA':=sN _ _ hm1.hA;have hF':=sN _ _ e1;ac_nf;refine⟨_,hA',by rw[length_map];omega,λj ys N'=>N'=N/\ys=((S.take j).map λx=>onP x n.1 n.2).map D.bl,⟨rfl,rfl⟩,?_,?_,?_⟩
   ·rintro j ys N' _ ⟨rfl,_⟩ a e;cases e;exact hA'
   ·rintro j d ys N' hd2 ⟨rfl,rfl⟩;rw[getElem?_map] at hd2;obtain⟨x,hx,rfl⟩:=Option.map_eq_some_iff.mp hd2;ac_nf;exact⟨x,_,_,rfl,aCF (aGf (hS x (mem_of_getElem? hx)).1) (by decide),bn.1.mono (by decide),bn.2.mono (by decide),rfl,by rw[gO hx,map_append,map_append];rfl⟩
   rintro ys N' - ⟨e0,rfl⟩ pa hpa;rw[e0] at hpa ⊢;clear e0 N';rw[length_map,take_length];refine⟨_,aK,?_⟩;have sN:=sN.trans (bK.new hpa (map D.bl (S.map λx=>onP x n.1 n.2)));have hF':=(bK.new hpa (map D.bl (S.map λx=>onP x n.1 n.2))) _ _ hF';generalize bE N pa (map D.bl (S.map λx=>onP x n.1 n.2))=N2 at sN hF' ⊢;ac_nf;refine⟨_,hF',by rw[length_map];omega,λj ys N'=>N'=N2/\ys=((F.take j).map λx=>onP x n.1 n.2).map D.bl,⟨rfl,rfl⟩,?_,?_,?_⟩
   ·rintro j ys N' _ ⟨rfl,_⟩ a e;cases e;exact hF'
   ·rintro j d ys N' hd2 ⟨rfl,rfl⟩;rw[getElem?_map] at hd2;obtain⟨x,hx,rfl⟩:=Option.map_eq_some_iff.mp hd2;ac_nf;exact⟨x,_,_,rfl,aCF (aGf (few.va x (mem_of_getElem? hx))) (by decide),bn.1.mono (by decide),bn.2.mono (by decide),rfl,by rw[gO hx,map_append,map_append];rfl⟩
   rintro ys N' - ⟨e0,rfl⟩ pb hpb;rw[e0] at hpb ⊢;clear e0 N';rw[length_map,take_length];refine⟨_,aK,?_⟩;have sN:=sN.trans (bK.new hpb (map D.bl (F.map λx=>onP x n.1 n.2)));have ea:(F.map λx=>onP x n.1 n.2).any id=(S.map λx=>onP x n.1 n.2).any id:=by
    have e1:∀T:List Pc,(T.map λx=>onP x n.1 n.2).any id=true ↔ ∃x∈T,onP x n.1 n.2=true:=λT=>by
     rw[List.any_eq_true];constructor
     ·rintro⟨b,hb,z⟩;obtain⟨x,hx,rfl⟩:=List.mem_map.mp hb;exact⟨x,hx,z⟩
     ·rintro⟨x,hx,z⟩;exact⟨_,List.mem_map.mpr ⟨x,hx,rfl⟩,z⟩
    rw[Bool.eq_iff_iff,e1,e1];exact few.pts n.1 n.2
   rw[ea];exact aE3 rfl (ifF rfl ⟨sN,_,_,rfl⟩)
  ·rintro ρ N ⟨sN,o13,o14,rfl⟩;ac_nf;refine⟨_,sN _ _ e1,_,sN _ _ hm1.hA,?_⟩;have e:decide (((F.map pcD).length:Int)<=((S.map pcD).length:Int))=true:=decide_eq_true (by rw[length_map,length_map];omega);refine⟨_,.refl _,?_⟩;rw[e];exact fin _
noncomputable abbrev tabsL:List (Addr×Addr×Str):=[((275:Addr),(271:Addr),("joined_spans.<locals>.<lambda>":Str))]
theorem law_here (ns:List Int)(hl:ns.length<=63)(M:DM)(h:∀t∈tabsL,M (.x t.2.1)=some [.str t.2.2]):sp_law 271 [.fz (ns.map D.int)] M λd _=>d=.bl true:=⟨ns,rfl,hl,h _ mem_cons_self,λ_=>rfl⟩
end
local macro_rules | `(tactic|subst_eqs) => `(tactic|(intro _ _ _ _ _ _ us hl;first |(obtain ⟨_,h⟩ := us1 hl;subst h;rfl) |(obtain ⟨_,_,h⟩ := us2 hl;subst h;rfl) |(obtain ⟨_,_,_,h⟩ := us3 hl;subst h;rfl) |(obtain ⟨_,_,_,_,h⟩ := us4 hl;subst h;rfl)))
theorem all_mk {l:PySem.W.OpenLaw}{w:World}{K:Frag}{h:Heap}{mg:Str->Option Value}{fa f0 f1 f2 f3 f4 f5 f6 f7 f8 f9 f10 f11 f12 f13 f14 f15 f16 f17 f18 f19 f20 f21 f22 f23 f24 f25 f26 f27 f28 f29 f30 f31 f32 f33 f34 f35 f36 f37 f38 f39 f40 f41 f42 f43 f44 f45 f46 f47 f48 f49 f50 f51 f52 f53 f54 f55 f56:Addr}(X:K.In h)(G:h.Ns mainGlobals mg)(hfa:mg "law"=some (.ref fa)){od56 an56:Option Addr}{sl56:Array (Option Value)}{oc56 kV56 dc56 pm56 cd56 ct56:Value}(b0:FK K "merged" f0 xV)(b1:FK K "in_order" f1 rB)(b2:FK K "joined_spans" f2 kB)(b3:FK K "greatest_divisor" f3 gZ)(b4:FK K "plus" f4 aCm)(b5:FK K "minus" f5 aAw)(b6:FK K "times" f6 aAb)(b7:FK K "over" f7 aCp)(b8:FK K "below" f8 aAK)(b9:FK K "off" f9 aGe)(b10:FK K "together" f10 rR)(b11:FK K "dot_product" f11 lN)(b12:FK K "cross_product" f12 jN)(b13:FK K "far" f13 aFn)(b14:FK K "_law_feed" f14 rW)(b15:FK K "_law_draw" f15 rN)(b16:FK K "_law_lowest" f16 nG)(b17:FK K "_law_small" f17 pJ)(b18:FK K "_law_spot" f18 rX)(b19:FK K "_law_sum" f19 tU)(b20:FK K "_law_both" f20 rO)(b21:FK K "_law_product" f21 lB)(b22:FK K "_law_cell_at" f22 lH)(b23:FK K "_law_first" f23 pB)(b24:FK K "plain_line" f24 nU)(b25:FK K "line" f25 aCg)(b26:FK K "share_of" f26 rD)(b27:FK K "at_share" f27 rA)(b28:FK K "place_of" f28 rV)(b29:FK K "sooner" f29 xI)(b30:FK K "laps_on" f30 uP)(b31:FK K "point_of" f31 rF)(b32:FK K "on_one_bottom" f32 jL)(b33:FK K "sign" f33 aCv)(b34:FK K "scaled_far" f34 mO)(b35:FK K "farther" f35 uB)(b36:FK K "side" f36 aCJ)(b37:FK K "before" f37 xG)(b38:FK K "on_straight" f38 lE)(b39:FK K "ahead" f39 aAC)(b40:FK K "on" f40 aJ1)(b41:FK K "carrier" f41 uL)(b42:FK K "joined_stretches" f42 eC)(b43:FK K "arc_span" f43 rM)(b44:FK K "joined_arcs" f44 fH)(b45:FK K "lone_dots" f45 kQ)(b46:FK K "joined" f46 xZ)(b47:FK K "_law_at_share" f47 jZ)(b48:FK K "_law_share" f48 oV)(b49:FK K "_law_start_here" f49 iU)(b50:FK K "_law_mixed" f50 oI)(b51:FK K "_law_base" f51 rT)(b52:FK K "_law_some" f52 rJ)(b53:FK K "_law_weighed" f53 lM)(b54:FK K "_law_piece" f54 pX)(b55:FK K "_law_spots" f55 oH)(a56:nsIn K mainGlobals "law" = some (some (.ref f56)))(l56:K.lookup f56 = some ⟨oc56,od56,.func (fnOf "law" "law" (mJ lZ) (gK lZ) (aI lZ) .none kV56 dc56 pm56 an56 cd56 ct56),sl56⟩)(c56:codeIn K cd56 "law"=true)(k56:keepIn K (.ref f56)=true)(z_abs:nsIn K mainGlobals "abs"=some none)(z_any:nsIn K mainGlobals "any"=some none)(z_enumerate:nsIn K mainGlobals "enumerate"=some none)(z_int:nsIn K mainGlobals "int"=some none)(z_len:nsIn K mainGlobals "len"=some none)(z_list:nsIn K mainGlobals "list"=some none)(z_range:nsIn K mainGlobals "range"=some none)(z_sorted:nsIn K mainGlobals "sorted"=some none)(z_zip:nsIn K mainGlobals "zip"=some none){GONE:Addr}{odGONE:Option Addr}{nGONE:Nat}{slGONE:Array (Option Value)}{tGONE_0:Tok}{tGONE_1:Tok}(ag_ONE:nsIn K mainGlobals "ONE"=some (some (.ref GONE)))(lGONE:K.lookup GONE = some ⟨.type "tuple",odGONE,.seq #[.int 1 tGONE_0,.int 1 tGONE_1] nGONE,slGONE⟩)(tk_joined_spans:∃oc od fd osl,K.lookup f2=some ⟨oc,od,.func fd,osl⟩/\fd.code=.ref 275):∃fd:FuncData,(∀(s:Shared)(v:Value),BindsTo s fd ⟨[v],[]⟩ [("_law_script",v)])/\∀base:Heap,K.In base->base.Ns mainGlobals mg->(∀t∈tabsL,CodeHd base t.1 t.2.1/\base.BuiltinsAt mg t.2.1)->oC l.prog w K mg base CX0 151 fa fd ["_law_script"] (sT K (sp_law 271)):=by
 have e:=hfa.symm.trans (mg_of X G a56);cases e;have H0:=b0.has X G (ps:=["ones","others","earlier"]) (by subst_eqs)
 have H1:=b1.has X G (ps:=["things","earlier"]) (by subst_eqs)
 have H2:=b2.has X G (ps:=["spans","earlier"]) (by subst_eqs)
 have H3:=b3.has X G (ps:=["one","other"]) (by subst_eqs)
 have H4:=b4.has X G (ps:=["one","other"]) (by subst_eqs)
 have H5:=b5.has X G (ps:=["one","other"]) (by subst_eqs)
 have H6:=b6.has X G (ps:=["one","other"]) (by subst_eqs)
 have H7:=b7.has X G (ps:=["one","other"]) (by subst_eqs)
 have H8:=b8.has X G (ps:=["one","other"]) (by subst_eqs)
 have H9:=b9.has X G (ps:=["p","q"]) (by subst_eqs)
 have H10:=b10.has X G (ps:=["p","q"]) (by subst_eqs)
 have H11:=b11.has X G (ps:=["p","q"]) (by subst_eqs)
 have H12:=b12.has X G (ps:=["p","q"]) (by subst_eqs)
 have H13:=b13.has X G (ps:=["p","q"]) (by subst_eqs)
 have H14:=b14.has X G (ps:=["_law_cell"]) (by subst_eqs)
 have H15:=b15.has X G (ps:=["_law_from","_law_many"]) (by subst_eqs)
 have H16:=b16.has X G (ps:=["_law_top","_law_bottom"]) (by subst_eqs)
 have H17:=b17.has X G (ps:=["_law_from"]) (by subst_eqs)
 have H18:=b18.has X G (ps:=["_law_from"]) (by subst_eqs)
 have H19:=b19.has X G (ps:=["_law_one","_law_other","_law_by"]) (by subst_eqs)
 have H20:=b20.has X G (ps:=["_law_p","_law_q","_law_by"]) (by subst_eqs)
 have H21:=b21.has X G (ps:=["_law_one","_law_other"]) (by subst_eqs)
 have H22:=b22.has X G (ps:=["_law_script","_law_k"]) (by subst_eqs)
 have H23:=b23.has X G (ps:=["_law_p","_law_q"]) (by subst_eqs)
 have H24:=b24.has X G (ps:=["a","b","d"]) (by subst_eqs)
 have H25:=b25.has X G (ps:=["p","q"]) (by subst_eqs)
 have H26:=b26.has X G (ps:=["c","a","p"]) (by subst_eqs)
 have H27:=b27.has X G (ps:=["c","a","t"]) (by subst_eqs)
 have H28:=b28.has X G (ps:=["c","a","p"]) (by subst_eqs)
 have H29:=b29.has X G (ps:=["one","other"]) (by subst_eqs)
 have H30:=b30.has X G (ps:=["place","laps"]) (by subst_eqs)
 have H31:=b31.has X G (ps:=["c","a","place"]) (by subst_eqs)
 have H32:=b32.has X G (ps:=["p"]) (by subst_eqs)
 have H33:=b33.has X G (ps:=["number"]) (by subst_eqs)
 have H34:=b34.has X G (ps:=["c","p"]) (by subst_eqs)
 have H35:=b35.has X G (ps:=["c","p","q"]) (by subst_eqs)
 have H36:=b36.has X G (ps:=["a","b","p"]) (by subst_eqs)
 have H37:=b37.has X G (ps:=["p","q"]) (by subst_eqs)
 have H38:=b38.has X G (ps:=["piece","p"]) (by subst_eqs)
 have H39:=b39.has X G (ps:=["c","a","p","q"]) (by subst_eqs)
 have H40:=b40.has X G (ps:=["piece","p"]) (by subst_eqs)
 have H41:=b41.has X G (ps:=["piece"]) (by subst_eqs)
 have H42:=b42.has X G (ps:=["stretches"]) (by subst_eqs)
 have H43:=b43.has X G (ps:=["a","piece","number"]) (by subst_eqs)
 have H44:=b44.has X G (ps:=["pieces"]) (by subst_eqs)
 have H45:=b45.has X G (ps:=["pieces","others"]) (by subst_eqs)
 have H46:=b46.has X G (ps:=["pieces"]) (by subst_eqs)
 have H47:=b47.has X G (ps:=["_law_c","_law_a","_law_t"]) (by subst_eqs)
 have H48:=b48.has X G (ps:=["_law_from"]) (by subst_eqs)
 have H49:=b49.has X G (ps:=["_law_from"]) (by subst_eqs)
 have H50:=b50.has X G (ps:=["_law_p","_law_q","_law_by"]) (by subst_eqs)
 have H51:=b51.has X G (ps:=["_law_from"]) (by subst_eqs)
 have H52:=b52.has X G (ps:=["_law_from","_law_c","_law_a","_law_many"]) (by subst_eqs)
 have H53:=b53.has X G (ps:=["_law_from","_law_line"]) (by subst_eqs)
 have H54:=b54.has X G (ps:=["_law_from","_law_line","_law_c","_law_a"]) (by subst_eqs)
 have H55:=b55.has X G (ps:=["_law_from","_law_line","_law_c","_law_a"]) (by subst_eqs)
 have F56:=fun_mk (st:=lZ) l56 c56 k56;have wF:=mg_none_of X G z_abs;have qW:=mg_none_of X G z_any;have pQ:=mg_none_of X G z_enumerate;have wD:=mg_none_of X G z_int;have iH:=mg_none_of X G z_len;have nT:=mg_none_of X G z_list;have mQ:=mg_none_of X G z_range;have xO:=mg_none_of X G z_sorted;have aEV:=mg_none_of X G z_zip;have aDd:aDO K mg "ONE" aLH:=⟨_,.ref GONE,mg_of X G ag_ONE,rfl,λH=>(iT (xs:=[.int (1),.int (1)]) (.inr ⟨_,_,_,lGONE,rfl,rfl,by show(2:Nat)<=sizeLine;decide,(.cons ⟨_,rfl⟩ (.cons ⟨_,rfl⟩ .nil))⟩) (bX dI (bX dI cP)))⟩;refine⟨fnOf "law" "law" (mJ lZ) (gK lZ) (aI lZ) .none kV56 dc56 pm56 an56 cd56 ct56,λs v=>.of_eq rfl,λbase _ _ hTb=>?_⟩;have tb_joined_spans:aEL K mg base "joined_spans" 271:=λf oc od fd osl hm lk=>by obtain⟨oc2,od2,fd2,osl2,lk2,hc2⟩:=tk_joined_spans;have e:=hm.symm.trans (mg_of X G b2.1);cases e;rw[lk2] at lk;cases lk;exact⟨275,hc2,(hTb _ mem_cons_self).1,(hTb _ mem_cons_self).2⟩
 have xH:=aCG (P:=l.prog) (w:=w) (base:=base) H0 iH;have iM:=zQ H1 iH nT xH;have eQ:=tY H2 tb_joined_spans iM;have bJ:=pZ (P:=l.prog) (w:=w) (base:=base) H3 wF;have eI:=aF7 H4 bJ;have fC:=aD4 H5 eI;have cT:=aD5 H6 bJ;have rC:=aF2 H7 cT;have nW:=aD3 (P:=l.prog) (w:=w) (base:=base) H8;have lX:=aHs H9 fC;have iK:=aA5 H10 eI;have eK:=vL H11 eI cT;have jM:=sV H12 fC cT;have aFf:=aHw H13 lX eK;have nS:=zS (P:=l.prog) (w:=w) (base:=base) H14 wD;have aW:=aAQ (P:=l.prog) (w:=w) (base:=base) H15;have bH:=wT (P:=l.prog) (w:=w) (base:=base) H16 wF;have fW:=yE H17 aW bH;have cE:=aAI H18 fW;have cH:=aBX H19 bH;have bW:=aAM H20 cH;have cS:=vJ H21 bH;have lI:=vG (P:=l.prog) (w:=w) (base:=base) H22 iH;have iA:=yK (P:=l.prog) (w:=w) (base:=base) H23 aEV;have nK:=wX H24 bJ;have aCj:=aFs H25 fC eI cT nK;have rG:=aA1 H26 eI rC lX eK jM;have rY:=aAS H27 aDd eI fC cT rC lX iK;have nF:=aAG H28 rG;have fG:=aCz H29 nW;have jV:=aBs (P:=l.prog) (w:=w) (base:=base) H30;have nM:=aAo H31 iK lX rY;have cK:=tR (P:=l.prog) (w:=w) (base:=base) H32;have uF:=aFl (P:=l.prog) (w:=w) (base:=base) H33;have jR:=xW H34 cK;have uD:=aBU H35 jR uF;have uG:=aF0 H36 cK uF;have gQ:=aC1 H37 nW;have lK:=vI H38 uG gQ;have aAx:=aDY H39 uG;have aCt:=aJz H40 lK uD aAx;have uO:=aB6 H41 aCj aFf;have gX:=oS H42 gQ eQ;have rL:=aAT H43 nF fG jV;have lO:=vE H44 rL fG jV nM eQ qW iH;have pU:=yI H45 aCt qW nT;have wE:=aC3 H46 uO gX lO pU xO;have kF:=uQ H47 bH cH cS bW;have oJ:=yH H48 aW bH;have iO:=rQ H49 cE bW;have pS:=yB H50 bW cH cS;have rE:=aAp H51 cE cH iA;have iP:=aA0 H52 kF oJ aW bW mQ;have dU:=vH H53 aW bH pS;have oZ:=yD H54 cE aW iP dU iA;have pN:=yJ H55 cE fW cH aW iP dU;exact aHC (P:=l.prog) (w:=w) (base:=base) F56 nS lI rE iO aW cE bW oZ pN wE aCt qW nT iH mQ wD pQ
end Lw
namespace PySem.W.Fast
local macro_rules|`(#check $s:str)=>do
 let mut n:=0;let mut k:=0;let mut o:=#[]
 for c in s.getString.toList do
  n:=n*85+(if c.toNat<91 then c.toNat-35 else c.toNat-37);k:=k+1
  if k=10 then
   let i:=Lean.mkIdent (.mkSimple s!"tw{n}")
   o:=o.push (←`(command|noncomputable def $i:ident:Unit:=()));n:=0;k:=0
 return Lean.mkNullNode (o.map (·.raw))
#check ",jH]Q4#XgZpMU8)xoc=8k'O<kL/O36pTN]ni=;UC9-S%e8)TOxKma0:o.iAwj^lq%P+QPwhTS_C1$fTkB1vxT0.,F;03eVu+qeF1#u((>3M;(*-ETTf't$++aIe9t6>=R):T$`TwhxQC/i2<ORFr4;bo%*B>6v'_dle(8M_j%tF9+O<c$@#XV&oJCTuH]F:^r1go=?f7ZHWIK=DNteIP(9.6?d_T+wa+g9(3.7%bWIlXhp*X(/lh$=?E]5Fd(=Y#Ybr&l8VH&y&/@OYY5nX(c0p>PIMBpT9U.#FR&<w`(1e<Sv9Ua;gpA0MGKR6W,?klA/0;osT-mgF:nYJh2K1-g;'3n=*RIql^u&43PmLp,Orp]RlhD,4UobLYiH;2Nvbl*rUJ@t#t6k&y(@7&'Gu4>DYiB*('OUVO<jK*]8Myh-ujo,59g55`m2RyelanTyO50B_%piDwJ]lDMRwk7Ly>q8e^m)pY=Dwp(aQ;?_y*egM19Gdb*amWR<Heqm%G-oR;D/hZH%r3=UuuZbuWAO/GE(ZLZhuFU,Np'Vmf%/]L_EL.YFJF+ots5W(8r7aonq]Rb+=g;EO_U*2>i`:QTd(.K&>iF8GPOj9j(>BA8@+LFQJcpot+WnRJf2.nlPPVfQ06=k4yV>C/orn+$k43iHY7.%-mw11j(vO4,bVYM.ALM>+3bZ&QUu#3iOj+E?yHleQysUr=fF<f2M0T8o/]K%#'t.PmPdg0*'u#2+u3a-gowoPEPP"
end PySem.W.Fast
open PySem PySem.W PyProof.Rows
set_option maxRecDepth 100000 in
set_option maxHeartbeats 0 in
theorem PySem.Challenge.cw_arcmill_k44_whole_just_the_same_points_holds : PySem.Challenge.rw_arcmill_k44_whole_just_the_same_points.Holds := by
 w_on;o_law;k_head;(case hw=>w_witness2)
 k_fill
 refine Dd.walk_ofL (l:=PySem.Challenge.rw_arcmill_k44_whole_just_the_same_points) (n:=63) (k:=151) (x:="_law_script") (sp:=Lw.sp_law 271) (tabs:=Lw.tabsL) rfl (by decide) rfl ⟨rfl,by decide,by decide⟩ (λw h Y=>PySem.W.km_in_of Y) (by intro w;kernel_rfl) (by decide) (λw h Y=>List.forall_mem_cons.mpr ⟨⟨PySem.W.codeHd_of_K (PySem.W.km_in_of Y) (by kernel_rfl),PySem.W.km_tabs_of Y 271 (by k_mem)⟩,λ_ h=>nomatch h⟩) ?F Lw.law_here
 case F =>
  intro w mg fa h KX G hmg
  refine' Lw.all_mk KX G hmg ?b0 ?b1 ?b2 ?b3 ?b4 ?b5 ?b6 ?b7 ?b8 ?b9 ?b10 ?b11 ?b12 ?b13 ?b14 ?b15 ?b16 ?b17 ?b18 ?b19 ?b20 ?b21 ?b22 ?b23 ?b24 ?b25 ?b26 ?b27 ?b28 ?b29 ?b30 ?b31 ?b32 ?b33 ?b34 ?b35 ?b36 ?b37 ?b38 ?b39 ?b40 ?b41 ?b42 ?b43 ?b44 ?b45 ?b46 ?b47 ?b48 ?b49 ?b50 ?b51 ?b52 ?b53 ?b54 ?b55 ?a56 ?l56 ?c56 ?k56 ?z_abs ?z_any ?z_enumerate ?z_int ?z_len ?z_list ?z_range ?z_sorted ?z_zip ?ag_ONE ?lGONE ?tk_joined_spans
  (case b0|b1|b2|b3|b4|b5|b6|b7|b8|b9|b10|b11|b12|b13|b14|b15|b16|b17|b18|b19|b20|b21|b22|b23|b24|b25|b26|b27|b28|b29|b30|b31|b32|b33|b34|b35|b36|b37|b38|b39|b40|b41|b42|b43|b44|b45|b46|b47|b48|b49|b50|b51|b52|b53|b54|b55 =>exact⟨by k_is,_,L2.fun_mk (by k_is) (by k_is) (by k_is)⟩)
  (case a56|l56|c56|k56|z_abs|z_any|z_enumerate|z_int|z_len|z_list|z_range|z_sorted|z_zip|ag_ONE|lGONE =>k_is)
  (case tk_joined_spans=>exact⟨_,_,_,_,by k_is,rfl⟩)
