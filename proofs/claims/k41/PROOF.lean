import PyProof.Rows.All
import Wide.All
import OpenK.AllK
import Wide.FinOn
import Lean
import PyProof.EqAt
import PyProof.EqKinds
import PyProof.TupleCall
import PyProof.NeKinds
import PyProof.IsRules
import PyProof.CompFree
import KE.LcSums
import PyProof.FactsAll.range_1
import PyProof.SeqRoads2
import KE.KRevSl
import PyProof.ZipIter
import PyProof.TupleIter
import PyProof.FitsBits
import PyProof.NoPylong
import KE.IntBitsLaws
import PyProof.CompMap
import PyProof.AutoSeq1
import PyProof.SeqInW
import KE.KDictList
import PyProof.Rows.TupDisplay
import KE.KSortTup
import PyProof.Rows.SortKeyStr
import PyProof.ListMulRoad
import PyProof.Rows.SumAny
import PyProof.StrLawsOcc
import PyProof.FitsReplace
import PyProof.CollectIter
import PyProof.Rows.CountFlat
import PyProof.Draws
import PyProof.EnumMake
import PyProof.Rows.TupTab
import PyProof.Rows.SetFrom
import KE.KLam
import PySem.Challenge.RW_arcmill_k41_joined_on_a_line
set_option Elab.async false
set_option linter.all false
set_option bootstrap.genMatcherCode false
set_option maxRecDepth 100000
open List (range mem_cons_self mem_cons_of_mem mem_append_left mem_append_right append_nil replicate length_take getElem?_map mem_of_getElem? length_append length_map size_toArray length_drop replicate_succ flatten_cons map_cons length_cons toArray all_cons lookup_cons reverse_cons mem_cons not_mem_nil getElem_mem getElem?_eq_getElem append_assoc map_append map_map getD_eq_getElem?_getD zip_cons_cons length_nil pairwise_singleton pairwise_map foldl_cons mem_singleton map take_length Nodup)
open PySem.W (instObj methodObj Frag lookIn kitOne kia_one kitx_list keepIn callWith_K fnOf codeIn nsIn mg_of CodeHd tabObj envX mg_none_of)
namespace L2
open PySem PySem.Spec PyProof.Rows
noncomputable abbrev Key:=Sum Int Str
noncomputable def aE8:Key->Value->Bool
 |.inl k,v=>Value.isInt k v
 |.inr x,v=>Value.isStrOf x v
noncomputable def aGV (w:World):Key->Int
 |.inl k=>hashInt k
 |.inr x=>hashStr w x
theorem cS:∀{k:Key}{v:Value},aE8 k v=true->(∃i t,k=Sum.inl i/\v=Value.int i t)∨(∃x t,k=Sum.inr x/\v=Value.str x t)
 |.inl i,v,h=>by obtain⟨t,e⟩:=Value.isInt_shape (k:=i) (v:=v) h;exact .inl ⟨i,t,rfl,e⟩
 |.inr x,v,h=>by obtain⟨t,e⟩:=Value.isStrOf_shape (x:=x) (v:=v) h;exact .inr ⟨x,t,rfl,e⟩
theorem aFy (a b:Int):decide ((Sum.inl a:Key)=Sum.inl b)=(a==b):=by
 by_cases e:a=b
 ·subst e;simp
 ·have h:¬(Sum.inl a:Key)=Sum.inl b:=λq=>e (Sum.inl.inj q);rw[decide_eq_false h];exact(beq_eq_false_iff_ne.mpr e).symm
theorem aGJ (a b:Str):decide ((Sum.inr a:Key)=Sum.inr b)=decide (a=b):=by
 by_cases e:a=b
 ·subst e;simp
 ·have h:¬(Sum.inr a:Key)=Sum.inr b:=λq=>e (Sum.inr.inj q);rw[decide_eq_false h,decide_eq_false e]
theorem aGF (a:Int)(b:Str):decide ((Sum.inl a:Key)=Sum.inr b)=false:=decide_eq_false (λq=>nomatch q)
theorem aFD (a:Str)(b:Int):decide ((Sum.inr a:Key)=Sum.inl b)=false:=decide_eq_false (λq=>nomatch q)
noncomputable def aAv (prog:Program)(w:World):PySem.KeyKind prog w Key where
 is:=aE8
 hash:=aGV w
 inj:=λv a b ha hb=>by
  rcases cS ha with⟨i,t,rfl,rfl⟩|⟨x,t,rfl,rfl⟩
  ·rcases cS hb with⟨j,u,rfl,e⟩|⟨y,u,rfl,e⟩
   ·injection e with e1 _;rw[e1]
   ·exact nomatch e
  ·rcases cS hb with⟨j,u,rfl,e⟩|⟨y,u,rfl,e⟩
   ·exact nomatch e
   ·injection e with e1 _;rw[e1]
 byValue:=λk v h=>by rcases cS h with⟨i,t,rfl,rfl⟩|⟨x,t,rfl,rfl⟩<;>rfl
 pyHash:=λhv h=>by
  rcases cS hv with⟨i,t,rfl,rfl⟩|⟨x,t,rfl,rfl⟩
  ·exact wpAny_pyHash_int h
  ·exact wpAny_pyHash_str h
 eqBool:=λhu hv h=>by
  rcases cS hu with⟨i,t,rfl,rfl⟩|⟨x,t,rfl,rfl⟩
  ·rcases cS hv with⟨j,u,rfl,rfl⟩|⟨y,u,rfl,rfl⟩
   ·rw[aFy] at h;exact wpAny_eqBool_int h
   ·rw[aGF] at h;exact SeqAt.EqAt.int_str i t y u _ _ _ _ h
  ·rcases cS hv with⟨j,u,rfl,rfl⟩|⟨y,u,rfl,rfl⟩
   ·rw[aFD] at h;exact SeqAt.EqAt.str_int x t j u _ _ _ _ h
   ·rw[aGJ] at h;exact wpAny_eqBool_str h
 «strs»:=λk x t v h=>by
  rcases cS h with⟨i,u,rfl,e⟩|⟨y,u,rfl,e⟩
  ·exact nomatch e
  ·injection e with e1 _
   subst e1;cases v<;>rfl
inductive V where
 |non|bl (b:Bool)|int (i:Int)|str (x:Str)|byt (b:Array UInt8)|flt (b:UInt64)|ref (a:Addr)|ty (n:String)
 deriving DecidableEq
def RelV:V->Value->Prop
 |.non,u=>u=Value.none
 |.bl b,u=>u=Value.bool b
 |.int i,u=>∃t,u=Value.int i t
 |.str x,u=>∃t,u=Value.str x t
 |.byt b,u=>∃t,u=Value.bytes b t
 |.flt b,u=>∃t,u=Value.float b t
 |.ref a,u=>u=Value.ref a
 |.ty n,u=>u=Value.type n
abbrev bJ:List V->List Value->Prop:=Paired RelV
theorem bJ.length {xs:List V}{us:List Value}(r:bJ xs us):xs.length=us.length:=Paired.length r
theorem bJ.get:∀{xs:List V}{us:List Value} {i:Nat} {x:V},bJ xs us->xs[i]?=some x->∃u,us[i]?=some u/\RelV x u
 |_,_,_,_,.nil,e=>by simp at e
 |_,_,0,_,.cons r _,e=>by simp at e;subst e;exact⟨_,rfl,r⟩
 |_,_,i+1,x,.cons _ t,e=>by obtain⟨u,h1,h2⟩:=bJ.get (i:=i) (x:=x) t (by simpa using e);exact⟨u,by simpa using h1,h2⟩
theorem bJ.set {x:V}{u:Value}(r:RelV x u):∀{xs:List V}{us:List Value} (i:Nat),bJ xs us->bJ (xs.set i x) (us.set i u)
 |_,_,_,.nil=>.nil
 |_,_,0,.cons _ t=>.cons r t
 |_,_,i+1,.cons q t=>.cons q (bJ.set r i t)
theorem bJ.append:∀{xs ys:List V}{us ws:List Value},bJ xs us->bJ ys ws->bJ (xs++ys) (us++ws)
 |_,_,_,_,.nil,s=>s
 |_,_,_,_,.cons r t,s=>.cons r (bJ.append t s)
theorem bJ.take:∀{xs:List V}{us:List Value} (n:Nat),bJ xs us->bJ (xs.take n) (us.take n)
 |_,_,0,_=>.nil
 |_,_,_+1,.nil=>.nil
 |_,_,n+1,.cons r t=>.cons r (bJ.take n t)
theorem bJ.drop:∀{xs:List V}{us:List Value} (n:Nat),bJ xs us->bJ (xs.drop n) (us.drop n)
 |_,_,0,r=>r
 |_,_,_+1,.nil=>.nil
 |_,_,n+1,.cons _ t=>bJ.drop n t
def aF4:Option V->Option Value->Prop
 |some v,some u=>RelV v u
 |none,none=>True
 |_,_=>False
def KV {κ:Type}:List (κ×V)->List (κ×Value)->Prop:=Paired λ(p:κ×V)(q:κ×Value)=>p.1=q.1/\RelV p.2 q.2
noncomputable def kV:Key->V
 |.inl i=>.int i
 |.inr x=>.str x
inductive HO where
  |lst (xs:List V)
  |tup (xs:List V)
  |dK (kvs:List (Key×V))|dT (kvs:List (List Key×V))
  |set (S:Int->Bool) (n:Nat)
  |ins (C dx:Addr) (fs:List (Str×V))
  |own (x:Addr)
  |xd (fs:List (Str×V))
  |met (f x:Addr)
  |rng (lo hi:Int)
  |frz (o:Obj) (u:HO)
  |tbl (ps:Array Value)
  |ext (φ:Heap->Prop)
noncomputable abbrev Hp:=Addr->Option HO
noncomputable def upd (H:Hp)(a:Addr)(o:HO):Hp:=λb=>if b=a then some o else H b
theorem bD {H:Hp}{a:Addr}{o:HO}:upd H a o a=some o:=by unfold upd;rw[if_pos rfl]
theorem aJ {H:Hp}{a b:Addr}{o:HO}(h:b≠a):upd H a o b=H b:=by unfold upd;rw[if_neg h]
theorem oS {H:Hp}{a b:Addr}{o u:HO}(h:H a=some o)(h':H b=some u)(d:o≠u):a≠b:=by intro e;subst e;rw[h] at h';exact d (Option.some.inj h')
theorem aO {H:Hp}{a b:Addr}{o:HO}(h:H a=some o)(h':H b=none):a≠b:=by intro e;subst e;rw[h] at h';cases h'
section
variable (P:Program)(w:World)
def dR (H:Hp)(h:Heap)(a:Addr):HO->Prop
 |.lst xs=>xs.length<=sizeLine/\∃(its:List Value)(n:Nat),bJ xs its/\h.get? a = some { cls:=.type "list",data:=.seq its.toArray n }
 |.tup xs=>xs.length<=sizeLine/\∃its:List Value,bJ xs its/\IsTup h a its.toArray
 |.dK kvs=>kvs.length<=sizeLine/\(a==sysModules)=false/\∃vs,KV kvs vs/\h.DictOf (aAv P w) a vs
 |.dT kvs=>kvs.length<=sizeLine/\(a==sysModules)=false/\∃xs:List (List Key×Addr×Value),
   Paired (λ(p:List Key×V)(q:List Key×Addr×Value)=>p.1=q.1/\H q.2.1=some (.tup (p.1.map kV))/\RelV p.2 q.2.2) kvs xs /\
   ∃o es ep,h.get? a=some o/\o.ExactDict/\o.data=.dict es ep/\es.toList=xs.map (entryOfKey (tupleKind (aAv P w)))/\(xs.map (·.1)).Nodup
 |.set S n=>h.SetOf (intKind P w) a S n
 |.ins C dx fs=>H dx=some (.own a)/\fs.length<=1000/\dx≠a/\h.get? a=some (instObj C dx) /\
   ∃mA,h.Ns1 dx mA/\(∀f,aF4 (fs.lookup f) (mA f))/\PySem.Within mA (fs.map (·.1))
 |.own _=>∃o,h.get? a=some o
 |.xd fs=>∃mA,h.Ns1 a mA/\∀f,aF4 (fs.lookup f) (mA f)
 |.rng lo hi=>∃t u v,h.get? a = some { cls:=.type "range",data:=.fields #[.int lo t,.int hi u,.int 1 v] }
 |.frz o u=>h.get? a=some o/\dR H h a u
 |.tbl ps=>h.get? a=some { cls:=.none,data:=.fields ps }
 |.met f x=>h.get? a=some (methodObj (.ref f) (.ref x))
 |.ext φ=>φ h/\(∃o,h.get? a=some o)/\∀h1 h2:Heap,φ h1->(∀o,h1.get? a=some o->h2.get? a=some o)->φ h2
def HOk (H:Hp)(h:Heap):Prop:=∀a o,H a=some o->dR P w H h a o
end
section
variable {P:Program}{w:World}{H H':Hp}{h h':Heap}{a:Addr}{o:HO}
theorem dR.lt (x:dR P w H h a o):a<h.objs.size:=by
 cases o with
 |lst xs=>obtain⟨_,_,_,_,e⟩:=x;exact Heap.lt_size e
 |tup xs=>obtain⟨_,_,_,p⟩:=x;exact p.lt
 |dK kvs=>obtain⟨_,_,_,_,o,_,_,e,_⟩:=x;exact Heap.lt_size e
 |dT kvs=>obtain⟨_,_,_,_,o,_,_,e,_⟩:=x;exact Heap.lt_size e
 |set S n=>obtain⟨o,_,_,_,e,_⟩:=x;exact Heap.lt_size e
 |ins C dx fs=>obtain⟨_,_,_,e,_⟩:=x;exact Heap.lt_size e
 |own y=>obtain⟨_,e⟩:=x;exact Heap.lt_size e
 |xd fs=>obtain⟨_,⟨_,_,_,e,_⟩,_⟩:=x;exact Heap.lt_size e
 |rng lo hi=>obtain⟨_,_,_,e⟩:=x;exact Heap.lt_size e
 |frz ob u=>obtain⟨e,_⟩:=x;exact Heap.lt_size e
 |tbl ps=>exact Heap.lt_size (show h.get? a=some _ from x)
 |met f y=>exact Heap.lt_size (show h.get? a=some _ from x)
 |ext φ=>obtain⟨_,⟨_,e⟩,_⟩:=x;exact Heap.lt_size e
theorem Paired.mapP {α β:Type}{F G:α->β->Prop}:∀{l₁:List α}{l₂:List β},Paired F l₁ l₂->(∀a b,F a b->G a b)->Paired G l₁ l₂
 |_,_,.nil,_=>.nil
 |_,_,.cons r t,f=>.cons (f _ _ r) (Paired.mapP t f)
theorem dR.stay (x:dR P w H h a o)(k:∀b u,(b=a∨H b=some (.own a))->h.get? b=some u->h'.get? b=some u)(ho:∀b,H b=some (.own a)->H' b=some (.own a))(ht:∀b xs,H b=some (.tup xs)->H' b=some (.tup xs)):dR P w H' h' a o:=by
 induction o with
 |lst xs=>obtain⟨z,its,n,r,e⟩:=x;exact⟨z,its,n,r,k _ _ (.inl rfl) e⟩
 |tup xs=>obtain⟨z,its,r,ob,e,c⟩:=x;exact⟨z,its,r,ob,k _ _ (.inl rfl) e,c⟩
 |dK kvs=>obtain⟨z,y,vs,r,ob,es,ep,e,c⟩:=x;exact⟨z,y,vs,r,ob,es,ep,k _ _ (.inl rfl) e,c⟩
 |dT kvs =>
  obtain⟨z,y,xs,r,ob,es,ep,e,c⟩:=x;exact⟨z,y,xs,Paired.mapP r λp q z=>⟨z.1,ht _ _ z.2.1,z.2.2⟩,ob,es,ep,k _ _ (.inl rfl) e,c⟩
 |set S n=>obtain⟨ob,es,ep,t,e,c⟩:=x;exact⟨ob,es,ep,t,k _ _ (.inl rfl) e,c⟩
 |ins C dx fs =>
  obtain⟨d,z,ne,e,mA,⟨od,es,ep,e2,c⟩,r⟩:=x;exact⟨ho _ d,z,ne,k _ _ (.inl rfl) e,mA,⟨od,es,ep,k _ _ (.inr d) e2,c⟩,r⟩
 |own y=>obtain⟨ob,e⟩:=x;exact⟨ob,k _ _ (.inl rfl) e⟩
 |xd fs=>obtain⟨mA,⟨od,es,ep,e,c⟩,r⟩:=x;exact⟨mA,⟨od,es,ep,k _ _ (.inl rfl) e,c⟩,r⟩
 |rng lo hi=>obtain⟨t,u,v,e⟩:=x;exact⟨t,u,v,k _ _ (.inl rfl) e⟩
 |frz ob u ih=>obtain⟨e,q⟩:=x;exact⟨k _ _ (.inl rfl) e,ih q⟩
 |tbl ps =>
  have e:h.get? a=some { cls:=.none,data:=.fields ps }:=x;show h'.get? a=some { cls:=.none,data:=.fields ps };exact k a _ (.inl rfl) e
 |met f y =>
  have e:h.get? a=some (methodObj (.ref f) (.ref y)):=x;show h'.get? a=some (methodObj (.ref f) (.ref y));exact k a _ (.inl rfl) e
 |ext φ=>obtain⟨p,⟨o,e⟩,st⟩:=x;exact⟨st _ _ p λo q=>k _ _ (.inl rfl) q,⟨o,k _ _ (.inl rfl) e⟩,st⟩
theorem HOk.lt (x:HOk P w H h)(e:H a=some o):a<h.objs.size:=(x a o e).lt
theorem HOk.fresh (x:HOk P w H h)(e:h.objs.size<=a):H a=none:=by
 cases q:H a with
 |none=>rfl
 |some u=>exact absurd (Nat.lt_of_lt_of_le (x.lt q) e) (Nat.lt_irrefl _)
theorem HOk.kept (x:HOk P w H h)(k:∀b u,h.get? b=some u->h'.get? b=some u):HOk P w H h':=λa o e =>
 (x a o e).stay (λb u _ q=>k b u q) (λ_ q=>q) λ_ _ q=>q
theorem HOk.laid (x:HOk P w H h)(k:∀b u,h.get? b=some u->h'.get? b=some u)(hp:h.objs.size<=a)(new:dR P w (upd H a o) h' a o):HOk P w (upd H a o) h':=λb u e=>by
 have hn:=x.fresh hp;by_cases hb:b=a
 ·subst hb;rw[bD] at e;cases e;exact new
 ·rw[aJ hb] at e;exact(x b u e).stay (λc v _ q=>k c v q) (λc q=>by rw[aJ (aO q hn)];exact q) λc xs q=>by rw[aJ (aO q hn)];exact q
end
def Rd (H:Hp)(a:Addr)(u:HO):Prop:=H a=some u ∨ ∃o,H a=some (.frz o u)
theorem Rd.ok {P:Program}{w:World}{H:Hp}{h:Heap}{a:Addr}{u:HO}(r:Rd H a u)(x:HOk P w H h):dR P w H h a u:=by
 rcases r with r|⟨o,r⟩
 ·exact x a u r
 ·obtain⟨_,q⟩:=x a _ r;exact q
def Mut:Option HO->Prop
 |some (.lst _)=>True
 |some (.dK _)=>True
 |some (.dT _)=>True
 |some (.set _ _)=>True
 |some (.ins _ _ _)=>True
 |some (.ext _)=>True
 |_=>False
section
variable {P:Program}{w:World}{H:Hp}{h h':Heap}{x e:Addr}{o':HO}
theorem HOk.write (ok:HOk P w H h)(mu:Mut (H x))(he:e=x∨H e=some (.own x))(k:∀b u,b≠e->h.get? b=some u->h'.get? b=some u)(heo:∃u,h'.get? e=some u)(new:dR P w (upd H x o') h' x o'):HOk P w (upd H x o') h':=λb u q=>by
 have nown:∀c y,H c=some (.own y)->c≠x:=λc y r z=>by subst z;rw[r] at mu;exact mu
 have ntup:∀c xs,H c=some (.tup xs)->c≠x:=λc xs r z=>by subst z;rw[r] at mu;exact mu
 by_cases hb:b=x
 ·subst hb;rw[bD] at q;cases q;exact new
 ·rw[aJ hb] at q;by_cases hbe:b=e
  ·have q':H b=some (.own x):=by
    rcases he with z|z
    ·exact absurd (hbe.trans z) hb
    ·rw[hbe];exact z
   rw[q] at q';cases q';obtain⟨v,hv⟩:=heo;exact⟨v,by rw[hbe];exact hv⟩
  ·refine(ok b u q).stay (λc v hc r=>k c v ?_ r) (λc r=>by rw[aJ (nown c b r)];exact r) λc xs r=>by rw[aJ (ntup c xs r)];exact r
   rcases hc with rfl|hc
   ·exact hbe
   ·rintro rfl;rcases he with z|z
    ·exact nown c b hc z
    ·rw[hc] at z;cases z;exact hb rfl
end
structure Un (fs ex:List Addr)(H H':Hp)(h h':Heap):Prop where
 keep:∀b o,h.get? b=some o->H b=none->b∉fs->b∉ex->h'.get? b=some o
 slot:∀b o,h.get? b=some o->H b=none->b∈fs->b∉ex->∃sl,h'.get? b=some { o with slots:=sl }
 free:∀b o,h.get? b=some o->H b=none->b∉ex->H' b=none
 there:∀b o,h.get? b=some o->b∉ex->∃o',h'.get? b=some o'
 tups:∀b xs,H b=some (.tup xs)->H' b=some (.tup xs)
 frzs:∀b o u,H b=some (.frz o u)->H' b=some (.frz o u)
 tbls:∀b ps,H b=some (.tbl ps)->∃more,H' b=some (.tbl (ps++more))
section
variable {fs fs' ex ex':List Addr}{H H1 H2:Hp}{h h1 h2 h':Heap}{a x e:Addr}{o:HO}
theorem Un.any (u:Un fs ex H H1 h h1){b:Addr}{ob:Obj}(q:h.get? b=some ob)(n:H b=none)(hx:b∉ex):∃sl,h1.get? b=some { ob with slots:=sl }:=by
 by_cases hb:b∈fs
 ·exact u.slot b ob q n hb hx
 ·exact⟨ob.slots,u.keep b ob q n hb hx⟩
theorem Un.trans (a:Un fs ex H H1 h h1)(b:Un fs ex H1 H2 h1 h2):Un fs ex H H2 h h2 where
 keep:=λc ob q n hc hx=>b.keep c ob (a.keep c ob q n hc hx) (a.free c ob q n hx) hc hx
 slot:=λc ob q n hc hx=>by obtain⟨sl,e1⟩:=a.slot c ob q n hc hx;obtain⟨sl',e2⟩:=b.slot c _ e1 (a.free c ob q n hx) hc hx;exact⟨sl',e2⟩
 free:=λc ob q n hx=>by obtain⟨o',e1⟩:=a.there c ob q hx;exact b.free c o' e1 (a.free c ob q n hx) hx
 there:=λc ob q hx=>by obtain⟨o',e1⟩:=a.there c ob q hx;exact b.there c o' e1 hx
 tups:=λc xs q=>b.tups c xs (a.tups c xs q)
 frzs:=λc ob xs q=>b.frzs c ob xs (a.frzs c ob xs q)
 tbls:=λc ps q=>by obtain⟨m1,e1⟩:=a.tbls c ps q;obtain⟨m2,e2⟩:=b.tbls c _ e1;exact⟨m1++m2,by rw[e2,Array.append_assoc]⟩
theorem Un.kept (k:∀b u,h.get? b=some u->h'.get? b=some u):Un fs ex H H h h' :=
 ⟨λb ob q _ _ _=>k b ob q,λb ob q _ _ _=>⟨ob.slots,k b ob q⟩,λ_ _ _ n _=>n,λb ob q _=>⟨ob,k b ob q⟩,λ_ _ q=>q,λ_ _ _ q=>q,λ_ ps q=>⟨#[],by rw[q];simp⟩⟩
theorem Un.refl:Un fs ex H H h h:=Un.kept λ_ _ q=>q
theorem Un.laid (k:∀b u,h.get? b=some u->h'.get? b=some u)(hp:h.objs.size<=a)(hn:H a=none):Un fs ex H (upd H a o) h h' where
 keep:=λb u q _ _ _=>k b u q
 slot:=λb u q _ _ _=>⟨u.slots,k b u q⟩
 free:=λb u q n _=>by rw[aJ (Nat.ne_of_lt (Nat.lt_of_lt_of_le (Heap.lt_size q) hp))];exact n
 there:=λb u q _=>⟨u,k b u q⟩
 tups:=λb xs q=>by rw[aJ (aO q hn)];exact q
 frzs:=λb u xs q=>by rw[aJ (aO q hn)];exact q
 tbls:=λb ps q=>⟨#[],by rw[aJ (aO q hn),q];simp⟩
theorem Un.write (mu:Mut (H x))(he:e=x∨H e=some (.own x))(k:∀b u,b≠e->h.get? b=some u->h'.get? b=some u)(heo:∃u,h'.get? e=some u):Un fs ex H (upd H x o) h h':=by
 have hx:∀b,H b=none->b≠x:=λb n z=>by subst z;rw[n] at mu;exact mu
 have hb:∀b,H b=none->b≠e:=λb n z=>by
  subst z;rcases he with r|r
  ·exact hx b n r
  ·rw[n] at r;cases r
 have hm:∀b u,H b=some u->¬Mut (some u)->b≠x:=λb u q nm z=>by subst z;rw[q] at mu;exact nm mu
 refine⟨λb u q n _ _=>k b u (hb b n) q,λb u q n _ _=>⟨u.slots,k b u (hb b n) q⟩,λb u q n _=>by rw[aJ (hx b n)];exact n,λb u q _=>?_,
  λb xs q=>by rw[aJ (hm b _ q λz=>z)];exact q,λb u xs q=>by rw[aJ (hm b _ q λz=>z)];exact q,λb ps q=>⟨#[],by rw[aJ (hm b _ q λz=>z),q];simp⟩⟩
 by_cases hbe:b=e
 ·subst hbe;exact heo
 ·exact⟨u,k b u hbe q⟩
end
noncomputable def trk (h:Heap)(H:Hp):List Addr:=(range h.objs.size).filter λa=>(H a).isSome
noncomputable def rL (h:Heap)(H:Hp):Heap:=PySem.W.hideAll h (trk h H)
theorem aA4 (h:Heap)(H:Hp):(rL h H).objs.size=h.objs.size:=PySem.W.hideAll_size _ _
theorem aC1 {h:Heap}{H:Hp}{b:Addr}{o:Obj}(e:h.get? b=some o)(n:H b=none):(rL h H).get? b=some o :=
 PySem.W.hideAll_get _ e λhm=>by have q:(H b).isSome=true:=(List.mem_filter.mp hm).2;rw[n] at q;simp at q
theorem aDS {h:Heap}{H:Hp}{b:Addr}{o:Obj}(e:(rL h H).get? b=some o):h.get? b=some o/\H b=none:=by
 have e':h.get? b=some o:=PySem.W.of_hideAll (trk h H) e;refine⟨e',?_⟩;cases q:H b with
 |none=>rfl
 |some x =>
  have hm:b∈trk h H:=List.mem_filter.mpr ⟨List.mem_range.mpr (Heap.lt_size e'),by simp[q]⟩;have z:(rL h H).get? b=none:=PySem.W.hideAll_none (trk h H) hm;rw[z] at e;cases e
noncomputable def lA (g h:Heap)(L:Addr):List (Addr×Obj):=(range h.objs.size).filterMap λa=>if a=L∨(g.get? a).isSome=true then none else (h.get? a).map λo=>(a,o)
theorem kJ {g h:Heap}{L a:Addr}{o:Obj}(h1:a≠L)(h2:g.get? a=none)(h3:h.get? a=some o):(a,o)∈lA g h L :=
 List.mem_filterMap.mpr ⟨a,List.mem_range.mpr (Heap.lt_size h3),by simp[h1,h2,h3]⟩
theorem rM {g h:Heap}{L:Addr}{p:Addr×Obj}(hp:p∈lA g h L):p.1≠L/\g.get? p.1=none/\h.get? p.1=some p.2:=by
 obtain⟨b,_,e⟩:=List.mem_filterMap.mp hp;split at e
 ·cases e
 ·rename_i hn;cases q:h.get? b with
  |none=>rw[q] at e;simp at e
  |some u =>
   rw[q] at e;simp only[Option.map_some,Option.some.injEq] at e;subst e;refine⟨λz=>hn (.inl z),?_,q⟩;show g.get? b=none;cases r:g.get? b with
   |none=>rfl
   |some v=>exact(hn (.inr (by simp[r]))).elim
noncomputable def bV (g h:Heap)(L d:Addr):List (Addr×Obj):=(lA g h L).filter λp=>decide (p.1≠d)
theorem xH {g h:Heap}{L:Addr}:News g L h (lA g h L):=λp hp=>let ⟨a,b,c⟩:=rM hp;⟨c,a,b⟩
structure Mod (K:Frag)(mg:Str->Option Value)(base:Heap):Prop where
 kin:K.In base
 glob:base.Ns mainGlobals mg
 blt:∃mb,base.Ns builtinsNs mb/\∀x:Str,x ≠ "__name__"->mb x=bootBuiltins x
 nolimit:base.NoLimit
structure Cx where
 prog:Program
 w:World
 K:Frag
 mg:Str->Option Value
 base:Heap
 A:Around
 N:List Str
 s₀:Shared
 H₀:Hp
 env:Env
 outer:List Env
 stack:List Env
 ex:List Addr
 fn:Str->Bool
 calm:Bool
 pn:List (Addr×Obj)
 xe:Value->Shared->Prop
noncomputable def frs (l:List Env):List Addr:=l.filterMap (·.frame)
noncomputable abbrev Cx.fs (X:Cx):List Addr:=frs X.outer
def Vis (sc:Scope)(x:Str):Prop:=sc.names.lookup x=some .local∨sc.names.lookup x=some .cell∨sc.names.lookup x=some .free
def Loc (sc:Scope)(x:Str):Prop:=sc.names.lookup x=some .local∨sc.names.lookup x=some .cell
def aJi (env:Env)(h:Heap)(m:Str->Option Value)(x:Str)(u:Value):Prop :=
 (env.kindOf x=some .local/\m x=some u)∨((env.kindOf x=some .cell∨env.kindOf x=some .free)/\∃c,env.cells.lookup x=some c/\h.IsCell c (some u))
structure Cx.Ok (X:Cx):Prop where
 mod:Mod X.K X.mg X.base
 kind:X.env.scope.kind=.function
 glob:X.env.globals=mainGlobals
 blt:X.env.builtins=builtinsNs
 above:X.s₀.heap.objs.size<=X.env.locals
 inj:∀x y c,X.env.cells.lookup x=some c->X.env.cells.lookup y=some c->x=y
 has:∀x,(X.env.kindOf x=some .cell∨X.env.kindOf x=some .free)->∃c,X.env.cells.lookup x=some c
 cab:∀x c,X.fn x=true->X.env.cells.lookup x=some c->X.s₀.heap.objs.size<=c
 hd:X.calm=true->X.A.handled=none
 frames:X.A.frames=some X.stack
 stk:X.stack=X.outer∨(X.stack=X.env::X.outer/\X.env.frame=some X.env.locals)
 exf:∀b∈X.ex,b≠X.env.locals/\∀x c,X.env.cells.lookup x=some c->c≠b
 bs:∀b o,X.base.get? b=some o->X.s₀.heap.get? b=some o/\X.H₀ b=none
 bsz:X.base.objs.size<=X.s₀.heap.objs.size
 noex:∀b o,X.base.get? b=some o->b∉X.ex
 exfs:∀b∈X.ex,b∉X.fs
 funs:X.s₀.heap.FunFrames X.base X.outer
 frf:∀b∈X.fs,X.H₀ b=none
structure Inv (X:Cx)(pins:List (Addr×Obj))(σ:List (Option V))(H:Hp)(s:Shared):Prop where
 ok:X.Ok
 os:s.os=X.s₀.os
 bare:AllBare s.gens
 base:Un X.fs X.ex X.H₀ H X.s₀.heap s.heap
 loc:∃m,s.heap.Ns X.env.locals m/\∀(i:Nat)(x:Str) (v:V),X.N[i]?=some x->σ[i]?=some (some v)->Vis X.env.scope x->∃u,RelV v u/\aJi X.env s.heap m x u
 cell:∀x c,X.env.cells.lookup x=some c->∃v,s.heap.IsCell c v
 free:H X.env.locals=none
 freeC:∀x c,X.env.cells.lookup x=some c->H c=none
 pin:∀p∈X.pn++pins,s.heap.get? p.1=some p.2/\H p.1=none/\p.1≠X.env.locals/\p.1∉X.fs/\∀v,p.2.data ≠ .cell v
 hok:HOk X.prog X.w H s.heap
 len:σ.length=X.N.length
section
variable {X:Cx}{pins:List (Addr×Obj)}{σ:List (Option V)}{H H':Hp}{s:Shared}{h':Heap}
theorem Cx.Ok.nofr (ok:X.Ok){b:Addr}{o:Obj}(e:X.base.get? b=some o):b∉X.fs:=λhb=>by have:=(ok.funs.mem hb).1;rw[e] at this;cases this
theorem Inv.bs (I:Inv X pins σ H s):∀b o,X.base.get? b=some o->s.heap.get? b=some o/\H b=none:=λb o e =>
 ⟨I.base.keep b o (I.ok.bs b o e).1 (I.ok.bs b o e).2 (I.ok.nofr e) (I.ok.noex b o e),I.base.free b o (I.ok.bs b o e).1 (I.ok.bs b o e).2 (I.ok.noex b o e)⟩
theorem Inv.bk (I:Inv X pins σ H s):∀b o,X.base.get? b=some o->s.heap.get? b=some o:=λb o e=>(I.bs b o e).1
theorem Inv.mod (I:Inv X pins σ H s):Mod X.K X.mg X.base:=I.ok.mod
theorem Inv.kIn (I:Inv X pins σ H s):X.K.In s.heap:=I.ok.mod.kin.keeps I.bk
theorem Inv.fr (I:Inv X pins σ H s):∃m,Fr X.base X.env.locals s.heap m :=
 let ⟨m,hn,_⟩:=I.loc
 ⟨m,hn,I.bk,Nat.le_trans I.ok.bsz I.ok.above⟩
theorem Inv.lt (I:Inv X pins σ H s):X.env.locals<s.heap.objs.size:=let ⟨_,hn,_⟩:=I.loc;hn.lt
theorem Inv.sz (I:Inv X pins σ H s):X.s₀.heap.objs.size<=s.heap.objs.size:=Nat.le_trans I.ok.above (Nat.le_of_lt I.lt)
theorem Inv.nofs (I:Inv X pins σ H s){a:Addr}(h:s.heap.objs.size<=a):a∉X.fs:=λhb=>by obtain⟨_,o,ho,_⟩:=I.ok.funs.mem hb;exact absurd (Nat.lt_of_lt_of_le (Heap.lt_size ho) (Nat.le_trans I.sz h)) (Nat.lt_irrefl _)
theorem Inv.cne (I:Inv X pins σ H s):∀x c,X.env.cells.lookup x=some c->c≠X.env.locals:=λx c e z=>by obtain⟨v,o,ho,hd⟩:=I.cell x c e;obtain⟨m,⟨o',es,ep,ho',hd',_⟩,_⟩:=I.loc;rw[z,ho'] at ho;cases ho;rw[hd'] at hd;cases hd
theorem Inv.funs (I:Inv X pins σ H s):s.heap.FunFrames X.base X.outer:=by
 have all:∀(l:List Env),(∀b∈frs l,b∈X.fs)->X.s₀.heap.FunFrames X.base l->s.heap.FunFrames X.base l:=by
  intro l
  induction l with
  |nil=>intro _ _;trivial
  |cons env r ih =>
   intro hs hl;obtain⟨hk,⟨L,o,hf,hn,ho,hd⟩,hr⟩:=hl;have hL:L∈X.fs:=hs L (by unfold frs;rw[List.filterMap_cons,hf];exact mem_cons_self);obtain⟨sl,e⟩:=I.base.slot L o ho (I.ok.frf L hL) hL λz=>I.ok.exfs L z hL;exact⟨hk,⟨L,_,hf,hn,e,hd⟩,ih (λb hb=>hs b (by unfold frs;rw[List.filterMap_cons,hf];exact mem_cons_of_mem _ hb)) hr⟩
 exact all X.outer (λ_ hb=>hb) I.ok.funs
theorem Inv.stack (I:Inv X pins σ H s):s.heap.FunFrames X.base X.stack:=by
 rcases I.ok.stk with e|⟨e,hf⟩
 ·rw[e];exact I.funs
 ·rw[e];obtain⟨m,hn,_⟩:=I.loc;refine .cons (by rw[I.ok.kind];decide) hf hn ?_ I.funs;exact Heap.get?_none_of_le (Nat.le_trans I.ok.bsz I.ok.above)
theorem Inv.stkSub (I:Inv X pins σ H s):∀b∈frs X.stack,b∈X.env.locals::X.fs:=λb hb=>by
 rcases I.ok.stk with e|⟨e,hf⟩
 ·rw[e] at hb;exact mem_cons_of_mem _ hb
 ·rw[e] at hb;unfold frs at hb;rw[List.filterMap_cons,hf] at hb;exact hb
theorem Inv.stkFree (I:Inv X pins σ H s):∀b∈frs X.stack,H b=none:=λb hb=>by
 rcases List.mem_cons.mp (I.stkSub b hb) with e|hb
 ·rw[e];exact I.free
 ·obtain⟨_,o,ho,_⟩:=I.ok.funs.mem hb;exact I.base.free b o ho (I.ok.frf b hb) λz=>I.ok.exfs b z hb
theorem Inv.step {g':Array GenState}{t':Nat}{d':Drawn}{ch:List Addr}(I:Inv X pins σ H s)(hch:∀b∈ch,(b∈X.ex∨X.s₀.heap.objs.size<=b)/\b≠X.env.locals/\(∀x c,X.env.cells.lookup x=some c->c≠b)/\∀p∈X.pn++pins,p.1≠b)(keep:∀b o,b≠X.env.locals->b∉X.fs->b∉ch->s.heap.get? b=some o->H b=none->h'.get? b=some o)(slot:∀b o,b≠X.env.locals->b∈X.fs->b∉ch->s.heap.get? b=some o->H b=none->∃sl,h'.get? b=some { o with slots:=sl })(free:∀b o,b∉ch->s.heap.get? b=some o->H b=none->H' b=none)(there:∀b o,b∉ch->s.heap.get? b=some o->∃o',h'.get? b=some o')(tups:∀b xs,H b=some (.tup xs)->H' b=some (.tup xs))(frzs:∀b o u,H b=some (.frz o u)->H' b=some (.frz o u))(tbls:∀b ps,H b=some (.tbl ps)->∃more,H' b=some (.tbl (ps++more)))(ns:∀m,s.heap.Ns X.env.locals m->h'.Ns X.env.locals m)(hok:HOk X.prog X.w H' h')(hg:AllBare g') :
  Inv X pins σ H' { s with heap:=h',gens:=g',drawn:=d',toks:=t' }:=by
 have neL:∀b o,X.s₀.heap.get? b=some o->b≠X.env.locals:=λb o e=>Nat.ne_of_lt (Nat.lt_of_lt_of_le (Heap.lt_size e) I.ok.above);have neC:∀b o,X.s₀.heap.get? b=some o->b∉X.ex->b∉ch:=λb o e hx hb=>by
  rcases (hch b hb).1 with z|z
  ·exact hx z
  ·exact absurd (Nat.lt_of_lt_of_le (Heap.lt_size e) z) (Nat.lt_irrefl _)
 have cellK:∀x c,X.env.cells.lookup x=some c->∀v,s.heap.IsCell c v->h'.IsCell c v:=λx c e v ⟨o,ho,hd⟩=>by
  have nch:c∉ch:=λz=>(hch c z).2.2.1 x c e rfl;by_cases hc:c∈X.fs
  ·obtain⟨sl,q⟩:=slot c o (I.cne x c e) hc nch ho (I.freeC x c e);exact⟨_,q,hd⟩
  ·exact⟨o,keep c o (I.cne x c e) hc nch ho (I.freeC x c e),hd⟩
 refine⟨I.ok,I.os,hg,⟨λb o e n hb hx=>?_,λb o e n hb hx=>?_,λb o e n hx=>?_,λb o e hx=>?_,λb xs e=>tups b xs (I.base.tups b xs e),λb o xs e=>frzs b o xs (I.base.frzs b o xs e),λb ps e=>?_⟩,?_,λx c e=>?_,?_,λx c e=>?_,λp hp=>?_,hok,I.len⟩
 ·exact keep b o (neL b o e) hb (neC b o e hx) (I.base.keep b o e n hb hx) (I.base.free b o e n hx)
 ·obtain⟨sl,e1⟩:=I.base.slot b o e n hb hx;obtain⟨sl',e2⟩:=slot b _ (neL b o e) hb (neC b o e hx) e1 (I.base.free b o e n hx);exact⟨sl',e2⟩
 ·obtain⟨o',e1⟩:=I.base.there b o e hx;exact free b o' (neC b o e hx) e1 (I.base.free b o e n hx)
 ·obtain⟨o',e1⟩:=I.base.there b o e hx;exact there b o' (neC b o e hx) e1
 ·obtain⟨m1,e1⟩:=I.base.tbls b ps e;obtain⟨m2,e2⟩:=tbls b _ e1;exact⟨m1++m2,by rw[e2,Array.append_assoc]⟩
 ·obtain⟨m,hn,hl⟩:=I.loc;refine⟨m,ns m hn,λi x v e1 e2 e3=>?_⟩;obtain⟨u,r,l⟩:=hl i x v e1 e2 e3;refine⟨u,r,?_⟩;rcases l with l|⟨k,c,e,z⟩
  ·exact .inl l
  ·exact .inr ⟨k,c,e,cellK x c e _ z⟩
 ·obtain⟨v,z⟩:=I.cell x c e;exact⟨v,cellK x c e v z⟩
 ·obtain⟨m,⟨o,_,_,ho,_⟩,_⟩:=I.loc;exact free _ o (λz=>(hch _ z).2.1 rfl) ho I.free
 ·obtain⟨v,o,ho,hd⟩:=I.cell x c e;exact free c o (λz=>(hch c z).2.2.1 x c e rfl) ho (I.freeC x c e)
 ·obtain⟨e,n,ne,nf,d⟩:=I.pin p hp;have nch:p.1∉ch:=λz=>(hch p.1 z).2.2.2 p hp rfl;exact⟨keep p.1 p.2 ne nf nch e n,free p.1 p.2 nch e n,ne,nf,d⟩
theorem Inv.un {t':Nat}(I:Inv X pins σ H s)(u:Un X.fs [] H H' s.heap h')(hok:HOk X.prog X.w H' h'):Inv X pins σ H' { s with heap:=h',toks:=t' }:=by
 obtain⟨m,⟨o,es,ep,ho,r⟩,_⟩:=id I.loc;obtain⟨sl,hL⟩:=u.any ho I.free (by simp);exact I.step (g':=s.gens) (d':=s.drawn) (ch:=[]) (λ_ z=>nomatch z) (λb o _ hb _ e n=>u.keep b o e n hb (by simp)) (λb o _ hb _ e n=>u.slot b o e n hb (by simp)) (λb o _ e n=>u.free b o e n (by simp)) (λb o _ e=>u.there b o e (by simp)) u.tups u.frzs u.tbls (λm' hm=>by obtain⟨o',es',ep',ho',r'⟩:=hm;rw[ho] at ho';cases ho';exact⟨_,es',ep',hL,r'⟩) hok I.bare
theorem Inv.call {g':Array GenState}{t':Nat}{d':Drawn}{ch:List Addr}(I:Inv X pins σ H s)(u:Un (frs X.stack) ch H H' s.heap h')(hok:HOk X.prog X.w H' h')(hg:AllBare g')(hch:∀b∈ch,(b∈X.ex∨X.s₀.heap.objs.size<=b)/\b≠X.env.locals/\(∀x c,X.env.cells.lookup x=some c->c≠b)/\∀p∈X.pn++pins,p.1≠b) :
  Inv X pins σ H' { s with heap:=h',gens:=g',drawn:=d',toks:=t' }:=by
 obtain⟨m,⟨o,es,ep,ho,r⟩,_⟩:=id I.loc;obtain⟨sl,hL⟩:=u.any ho I.free λz=>(hch _ z).2.1 rfl;exact I.step (ch:=ch) hch (λb o hL hb hc e n=>u.keep b o e n (λz=>(List.mem_cons.mp (I.stkSub b z)).elim hL hb) hc) (λb o _ _ hc e n=>u.any e n hc) (λb o hc e n=>u.free b o e n hc) (λb o hc e=>u.there b o e hc) u.tups u.frzs u.tbls (λm' hm=>by obtain⟨o',es',ep',ho',r'⟩:=hm;rw[ho] at ho';cases ho';exact⟨_,es',ep',hL,r'⟩) hok hg
theorem Inv.turned {t':Nat}{it:Addr}(I:Inv X pins σ H s)(k:∀b o,b≠it->s.heap.get? b=some o->h'.get? b=some o)(hn:H it=none)(hL:it≠X.env.locals)(h1:it∈X.ex∨X.s₀.heap.objs.size<=it)(h2:∀x c,X.env.cells.lookup x=some c->c≠it)(h3:∀p∈X.pn++pins,p.1≠it):Inv X pins σ H { s with heap:=h',toks:=t' }:=by
 have nit:∀b u,H b=some u->b≠it:=λb u e z=>by rw[z,hn] at e;cases e
 refine I.step (g':=s.gens) (d':=s.drawn) (ch:=[it]) (λb hb=>?_) (λb o _ _ hc e _=>k b o (λz=>hc (by simp[z])) e) (λb o _ _ hc e _=>⟨o.slots,k b o (λz=>hc (by simp[z])) e⟩) (λ_ _ _ _ n=>n)
  (λb o hc e=>⟨o,k b o (λz=>hc (by simp[z])) e⟩) (λ_ _ e=>e) (λ_ _ _ e=>e) (λb ps e=>⟨#[],by rw[e];simp⟩) (λm hm=>?_) (λb u e=>?_) I.bare
 ·have e:b=it:=by simpa using hb
  subst e;exact⟨h1,hL,h2,h3⟩
 ·obtain⟨o,es,ep,ho,r⟩:=hm;exact⟨o,es,ep,k _ o (Ne.symm hL) ho,r⟩
 ·refine(I.hok b u e).stay (λc v hc q=>k c v ?_ q) (λ_ q=>q) λ_ _ q=>q;rcases hc with z|z
  ·rw[z];exact nit b u e
  ·exact nit c _ z
theorem Inv.tok (I:Inv X pins σ H s)(t:Nat):Inv X pins σ H { s with toks:=t }:=I.un (h':=s.heap) (t':=t) Un.refl I.hok
theorem Inv.kept {t':Nat}(I:Inv X pins σ H s)(k:∀b u,s.heap.get? b=some u->h'.get? b=some u):Inv X pins σ H { s with heap:=h',toks:=t' }:=I.un (Un.kept k) (I.hok.kept k)
theorem Inv.laid {a:Addr}{o:HO}{t':Nat}(I:Inv X pins σ H s)(k:∀b u,s.heap.get? b=some u->h'.get? b=some u)(hp:s.heap.objs.size<=a)(new:dR X.prog X.w (upd H a o) h' a o) :
  Inv X pins σ (upd H a o) { s with heap:=h',toks:=t' }:=I.un (Un.laid k hp (I.hok.fresh hp)) (I.hok.laid k hp new)
theorem Inv.write {x e:Addr}{o:HO}{t':Nat}(I:Inv X pins σ H s)(mu:Mut (H x))(he:e=x∨H e=some (.own x))(k:∀b u,b≠e->s.heap.get? b=some u->h'.get? b=some u)(heo:∃u,h'.get? e=some u)(new:dR X.prog X.w (upd H x o) h' x o):Inv X pins σ (upd H x o) { s with heap:=h',toks:=t' }:=I.un (Un.write mu he k heo) (I.hok.write mu he k heo new)
theorem Inv.pins_of {pins':List (Addr×Obj)}(I:Inv X pins σ H s)(h:∀p∈pins',s.heap.get? p.1=some p.2/\H p.1=none/\p.1≠X.env.locals/\p.1∉X.fs/\∀v,p.2.data ≠ .cell v):Inv X pins' σ H s :=
 ⟨I.ok,I.os,I.bare,I.base,I.loc,I.cell,I.free,I.freeC,λp hp=>(List.mem_append.mp hp).elim (λz=>I.pin p (mem_append_left _ z)) (h p),I.hok,I.len⟩
theorem wK {N:List Str}(hN:N.Nodup){i j:Nat}{x:Str}(a:N[i]?=some x)(b:N[j]?=some x):i=j:=by obtain⟨h1,e1⟩:=List.getElem?_eq_some_iff.mp a;obtain⟨h2,e2⟩:=List.getElem?_eq_some_iff.mp b;exact(List.getElem_inj hN).mp (e1.trans e2.symm)
theorem tI {M:Model}{A:Around}{E:Value->Shared->Prop}{i:Nat}{x:Str}{v:V}{u:Value}{Q:Unit->Shared->Prop}(I:Inv X pins σ H s)(hN:X.N.Nodup)(hi:X.N[i]?=some x)(hx:Loc X.env.scope x)(r:RelV v u)(h:∀s',Inv X pins (σ.set i (some v)) H s'->(∃a,Heap.SameBut a s.heap s'.heap/\(a=X.env.locals∨X.env.cells.lookup x=some a))->Q () s')(hf:X.fn x=true∨X.env.scope.names.lookup x=some .local:=by first|exact .inl rfl|exact .inr rfl|assumption):wpAny M A (storeName X.env x u) Q E s:=by
 obtain⟨m,hn,hl⟩:=id I.loc;have hcls:(X.env.scope.kind == .class||(X.env.scope.kind == .module&&X.env.locals != X.env.globals))=false:=by rw[I.ok.kind];rfl
 have hiσ:i<σ.length:=by rw[I.len];exact(List.getElem?_eq_some_iff.mp hi).1
 have cne:=I.cne;have tracked:∀{a:Addr}{h':Heap},(∃o,s.heap.get? a=some o/\H a=none)->Heap.SameBut a s.heap h'->HOk X.prog X.w H h':=λ{a h'} ha hs b ob e=>by
  obtain⟨_,_,hfree⟩:=ha;refine(I.hok b ob e).stay (λc w' hc q=>(hs.2 c ?_).trans q) (λ_ q=>q) λ_ _ q=>q;rintro rfl;rcases hc with rfl|hc
  ·rw[hfree] at e;cases e
  ·rw[hfree] at hc;cases hc
 rcases hx with hk|hk
 ·refine wpAny_storeName_local hk hn (λh' hn' hs=>?_) hcls;obtain⟨oL,_,_,hoL,_⟩:=id hn;refine h _ ⟨I.ok,I.os,I.bare,⟨λb o e n hb hx=>?_,λb o e n hb hx=>?_,I.base.free,λb o e hx=>?_,I.base.tups,I.base.frzs,I.base.tbls⟩,⟨_,hn',λj y v' e1 e2 e3=>?_⟩,λy c e=>?_,I.free,I.freeC,λp hp=>?_,tracked ⟨oL,hoL,I.free⟩ hs,by simpa using I.len⟩ ⟨_,hs,.inl rfl⟩
  ·exact(hs.2 b (Nat.ne_of_lt (Nat.lt_of_lt_of_le (Heap.lt_size e) I.ok.above))).trans (I.base.keep b o e n hb hx)
  ·obtain⟨sl,e1⟩:=I.base.slot b o e n hb hx;exact⟨sl,(hs.2 b (Nat.ne_of_lt (Nat.lt_of_lt_of_le (Heap.lt_size e) I.ok.above))).trans e1⟩
  ·obtain⟨o',e1⟩:=I.base.there b o e hx;exact⟨o',(hs.2 b (Nat.ne_of_lt (Nat.lt_of_lt_of_le (Heap.lt_size e) I.ok.above))).trans e1⟩
  ·by_cases hj:j=i
   ·subst hj;rw[hi] at e1;cases e1;rw[List.getElem?_set_self hiσ] at e2;cases e2;exact⟨u,r,.inl ⟨hk,by simp⟩⟩
   ·rw[List.getElem?_set_ne (Ne.symm hj)] at e2;obtain⟨u',r',q⟩:=hl j y v' e1 e2 e3;refine⟨u',r',?_⟩;rcases q with⟨k,e⟩|⟨k,c,e,z⟩
    ·refine .inl ⟨k,?_⟩;have:y≠x:=λe=>hj (wK hN e1 (e ▸ hi));simp[this,e]
    ·exact .inr ⟨k,c,e,z.sameBut hs (cne y c e)⟩
  ·obtain⟨w',z⟩:=I.cell y c e;exact⟨w',z.sameBut hs (cne y c e)⟩
  ·obtain⟨e,n,ne,nf,d⟩:=I.pin p hp;exact⟨(hs.2 p.1 ne).trans e,n,ne,nf,d⟩
 ·have hfn:X.fn x=true:=by
   rcases hf with z|z
   ·exact z
   ·rw[z] at hk;cases hk
  obtain⟨c,hc⟩:=I.ok.has x (.inl hk);obtain⟨w',z⟩:=I.cell x c hc;refine wpAny_storeName_cell I.ok.kind hk hc z (λh' hc' hs=>?_);obtain⟨oc,hoc,hocd⟩:=id z;refine h { s with heap:=h' } ⟨I.ok,I.os,I.bare,⟨λb o e n hb hx=>?_,λb o e n hb hx=>?_,I.base.free,λb o e hx=>?_,I.base.tups,I.base.frzs,I.base.tbls⟩,⟨m,hn.sameBut hs (Ne.symm (cne x c hc)),λj y v' e1 e2 e3=>?_⟩,λy c' e=>?_,I.free,I.freeC,λp hp=>?_,tracked ⟨oc,hoc,I.freeC x c hc⟩ hs,by simpa using I.len⟩ ⟨c,hs,.inr hc⟩
  ·exact(hs.2 b (Nat.ne_of_lt (Nat.lt_of_lt_of_le (Heap.lt_size e) (I.ok.cab x c hfn hc)))).trans (I.base.keep b o e n hb hx)
  ·obtain⟨sl,e1⟩:=I.base.slot b o e n hb hx;exact⟨sl,(hs.2 b (Nat.ne_of_lt (Nat.lt_of_lt_of_le (Heap.lt_size e) (I.ok.cab x c hfn hc)))).trans e1⟩
  ·obtain⟨o',e1⟩:=I.base.there b o e hx;exact⟨o',(hs.2 b (Nat.ne_of_lt (Nat.lt_of_lt_of_le (Heap.lt_size e) (I.ok.cab x c hfn hc)))).trans e1⟩
  ·by_cases hj:j=i
   ·subst hj;rw[hi] at e1;cases e1;rw[List.getElem?_set_self hiσ] at e2;cases e2;exact⟨u,r,.inr ⟨.inl hk,c,hc,hc'⟩⟩
   ·rw[List.getElem?_set_ne (Ne.symm hj)] at e2;obtain⟨u',r',q⟩:=hl j y v' e1 e2 e3;refine⟨u',r',?_⟩;rcases q with q|⟨k,c',e,z'⟩
    ·exact .inl q
    ·refine .inr ⟨k,c',e,z'.sameBut hs ?_⟩;rintro rfl;exact hj (wK hN e1 (I.ok.inj _ _ _ e hc ▸ hi))
  ·by_cases hcc:c'=c
   ·subst hcc;exact⟨_,hc'⟩
   ·obtain⟨w2,z2⟩:=I.cell y c' e;exact⟨w2,z2.sameBut hs hcc⟩
  ·obtain⟨e,n,ne,nf,d⟩:=I.pin p hp;refine⟨(hs.2 p.1 ?_).trans e,n,ne,nf,d⟩;intro q;rw[q,hoc] at e;have q':oc=p.2:=Option.some.inj e;exact d w' (by rw[<- q'];exact hocd)
theorem kF {M:Model}{A:Around}{E:Value->Shared->Prop}{i:Nat}{x:Str}{v:V}{u:Value}{Q:Unit->Shared->Prop}(I:Inv X pins σ H s)(hN:X.N.Nodup)(hi:X.N[i]?=some x)(hx:Loc X.env.scope x)(r:RelV v u)(h:∀s',Inv X pins (σ.set i (some v)) H s'->Q () s')(hf:X.fn x=true∨X.env.scope.names.lookup x=some .local:=by first|exact .inl rfl|exact .inr rfl|assumption):wpAny M A (storeName X.env x u) Q E s :=
 tI I hN hi hx r (λs' I' _=>h s' I') hf
theorem Inv.call' {s':Shared}{ch:List Addr}(I:Inv X pins σ H s)(ho:s'.os=s.os)(u:Un (frs X.stack) ch H H' s.heap s'.heap)(hok:HOk X.prog X.w H' s'.heap)(hg:AllBare s'.gens)(hch:∀b∈ch,(b∈X.ex∨X.s₀.heap.objs.size<=b)/\b≠X.env.locals/\(∀x c,X.env.cells.lookup x=some c->c≠b)/\∀p∈X.pn++pins,p.1≠b):Inv X pins σ H' s':=by obtain⟨h',g',d',t',o'⟩:=s';have e:o'=s.os:=ho;subst e;exact I.call (g':=g') (t':=t') (d':=d') u hok hg hch
end
abbrev XK:=Value->Option Addr->Hp->Prop
noncomputable abbrev St:=List (Option V)
abbrev VK:=V->Hp->Prop
abbrev TE:=St->Hp->VK->Prop
abbrev TT:=St->Hp->(Bool->Hp->Prop)->Prop
abbrev TA:=St->Hp->(List V->Hp->Prop)->Prop
structure pO where
 nx:St->Hp->Prop
 rt:VK
 bk:St->Hp->Prop:=λ_ _=>False
 ct:St->Hp->Prop:=λ_ _=>False
abbrev TS:=pO->St->Hp->Prop
def EP (X:Cx)(pins:List (Addr×Obj))(σ:St)(Q:VK)(u:Value)(s':Shared):Prop:=∃v H',Inv X pins σ H' s'/\RelV v u/\Q v H'
def TP (X:Cx)(pins:List (Addr×Obj))(σ:St)(Q:Bool->Hp->Prop)(b:Bool)(s':Shared):Prop:=∃H',Inv X pins σ H' s'/\Q b H'
def AP (X:Cx)(pins:List (Addr×Obj))(σ:St)(Q:List V->Hp->Prop)(us:List Value)(s':Shared):Prop:=∃vs H',Inv X pins σ H' s'/\bJ vs us/\Q vs H'
def SP (X:Cx)(pins:List (Addr×Obj))(D:pO)(f:Flow)(s':Shared):Prop :=
 match f with
 |.next=>∃σ' H',Inv X pins σ' H' s'/\D.nx σ' H'
 |.brk=>∃σ' H',Inv X pins σ' H' s'/\D.bk σ' H'
 |.cont=>∃σ' H',Inv X pins σ' H' s'/\D.ct σ' H'
 |.ret u=>∃v σ' H',Inv X pins σ' H' s'/\RelV v u/\D.rt v H'
def PE (X:Cx)(e:Expr)(t:TE):Prop :=
 ∀(pins:List (Addr×Obj)) (s:Shared) (σ:St) (H:Hp) (Q:VK),Inv X pins σ H s->t σ H Q->wpAny (model X.prog X.w) X.A (eval e X.env) (EP X pins σ Q) X.xe s
def PT (X:Cx)(e:Expr)(t:TT):Prop :=
 ∀(pins:List (Addr×Obj)) (s:Shared) (σ:St) (H:Hp) (Q:Bool->Hp->Prop),Inv X pins σ H s->t σ H Q->wpAny (model X.prog X.w) X.A (isTrue e X.env (eval e X.env)) (TP X pins σ Q) X.xe s
def PW (X:Cx)(e:Expr)(t:TT):Prop :=
 ∀(whole:Sem Value)(pins:List (Addr×Obj)) (s:Shared) (σ:St) (H:Hp) (Q:Bool->Hp->Prop),Inv X pins σ H s->t σ H Q->wpAny (model X.prog X.w) X.A (isTrue e X.env whole) (TP X pins σ Q) X.xe s
theorem PW.pt {X:Cx}{e:Expr}{t:TT}(h:PW X e t):PT X e t:=h _
def PA (X:Cx)(es:List Expr)(t:TA):Prop :=
 ∀(pos:Pos)(pins:List (Addr×Obj)) (s:Shared) (σ:St) (H:Hp) (Q:List V->Hp->Prop),Inv X pins σ H s->t σ H Q->wpAny (model X.prog X.w) X.A (spliced (backTo pos (starEach es X.env))) (AP X pins σ Q) X.xe s
def PS (X:Cx)(st:Stmt)(t:TS):Prop :=
 ∀(pins:List (Addr×Obj)) (s:Shared) (σ:St) (H:Hp) (D:pO),Inv X pins σ H s->t D σ H->wpAny (model X.prog X.w) X.A (exec st X.env) (SP X pins D) X.xe s
def PSs (X:Cx)(st:List Stmt)(t:TS):Prop :=
 ∀(pins:List (Addr×Obj)) (s:Shared) (σ:St) (H:Hp) (D:pO),Inv X pins σ H s->t D σ H->wpAny (model X.prog X.w) X.A (execs st X.env) (SP X pins D) X.xe s
theorem thn {α:Type}{t:Sem α}{Q Q':α->Shared->Prop}{M:Model}{A:Around}{E:Value->Shared->Prop}{s:Shared}(h:wpAny M A t Q E s)(hQ:∀a s,Q a s->Q' a s):wpAny M A t Q' E s:=wpAny_mono h hQ λ_ _ x=>x
section
variable {X:Cx}
def aJu (i:Nat):TE:=λσ H Q=>∃v,σ[i]?=some (some v)/\Q v H
def tC (v:V):TE:=λ_ H Q=>Q v H
theorem aCw {i:Nat}{x:Str}{pos:Pos}(hN:X.N[i]?=some x)(hv:Vis X.env.scope x)(hd:(x==("__debug__":Str))=false:=by decide)(hcd:(x==("__classdict__":Str))=false:=by decide):PE X (.Name x pos) (aJu i):=by
 intro pins s σ H Q I h;obtain⟨v,e,h⟩:=h;obtain⟨m,hn,hl⟩:=I.loc;obtain⟨u,r,l⟩:=hl i x v hN e hv;have fin:EP X pins σ Q u s:=⟨v,H,I,r,h⟩;rcases l with⟨hk,hm⟩|⟨hk,c,hc,hcell⟩
 ·exact wpAny_Name (wpAny_loadName_local I.ok.kind hk hn hm fin) hd
 ·rcases hk with hk|hk
  ·exact wpAny_Name (wpAny_loadName_cell I.ok.kind hk hc hcell fin) hd
  ·exact wpAny_Name (wpAny_loadName_free I.ok.kind hk hc hcell fin hcd) hd
theorem aG6 {i j pos}:PE X (.Constant (.int i) j pos) (tC (.int i)):=λ_ _ _ H _ I h=>wpAny_Constant_int ⟨.int i,H,I.tok _,⟨_,rfl⟩,h⟩
theorem aJo {b j pos}:PE X (.Constant (.bool b) j pos) (tC (.bl b)):=λ_ _ _ H _ I h=>Constant_bool ⟨.bl b,H,I,rfl,h⟩
theorem aGk {j pos}:PE X (.Constant .none j pos) (tC .non):=λ_ _ _ H _ I h=>Constant_none ⟨.non,H,I,rfl,h⟩
theorem aG4 {x j pos}:PE X (.Constant (.str x) j pos) (tC (.str x)):=λ_ _ _ H _ I h=>Calls.Constant_str ⟨.str x,H,I.tok _,⟨_,rfl⟩,h⟩
def Gl (X:Cx)(x:Str):Prop:=X.env.kindOf x=some .globalImplicit
theorem vC {E:Value->Shared->Prop}{pins:List (Addr×Obj)}{s:Shared}{σ:St}{H:Hp}{x:Str}{u:Value}{pos:Pos}{Q:Value->Shared->Prop}(I:Inv X pins σ H s)(hg:Gl X x)(hm:X.mg x=some u)(h:Q u s)(hd:(x==("__debug__":Str))=false:=by decide):wpAny (model X.prog X.w) X.A (eval (.Name x pos) X.env) Q E s :=
 Calls.Name_function_global I.ok.kind hg (Calls.loadGlobal_global (by rw[I.ok.glob];exact I.mod.glob.keeps I.bk) hm h) hd
theorem tT {E:Value->Shared->Prop}{pins:List (Addr×Obj)}{s:Shared}{σ:St}{H:Hp}{x:Str}{u:Value}{pos:Pos}{Q:Value->Shared->Prop}(I:Inv X pins σ H s)(hg:Gl X x)(hm:X.mg x=none)(hv:bootBuiltins x=some u)(h:Q u s)(hn:x ≠ "__name__":=by decide)(hd:(x==("__debug__":Str))=false:=by decide):wpAny (model X.prog X.w) X.A (eval (.Name x pos) X.env) Q E s:=by obtain⟨mb,h1,h2⟩:=I.mod.blt;exact Calls.Name_function_global I.ok.kind hg (Calls.loadGlobal_builtin (by rw[I.ok.glob];exact I.mod.glob.keeps I.bk) hm (by rw[I.ok.blt];exact h1.keeps I.bk) ((h2 x hn).trans hv) h) hd
theorem aEw {x:Str}{v:V}{u:Value}{pos:Pos}(hg:Gl X x)(hm:X.mg x=some u)(r:RelV v u)(hd:(x==("__debug__":Str))=false:=by decide):PE X (.Name x pos) (tC v) :=
 λ_ _ _ H _ I h=>vC I hg hm ⟨v,H,I,r,h⟩ hd
theorem aDB {x:Str}{v:V}{u:Value}{pos:Pos}(hg:Gl X x)(hm:X.mg x = none)(hv:bootBuiltins x = some u)(r:RelV v u)(hn:x ≠ "__name__":=by decide)(hd:(x==("__debug__":Str))=false:=by decide):PE X (.Name x pos) (tC v) :=
 λ_ _ _ H _ I h=>tT I hg hm hv ⟨v,H,I,r,h⟩ hn hd
variable {a b:Expr}{ta tb:TE}{pos:Pos}
def tB (t:TE):TT:=λσ H Q=>t σ H λx H1=>∃c,x=.bl c/\Q c H1
theorem aHe {e:Expr}{t:TE}(h:PE X e t)(he:∀whole,isTrue e X.env whole=(do let v <- whole;standAt e.pos;holding [v] (truthy v)):=by intro _;rfl):PT X e (tB t):=by intro pins s σ H Q I hw;refine isTrue_plain (thn (h pins s σ H _ I hw) λv s1 ⟨x,H1,I1,r1,q1⟩=>?_) (he _);obtain⟨d,rfl,q⟩:=q1;cases r1;exact wpAny_truthy_bool ⟨H1,I1,q⟩
variable {tA tB':TT}{bV:List Expr}
def aJ6 (t u:TT):TT:=λσ H Q=>t σ H λc H1=>if c=true then u σ H1 Q else Q false H1
def tOr (t u:TT):TT:=λσ H Q=>t σ H λc H1=>if c=true then Q true H1 else u σ H1 Q
def aJI (t:TT):TT:=λσ H Q=>t σ H λc H1=>Q (!c) H1
theorem aDx (ha:PT X a tA):PW X (.BoolOp .And [a] pos) tA:=by
 intro wh pins s σ H Q I h;refine isTrue_and (thn (ha pins s σ H Q I h) λc s1 e=>?_);cases c with
 |true=>exact isTrue_and_nil e
 |false=>exact e
theorem aHA (ha:PT X a tA):PW X (.BoolOp .Or [a] pos) tA:=by
 intro wh pins s σ H Q I h;refine isTrue_or (thn (ha pins s σ H Q I h) λc s1 e=>?_);cases c with
 |false=>exact isTrue_or_nil e
 |true=>exact e
theorem aHl (ha:PT X a tA)(hb:PW X (.BoolOp .And (b::bV) pos) tB'):PW X (.BoolOp .And (a::b::bV) pos) (aJ6 tA tB'):=by
 intro wh pins s σ H Q I h;refine isTrue_and (thn (ha pins s σ H _ I h) λc s1 ⟨H1,I1,q1⟩=>?_);cases c with
 |true=>exact hb wh pins s1 σ H1 Q I1 q1
 |false=>exact⟨H1,I1,q1⟩
theorem aIP (ha:PT X a tA)(hb:PW X (.BoolOp .Or (b::bV) pos) tB'):PW X (.BoolOp .Or (a::b::bV) pos) (tOr tA tB'):=by
 intro wh pins s σ H Q I h;refine isTrue_or (thn (ha pins s σ H _ I h) λc s1 ⟨H1,I1,q1⟩=>?_);cases c with
 |true=>exact⟨H1,I1,q1⟩
 |false=>exact hb wh pins s1 σ H1 Q I1 q1
theorem aGe (ha:PT X a tA):PT X (.UnaryOp .Not a pos) (aJI tA):=by intro pins s σ H Q I h;exact isTrue_not (ha pins s σ H (λc H1=>Q (!c) H1) I h)
def aIs (ta tb:TE):TE:=λσ H Q=>ta σ H λx H1=>∃c,x=.bl c/\if c=true then tb σ H1 Q else Q (.bl false) H1
def aJp (ta tb:TE):TE:=λσ H Q=>ta σ H λx H1=>∃c,x=.bl c/\if c=true then Q (.bl true) H1 else tb σ H1 Q
def aIH (ta:TE):TE:=λσ H Q=>ta σ H λx H1=>∃c,x=.bl c/\Q (.bl (!c)) H1
theorem aGD {op}{t:TE}(h:PE X a t):PE X (.BoolOp op [a] pos) t:=λpins s σ H Q I hw=>BoolOp_one (h pins s σ H Q I hw)
theorem aHq (ha:PE X a ta)(hb:PE X (.BoolOp .And (b::bV) pos) tb):PE X (.BoolOp .And (a::b::bV) pos) (aIs ta tb):=by
 intro pins s σ H Q I h;refine BoolOp_and (thn (ha pins s σ H _ I h) λv s1 ⟨x,H1,I1,r1,q1⟩=>?_);obtain⟨c,rfl,q1⟩:=q1;cases r1;refine wpAny_truthy_bool ?_;cases c with
 |true=>exact hb pins s1 σ H1 Q I1 q1
 |false=>exact⟨.bl false,H1,I1,rfl,q1⟩
theorem aIV (ha:PE X a ta)(hb:PE X (.BoolOp .Or (b::bV) pos) tb):PE X (.BoolOp .Or (a::b::bV) pos) (aJp ta tb):=by
 intro pins s σ H Q I h;refine BoolOp_or (thn (ha pins s σ H _ I h) λv s1 ⟨x,H1,I1,r1,q1⟩=>?_);obtain⟨c,rfl,q1⟩:=q1;cases r1;refine wpAny_truthy_bool ?_;cases c with
 |false=>exact hb pins s1 σ H1 Q I1 q1
 |true=>exact⟨.bl true,H1,I1,rfl,q1⟩
theorem aHu (ha:PE X a ta):PE X (.UnaryOp .Not a pos) (aIH ta):=by intro pins s σ H Q I h;refine UnaryOp_ (thn (ha pins s σ H _ I h) λv s1 ⟨x,H1,I1,r1,q1⟩=>?_);obtain⟨c,rfl,q1⟩:=q1;cases r1;exact not_of (wpAny_truthy_bool ⟨.bl (!c),H1,I1,rfl,q1⟩)
def tIf (t:TT)(ta tb:TE):TE:=λσ H Q=>t σ H λc H1=>if c=true then ta σ H1 Q else tb σ H1 Q
theorem aCE {c:Expr}(hc:PT X c tA)(ha:PE X a ta)(hb:PE X b tb):PE X (.IfExp c a b pos) (tIf tA ta tb):=by
 intro pins s σ H Q I h;refine wpAny_IfExp (thn (hc pins s σ H _ I h) λd s1 ⟨H1,I1,q1⟩=>?_);cases d with
 |true=>exact ha pins s1 σ H1 Q I1 q1
 |false=>exact hb pins s1 σ H1 Q I1 q1
end
def SqL (K:Frag)(H:Hp)(a:Addr)(xs:List V):Prop :=
 Rd H a (.lst xs) ∨
  ∃(o:Obj)(its:Array Value) (n:Nat),K.lookup a = some o/\o.cls = .type "list"/\o.dict=none/\o.data=.seq its n/\its.size<=sizeLine/\bJ xs its.toList
def SqT (K:Frag)(H:Hp)(a:Addr)(xs:List V):Prop :=
 Rd H a (.tup xs) ∨
  ∃(o:Obj)(its:Array Value) (n:Nat),K.lookup a = some o/\o.cls = .type "tuple"/\o.data=.seq its n/\its.size<=sizeLine/\bJ xs its.toList
noncomputable def aJL:Value->Option V
 |.none=>some .non
 |.bool b=>some (.bl b)
 |.int i _=>some (.int i)
 |.str x _=>some (.str x)
 |.bytes b _=>some (.byt b)
 |.float b _=>some (.flt b)
 |.ref a=>some (.ref a)
 |.type n=>some (.ty n)
 |_=>none
theorem RelV.abs {x:V}{u:Value}(r:RelV x u):aJL u=some x:=by
 cases x with
 |non=>cases r;rfl
 |bl _=>cases r;rfl
 |int _=>obtain⟨t,rfl⟩:=r;rfl
 |str _=>obtain⟨t,rfl⟩:=r;rfl
 |byt _=>obtain⟨t,rfl⟩:=r;rfl
 |flt _=>obtain⟨t,rfl⟩:=r;rfl
 |ref _=>cases r;rfl
 |ty _=>cases r;rfl
theorem RelV.inj {x y:V}{u:Value}(r:RelV x u)(q:RelV y u):x=y:=Option.some.inj (r.abs.symm.trans q.abs)
theorem bJ.inj:∀{xs ys:List V}{us:List Value},bJ xs us->bJ ys us->xs=ys
 |_,_,_,.nil,.nil=>rfl
 |_,_,_,.cons r t,.cons r' t'=>by rw[r.inj r',bJ.inj t t']
section
variable {X:Cx}{pins:List (Addr×Obj)}{σ:St}{H:Hp}{s:Shared}{a:Addr}{xs ys:List V}
theorem SqL.of {K:Frag}(h:H a=some (.lst xs)):SqL K H a xs:=.inl (.inl h)
theorem SqT.of {K:Frag}(h:H a=some (.tup xs)):SqT K H a xs:=.inl (.inl h)
theorem Inv.list (I:Inv X pins σ H s)(h:SqL X.K H a xs):∃its:List Value,bJ xs its/\PlainL s.heap a its.toArray/\xs.length<=sizeLine:=by
 rcases h with h|⟨o,its,n,hk,hc,hd,hs,hz,r⟩
 ·obtain⟨z,its,n,r,e⟩:=h.ok I.hok;exact⟨its,r,⟨_,n,e,rfl,rfl,rfl⟩,z⟩
 ·refine⟨its.toList,r,⟨o,n,I.kIn a o hk,hc,hd,by simpa using hs⟩,?_⟩;have e:=r.length;simp only[Array.length_toList] at e;omega
theorem Inv.tuple (I:Inv X pins σ H s)(h:SqT X.K H a xs):∃its:List Value,bJ xs its/\IsTup s.heap a its.toArray/\xs.length<=sizeLine:=by
 rcases h with h|⟨o,its,n,hk,hc,hs,hz,r⟩
 ·obtain⟨z,its,r,p⟩:=h.ok I.hok;exact⟨its,r,p,z⟩
 ·refine⟨its.toList,r,⟨o,I.kIn a o hk,hc,n,by simpa using hs⟩,?_⟩;have e:=r.length;simp only[Array.length_toList] at e;omega
theorem Inv.list_inj (I:Inv X pins σ H s)(h:SqL X.K H a xs)(h':SqL X.K H a ys):xs=ys:=by
 obtain⟨its,r,⟨o,n,e,_,_,d⟩,_⟩:=I.list h;obtain⟨its',r',⟨o',n',e',_,_,d'⟩,_⟩:=I.list h';rw[e] at e';cases e';rw[d] at d';injection d' with d1 _
 have:its=its':=by simpa using congrArg Array.toList d1
 subst this;exact r.inj r'
theorem Inv.tuple_inj (I:Inv X pins σ H s)(h:SqT X.K H a xs)(h':SqT X.K H a ys):xs=ys:=by
 obtain⟨its,r,⟨o,e,_,n,d⟩,_⟩:=I.tuple h;obtain⟨its',r',⟨o',e',_,n',d'⟩,_⟩:=I.tuple h';rw[e] at e';cases e';rw[d] at d';injection d' with d1 _
 have:its=its':=by simpa using congrArg Array.toList d1
 subst this;exact r.inj r'
end
noncomputable abbrev Cx.wish (X:Cx)(E:Value->Shared->Prop):Cx:={ X with xe:=E }
noncomputable abbrev Cx.nox (X:Cx):Cx:=X.wish λ_ _=>False
theorem Cx.Ok.wish {X:Cx}(ok:X.Ok)(E:Value->Shared->Prop):(X.wish E).Ok :=
 ⟨ok.mod,ok.kind,ok.glob,ok.blt,ok.above,ok.inj,ok.has,ok.cab,ok.hd,ok.frames,ok.stk,ok.exf,ok.bs,ok.bsz,ok.noex,ok.exfs,ok.funs,ok.frf⟩
theorem Cx.Ok.unwish {X:Cx}{E:Value->Shared->Prop}(ok:(X.wish E).Ok):X.Ok :=
 ⟨ok.mod,ok.kind,ok.glob,ok.blt,ok.above,ok.inj,ok.has,ok.cab,ok.hd,ok.frames,ok.stk,ok.exf,ok.bs,ok.bsz,ok.noex,ok.exfs,ok.funs,ok.frf⟩
section
variable {X:Cx}{pins:List (Addr×Obj)}{σ:St}{H:Hp}{s:Shared}{E:Value->Shared->Prop}
theorem Inv.wish (I:Inv X pins σ H s)(E:Value->Shared->Prop):Inv (X.wish E) pins σ H s:=⟨I.ok.wish E,I.os,I.bare,I.base,I.loc,I.cell,I.free,I.freeC,I.pin,I.hok,I.len⟩
theorem Inv.unwish (I:Inv (X.wish E) pins σ H s):Inv X pins σ H s:=⟨I.ok.unwish,I.os,I.bare,I.base,I.loc,I.cell,I.free,I.freeC,I.pin,I.hok,I.len⟩
theorem SP.unwish {D:pO}{f:Flow}{s':Shared}(h:SP (X.wish E) pins D f s'):SP X pins D f s':=by
 cases f with
 |next=>obtain⟨σ',H',I,q⟩:=h;exact⟨σ',H',I.unwish,q⟩
 |brk=>obtain⟨σ',H',I,q⟩:=h;exact⟨σ',H',I.unwish,q⟩
 |cont=>obtain⟨σ',H',I,q⟩:=h;exact⟨σ',H',I.unwish,q⟩
 |ret u=>obtain⟨v,σ',H',I,r,q⟩:=h;exact⟨v,σ',H',I.unwish,r,q⟩
theorem PSs.nox {st:List Stmt}{t:TS}(h:PSs X.nox st t):PSs X st t:=λpins s σ H D I hw =>
 wpAny_mono (h pins s σ H D (I.wish _) hw) (λ_ _ q=>q.unwish) λ_ _ z=>False.elim z
end
section
variable {X:Cx}{st:Stmt}{bV:List Stmt}{t u:TS}{e:Expr}{te:TE}{pos:Pos}
def aHP:TS:=λD σ H=>D.nx σ H
def aJO (t u:TS):TS:=λD σ H=>t { D with nx:=u D } σ H
theorem aEs:PSs X [] aHP:=λ_ _ σ H _ I h=>wpAny_execs_nil ⟨σ,H,I,h⟩
theorem wH (h1:PS X st t)(h2:PSs X bV u):PSs X (st::bV) (aJO t u):=by
 intro pins s σ H D I h;refine wpAny_execs_cons (thn (h1 pins s σ H { D with nx:=u D } I h) λf s1 q=>?_);cases f with
 |next =>
  obtain⟨σ',H',I',q⟩:=q;exact h2 pins s1 σ' H' D I' q
 |ret v=>exact q
 |brk=>exact q
 |cont=>exact q
theorem aDY (h1:PS X st t):PSs X [st] t:=by
 intro pins s σ H D I h;refine wpAny_execs_cons (thn (h1 pins s σ H D I h) λf s1 q=>?_);cases f with
 |next=>exact wpAny_execs_nil q
 |ret v=>exact q
 |brk=>exact q
 |cont=>exact q
theorem Inv.quiet {pins:List (Addr×Obj)}{σ:St}{H:Hp}{s:Shared}(I:Inv X pins σ H s):interactive X.env=false:=by simp[interactive,I.ok.kind]
def aIC (te:TE):TS:=λD σ H=>te σ H λ_ H1=>D.nx σ H1
theorem aD4 (he:PE X e te)(hs:swapsWith e none pos.line X.env=pure false:=by rfl):PS X (.Expr e pos) (aIC te):=by intro pins s σ H D I h;exact wpAny_Expr_any (thn (he pins s σ H _ I h) λv s1 ⟨x,H1,I1,r1,q1⟩=>⟨σ,H1,I1,q1⟩) I.quiet hs
def aJN (te:TE):TS:=λD σ H=>te σ H D.rt
theorem aGa (he:PE X e te):PS X (.Return (some e) pos) (aJN te):=by intro pins s σ H D I h;exact wpAny_Return_some (thn (he pins s σ H _ I h) λv s1 ⟨x,H1,I1,r1,q1⟩=>⟨x,σ,H1,I1,r1,q1⟩)
def aKb (c:TT)(t u:TS):TS:=λD σ H=>c σ H λb H1=>if b=true then t D σ H1 else u D σ H1
theorem aH0 {c:Expr}{a b:List Stmt}{tc:TT}(hc:PT X c tc)(ha:PSs X a t)(hb:PSs X b u):PS X (.If c a b pos) (aKb tc t u):=by
 intro pins s σ H D I h;refine wpAny_If (thn (hc pins s σ H _ I h) λd s1 ⟨H1,I1,q1⟩=>?_);cases d with
 |true=>exact ha pins s1 σ H1 D I1 q1
 |false=>exact hb pins s1 σ H1 D I1 q1
end
abbrev TG:=V->St->Hp->(St->Hp->Prop)->Prop
abbrev TGs:=List V->St->Hp->(St->Hp->Prop)->Prop
def PG (X:Cx)(target:Expr)(t:TG):Prop :=
 ∀(pins:List (Addr×Obj)) (s:Shared) (σ:St) (H:Hp) (v:V) (u:Value) (Q:St->Hp->Prop),Inv X pins σ H s->RelV v u->t v σ H Q ->
  wpAny (model X.prog X.w) X.A (assign target X.env u) (λ_ s'=>∃σ' H',Inv X pins σ' H' s'/\Q σ' H') X.xe s
def PGs (X:Cx)(ts:List Expr)(t:TGs):Prop :=
 ∀(pins:List (Addr×Obj)) (s:Shared) (σ:St) (H:Hp) (vs:List V) (us:List Value) (Q:St->Hp->Prop),Inv X pins σ H s->bJ vs us->t vs σ H Q ->
  wpAny (model X.prog X.w) X.A (assignInOrder ((assignEach ts X.env).map (·.2)) us) (λ_ s'=>∃σ' H',Inv X pins σ' H' s'/\Q σ' H') X.xe s
abbrev aG8:=V->V->V->Hp->(Hp->Prop)->Prop
def aGo (X:Cx)(t:aG8):Prop :=
 ∀(pins:List (Addr×Obj)) (s:Shared) (σ:St) (H:Hp) (o i v:V) (ov iv u:Value) (Q:Hp->Prop),Inv X pins σ H s->RelV o ov->RelV i iv->RelV v u->t o i v H Q ->
  wpAny (model X.prog X.w) X.A (setItem ov iv u) (λ_ s'=>∃H',Inv X pins σ H' s'/\Q H') X.xe s
abbrev TIp:=V->V->Hp->VK->Prop
def PIp (X:Cx)(op:Operator)(t:TIp):Prop :=
 ∀(pins:List (Addr×Obj)) (s:Shared) (σ:St) (H:Hp) (x y:V) (v u:Value) (Q:VK),Inv X pins σ H s->RelV x v->RelV y u->t x y H Q ->
  wpAny (model X.prog X.w) X.A (inplaceOp op v u) (EP X pins σ Q) X.xe s
section
variable {X:Cx}{pos:Pos}
def aFa (i:Nat):TG:=λv σ H Q=>Q (σ.set i (some v)) H
theorem aDQ {i:Nat}{x:Str}(hN:X.N.Nodup)(hi:X.N[i]?=some x)(hx:Loc X.env.scope x)(hf:X.fn x=true∨X.env.scope.names.lookup x=some .local:=by first|exact .inl rfl|exact .inr rfl|assumption):PG X (.Name x pos) (aFa i):=by intro pins s σ H v u Q I r h;exact wpAny_assign_Name (kF I hN hi hx r (λs' I'=>⟨_,H,I',h⟩) hf)
def aJX:TGs:=λvs σ H Q=>vs=[]/\Q σ H
def aH8 (t:TG)(u:TGs):TGs:=λvs σ H Q=>∃v r,vs=v::r/\t v σ H λσ' H'=>u r σ' H' Q
theorem aD0:PGs X [] aJX:=by intro pins s σ H vs us Q I r h;obtain⟨e,h⟩:=h;subst e;cases r;exact assignInOrder_nil ⟨σ,H,I,h⟩
theorem aBM {e:Expr}{es:List Expr}{t:TG}{u:TGs}(h1:PG X e t)(h2:PGs X es u)(hs:(assignEach (e::es) X.env).map (·.2)=assign e X.env::(assignEach es X.env).map (·.2):=by rfl):PGs X (e::es) (aH8 t u):=by
 intro pins s σ H vs us Q I r h;obtain⟨v,vr,e1,h⟩:=h;subst e1;cases r with
 |cons r rr =>
  rw[hs];refine assignInOrder_cons (thn (h1 pins s σ H _ _ _ I r h) λ_ s1 ⟨σ1,H1,I1,q1⟩=>?_);exact h2 pins s1 σ1 H1 _ _ Q I1 rr q1
def aJH (K:Frag)(n:Nat)(t:TGs):TG:=λv σ H Q=>∃a xs,v=.ref a/\SqT K H a xs/\xs.length=n/\t xs σ H Q
theorem aF5 {es:List Expr}{k:Nat}{t:TGs}{n:Nat}(hc:X.calm=true)(h:PGs X es t)(hn:(assignEach es X.env).length=n:=by rfl)(hst:(assignEach es X.env).findIdx? (·.1)=none:=by rfl):PG X (.Tuple es k pos) (aJH X.K n t):=by intro pins s σ H v u Q I r hw;obtain⟨a,xs,e1,hq,hl,hw⟩:=hw;subst e1;cases r;obtain⟨its,rv,ht,hz⟩:=I.tuple hq;refine assign_Tuple_tuple (I.ok.hd hc) ht (by simp[hn,<- hl,rv.length]) hst λh' hx=>?_;have I1:Inv X pins σ H { s with heap:=h' }:=I.kept (t':=s.toks) λb o e=>hx b o (Nat.ne_of_lt (Heap.lt_size e)) e;exact h pins _ σ H xs _ Q I1 (by simpa using rv) hw
def aJ9 (to ti:TE)(t:aG8):TG:=λv σ H Q=>to σ H λo H1=>ti σ H1 λi H2=>t o i v H2 λH3=>Q σ H3
theorem aB1 {o i:Expr}{to ti:TE}{t:aG8}(ho:PE X o to)(hi:PE X i ti)(hs:aGo X t)(ha:∀v,assign (.Subscript o i pos) X.env v=(do
   let ov <- holding [v] (eval o X.env)
   let iv <- holding [v,ov] (eval i X.env)
   standAt pos
   holding [v,ov,iv] (setItem ov iv v)
   release [v,ov,iv] []):=by intro _;rfl):PG X (.Subscript o i pos) (aJ9 to ti t):=by
 intro pins s σ H v u Q I r h;rw[ha];refine wpAny_bind (wpAny_holding (thn (ho pins s σ H _ I h) λov s1 ⟨x,H1,I1,r1,q1⟩=>?_));refine wpAny_bind (wpAny_holding (thn (hi pins s1 σ H1 _ I1 q1) λiv s2 ⟨y,H2,I2,r2,q2⟩=>?_));refine wpAny_bind (wpAny_standAt (wpAny_bind (wpAny_holding (thn (hs pins s2 σ H2 x y v ov iv u _ I2 r1 r2 r q2) λ_ s3 ⟨H3,I3,q3⟩=>?_))));exact wpAny_release ⟨σ,H3,I3,q3⟩
def aIf (te:TE)(g:TG):TS:=λD σ H=>te σ H λx H1=>g x σ H1 D.nx
theorem aGx {tg e:Expr}{te:TE}{g:TG}(he:PE X e te)(hg:PG X tg g)(hs:swapsWithSole [tg] e pos.line X.env=pure false:=by rfl)(hw:swappedStores [tg] e X.env=pure none:=by rfl)(h1:(assignEach [tg] X.env).map (·.2)=[assign tg X.env]:=by rfl):PS X (.Assign [tg] e pos) (aIf te g):=by intro pins s σ H D I h;refine wpAny_Assign_stores (thn (he pins s σ H _ I h) λv s1 ⟨x,H1,I1,r1,q1⟩=>?_) hs hw;rw[h1];exact thn (hg pins s1 σ H1 x v _ I1 r1 q1) λ_ s2 q=>q
theorem aHD {i:Nat}{x:Str}{e:Expr}{te:TE}{pos':Pos}(hN:X.N.Nodup)(hi:X.N[i]?=some x)(hx:Loc X.env.scope x)(he:PE X e te)(hs:swapsWith e (some (.Name x pos')) pos.line X.env=pure false:=by rfl)(hf:X.fn x=true∨X.env.scope.names.lookup x=some .local:=by first|exact .inl rfl|exact .inr rfl|assumption) :
  PS X (.Assign [.Name x pos'] e pos) (aIf te (aFa i)):=by
 intro pins s σ H D I h;refine wpAny_Assign_Name (thn (he pins s σ H _ I h) λv s1 ⟨y,H1,I1,r1,q1⟩=>?_) hs;exact kF I1 hN hi hx r1 (λs2 I2=>⟨_,H1,I2,q1⟩) hf
def aJE (i j:Nat)(ta:TA):TS:=λD σ H=>ta σ H λvs H1=>∃v w,vs=[v,w]/\D.nx ((σ.set i (some v)).set j (some w)) H1
theorem aHx {i j:Nat}{x y:Str}{a b:Expr}{ta:TA}{px py pt:Pos}{kt k2 pt2}(hc:X.calm=true)(hN:X.N.Nodup)(hi:X.N[i]?=some x)(hj:X.N[j]?=some y)(hij:i≠j)(hx:X.env.scope.names.lookup x=some .local)(hy:X.env.scope.names.lookup y=some .local)(ha:PA X [a,b] ta)(hw:swappedStores [.Tuple [.Name x px,.Name y py] kt pt] (.Tuple [a,b] k2 pt2) X.env=pure (some [x,y]))(hs:swapsWithSole [.Tuple [.Name x px,.Name y py] kt pt] (.Tuple [a,b] k2 pt2) pos.line X.env=pure false:=by rfl) :
  PS X (.Assign [.Tuple [.Name x px,.Name y py] kt pt] (.Tuple [a,b] k2 pt2) pos) (aJE i j ta):=by
 intro pins s σ H D I h;rw[exec_Assign_arm];refine wpAny_bind (wpAny_standAt ?_);rw[hs];refine wpAny_bind (wpAny_pure ?_);rw[if_neg (by decide)];refine wpAny_bind (Tuple_ (thn (ha _ pins s σ H _ I h) λus s1 ⟨vs,H1,I1,r1,q1⟩=>?_));obtain⟨v,w,e1,q1⟩:=q1;subst e1;obtain⟨u1,u2,rfl,rv,rw'⟩:∃u1 u2,us=[u1,u2]/\RelV v u1/\RelV w u2:=by
  cases r1 with
  |cons p q =>
   cases q with
   |cons p' q' =>
    cases q';exact⟨_,_,rfl,p,p'⟩
 refine wpAny_newObj_type ?_ (by show 2<=sizeLine;decide);have I2:Inv X pins σ H1 { s1 with heap:=s1.heap.push { cls:=.type "tuple",data:=.seq [u1,u2].toArray } }:=I1.kept (t':=s1.toks) λb o e=>Heap.get?_push_of_some _ e;rw[hw];refine wpAny_bind (wpAny_pure ?_);show wpAny (model X.prog X.w) X.A (do rule "assign.swapped-stores";let items <- unpackItems (.ref s1.heap.objs.size) 2 none;assignInOrder [λv=>bindName X.env y v,λv=>bindName X.env x v] items.reverse;pure Flow.next) _ _ _;refine wpAny_bind (wpAny_rule (wpAny_bind (unpackItems_tuple (items:=#[u1,u2]) (I.ok.hd hc) (IsTup.new s1.heap _) λh' hx'=>?_)));have I3:=I2.kept (h':=h') (t':=s1.toks) λb o e=>hx' b o (Nat.ne_of_lt (Heap.lt_size e)) e;show wpAny _ _ (assignInOrder [λv=>bindName X.env y v,λv=>bindName X.env x v] [u2,u1] >>= λ_=>pure Flow.next) _ _ _;refine wpAny_bind (assignInOrder_cons (wpAny_bindName (kF I3 hN hj (.inl hy) rw' (λs2 I4=>?_) (.inr hy))));refine assignInOrder_cons (wpAny_bindName (kF I4 hN hi (.inl hx) rv (λs3 I5=>assignInOrder_nil (wpAny_pure ?_)) (.inr hx)));rw[List.set_comm _ _ (Ne.symm hij)] at I5;exact⟨_,H1,I5,q1⟩
def aJw (i:Nat)(te:TE)(ti:TIp):TS:=λD σ H=>∃x,σ[i]?=some (some x)/\te σ H λy H1=>ti x y H1 λz H2=>D.nx (σ.set i (some z)) H2
theorem aBF {i:Nat}{x:Str}{e:Expr}{te:TE}{op:Operator}{ti:TIp}{pos':Pos}(hN:X.N.Nodup)(hi:X.N[i]?=some x)(hx:Loc X.env.scope x)(he:PE X e te)(ho:PIp X op ti)(hf:X.fn x=true∨X.env.scope.names.lookup x=some .local:=by first|exact .inl rfl|exact .inr rfl|assumption) :
  PS X (.AugAssign (.Name x pos') op e pos) (aJw i te ti):=by
 intro pins s σ H D I h;obtain⟨v,e1,h⟩:=h;obtain⟨m,hn,hl⟩:=I.loc;have vis:Vis X.env.scope x:=by rcases hx with k|k;exact .inl k;exact .inr (.inl k)
 obtain⟨u,r,l⟩:=hl i x v hi e1 vis;refine wpAny_AugAssign_Name ?_;have go:wpAny (model X.prog X.w) X.A (eval e X.env) (λw s₂=>wpAny (model X.prog X.w) X.A (inplaceOp op u w) (λr s₃=>wpAny (model X.prog X.w) X.A (storeName X.env x r) (λ_=>SP X pins D .next) X.xe s₃) X.xe s₂) X.xe s:=by refine thn (he pins s σ H _ I h) λw s1 ⟨y,H1,I1,r1,q1⟩=>?_;refine thn (ho pins s1 σ H1 v y u w _ I1 r r1 q1) λz s2 ⟨zv,H2,I2,r2,q2⟩=>?_;exact kF I2 hN hi hx r2 (λs3 I3=>⟨_,H2,I3,q2⟩) hf
 rcases l with⟨hk,hm⟩|⟨hk,c,hc,hcell⟩
 ·exact wpAny_loadName_local I.ok.kind hk hn hm go
 ·rcases hk with hk|hk
  ·exact wpAny_loadName_cell I.ok.kind hk hc hcell go
  ·rcases hx with k|k
   ·have:X.env.scope.names.lookup x=some .free:=hk;rw[k] at this;cases this
   ·have:X.env.scope.names.lookup x=some .free:=hk;rw[k] at this;cases this
noncomputable def ipI (f:Int->Int->Int):TIp:=λx y H Q=>∃i j,x=.int i/\y=.int j/\Q (.int (f i j)) H
theorem aHF:PIp X .Add (ipI λi j=>i+j):=by intro pins s σ H x y v u Q I r1 r2 h;obtain⟨i,j,e1,e2,q⟩:=h;subst e1;subst e2;obtain⟨t,rfl⟩:=r1;obtain⟨t',rfl⟩:=r2;exact iadd_int ⟨.int _,H,I.tok _,⟨_,rfl⟩,q⟩
end
section
variable {X:Cx}{pos:Pos}
def aFj (c:TT)(tb:TS):TS:=λD σ H=>∃W:Nat->St->Hp->Prop,(∃m,W m σ H)/\∀m σ H,W m σ H ->
 c σ H λb H1=>if b=true then ∃N:St->Hp->Prop,(∀σ' H',N σ' H'->∃m',m'<m/\W m' σ' H')/\tb { D with nx:=N,ct:=N,bk:=D.nx } σ H1 else D.nx σ H1
theorem aC2 {c:Expr}{body:List Stmt}{tc:TT}{tb:TS}(hp:PassesOwn (model X.prog X.w) X.A X.env X.xe)(hc:PT X c tc)(hb:PSs X body tb):PS X (.While c body [] pos) (aFj tc tb):=by
 intro pins s σ H D I h;obtain⟨W,⟨m0,w0⟩,turn⟩:=h;refine wpAny_While (codeAny_whileLoop (λn s'=>∃σ' H',Inv X pins σ' H' s'/\W n σ' H') ?_ m0 ⟨σ,H,I,w0⟩);rintro n s1 ⟨σ1,H1,I1,w1⟩;refine wpAny_passesOwn hp (thn (hc pins s1 σ1 H1 _ I1 (turn n σ1 H1 w1)) λb s2 ⟨H2,I2,q2⟩=>?_);cases b with
 |true =>
  obtain⟨N,hN,q2⟩:=q2;rw[if_pos rfl];refine wpAny_passesOwn hp (thn (hb pins s2 σ1 H2 _ I2 q2) λf s3 q3=>?_);cases f with
  |next =>
   obtain⟨σ3,H3,I3,n3⟩:=q3;obtain⟨m',hm,w3⟩:=hN σ3 H3 n3;exact⟨m',hm,σ3,H3,I3,w3⟩
  |cont =>
   obtain⟨σ3,H3,I3,n3⟩:=q3;obtain⟨m',hm,w3⟩:=hN σ3 H3 n3;exact⟨m',hm,σ3,H3,I3,w3⟩
  |brk=>exact q3
  |ret v=>exact q3
 |false =>
  rw[if_neg Bool.false_ne_true];exact wpAny_execs_nil ⟨σ1,H2,I2,q2⟩
end
structure It where
 go:Nat->Hp->Prop
 yld:Nat->Hp->V->Hp->Prop
 stop:Nat->Hp->Prop
def rZ (X:Cx)(pins:List (Addr×Obj))(H:Hp)(b:Addr):Prop :=
 H b=none/\b≠X.env.locals/\b∉X.fs/\(b∈X.ex∨X.s₀.heap.objs.size<=b)/\(∀x c,X.env.cells.lookup x=some c->c≠b)/\∀p∈X.pn++pins,p.1≠b
theorem Inv.fpOk {X:Cx}{pins:List (Addr×Obj)}{σ:St}{H H':Hp}{s:Shared}{b:Addr}(I:Inv X pins σ H s)(hb:s.heap.objs.size<=b)(hn:H' b=none):rZ X pins H' b:=by
 refine⟨hn,Nat.ne_of_gt (Nat.lt_of_lt_of_le I.lt hb),I.nofs hb,.inr (Nat.le_trans I.sz hb),λx c e z=>?_,λp hp z=>?_⟩
 ·obtain⟨v,q⟩:=I.cell x c e;exact absurd (Nat.lt_of_lt_of_le q.lt (by rw[z];exact hb)) (Nat.lt_irrefl _)
 ·exact absurd (Nat.lt_of_lt_of_le (Heap.lt_size (I.pin p hp).1) (by rw[z];exact hb)) (Nat.lt_irrefl _)
structure aEb (P:Program)(w:World)(K:Frag)(tg:Expr)(J:It)(fp:List Addr)(it:Addr)(tn:Nat->Heap->Prop):Prop where
 mem:it∈fp
 obj:∀i h,tn i h->∀b∈fp,∃o,h.get? b=some o/\∀v,o.data ≠ .cell v
 keep:∀i h h',tn i h->(∀b∈fp,∀o,h.get? b=some o->h'.get? b=some o)->tn i h'
 item:∀(X:Cx),X.prog=P->X.w=w->X.K=K->X.calm=true->∀(i:Nat)(pins:List (Addr×Obj)) (s:Shared) (σ:St) (H:Hp) (E:Value->Shared->Prop),Inv X pins σ H s->(∀b∈fp,rZ X pins H b)->tn i s.heap->J.go i H ->
  wpAny (model P w) X.A (pyNext (.ref it)) (λr s1=>∃u,r=some u /\
   wpAny (model P w) X.A (letOwnedTupleGo tg (.ref it) u) (λ_ s2=>∃x H',Inv X pins σ H' s2/\RelV x u/\J.yld i H x H'/\tn (i+1) s2.heap/\∀b∈fp,H' b=none) E s1) E s
 done:∀(X:Cx),X.prog=P->X.w=w->X.K=K->X.calm=true->∀(i:Nat)(pins:List (Addr×Obj)) (s:Shared) (σ:St) (H:Hp) (E:Value->Shared->Prop),Inv X pins σ H s->(∀b∈fp,rZ X pins H b)->tn i s.heap->J.stop i H ->
  wpAny (model P w) X.A (pyNext (.ref it)) (λr s1=>r=none/\Inv X pins σ H s1) E s
 self:∀(A:Around)(i:Nat) (s:Shared) (Q:Value->Shared->Prop) (E:Value->Shared->Prop),tn i s.heap->Q (.ref it) s->wpAny (model P w) A (pyIter (.ref it)) Q E s
abbrev TI:=St->Hp->(It->Hp->Prop)->Prop
def PIE (X:Cx)(pins:List (Addr×Obj))(σ:St)(tg:Expr)(R:It->Hp->Prop)(itv:Value)(s2:Shared):Prop :=
 ∃(it:Addr)(fp:List Addr) (tn:Nat->Heap->Prop) (J:It) (H':Hp),itv=.ref it/\Inv X pins σ H' s2/\aEb X.prog X.w X.K tg J fp it tn/\tn 0 s2.heap/\(∀b∈fp,rZ X pins H' b)/\R J H'
def PI (X:Cx)(tg iter:Expr)(wi:TI):Prop :=
 ∀(pins:List (Addr×Obj)) (s:Shared) (σ:St) (H:Hp) (R:It->Hp->Prop),Inv X pins σ H s->wi σ H R ->
  wpAny (model X.prog X.w) X.A (eval iter X.env) (λv s1=>wpAny (model X.prog X.w) X.A (pyIter v) (PIE X pins σ tg R) X.xe s1) X.xe s
theorem aEQ {M:Model}{A:Around}{E:Value->Shared->Prop}{s:Shared}{tg:Expr}{it:Addr}{u:Value}{o:Obj}{n:String}{vs:Array Value}{Q:Unit->Shared->Prop}(ho:s.heap.get? it=some o)(hc:o.cls=.type n)(hd:o.data=.fields vs)(hn:["enumerate","zip","dict_itemiterator","dict_reverseitemiterator","odict_iterator","itertools.zip_longest","itertools.pairwise"].contains n=false)(hQ:Q () s):wpAny M A (letOwnedTupleGo tg (.ref it) u) Q E s:=by
 unfold letOwnedTupleGo;cases tg<;>first
  |exact wpAny_pure hQ
  |(cases u<;>first
    |exact wpAny_pure hQ
    |(
      refine wpAny_bind (wpAny_load ho ?_);rw[hc,hd];show wpAny M A (if (["enumerate","zip","dict_itemiterator","dict_reverseitemiterator","odict_iterator","itertools.zip_longest","itertools.pairwise"].contains n&&vs[0]?==some (rawInt _))=true then _ else _) Q E s;rw[if_neg (by intro h;rw[hn,Bool.false_and] at h;cases h)];exact wpAny_pure hQ))
noncomputable def Itl (K:Frag)(a:Addr):It :=
 ⟨λi H=>∃xs x,SqL K H a xs/\xs[i]?=some x,λi H x H'=>H'=H/\∀xs,SqL K H a xs->xs[i]?=some x,λi H=>∃xs,SqL K H a xs/\xs.length<=i⟩
theorem aBj {P:Program}{w:World}{K:Frag}{tg:Expr}(a it:Addr):aEb P w K tg (Itl K a) [it] it (λi h=>h.IsListIter it a i) where
 mem:=by simp
 obj:=λi h st b hb=>by
  have e:b=it:=by simpa using hb
  subst e;obtain⟨o,e,c,d⟩:=st;exact⟨o,e,λv z=>by rw[d] at z;cases z⟩
 keep:=λi h h' st k=>st.at λo e=>k it (by simp) o e
 item:=by intro X hP hw hK hc i pins s σ H E I hf st hg;subst hP hw hK;obtain⟨xs,x,hq,hx⟩:=hg;obtain⟨its,rv,p,hz⟩:=I.list hq;obtain⟨u,hu,ru⟩:=rv.get hx;obtain⟨f0,f1,f2,f3,f4,f5⟩:=hf it (by simp);refine wpAny_pyNext_list_item st p.isList (x:=u) (by simpa using hu) λh' st' sb=>?_;have I1:Inv X pins σ H { s with heap:=h' }:=I.turned (t':=s.toks) (λb o hb e=>(sb.2 b hb).trans e) f0 f1 f3 f4 f5;obtain⟨o,e,c,d⟩:=id st';exact⟨u,rfl,aEQ (s:={ s with heap:=h' }) e c d (by decide) ⟨x,H,I1,ru,⟨rfl,λys hy=>by rw[I.list_inj hy hq];exact hx⟩,st',λb hb=>(hf b hb).1⟩⟩
 done:=by intro X hP hw hK hc i pins s σ H E I hf st hg;subst hP hw hK;obtain⟨xs,hq,hx⟩:=hg;obtain⟨its,rv,p,hz⟩:=I.list hq;obtain⟨f0,f1,f2,f3,f4,f5⟩:=hf it (by simp);have hl:=rv.length;exact wpAny_pyNext_list_end (I.ok.hd hc) st p.isList (by simp;omega) λh' eb=>⟨rfl,I.turned (t':=s.toks) (λb o hb e=>eb b o hb e) f0 f1 f3 f4 f5⟩
 self:=λ_ _ _ _ _ st h=>wpAny_pyIter_listiter st h
section
variable {X:Cx}{tg:Expr}
noncomputable def aIo (K:Frag)(tl:TE):TI:=λσ H R=>tl σ H λx H1=>∃a,x=.ref a/\(∃xs,SqL K H1 a xs)/\R (Itl K a) H1
theorem uS {l:Expr}{tl:TE}(hl:PE X l tl):PI X tg l (aIo X.K tl):=by
 intro pins s σ H R I h;refine thn (hl pins s σ H _ I h) λv s1 ⟨x,H1,I1,r1,q1⟩=>?_;obtain⟨a,e,⟨xs,hq⟩,q⟩:=q1;subst e;cases r1;obtain⟨its,rv,p,hz⟩:=I1.list hq;refine wpAny_pyIter_list p.isList ?_;refine⟨s1.heap.objs.size,[s1.heap.objs.size],_,_,H1,rfl,I1.kept (t':=s1.toks) λb o e=>Heap.get?_push_of_some _ e,aBj a _,⟨_,Heap.get?_push_size _ rfl,rfl,rfl⟩,λb hb=>?_,q⟩;have e:b=s1.heap.objs.size:=by simpa using hb
 subst e;exact I1.fpOk (Nat.le_refl _) (I1.hok.fresh (Nat.le_refl _))
def aI6 (wi:TI)(g:TG)(tb:TS):TS:=λD σ H=>wi σ H λJ H1=>∃W:Nat->Nat->St->Hp->Prop,(∃m,W 0 m σ H1)/\∀i m σ H,W i m σ H ->
 (J.stop i H/\D.nx σ H)∨(J.go i H/\∃N:St->Hp->Prop,(∀σ' H',N σ' H'->∃m',m'<m/\W (i+1) m' σ' H')/\∀x H',J.yld i H x H'->g x σ H' λσ2 H2=>tb { D with nx:=N,ct:=N,bk:=D.nx } σ2 H2)
noncomputable def tP (fp:List Addr)(h:Heap):List (Addr×Obj):=fp.filterMap λb=>(h.get? b).map λo=>(b,o)
theorem jB {fp:List Addr}{h:Heap}{b:Addr}{o:Obj}(hb:b∈fp)(e:h.get? b=some o):(b,o)∈tP fp h:=List.mem_filterMap.mpr ⟨b,hb,by rw[e];rfl⟩
theorem aAZ {fp:List Addr}{h:Heap}{p:Addr×Obj}(hp:p∈tP fp h):p.1∈fp/\h.get? p.1=some p.2:=by
 obtain⟨b,hb,e⟩:=List.mem_filterMap.mp hp;cases q:h.get? b with
 |none=>rw[q] at e;cases e
 |some o =>
  rw[q] at e;have e':(b,o)=p:=Option.some.inj e;subst e';exact⟨hb,q⟩
theorem Inv.pinned {pins:List (Addr×Obj)}{σ:St}{H:Hp}{s:Shared}{fp:List Addr}(I:Inv X pins σ H s)(hf:∀b∈fp,rZ X pins H b)(ho:∀b∈fp,∃o,s.heap.get? b=some o/\∀v,o.data ≠ .cell v):Inv X (pins++tP fp s.heap) σ H s :=
 I.pins_of λp hp=>(List.mem_append.mp hp).elim (λz=>I.pin p (mem_append_right _ z)) λz=>by obtain⟨hb,e⟩:=aAZ z;obtain⟨f0,f1,f2,_⟩:=hf p.1 hb;obtain⟨o,e',d⟩:=ho p.1 hb;rw[e] at e';cases e';exact⟨e,f0,f1,f2,d⟩
theorem Inv.unpinned {pins pl:List (Addr×Obj)}{σ:St}{H:Hp}{s:Shared}(I:Inv X (pins++pl) σ H s):Inv X pins σ H s:=I.pins_of λp hp=>I.pin p (mem_append_right _ (mem_append_left _ hp))
theorem xZ {iter:Expr}{body:List Stmt}{wi:TI}{g:TG}{tb:TS}{pos:Pos}(hp:PassesOwn (model X.prog X.w) X.A X.env X.xe)(hc:X.calm=true)(hi:PI X tg iter wi)(hg:PG X tg g)(hb:PSs X body tb)(hs:∀x,foldedSetIterable iter X.env x=pure x:=by intro _;rfl):PS X (.For tg iter body [] pos) (aI6 wi g tb):=by
 intro pins s σ H D I h;refine wpAny_For (thn (hi pins s σ H _ I h) λv s1 h1=>thn h1 λitv s2 h2=>?_) hs;obtain⟨it,fp,tn,J,H2,e,I2,T,st2,f2,W,⟨m0,w0⟩,turn⟩:=h2;subst e;have stat:∀{H':Hp},(∀b∈fp,H' b=none)->∀b∈fp,rZ X pins H' b:=λhn b hb=>⟨hn b hb,(f2 b hb).2⟩;refine codeAny_forLoop_any (λn s'=>∃i σ' H',Inv X pins σ' H' s'/\tn i s'.heap/\(∀b∈fp,H' b=none)/\W i n σ' H') ?_ m0 ⟨0,σ,H2,I2,st2,λb hb=>(f2 b hb).1,w0⟩;rintro n s3 ⟨i,σ3,H3,I3,st3,fr3,w3⟩;rcases turn i n σ3 H3 w3 with⟨stop,qn⟩|⟨go,N,hN,step⟩
 ·refine wpAny_passesOwn hp (thn (T.done X rfl rfl rfl hc i pins s3 σ3 H3 X.xe I3 (stat fr3) st3 stop) λr s4 ⟨hr,I4⟩=>?_);subst hr;exact wpAny_execs_nil ⟨σ3,H3,I4,qn⟩
 ·refine wpAny_passesOwn hp (thn (T.item X rfl rfl rfl hc i pins s3 σ3 H3 X.xe I3 (stat fr3) st3 go) λr s4 ⟨u,hr,h4⟩=>?_);subst hr;refine wpAny_passesOwn hp (thn h4 λ_ s5 ⟨x,H5,I5,r5,y5,st5,fr5⟩=>?_);have I5':=I5.pinned (stat fr5) (T.obj _ _ st5);refine wpAny_passesOwn hp (thn (hg _ s5 σ3 H5 x u _ I5' r5 (step x H5 y5)) λ_ s6 ⟨σ6,H6,I6,q6⟩=>?_);refine wpAny_passesOwn hp (thn (hb _ s6 σ6 H6 _ I6 q6) λf s7 q7=>?_);have again:∀{σ7:St}{H7:Hp},Inv X (pins++tP fp s5.heap) σ7 H7 s7->N σ7 H7->∃m,m<n/\∃i σ' H',Inv X pins σ' H' s7/\tn i s7.heap/\(∀b∈fp,H' b=none)/\W i m σ' H':=λ{σ7 H7} I7 n7=>by obtain⟨m',hm,w7⟩:=hN σ7 H7 n7;refine⟨m',hm,i+1,σ7,H7,I7.unpinned,T.keep _ _ _ st5 λb hb o e=>(I7.pin (b,o) (mem_append_right _ (mem_append_right _ (jB hb e)))).1,λb hb=>?_,w7⟩;obtain⟨o,e,d⟩:=T.obj _ _ st5 b hb;exact(I7.pin (b,o) (mem_append_right _ (mem_append_right _ (jB hb e)))).2.1
  cases f with
  |next=>obtain⟨σ7,H7,I7,n7⟩:=q7;exact again I7 n7
  |cont=>obtain⟨σ7,H7,I7,n7⟩:=q7;exact again I7 n7
  |brk=>obtain⟨σ7,H7,I7,q7⟩:=q7;exact⟨σ7,H7,I7.unpinned,q7⟩
  |ret v=>obtain⟨x7,σ7,H7,I7,r7,q7⟩:=q7;exact⟨x7,σ7,H7,I7.unpinned,r7,q7⟩
end
abbrev R2:=V->V->Hp->VK->Prop
def OpR (X:Cx)(f:Value->Value->Sem Value)(r:R2):Prop :=
 ∀(pins:List (Addr×Obj)) (s:Shared) (σ:St) (H:Hp) (x y:V) (v u:Value) (Q:VK),Inv X pins σ H s->RelV x v->RelV y u->r x y H Q ->
  wpAny (model X.prog X.w) X.A (f v u) (EP X pins σ Q) X.xe s
def UnR (X:Cx)(f:Value->Sem Value)(r:V->Hp->VK->Prop):Prop :=
 ∀(pins:List (Addr×Obj)) (s:Shared) (σ:St) (H:Hp) (x:V) (v:Value) (Q:VK),Inv X pins σ H s->RelV x v->r x H Q ->
  wpAny (model X.prog X.w) X.A (f v) (EP X pins σ Q) X.xe s
def jO (X:Cx)(f:Value)(r:List V->Hp->VK->Prop):Prop :=
 ∀(pins:List (Addr×Obj)) (s:Shared) (σ:St) (H:Hp) (xs:List V) (us:List Value) (Q:VK),Inv X pins σ H s->bJ xs us->r xs H Q ->
  wpAny (model X.prog X.w) X.A (call f us) (EP X pins σ Q) X.xe s
def tOp (r:R2)(ta tb:TE):TE:=λσ H Q=>ta σ H λx H1=>tb σ H1 λy H2=>r x y H2 Q
def tUn (r:V->Hp->VK->Prop)(ta:TE):TE:=λσ H Q=>ta σ H λx H1=>r x H1 Q
def rI (C:Int->Int->Prop)(g:Int->Int->V):R2:=λx y H Q=>∃i j,x=.int i/\y=.int j/\C i j/\Q (g i j) H
def rI0 (g:Int->Int->V):R2:=λx y H Q=>∃i j,x=.int i/\y=.int j/\Q (g i j) H
def rU (g:Int->V):V->Hp->VK->Prop:=λx H Q=>∃i,x=.int i/\Q (g i) H
section
variable {X:Cx}{a b c:Expr}{ta tb tc:TE}{pos:Pos}
theorem aGn (ha:PE X a ta)(hb:PE X b tb){pins:List (Addr×Obj)}{s:Shared}{σ:St}{H:Hp}{R:V->V->Hp->Prop}(I:Inv X pins σ H s)(h:ta σ H λx H1=>tb σ H1 λy H2=>R x y H2){Q:Value->Shared->Prop}{f:Value->Value->Sem Value}(hf:∀v u s2 x y H2,Inv X pins σ H2 s2->RelV x v->RelV y u->R x y H2->wpAny (model X.prog X.w) X.A (f v u) Q X.xe s2) :
  wpAny (model X.prog X.w) X.A (eval a X.env) (λv s₁=>wpAny (model X.prog X.w) X.A (eval b X.env) (λu s₂=>wpAny (model X.prog X.w) X.A (f v u) Q X.xe s₂) X.xe s₁) X.xe s:=by
 refine thn (ha pins s σ H _ I h) λv s1 ⟨x,H1,I1,r1,q1⟩=>?_;refine thn (hb pins s1 σ H1 _ I1 q1) λu s2 ⟨y,H2,I2,r2,q2⟩=>?_;exact hf v u s2 x y H2 I2 r1 r2 q2
theorem aIj {op:Operator}{r:R2}(ho:OpR X (binaryOp op) r)(ha:PE X a ta)(hb:PE X b tb):PE X (.BinOp a op b pos) (tOp r ta tb):=by intro pins s σ H Q I h;exact wpAny_BinOp (aGn ha hb I h λv u s2 x y H2 I2 rx ry q=>ho pins s2 σ H2 x y v u Q I2 rx ry q)
theorem aH5 {op:UnaryOp}{r:V->Hp->VK->Prop}(ho:UnR X (unaryOp op) r)(ha:PE X a ta):PE X (.UnaryOp op a pos) (tUn r ta):=by intro pins s σ H Q I h;exact UnaryOp_ (thn (ha pins s σ H _ I h) λv s1 ⟨x,H1,I1,r1,q1⟩=>ho pins s1 σ H1 x v Q I1 r1 q1)
theorem opI {f:Value->Value->Sem Value}{C:Int->Int->Prop}{g:Int->Int->Int}(rule:∀(i j:Int)(t u:Tok) (s:Shared) (Q:Value->Shared->Prop) (E:Value->Shared->Prop),C i j->Q (.int (g i j) s.toks) { s with toks:=s.toks+1 }->wpAny (model X.prog X.w) X.A (f (.int i t) (.int j u)) Q E s) :
  OpR X f (rI C λi j=>.int (g i j)):=by
 intro pins s σ H x y v u Q I rx ry h;obtain⟨i,j,rfl,rfl,hc,q⟩:=h;obtain⟨t,rfl⟩:=rx;obtain⟨t',rfl⟩:=ry;exact rule i j t t' s _ _ hc ⟨.int (g i j),H,I.tok _,⟨_,rfl⟩,q⟩
theorem aHK {f:Value->Value->Sem Value}{g:Int->Int->Int}(rule:∀(i j:Int)(t u:Tok) (s:Shared) (Q:Value->Shared->Prop) (E:Value->Shared->Prop),Q (.int (g i j) s.toks) { s with toks:=s.toks+1 }->wpAny (model X.prog X.w) X.A (f (.int i t) (.int j u)) Q E s) :
  OpR X f (rI0 λi j=>.int (g i j)):=by
 intro pins s σ H x y v u Q I rx ry h;obtain⟨i,j,rfl,rfl,q⟩:=h;obtain⟨t,rfl⟩:=rx;obtain⟨t',rfl⟩:=ry;exact rule i j t t' s _ _ ⟨.int (g i j),H,I.tok _,⟨_,rfl⟩,q⟩
theorem aEp {f:Value->Value->Sem Value}{g:Int->Int->Bool}(rule:∀(i j:Int)(t u:Tok) (s:Shared) (Q:Value->Shared->Prop) (E:Value->Shared->Prop),Q (.bool (g i j)) s->wpAny (model X.prog X.w) X.A (f (.int i t) (.int j u)) Q E s) :
  OpR X f (rI0 λi j=>.bl (g i j)):=by
 intro pins s σ H x y v u Q I rx ry h;obtain⟨i,j,rfl,rfl,q⟩:=h;obtain⟨t,rfl⟩:=rx;obtain⟨t',rfl⟩:=ry;exact rule i j t t' s _ _ ⟨.bl (g i j),H,I,rfl,q⟩
def aJa (i j:Int):Prop:=0<=j/\j<=1000000/\i.natAbs<2^64
theorem aGp:OpR X (binaryOp .Add) (rI0 λi j=>.int (i+j)):=aHK λ_ _ _ _ _ _ _ q=>add_int q
theorem aHC:OpR X (binaryOp .Sub) (rI0 λi j=>.int (i-j)):=aHK λ_ _ _ _ _ _ _ q=>sub_int q
theorem aEE:OpR X (binaryOp .Mod) (rI (λ_ j=>j≠0) λi j=>.int (i.fmod j)):=opI λ_ _ _ _ _ _ _ hc q=>mod_int' hc q
theorem aHs:OpR X (binaryOp .Pow) (rI aJa λi j=>.int (i^j.toNat)):=opI λ_ _ _ _ _ _ _ hc q=>pow_int_small hc.1 hc.2.1 hc.2.2 q
theorem unI {f:Value->Sem Value}{g:Int->Int}(rule:∀(i:Int)(t:Tok) (s:Shared) (Q:Value->Shared->Prop) (E:Value->Shared->Prop),Q (.int (g i) s.toks) { s with toks:=s.toks+1 }->wpAny (model X.prog X.w) X.A (f (.int i t)) Q E s) :
  UnR X f (rU λi=>.int (g i)):=by
 intro pins s σ H x v Q I rx h;obtain⟨i,rfl,q⟩:=h;obtain⟨t,rfl⟩:=rx;exact rule i t s _ _ ⟨.int (g i),H,I.tok _,⟨_,rfl⟩,q⟩
theorem aGr:UnR X (unaryOp .USub) (rU λi=>.int (-i)):=unI λ_ _ _ _ _ q=>neg_int q
end
section
variable {X:Cx}{a b c:Expr}{ta tb tc:TE}{pos:Pos}
theorem aIr:OpR X (compareOp .Lt) (rI0 λi j=>.bl (decide (i<j))):=aEp λ_ _ _ _ _ _ _ q=>lt_int q
theorem aHT:OpR X (compareOp .LtE) (rI0 λi j=>.bl (decide (i<=j))):=aEp λ_ _ _ _ _ _ _ q=>le_int q
theorem aHS:OpR X (compareOp .Gt) (rI0 λi j=>.bl (decide (j<i))):=aEp λ_ _ _ _ _ _ _ q=>gt_int q
theorem aHX:OpR X (compareOp .GtE) (rI0 λi j=>.bl (decide (j<=i))):=aEp λ_ _ _ _ _ _ _ q=>ge_int q
theorem tY (b:Expr){op:CmpOp}(h:op ≠ .In:=by decide)(h2:op ≠ .NotIn:=by decide):behindInMarks op b=false:=by
 have e1:(op==CmpOp.In)=false:=by cases op<;>first|rfl|exact absurd rfl h
 have e2:(op==CmpOp.NotIn)=false:=by cases op<;>first|rfl|exact absurd rfl h2
 cases b<;>simp[behindInMarks,e1,e2]
theorem aDG {op:CmpOp}{r:R2}(ho:OpR X (compareOp op) r)(ha:PE X a ta)(hb:PE X b tb)(hm:behindInMarks op b=false):PE X (.Compare a [op] [b] pos) (tOp r ta tb):=by intro pins s σ H Q I h;exact wpAny_Compare1 (aGn ha hb I h λv u s2 x y H2 I2 rx ry q=>ho pins s2 σ H2 x y v u Q I2 rx ry q) hm
def aIR (t:TE):TT:=λσ H Q=>t σ H λx H'=>∃k,x=.bl k/\Q k H'
theorem aD8 {op:CmpOp}{r:R2}(ho:OpR X (compareOp op) r)(ha:PE X a ta)(hb:PE X b tb)(hm:behindInMarks op b=false):PT X (.Compare a [op] [b] pos) (aIR (tOp r ta tb)):=by
 intro pins s σ H Q I h;refine wpAny_isTrue_Compare1 (thn (ha pins s σ H _ I h) λv s1 ⟨x,H1,I1,r1,q1⟩=>thn (hb pins s1 σ H1 _ I1 q1) λu s2 ⟨y,H2,I2,r2,q2⟩ =>
  thn (ho pins s2 σ H2 x y v u _ I2 r1 r2 q2) λc s3 ⟨z,H3,I3,r3,k,e,q3⟩=>?_) hm
 subst e;cases r3;exact wpAny_truthy_bool ⟨H3,I3,q3⟩
theorem vB:(sizeLine:Nat)<2^63:=by rw[sizeLine_eq];decide
theorem pA {x:V}{us:List Value}(r:bJ [x] us):∃u,us=[u]/\RelV x u:=by
 cases r with
 |cons r1 r2=>cases r2;exact⟨_,rfl,r1⟩
theorem aEU {x y:V}{us:List Value}(r:bJ [x,y] us):∃u w',us=[u,w']/\RelV x u/\RelV y w':=by
 cases r with
 |cons r1 r2 =>
  cases r2 with
  |cons r3 r4=>cases r4;exact⟨_,_,rfl,r1,r3⟩
theorem aCd:jO X (.builtin "abs") (λxs H Q=>∃i,xs=[.int i]/\Q (.int (if i<0 then -i else i)) H):=by intro pins s σ H xs us Q I r h;obtain⟨i,rfl,q⟩:=h;obtain⟨u,rfl,t,rfl⟩:=pA r;exact call_abs_int λu tk=>⟨.int (if i<0 then -i else i),H,I.tok _,⟨_,rfl⟩,q⟩
theorem aAO (hc:X.calm = true):jO X (.builtin "max") (λxs H Q=>∃i j,xs=[.int i,.int j]/\Q (.int (if j > i then j else i)) H):=by
 intro pins s σ H xs us Q I r h;obtain⟨i,j,rfl,q⟩:=h;obtain⟨u,w',rfl,⟨t,rfl⟩,⟨t',rfl⟩⟩:=aEU r;refine max_two_ints (I.ok.hd hc) λh' tk k=>⟨_,H,I.kept k,?_,q⟩;by_cases hj:j > i
 ·rw[if_pos hj,if_pos hj];exact⟨_,rfl⟩
 ·rw[if_neg hj,if_neg hj];exact⟨_,rfl⟩
theorem aA2:jO X (.type "int") (λxs H Q=>(∃i,xs=[.int i]/\Q (.int i) H) ∨ ∃k,xs=[.bl k]/\Q (.int (if k then 1 else 0)) H):=by
 intro pins s σ H xs us Q I r h;rcases h with⟨i,rfl,q⟩|⟨k,rfl,q⟩
 ·obtain⟨u,rfl,t,rfl⟩:=pA r;exact call_int_int ⟨.int i,H,I,⟨_,rfl⟩,q⟩
 ·obtain⟨u,rfl,r1⟩:=pA r;cases r1;exact call_int_bool ⟨.int (if k then 1 else 0),H,I.tok _,⟨_,rfl⟩,q⟩
end
structure aFu (h:Heap)(x dx C:Addr)(mA:Str->Option Value):Prop where
 obj:h.get? x=some (instObj C dx)
 ns:h.Ns1 dx mA
 ne:dx≠x
theorem aAR {h:Heap}{dx:Addr}{mA:Str->Option Value}(n:h.Ns1 dx mA):∃od,h.get? dx=some od/\∀name,lookIn name od=some (mA name):=by
 obtain⟨o,es,ep,ho,hd,hk,_,hm⟩:=n;refine⟨o,ho,λname=>?_⟩;have e:=hm name;unfold nsFind findBy at e;rw[<- Array.find?_toList] at e;unfold lookIn;rw[hd];dsimp only;split
 ·rename_i y q;rw[q] at e;exact congrArg some e
 ·rename_i q;rw[q] at e;have a:es.toList.any (·.refKey)=false:=by rw[List.any_eq_false];intro y hy;obtain⟨z,t,hkey⟩:=hk y (Array.mem_toList_iff.mp hy);simp[DictEntry.refKey,hkey]
  have a':¬es.toList.any (·.refKey)=true:=by rw[a];exact Bool.false_ne_true
  rw[if_neg a'];exact congrArg some e
theorem aFu.look {h:Heap}{x dx C:Addr}{mA:Str->Option Value}(I:aFu h x dx C mA):∃od,PySem.W.InstAt h x (instObj C dx) C (some od)/\∀name,lookIn name od=some (mA name) :=
 let ⟨od,ho,hl⟩:=aAR I.ns
 ⟨od,⟨I.obj,rfl,rfl,ho⟩,hl⟩
section
variable {prog:Program}{w:World}{A:Around}{E:Value->Shared->Prop}{s:Shared}{K:Frag}{x dx C f:Addr}{mA:Str->Option Value}{name:Str}{v:Value}
end
section
variable {P:Program}{w:World}{H H':Hp}{h h':Heap}{a C dx:Addr}{fs fs':List (Str×V)}
theorem aEN (hok:HOk P w H h)(e:H a=some (.ins C dx fs)):∃mA,aFu h a dx C mA/\(∀f,aF4 (fs.lookup f) (mA f))/\PySem.Within mA (fs.map (·.1))/\fs.length<=1000/\H dx=some (.own a):=by obtain⟨d,z,ne,ob,mA,n,r,q⟩:=(show dR P w H h a (.ins C dx fs) from hok a _ e);exact⟨mA,⟨ob,n,ne⟩,r,q,z,d⟩
end
structure Cls (K:Frag)(C:Addr):Prop where
 pg:PySem.W.plainGet K C Str.empty=true
 hd:PySem.W.hasDictIn K C=true
 po:PySem.W.plainOver K C=true
 sa:PySem.W.findIn K (.ref C) "__setattr__" = some (some (.builtin "object.__setattr__"))
theorem Cls.get {K:Frag}{C:Addr}(c:Cls K C)(f:Str):PySem.W.plainGet K C f=true:=c.pg
section
variable {X:Cx}{pins:List (Addr×Obj)}{σ:St}{H:Hp}{s:Shared}{a C dx:Addr}{fs:List (Str×V)}{f:Str}{v:V}{A:Around}{E:Value->Shared->Prop}
end
section
variable {X:Cx}{o e value:Expr}{f:Str}{pos pos' tpos:Pos}{ta tv:TE}
end
section
variable {X:Cx}{pins:List (Addr×Obj)}{σ:St}{H:Hp}{s:Shared}{A:Around}{E:Value->Shared->Prop}{Q:Value->Shared->Prop}{c:Value}{b:Bool}
inductive pI (K:Frag) (H:Hp):V->Value->Prop where
 |non:pI K H .non (.type "NoneType")
 |bl (x:Bool):pI K H (.bl x) (.type "bool")
 |int (i:Int):pI K H (.int i) (.type "int")
 |str (x:Str):pI K H (.str x) (.type "str")
 |flt (x:UInt64):pI K H (.flt x) (.type "float")
 |lst {a:Addr} {xs:List V} (e:H a = some (.lst xs)):pI K H (.ref a) (.type "list")
 |frz {a:Addr} {o:Obj} {xs:List V} (e:H a = some (.frz o (.lst xs))):pI K H (.ref a) (.type "list")
 |tup {a:Addr} {xs:List V} (e:H a = some (.tup xs)):pI K H (.ref a) (.type "tuple")
 |dK {a:Addr} {kvs:List (Key×V)} (e:H a = some (.dK kvs)):pI K H (.ref a) (.type "dict")
 |dT {a:Addr} {kvs:List (List Key×V)} (e:H a = some (.dT kvs)):pI K H (.ref a) (.type "dict")
 |ins {a C dx:Addr} {fs:List (Str×V)} (e:H a = some (.ins C dx fs)) (cl:Cls K C) (ha:PySem.W.findIn K (.ref C) "__class__" = some (some (.builtin "object.__class__")))
   (hn:PySem.W.specialIn K (.builtin "object.__class__") "__get__" = some (some (.builtin "getset_descriptor.__get__"))) (htk:PySem.W.takesIn K (.builtin "object.__class__")=some true)
   (hm:PySem.W.mroIn K C (.type "object")=some true):pI K H (.ref a) (.ref C)
theorem iR {x:V}{u t:Value}(I:Inv X pins σ H s)(rx:RelV x u)(ty:pI X.K H x t)(e:kitOne X.K t c=some b)(h:∀tk,Q (.bool b) { s with toks:=tk }) :
  wpAny (model X.prog X.w) A (call (.builtin "isinstance") [u,c]) Q E s:=by
 cases ty with
 |non=>cases (show u=Value.none from rx);exact kia_one PySem.W.kitx_none I.kIn True.intro e (λz=>nomatch z) h
 |bl y=>cases (show u=Value.bool y from rx);exact kia_one PySem.W.kitx_bool I.kIn True.intro e (λz=>nomatch z) h
 |int i=>obtain⟨t,q⟩:=(show ∃t,u=Value.int i t from rx);cases q;exact kia_one PySem.W.kitx_int I.kIn True.intro e (λz=>nomatch z) h
 |str y=>obtain⟨t,q⟩:=(show ∃t,u=Value.str y t from rx);cases q;exact kia_one PySem.W.kitx_str I.kIn True.intro e (λz=>nomatch z) h
 |flt y=>obtain⟨t,q⟩:=(show ∃t,u=Value.float y t from rx);cases q;exact kia_one PySem.W.kitx_float I.kIn True.intro e (λz=>nomatch z) h
 |@lst a xs ea =>
  cases (show u=Value.ref a from rx);obtain⟨_,_,n,_,h1⟩:=(show dR X.prog X.w H s.heap a (.lst xs) from I.hok a _ ea);exact kia_one kitx_list I.kIn ⟨_,h1,rfl⟩ e (λz=>nomatch z) h
 |@frz a ob xs ea =>
  cases (show u=Value.ref a from rx);obtain⟨_,_,_,n,_,h1⟩:=(show dR X.prog X.w H s.heap a (.frz ob (.lst xs)) from I.hok a _ ea);exact kia_one kitx_list I.kIn ⟨_,h1,rfl⟩ e (λz=>nomatch z) h
 |@tup a xs ea =>
  cases (show u=Value.ref a from rx);obtain⟨_,_,_,p⟩:=(show dR X.prog X.w H s.heap a (.tup xs) from I.hok a _ ea);obtain⟨o,h1,h2,_⟩:=p;exact kia_one PySem.W.kitx_tuple I.kIn ⟨o,h1,h2⟩ e (λz=>nomatch z) h
 |@dK a kvs ea =>
  cases (show u=Value.ref a from rx);obtain⟨_,_,vs,_,p⟩:=(show dR X.prog X.w H s.heap a (.dK kvs) from I.hok a _ ea);obtain⟨o,es,ep,h1,h2,_⟩:=p;exact kia_one PySem.W.kitx_dict I.kIn ⟨o,h1,h2.1⟩ e (λz=>nomatch z) h
 |@dT a kvs ea =>
  cases (show u=Value.ref a from rx);obtain⟨_,_,xs,_,o,es,ep,h1,h2,_⟩:=(show dR X.prog X.w H s.heap a (.dT kvs) from I.hok a _ ea);exact kia_one PySem.W.kitx_dict I.kIn ⟨o,h1,h2.1⟩ e (λz=>nomatch z) h
 |@ins a C dx fs ea cl ha hn htk hm =>
  cases (show u=Value.ref a from rx);obtain⟨mA,O,_⟩:=aEN I.hok ea;obtain⟨od,J,_⟩:=O.look;exact kia_one (PySem.W.kitx_own (cl.get _) cl.hd ha hn htk hm) I.kIn J e (λz=>nomatch z) h
end
structure cO (k:Nat)(A:Around):Prop where
 hd:A.handled=none
 dp:A.depth+3*k+5<recursionLimit
 un:A.units+16*k+200<cLine
theorem cO.mono {j k:Nat}{A:Around}(r:cO k A)(h:j<=k):cO j A:=⟨r.hd,by have:=r.dp;omega,by have:=r.un;omega⟩
theorem cO.deeper {k:Nat}{A:Around}(r:cO (k+1) A)(env:Env):cO k (A.deeper env) :=
 ⟨r.hd,by have:=r.dp;show A.depth+1+3*k+5<_;omega,by have:=r.un;show A.units+3+16*k+200<_;omega⟩
theorem cO.depth {k:Nat}{A:Around}(r:cO k A):A.depth<recursionLimit:=by have:=r.dp;omega
theorem cO.units {k:Nat}{A:Around}(r:cO k A):A.units+64<cLine:=by have:=r.un;omega
def aJ4:TA:=λ_ H Q=>Q [] H
def aIZ (ta:TE)(tr:TA):TA:=λσ H Q=>ta σ H λx H1=>tr σ H1 λxs H2=>Q (x::xs) H2
section
variable {X:Cx}{e:Expr}{es:List Expr}{te:TE}{t:TA}{pos:Pos}
theorem yH:PA X [] aJ4:=λ_ _ _ _ H Q I h=>Calls.spliced_nil ⟨[],H,I,.nil,h⟩
theorem nT (ha:PE X e te)(hr:PA X es t)(hs:starEach (e::es) X.env=(false,eval e X.env)::starEach es X.env:=by rfl):PA X (e::es) (aIZ te t):=by intro pos pins s σ H Q I h;rw[hs];show wpAny _ _ (spliced ((false,eval e X.env)::backTo pos (starEach es X.env))) _ _ s;refine Calls.spliced_cons (thn (ha pins s σ H _ I h) λu s1 ⟨x,H1,I1,r1,q1⟩=>?_);exact thn (hr pos pins s1 σ H1 _ I1 q1) λus s2 ⟨xs,H2,I2,r2,q2⟩=>⟨x::xs,H2,I2,.cons r1 r2,q2⟩
def aJW (t:TA):TE:=λσ H Q=>t σ H λxs H1=>xs.length<=sizeLine/\∀p,H1 p=none->Q (.ref p) (upd H1 p (.tup xs))
def aJr (t:TA):TE:=λσ H Q=>t σ H λxs H1=>xs.length<=sizeLine/\∀p,H1 p=none->Q (.ref p) (upd H1 p (.lst xs))
theorem aFo {x1}(h:PA X es t):PE X (.Tuple es x1 pos) (aJW t):=by intro pins s σ H Q I hq;refine wpAny_Tuple_spliced (thn (h pos pins s σ H _ I hq) λus s1 ⟨xs,H1,I1,r,z,q⟩=>⟨by rw[<- r.length];exact z,?_⟩);have hf:H1 s1.heap.objs.size=none:=I1.hok.fresh (Nat.le_refl _);refine⟨.ref s1.heap.objs.size,upd H1 s1.heap.objs.size (.tup xs),I1.laid (t':=s1.toks) (λb u e=>Heap.get?_push_of_some _ e) (Nat.le_refl _) ?_,rfl,q _ hf⟩;exact⟨z,us,r,⟨_,Heap.get?_push_size _ rfl,rfl,_,rfl⟩⟩
theorem aHh (h:PA X es t):PE X (.List es pos) (aJr t):=by intro pins s σ H Q I hq;refine wpAny_List_spliced (thn (h pos pins s σ H _ I hq) λus s1 ⟨xs,H1,I1,r,z,q⟩=>⟨by rw[<- r.length];exact z,?_⟩);have hf:H1 s1.heap.objs.size=none:=I1.hok.fresh (Nat.le_refl _);refine⟨.ref s1.heap.objs.size,upd H1 s1.heap.objs.size (.lst xs),I1.laid (t':=s1.toks) (λb u e=>Heap.get?_push_of_some _ e) (Nat.le_refl _) ?_,rfl,q _ hf⟩;exact⟨z,us,0,r,Heap.get?_push_size _ rfl⟩
end
abbrev Sp:=List V->Hp->VK->XK->Prop
abbrev CXT:=List Env->Hp->Shared->XK->Value->Shared->Prop
structure aBf (P:Program)(w:World)(K:Frag)(mg:Str->Option Value)(base:Heap)(A:Around)(outer:List Env)(s:Shared)(H:Hp):Prop where
 frames:A.frames=some outer
 mod:Mod K mg base
 bs:∀b o,base.get? b=some o->s.heap.get? b=some o/\H b=none
 bsz:base.objs.size<=s.heap.objs.size
 funs:s.heap.FunFrames base outer
 frf:∀b∈frs outer,H b=none
 hok:HOk P w H s.heap
 bare:AllBare s.gens
def CE (outer:List Env)(P:Program)(w:World)(H:Hp)(s:Shared)(Q:VK)(u:Value)(s':Shared):Prop :=
 ∃v H',s'.os=s.os/\AllBare s'.gens/\Un (frs outer) [] H H' s.heap s'.heap/\HOk P w H' s'.heap/\RelV v u/\Q v H'
def CR (CX:CXT)(outer:List Env)(P:Program)(w:World)(H:Hp)(s:Shared)(Q:VK)(E:XK)(r:Result)(s':Shared):Prop :=
 match r with
 |.ok (.ret u)=>CE outer P w H s Q u s'
 |.ok _=>False
 |.error e=>CX outer H s E e s'
structure jP (P:Program)(w:World)(K:Frag)(mg:Str->Option Value)(base:Heap)(CX:CXT)(k:Nat)(f:Addr)(fd:FuncData)(ps:List Str)(sp:Sp):Prop where
 len:∀vs H Q E,sp vs H Q E->vs.length=ps.length
 run:∀(A:Around)(outer:List Env) (s:Shared) (H:Hp) (args:Args) (us:List Value) (vs:List V) (Q:VK) (E:XK),cO k A->aBf P w K mg base A outer s H->BindsTo s fd args (ps.zip us)->bJ vs us->sp vs H Q E ->
  codeAny (model P w) A (.call (.ref f) args) (CR CX outer P w H s Q E) s
theorem jP.mono {P:Program}{w:World}{K:Frag}{mg:Str->Option Value}{base:Heap}{CX:CXT}{j k:Nat}{f:Addr}{fd:FuncData}{ps:List Str}{sp:Sp}(F:jP P w K mg base CX j f fd ps sp)(h:j<=k) :
  jP P w K mg base CX k f fd ps sp:=⟨F.len,λA outer s H args us vs Q E hr=>F.run A outer s H args us vs Q E (hr.mono h)⟩
theorem jP.imp {P:Program}{w:World}{K:Frag}{mg:Str->Option Value}{base:Heap}{CX:CXT}{k:Nat}{f:Addr}{fd:FuncData}{ps:List Str}{sp sp':Sp}(F:jP P w K mg base CX k f fd ps sp)(h:∀vs H Q E,sp' vs H Q E->sp vs H Q E):jP P w K mg base CX k f fd ps sp' :=
 ⟨λvs H Q E q=>F.len vs H Q E (h _ _ _ _ q),λA outer s H args us vs Q E hr he hb hv hs=>F.run A outer s H args us vs Q E hr he hb hv (h _ _ _ _ hs)⟩
section
variable {X:Cx}{pins:List (Addr×Obj)}{σ:St}{H:Hp}{s s':Shared}
theorem Inv.env0 (I:Inv X pins σ H s):aBf X.prog X.w X.K X.mg X.base X.A X.stack s H :=
 ⟨I.ok.frames,I.ok.mod,I.bs,Nat.le_trans I.ok.bsz I.sz,I.stack,I.stkFree,I.hok,I.bare⟩
theorem Inv.after {Q:VK}{u:Value}(I:Inv X pins σ H s)(h:CE X.stack X.prog X.w H s Q u s'):EP X pins σ Q u s':=by obtain⟨v,H',os,bare,un,hok,r,q⟩:=h;obtain⟨hh,g,d,t,os'⟩:=s';obtain rfl:os'=s.os:=os;exact⟨v,H',I.call (h':=hh) (g':=g) (d':=d) (t':=t) (ch:=[]) un hok bare (λb z=>absurd z (by simp)),r,q⟩
end
def aJm (sp:Sp)(dvs:List V)(E:XK)(t:TA):TE:=λσ H Q=>t σ H λvs H1=>sp (vs++dvs) H1 Q E
def pB (K:Frag)(fd:FuncData)(ps:List Str)(ds:List Value):Prop :=
 ∀(s:Shared)(us:List Value),K.In s.heap->(us++ds).length=ps.length->BindsTo s fd ⟨us,[]⟩ (ps.zip (us++ds))
theorem pB.all {K:Frag}{fd:FuncData}{ps:List Str}(h:∀us:List Value,us.length=ps.length->bindArgs fd ⟨us,[]⟩=pure (ps.zip us)):pB K fd ps []:=λs us _ hl=>by rw[append_nil] at hl ⊢;exact .of_eq (h us hl)
def uC (CX:CXT)(X:Cx)(E:XK):Prop:=∀(pins:List (Addr×Obj)) (σ:St) (H:Hp) (s:Shared) (e:Value) (s':Shared),Inv X pins σ H s->CX X.stack H s E e s'->X.xe e s'
section
variable {X:Cx}{CX:CXT}{k:Nat}{f C:Addr}{fd:FuncData}{ps:List Str}{sp:Sp}{dvs:List V}{ds:List Value}{E:XK}{x m:Str}{p pos apos:Pos}{e o:Expr}{es:List Expr}{ta:TE}{t:TA}
theorem aBr {pins:List (Addr×Obj)}{σ:St}{H:Hp}{s:Shared}{Q:VK}{us:List Value}{vs:List V}(F:jP X.prog X.w X.K X.mg X.base CX k f fd ps sp)(hr:cO k X.A)(hb:pB X.K fd ps ds)(hd:bJ dvs ds)(hx:uC CX X E)(I:Inv X pins σ H s)(r:bJ vs us)(h:sp (vs++dvs) H Q E):wpAny (model X.prog X.w) X.A (call (.ref f) us) (EP X pins σ Q) X.xe s:=by
 have r2:bJ (vs++dvs) (us++ds):=r.append hd;have hl:(us++ds).length=ps.length:=by rw[<- r2.length];exact F.len _ _ _ _ h
 refine wpAny_call (codeAny_mono (F.run X.A X.stack s H ⟨us,[]⟩ (us++ds) (vs++dvs) Q E hr I.env0 (hb s us I.kIn hl) r2 h) λr s' hq=>?_);cases r with
 |error e=>exact hx pins σ H s e s' I hq
 |ok fl =>
  cases fl with
  |ret u=>exact I.after hq
  |next=>exact False.elim hq
  |brk=>exact False.elim hq
  |cont=>exact False.elim hq
theorem aDn (F:jP X.prog X.w X.K X.mg X.base CX k f fd ps sp)(hr:cO k X.A)(hg:Gl X x)(hm:X.mg x=some (.ref f))(hk:keepIn X.K (.ref f)=true)(hb:pB X.K fd ps ds)(hd:bJ dvs ds)(hx:uC CX X E)(ha:PA X (e::es) t)(hdb:(x==("__debug__":Str))=false:=by decide)(he:starEach (e::es) X.env=(false,eval e X.env)::starEach es X.env:=by rfl)(hpl:(backTo pos (starEach es X.env)).any (·.1)=false:=by rfl) :
  PE X (.Call (.Name x p) (e::es) [] pos) (aJm sp dvs E t):=by
 intro pins s σ H Q I h;refine wpAny_Call_Name_kw (vC I hg hm ?_ hdb);refine callWith_K (h₀:=X.base) I.ok.mod.kin hk (thn (ha pos pins s σ H _ I h) λus s1 ⟨vs,H1,I1,r,q⟩=>⟨I1.kIn,?_⟩) he hpl;exact aBr F hr hb hd hx I1 r q
end
section
variable {X:Cx}{CX:CXT}{k:Nat}{f C:Addr}{fd:FuncData}{ps ks:List Str}{sp:Sp}{E:XK}{x m:Str}{p pos apos kpos:Pos}{e o:Expr}{es:List Expr}{kws:List Keyword}{te ta:TE}{t tk:TA}{nm:Option Str}
variable {g:List Value->List Value->List Value}{gV:List V->List V->List V}
end
structure aR (N P:List Str)(sc:Scope):Prop where
 kind:sc.kind=.function
 co:sc.isCoroutine=false
 gen:sc.isGenerator=false
 nd:N.Nodup
 pre:N.take P.length=P
 par:∀x∈P,sc.names.lookup x=some .local∨sc.names.lookup x=some .cell
 nofree:∀y∈sc.names,y.2 ≠ .free
theorem tD {kindOf:Str->Option NameKind}{x:Str}:∀{binds:List (Str×Value)}{m:Str->Option Value},(∀v,(x,v)∉binds)->bindL kindOf binds m x=m x
 |[],_,_=>rfl
 |(n,v)::r,m,h=>by
  unfold bindL;rw[tD λw hw=>h w (mem_cons_of_mem _ hw)];split
  ·have:x≠n:=by rintro rfl;exact h v mem_cons_self
   simp[this]
  ·rfl
theorem sV {kindOf:Str->Option NameKind}{x:Str}:∀{binds:List (Str×Value)}{m:Str->Option Value},(∀v,(x,v)∉binds)->bindC kindOf binds m x=m x
 |[],_,_=>rfl
 |(n,v)::r,m,h=>by
  unfold bindC;rw[sV λw hw=>h w (mem_cons_of_mem _ hw)];split
  ·rfl
  ·have:x≠n:=by rintro rfl;exact h v mem_cons_self
   simp[this]
theorem sR {kindOf:Str->Option NameKind}{x:Str}{v:Value}:∀{P:List Str}{vs:List Value} {i:Nat} {m:Str->Option Value},P.Nodup->P[i]?=some x->vs[i]?=some v->kindOf x=some .local ->
  bindL kindOf (P.zip vs) m x=some v
 |[],_,_,_,_,h,_,_=>by simp at h
 |_::_,[],_,_,_,_,h,_=>by simp at h
 |p::P,w::vs,0,m,nd,h1,h2,hk=>by simp at h1 h2;subst h1;subst h2;show bindL kindOf ((p,w)::P.zip vs) m p=_;unfold bindL;rw[tD λv hv=>(List.nodup_cons.mp nd).1 (List.of_mem_zip hv).1,if_pos hk];simp
 |p::P,w::vs,i+1,m,nd,h1,h2,hk=>by show bindL kindOf ((p,w)::P.zip vs) m x=_;unfold bindL;exact sR (i:=i) (List.nodup_cons.mp nd).2 (by simpa using h1) (by simpa using h2) hk
theorem sB {kindOf:Str->Option NameKind}{x:Str}{v:Value}:∀{P:List Str}{vs:List Value} {i:Nat} {m:Str->Option Value},P.Nodup->P[i]?=some x->vs[i]?=some v->kindOf x≠some .local ->
  bindC kindOf (P.zip vs) m x=some v
 |[],_,_,_,_,h,_,_=>by simp at h
 |_::_,[],_,_,_,_,h,_=>by simp at h
 |p::P,w::vs,0,m,nd,h1,h2,hk=>by simp at h1 h2;subst h1;subst h2;show bindC kindOf ((p,w)::P.zip vs) m p=_;unfold bindC;rw[sV λv hv=>(List.nodup_cons.mp nd).1 (List.of_mem_zip hv).1,if_neg hk];simp
 |p::P,w::vs,i+1,m,nd,h1,h2,hk=>by show bindC kindOf ((p,w)::P.zip vs) m x=_;unfold bindC;exact sB (i:=i) (List.nodup_cons.mp nd).2 (by simpa using h1) (by simpa using h2) hk
noncomputable def start (N:List Str)(vs:List V):St:=vs.map some++replicate (N.length-vs.length) none
noncomputable def nZ (CX:CXT)(P:Program)(w:World)(K:Frag)(mg:Str->Option Value)(base:Heap)(N:List Str)(qual:Str)(scope:Scope)(f:Addr)(cd:Value)(A:Around)(outer:List Env)(s:Shared)(H:Hp)(E:XK):Cx where
 prog:=P
 w:=w
 K:=K
 mg:=mg
 base:=base
 A:=A.deeper (envOfC qual scope s.heap.objs.size f cd)
 N:=N
 s₀:=s
 H₀:=H
 env:=envOfC qual scope s.heap.objs.size f cd
 outer:=outer
 stack:=envOfC qual scope s.heap.objs.size f cd::outer
 ex:=[]
 calm:=true
 fn:=λ_=>true
 pn:=[]
 xe:=λe s'=>wpAny (model P w) (A.deeper (envOfC qual scope s.heap.objs.size f cd)) (leaving (envOfC qual scope s.heap.objs.size f cd) e) (λ_ s''=>CX outer H s E e s'') (λe' s''=>CX outer H s E e' s'') s'
theorem xE {sc:Scope}{n:Nat}{x:Str}(h:sc.names.lookup x=some .cell):∃c,(cellsFrom n sc.names []).lookup x=some c:=by have q:=PySem.W.cellsFrom_some sc.names n [] (.inl h);exact Option.isSome_iff_exists.mp q
theorem aAT {CX:CXT}{P:Program}{w:World}{K:Frag}{mg:Str->Option Value}{base:Heap}{N ps:List Str}{qual:Str}{scope:Scope}{f:Addr}{cd:Value}{A:Around}{outer:List Env}{s s1:Shared}{H:Hp}{E:XK}{us:List Value}{vs:List V}(S:aR N ps scope)(hd:A.handled=none)(e0:aBf P w K mg base A outer s H)(hl:vs.length=ps.length)(r:bJ vs us)(x:InCallC s s.heap.objs.size (bindL (envOfC qual scope s.heap.objs.size f cd).kindOf (ps.zip us) λ_=>none) (cellsFrom (s.heap.objs.size+1) scope.names []) (bindC (envOfC qual scope s.heap.objs.size f cd).kindOf (ps.zip us) λ_=>none) s1) :
  Inv (nZ CX P w K mg base N qual scope f cd A outer s H E) [] (start N vs) H s1:=by
 have hpl:ps.length<=N.length:=by have:=congrArg List.length S.pre;rw[length_take] at this;omega
 obtain⟨h1,tk,rfl,hk⟩:=x.done;have noA:∀b:Addr,b∉(nZ CX P w K mg base N qual scope f cd A outer s H E).ex:=λb z=>absurd (show b∈([]:List Addr) from z) (by simp);refine⟨⟨e0.mod,S.kind,rfl,rfl,Nat.le_refl _,λy z c h1 h2=>?_,λy hy=>?_,λy c _ h=>?_,λ_=>hd,Around.frames_deeper e0.frames,.inr ⟨rfl,rfl⟩,λb z=>absurd z (noA b),e0.bs,e0.bsz,λb _ _=>noA b,λb z=>absurd z (noA b),e0.funs,e0.frf⟩,
  rfl,e0.bare,Un.kept hk,⟨_,x.toInCall.ns,λi y v h1 h2 h3=>?_⟩,λy c h=>⟨_,x.cell y c h⟩,e0.hok.fresh (Nat.le_refl _),λy c h=>?_,λp hp=>absurd (show p∈([]:List (Addr×Obj)) from hp) (by simp),e0.hok.kept hk,?_⟩
 ·exact name_of_addr x.apart (PySem.mem_of_lookup h1) (PySem.mem_of_lookup h2)
 ·have hy:scope.names.lookup y=some .cell∨scope.names.lookup y=some .free:=hy;rcases hy with hy|hy
  ·exact xE hy
  ·exact absurd rfl (S.nofree _ (PySem.mem_of_lookup hy))
 ·exact Nat.le_of_lt (x.above y c (PySem.mem_of_lookup h))
 ·have hi:i<vs.length:=by
   unfold start at h2;by_cases hi:i<vs.length
   ·exact hi
   ·rw[List.getElem?_append_right (by simpa using hi)] at h2;rw[List.getElem?_replicate] at h2;split at h2<;>cases h2
  have ha:vs[i]?=some v:=by
   unfold start at h2;rw[List.getElem?_append_left (by simpa using hi),getElem?_map] at h2;cases e:vs[i]? with
   |none=>rw[e] at h2;cases h2
   |some a=>rw[e] at h2;cases h2;rfl
  obtain⟨u,hu,rv⟩:=r.get ha;have hp:ps[i]?=some y:=by rw[<- S.pre,List.getElem?_take_of_lt (by omega)];exact h1
  have ndP:ps.Nodup:=by rw[<- S.pre];exact S.nd.sublist (List.take_sublist _ _)
  refine⟨u,rv,?_⟩;rcases S.par y (mem_of_getElem? hp) with k|k
  ·exact .inl ⟨k,sR ndP hp hu k⟩
  ·obtain⟨c,e⟩:=xE (n:=s.heap.objs.size+1) k;refine .inr ⟨.inl k,c,e,?_⟩;have q:=x.cell y c e;rw[sB ndP hp hu (by show scope.names.lookup y≠_;rw[k];decide)] at q;exact q
 ·exact e0.hok.fresh (Nat.le_of_lt (x.above y c (PySem.mem_of_lookup h)))
 ·unfold start;show _=N.length;rw[length_append,length_map,List.length_replicate];omega
theorem aE1 {CX:CXT}{P:Program}{w:World}{K:Frag}{mg:Str->Option Value}{base:Heap}{k:Nat}{f:Addr}{name qual:Str}{params:Arguments}{body:List Stmt}{scope:Scope}{dV kV doc pm cdv ct oc:Value}{an od:Option Addr}{osl:Array (Option Value)}{N ps:List Str}{sp:Sp}(lk:K.lookup f=some ⟨oc,od,.func (fnOf name qual params body scope dV kV doc pm an cdv ct),osl⟩)(hcd:codeIn K cdv qual=true)(S:aR N ps scope)(len:∀vs H Q E,sp vs H Q E->vs.length=ps.length)(hbody:∀(A:Around)(outer:List Env) (s:Shared) (H:Hp) (vs:List V) (Q:VK) (E:XK),cO k (A.deeper (envOfC qual scope s.heap.objs.size f cdv))->sp vs H Q E ->
   ∃t,PSs (nZ CX P w K mg base N qual scope f cdv A outer s H E) body t/\t { nx:=λ_ H'=>Q .non H',rt:=Q } (start N vs) H) :
  jP P w K mg base CX (k+1) f (fnOf name qual params body scope dV kV doc pm an cdv ct) ps sp:=by
 refine⟨len,λA outer s H args us vs Q E hr e0 hb r hsp=>?_⟩;have hl:=len _ _ _ _ hsp;have KX:K.In s.heap:=e0.mod.kin.keeps λb o e=>(e0.bs b o e).1;have lim:s.heap.NoLimit:=e0.mod.nolimit.keeps λb o e=>(e0.bs b o e).1;have hkind:∀y∈ps.zip us,scope.names.lookup y.1=some .local∨(scope.names.lookup y.1=some .cell/\((cellsFrom (s.heap.objs.size+1) scope.names []).lookup y.1).isSome=true):=λ⟨n,v⟩ hy=>by
  rcases S.par n (List.of_mem_zip hy).1 with q|q
  ·exact .inl q
  ·exact .inr ⟨q,PySem.W.cellsFrom_some _ _ _ (.inl q)⟩
 refine codeAny_call_function hr.depth (KX _ _ lk) rfl S.co S.gen rfl (PySem.W.codeRec_of KX hcd) (hb _ _ _ _ ?_);refine wpAny_newFunctionEnv_cells S.kind hkind λenv he s1 x=>?_;subst he;refine⟨lim.keeps x.toInCall.keep,codeAny_func ?_⟩;obtain⟨t,ht,hq⟩:=hbody A outer s H vs Q E (hr.deeper _) hsp;have I:Inv (nZ CX P w K mg base N qual scope f cdv A outer s H E) [] (start N vs) H s1:=aAT S hr.hd e0 hl r x;refine wpAny_mono (ht [] s1 (start N vs) H _ I hq) (λfl s' hs=>?_) λe s' hs=>hs;have fin:∀{σ':St}{H':Hp} {v:V} {u:Value},Inv (nZ CX P w K mg base N qual scope f cdv A outer s H E) [] σ' H' s'->RelV v u->Q v H'->CE outer P w H s Q u s' :=
  λ{σ' H' v u} J rv q=>⟨v,H',J.os,J.bare,J.base,J.hok,rv,q⟩
 cases fl with
 |ret u =>
  obtain⟨v,σ',H',J,rv,q⟩:=hs;exact fin J rv q
 |next =>
  obtain⟨σ',H',J,q⟩:=hs;exact fin (v:=V.non) (u:=Value.none) J rfl q
 |brk =>
  obtain⟨_,_,_,q⟩:=hs;exact False.elim q
 |cont =>
  obtain⟨_,_,_,q⟩:=hs;exact False.elim q
section
variable {X:Cx}{x:Str}{p pos:Pos}{e:Expr}{es:List Expr}{t:TA}{id T:String}{r:List V->Hp->VK->Prop}
def tCB (r:List V->Hp->VK->Prop)(t:TA):TE:=λσ H Q=>t σ H λvs H1=>r vs H1 Q
theorem vY (hc:jO X (.builtin id) r)(hg:Gl X x)(hm:X.mg x = none)(hv:bootBuiltins x = some (.builtin id))(ha:PA X (e :: es) t)(hn:x ≠ "__name__":=by decide)(hdb:(x==("__debug__":Str))=false:=by decide)(he:starEach (e::es) X.env=(false,eval e X.env)::starEach es X.env:=by rfl)(hpl:(backTo pos (starEach es X.env)).any (·.1)=false:=by rfl):PE X (.Call (.Name x p) (e::es) [] pos) (tCB r t):=by intro pins s σ H Q I h;refine wpAny_Call_Name_kw (tT I hg hm hv ?_ hn hdb);exact PyProof.Rows.callWith_builtin1 (thn (ha pos pins s σ H _ I h) λus s1 ⟨vs,H1,I1,r1,q1⟩=>hc pins s1 σ H1 vs us Q I1 r1 q1) he hpl
theorem aBc (hc:jO X (.type T) r)(hg:Gl X x)(hm:X.mg x = none)(hv:bootBuiltins x = some (.type T))(ha:PA X (e :: es) t)(hn:x ≠ "__name__":=by decide)(hdb:(x==("__debug__":Str))=false:=by decide)(he:starEach (e::es) X.env=(false,eval e X.env)::starEach es X.env:=by rfl)(hpl:(backTo pos (starEach es X.env)).any (·.1)=false:=by rfl):PE X (.Call (.Name x p) (e::es) [] pos) (tCB r t):=by intro pins s σ H Q I h;refine wpAny_Call_Name_kw (tT I hg hm hv ?_ hn hdb);exact PyProof.Rows.callWith_type1 (thn (ha pos pins s σ H _ I h) λus s1 ⟨vs,H1,I1,r1,q1⟩=>hc pins s1 σ H1 vs us Q I1 r1 q1) he hpl
end
end L2
namespace HT
open PySem PyProof.Rows
theorem rcLt_int (A:Around)(s:Shared)(a:Int)(t:Tok)(c:Int)(u:Tok)(prog:Program)(w:World)(E:Value->Shared->Prop)(Q:Value->Shared->Prop)(h:Q (.bool (decide (a<c))) s) :
  wpAny (model prog w) A (richCompare .Lt (.int a t) (.int c u)) Q E s :=
 (PyProof.Rows.lt_int h:wpAny (model prog w) A (compareOp .Lt (.int a t) (.int c u)) Q E s)
section
open PySem.SeqAt
open PySem.AutoSeq1 (wpAny_loadPart')
open PySem.MeetsSeq PySem.MeetsSeq2 PySem.MeetsSeq3
end
section
variable {prog:Program}{w:World}{A:Around}{E:Value->Shared->Prop}{s:Shared}
theorem cat_tup {t b:Addr}{vs ws:List Value}{Q:Value->Shared->Prop}(ht:IsTup s.heap t vs.toArray)(hb:IsTup s.heap b ws.toArray)(hv:vs≠[])(h1:ws = []->Q (.ref t) s)(h2:ws≠[]->Q (.ref s.heap.objs.size) { s with heap:=s.heap.push { cls:=.type "tuple",data:=.seq (vs++ws).toArray } })(hsz:vs.length+ws.length<=sizeLine):wpAny (model prog w) A (binaryOp .Add (.ref t) (.ref b)) Q E s:=by
 obtain⟨⟨cls,dd,data,sl⟩,ho,hc,n,hd⟩:=id ht;obtain⟨⟨cls2,dd2,data2,sl2⟩,ho2,hc2,n2,hd2⟩:=id hb;simp only at hc hd hc2 hd2;subst hc hd hc2 hd2;have e:vs.toArray++ws.toArray=(vs++ws).toArray:=by simp
 by_cases hw:ws=[]
 ·exact concat_meets ⟨_,ho,rfl⟩ ⟨_,ho2,rfl⟩ noFill_tuple_add seq_tuple_add PySem.F.slot_tuple_add PySem.F.entry_tuple_add (PySem.F.args_tuple_add_2 _ _)
   (tuple_addW1 t b vs.toArray ws.toArray n n2 dd dd2 sl sl2 (by simpa using hv) (by simp[hw])) ⟨ho,ho2,h1 hw⟩
 ·refine concat_meets ⟨_,ho,rfl⟩ ⟨_,ho2,rfl⟩ noFill_tuple_add seq_tuple_add PySem.F.slot_tuple_add PySem.F.entry_tuple_add (PySem.F.args_tuple_add_2 _ _)
   (tuple_addW2 t b vs.toArray ws.toArray n n2 dd dd2 sl sl2 (by simpa using hv) (by simpa using hw) (by rw[size_toArray,size_toArray];exact hsz)) ⟨ho,ho2,?_⟩
  rw[e];exact h2 hw
noncomputable def sIx (n d:Nat):Option Int->Nat
 |none=>d
 |some v=>if v<0 then (v+(n:Int)).toNat else min v.toNat n
theorem sIx_none (n d:Nat):sIx n d none=d:=rfl
theorem sIx_nat (n d k:Nat):sIx n d (some (k:Int))=min k n:=by show(if (k:Int)<0 then ((k:Int)+(n:Int)).toNat else min (k:Int).toNat n)=min k n;rw[if_neg (by omega),Int.toNat_natCast]
end
end HT
namespace L2
open PySem PySem.Spec PyProof.Rows
abbrev TO:=St->Hp->(Option Int->Hp->Prop)->Prop
def PO (X:Cx)(e:Option Expr)(t:TO):Prop :=
 ∀(pins:List (Addr×Obj)) (s:Shared) (σ:St) (H:Hp) (Q:Option Int->Hp->Prop),Inv X pins σ H s->t σ H Q ->
  wpAny (model X.prog X.w) X.A (evalPart e X.env) (λu s'=>∃o H',Inv X pins σ H' s'/\IsPart u o/\Q o H') X.xe s
def aD6:TO:=λ_ H Q=>Q none H
def aI4 (t:TE):TO:=λσ H Q=>t σ H λx H1=>∃i,x=.int i/\Q (some i) H1
section
variable {X:Cx}{e:Expr}{te:TE}{lo hi:Option Expr}{tl th:TO}{pos p2:Pos}
theorem aDT:PO X none aD6:=by intro pins s σ H Q I h;rw[evalPart_none];exact wpAny_pure ⟨none,H,I,.none,h⟩
theorem aD5 (h:PE X e te):PO X (some e) (aI4 te):=by intro pins s σ H Q I hw;rw[evalPart_some];refine thn (h pins s σ H _ I hw) λu s1 ⟨x,H1,I1,r1,q1⟩=>?_;obtain⟨i,rfl,q⟩:=q1;obtain⟨t,rfl⟩:=r1;exact⟨some i,H1,I1,.int i t,q⟩
def SlR (X:Cx)(r:V->Option Int->Option Int->Hp->VK->Prop):Prop :=
 ∀(pins:List (Addr×Obj)) (s:Shared) (σ:St) (H:Hp) (x:V) (v vl vu:Value) (lo hi:Option Int) (sl:Addr) (Q:VK),Inv X pins σ H s->RelV x v->s.heap.IsSliceOf sl vl vu .none->IsPart vl lo->IsPart vu hi->r x lo hi H Q ->
  ∃T id,typeLookup (.type T) "__getitem__"=pure (some (.builtin id))/\s.TypeIs v T/\wpAny (model X.prog X.w) X.A (getItem v (.ref sl)) (EP X pins σ Q) X.xe s
def tSl (r:V->Option Int->Option Int->Hp->VK->Prop)(te:TE)(tl th:TO):TE:=λσ H Q=>te σ H λx H1=>tl σ H1 λl H2=>th σ H2 λu H3=>r x l u H3 Q
theorem aB3 {r:V->Option Int->Option Int->Hp->VK->Prop}(hr:SlR X r)(he:PE X e te)(hl:PO X lo tl)(hu:PO X hi th):PE X (.Subscript e (.Slice lo hi none p2) pos) (tSl r te tl th):=by intro pins s σ H Q I h;refine Subscript_ (thn (he pins s σ H _ I h) λv s1 ⟨x,H1,I1,r1,q1⟩=>?_);refine wpAny_Slice (thn (hl pins s1 σ H1 _ I1 q1) λvl s2 ⟨l,H2,I2,pl,q2⟩=>thn (hu pins s2 σ H2 _ I2 q2) λvu s3 ⟨u,H3,I3,pu,q3⟩=>?_);rw[evalPart_none];refine wpAny_pure ?_;have I4:Inv X pins σ H3 { s3 with heap:=s3.heap.push { cls:=.type "slice",data:=.fields #[vl,vu,.none] } }:=I3.kept (t':=s3.toks) λb ob q=>Heap.get?_push_of_some _ q;obtain⟨T,id,hT,ht,hg⟩:=hr pins { s3 with heap:=s3.heap.push { cls:=.type "slice",data:=.fields #[vl,vu,.none] } } σ H3 x v vl vu l u s3.heap.objs.size Q I4 r1 (Heap.IsSliceOf.new ..) pl pu q3;show wpAny (model X.prog X.w) X.A (subscriptTail e (.Slice lo hi none p2) v (.ref s3.heap.objs.size)) (EP X pins σ Q) X.xe { s3 with heap:=s3.heap.push { cls:=.type "slice",data:=.fields #[vl,vu,.none] } };exact tail_any (ops:=[.ref s3.heap.objs.size,v]) ht hT hg (by with_unfolding_all rfl)
noncomputable def aA8 (xs:List V)(lo hi:Option Int):List V:=(xs.drop (HT.sIx xs.length 0 lo)).take (HT.sIx xs.length xs.length hi-HT.sIx xs.length 0 lo)
theorem xM (xs:List V)(lo hi:Option Int):(aA8 xs lo hi).length<=xs.length:=by unfold aA8;rw[length_take,length_drop];omega
def aIy (K:Frag):R2:=λx y H Q=>∃a b xs ys,x=.ref a/\y=.ref b/\SqT K H a xs/\SqT K H b ys/\xs≠[]/\xs.length+ys.length<=sizeLine /\
 (ys=[]->Q (.ref a) H)/\(ys≠[]->∀p,H p=none->Q (.ref p) (upd H p (.tup (xs++ys))))
theorem bJ.nil_iff {xs:List V}{us:List Value}(r:bJ xs us):us=[]↔xs=[]:=by
 cases r with
 |nil=>simp
 |cons _ _=>simp
theorem aDt:OpR X (binaryOp .Add) (aIy X.K):=by intro pins s σ H x y v u Q I rx ry h;obtain⟨a,b,xs,ys,rfl,rfl,ha,hb,hx,hz,q1,q2⟩:=h;cases rx;cases ry;obtain⟨its,r1,p1,_⟩:=I.tuple ha;obtain⟨its2,r2,p2,_⟩:=I.tuple hb;refine HT.cat_tup p1 p2 (λz=>hx (r1.nil_iff.mp z)) (λz=>⟨.ref a,H,I,rfl,q1 (r2.nil_iff.mp z)⟩) (λz=>?_) (by rw[<- r1.length,<- r2.length];exact hz);refine⟨.ref s.heap.objs.size,_,I.laid (t':=s.toks) (o:=.tup (xs++ys)) (λb ob q=>Heap.get?_push_of_some _ q) (Nat.le_refl _) ?_,rfl,q2 (λw=>z (r2.nil_iff.mpr w)) _ (I.hok.fresh (Nat.le_refl _))⟩;exact⟨by rw[length_append];exact hz,_,r1.append r2,IsTup.new _ _⟩
end
noncomputable def ixN (n:Nat)(i:Int):Option Nat:=if 0<=i then (if i<n then some i.toNat else none) else if -(n:Int)<=i then some (i+n).toNat else none
noncomputable def atI {α:Type}(xs:List α)(i:Int):Option α:=(ixN xs.length i).bind λj=>xs[j]?
theorem aAn {n:Nat}{i:Int}{j:Nat}(h:ixN n i=some j):seqIndex? i n=some j/\j<n/\-(n:Int)<=i/\i<n:=by
 unfold ixN at h;by_cases h0:0<=i
 ·rw[if_pos h0] at h;by_cases h1:i<n
  ·rw[if_pos h1] at h;have e:i.toNat=j:=Option.some.inj h;exact⟨by rw[seqIndex_of h0 h1,e],by omega,by omega,h1⟩
  ·rw[if_neg h1] at h;cases h
 ·rw[if_neg h0] at h;by_cases h1:-(n:Int)<=i
  ·rw[if_pos h1] at h;have e:(i+n).toNat=j:=Option.some.inj h;exact⟨by rw[seqIndex_neg (by omega) h1,e],by omega,h1,by omega⟩
  ·rw[if_neg h1] at h;cases h
theorem zT {α:Type}{xs:List α}{i:Int}{v:α}(h:atI xs i=some v):∃j,seqIndex? i xs.length=some j/\xs[j]?=some v/\j<xs.length/\-(xs.length:Int)<=i/\i<xs.length:=by
 unfold atI at h;cases e:ixN xs.length i with
 |none=>rw[e] at h;cases h
 |some j =>
  rw[e] at h;obtain⟨h1,h2,h3,h4⟩:=aAn e;exact⟨j,h1,h,h2,h3,h4⟩
theorem mT {α:Type}{xs:List α}{j:Nat}{v:α}(h:xs[j]?=some v):atI xs (j:Int)=some v:=by
 have hj:j<xs.length:=(List.getElem?_eq_some_iff.mp h).1;have e:ixN xs.length (j:Int)=some j:=by unfold ixN;rw[if_pos (by omega),if_pos (by omega)];simp
 unfold atI;rw[e];exact h
def mS (b:Expr):Prop:=∀o i,subscripted b false o i=operate [o,i] (getItem o i)
def IxR (X:Cx)(r:R2):Prop :=
 ∀(value slice:Expr)(pins:List (Addr×Obj)) (s:Shared) (σ:St) (H:Hp) (x y:V) (v u:Value) (Q:VK),Inv X pins σ H s->RelV x v->RelV y u->r x y H Q ->
  subscripted slice false v u=operate [v,u] (getItem v u)->wpAny (model X.prog X.w) X.A (subscriptTail value slice v u) (EP X pins σ Q) X.xe s
def MtR (X:Cx)(id:String)(r:V->List V->Hp->VK->Prop):Prop :=
 ∀(pins:List (Addr×Obj)) (s:Shared) (σ:St) (H:Hp) (x:V) (xs:List V) (v:Value) (us:List Value) (Q:VK),Inv X pins σ H s->RelV x v->bJ xs us->r x xs H Q ->
  wpAny (model X.prog X.w) X.A (call (.builtin id) (v::us)) (EP X pins σ Q) X.xe s
section
variable {X:Cx}{a b:Expr}{ta tb:TE}{pos:Pos}
theorem aIg {r:R2}(hr:IxR X r)(ha:PE X a ta)(hb:PE X b tb)(hs:mS b):PE X (.Subscript a b pos) (tOp r ta tb):=by intro pins s σ H Q I h;exact Subscript_ (aGn ha hb I h λv u s2 x y H2 I2 rx ry q=>hr a b pins s2 σ H2 x y v u Q I2 rx ry q (hs _ _))
def aJZ (K:Frag):R2:=λx y H Q=>∃p xs i v,x=.ref p/\y=.int i/\SqL K H p xs/\atI xs i=some v/\Q v H
def aJM (K:Frag):R2:=λx y H Q=>∃p xs i v,x=.ref p/\y=.int i/\SqT K H p xs/\atI xs i=some v/\Q v H
theorem aAt:IxR X (aJZ X.K):=by
 intro value slice pins s σ H x y v u Q I rx ry h hs;obtain⟨p,xs,i,z,rfl,rfl,hq,he,q⟩:=h;cases rx;obtain⟨t,rfl⟩:=ry;obtain⟨its,r,pl,hz⟩:=I.list hq;obtain⟨j,h1,h2,h3,h4,h5⟩:=zT he;obtain⟨w,ew,rw'⟩:=r.get h2;have hl:=r.length;have hn:=vB;have fin:EP X pins σ Q w s:=⟨z,H,I,rw',q⟩;by_cases h0:0<=i
 ·have hj:i.toNat=j:=by rw[seqIndex_of h0 h5] at h1;exact Option.some.inj h1
  exact item_listR pl.isList h0 (by omega) (by rw[hj];simpa using ew) fin hs
 ·have hj:(i+(its.toArray.size:Int)).toNat=j:=by rw[seqIndex_neg (by omega) h4] at h1;rw[size_toArray,<- hl];exact Option.some.inj h1
  exact subscriptTail_builtinR (x:=w) pl.isList.typeIs slot_list_getitem.lookup
   (wpAny_getItem_list_neg (Q:=λr s'=>r=w/\EP X pins σ Q r s') pl.isList (by omega) (by rw[size_toArray]<;>omega) (by omega) (by rw[hj];simpa using ew) ⟨rfl,fin⟩) hs
theorem aGm:IxR X (aJM X.K):=by
 intro value slice pins s σ H x y v u Q I rx ry h hs;obtain⟨p,xs,i,z,rfl,rfl,hq,he,q⟩:=h;cases rx;obtain⟨t,rfl⟩:=ry;obtain⟨its,r,pl,hz⟩:=I.tuple hq;obtain⟨j,h1,h2,h3,h4,h5⟩:=zT he;obtain⟨w,ew,rw'⟩:=r.get h2;have hl:=r.length;have hn:=vB;have fin:EP X pins σ Q w s:=⟨z,H,I,rw',q⟩;exact subscriptTail_builtinR (x:=w) pl.typeIs slot_tuple_getitem.lookup
  (getItem_tuple (j:=j) (Q:=λr s'=>r=w/\EP X pins σ Q r s') pl (by omega) (by omega) (by rw[size_toArray,<- hl];exact h1) (by simpa using ew) ⟨rfl,fin⟩) hs
theorem yJ (its:List Value)(n j:Nat)(u:Value):Obj.mapSeq (·.setIfInBounds j u) { cls:=.type "list",data:=.seq its.toArray n } = { cls:=.type "list",data:=.seq (its.set j u).toArray n }:=by simp[Obj.mapSeq]
theorem Inv.lst {pins:List (Addr×Obj)}{σ:St}{H:Hp}{s:Shared}{p:Addr}{xs:List V}(I:Inv X pins σ H s)(h:H p=some (.lst xs)) :
  ∃(its:List Value)(n:Nat),bJ xs its/\s.heap.get? p = some { cls:=.type "list",data:=.seq its.toArray n }/\xs.length<=sizeLine:=by
 obtain⟨z,its,n,r,e⟩:=I.hok p _ h;exact⟨its,n,r,e,z⟩
theorem Inv.lstUpd {pins:List (Addr×Obj)}{σ:St}{H:Hp}{s:Shared}{p:Addr}{xs ys:List V}{its its':List Value}{n n':Nat}{f:Obj->Obj}(I:Inv X pins σ H s)(h:H p=some (.lst xs))(ho:s.heap.get? p = some { cls:=.type "list",data:=.seq its.toArray n })(hf:f { cls:=.type "list",data:=.seq its.toArray n } = { cls:=.type "list",data:=.seq its'.toArray n' })(r:bJ ys its')(hz:ys.length<=sizeLine)(t:Nat) :
  Inv X pins σ (upd H p (.lst ys)) { s with heap:=s.heap.update p f,toks:=t }:=by
 have e:(s.heap.update p f).get? p = some { cls:=.type "list",data:=.seq its'.toArray n' }:=by rw[Heap.get?_update_self f ho (by rw[hf]<;>rfl),hf]
 refine I.write (x:=p) (e:=p) (by rw[h];trivial) (.inl rfl) (λb u hb q=>(Heap.get?_update_other _ _ (Ne.symm hb)).trans q) ⟨_,e⟩ ?_;exact⟨hz,its',n',r,e⟩
def aHW:V->V->V->Hp->(Hp->Prop)->Prop:=λo i v H Q=>∃p xs k j,o=.ref p/\i=.int k/\H p=some (.lst xs)/\ixN xs.length k=some j/\Q (upd H p (.lst (xs.set j v)))
theorem aCz:aGo X aHW:=by
 intro pins s σ H o i v ov iv u Q I ro ri rv h;obtain⟨p,xs,k,j,rfl,rfl,hp,hj,q⟩:=h;cases ro;obtain⟨t,rfl⟩:=ri;obtain⟨its,n,r,ho,hz⟩:=I.lst hp;obtain⟨h1,h2,h3,h4⟩:=aAn hj;have hl:=r.length;have hn:=vB;have I':Inv X pins σ (upd H p (.lst (xs.set j v))) { s with heap:=s.heap.update p (Obj.mapSeq (·.setIfInBounds j u)) } :=
  I.lstUpd hp ho (yJ its n j u) (r.set rv j) (by rw[List.length_set];exact hz) s.toks
 by_cases h0:0<=k
 ·have hk:k.toNat=j:=by rw[seqIndex_of h0 h4] at h1;exact Option.some.inj h1
  exact PySem.W.ki_setAt ho h0 (by omega) (by rw[size_toArray,<- hl];exact h4) (by rw[hk];exact⟨_,I',q⟩)
 ·have hk:(k+(its.toArray.size:Int)).toNat=j:=by rw[seqIndex_neg (by omega) h3] at h1;rw[size_toArray,<- hl];exact Option.some.inj h1
  exact PySem.W.ki_setBack ho (by omega) (by rw[size_toArray,<- hl];exact h3) (by omega) (by rw[hk];exact⟨_,I',q⟩)
theorem uE (lo hi:Option Int)(n:Nat):(sliceBounds lo hi none n).1=((HT.sIx n 0 lo:Nat):Int)/\(sliceBounds lo hi none n).2.1=((HT.sIx n n hi:Nat):Int)/\(sliceBounds lo hi none n).2.2=1:=by
 refine⟨?_,?_,rfl⟩
 ·cases lo with
  |none=>simp[sliceBounds,HT.sIx]
  |some i =>
   simp only[sliceBounds,HT.sIx,Option.getD_none,show(1:Int) > 0 by decide,if_true];by_cases h:i<0
   ·simp only[h,if_true]<;>omega
   ·simp only[h,if_false]<;>omega
 ·cases hi with
  |none=>simp[sliceBounds,HT.sIx]
  |some i =>
   simp only[sliceBounds,HT.sIx,Option.getD_none,show(1:Int) > 0 by decide,if_true];by_cases h:i<0
   ·simp only[h,if_true]<;>omega
   ·simp only[h,if_false]<;>omega
theorem rY (its:List Value)(lo hi:Option Int):slicePick its.toArray lo hi none=((its.drop (HT.sIx its.length 0 lo)).take (HT.sIx its.length its.length hi-HT.sIx its.length 0 lo)).toArray:=by obtain⟨h1,h2,h3⟩:=uE lo hi its.toArray.size;unfold slicePick;rw[h1,h2,h3];simp only[sliceRange_one,pick_run,size_toArray]<;>rfl
def aJx (K:Frag):V->Option Int->Option Int->Hp->VK->Prop:=λx lo hi H Q=>∃a xs,x=.ref a/\SqL K H a xs/\∀p,H p=none->Q (.ref p) (upd H p (.lst (aA8 xs lo hi)))
theorem aDI:SlR X (aJx X.K):=by intro pins s σ H x v vl vu lo hi sl Q I rx hs pl pu h;obtain⟨a,xs,rfl,hx,q⟩:=h;cases rx;obtain⟨its,r,ht,hz⟩:=I.list hx;have hlen:=r.length;refine⟨"list",_,slot_list_getitem.lookup,ht.isList.typeIs,?_⟩;refine wpAny_getItem_list_slice ht.isList hs pl pu .none (by simp) ?_ (by rw[size_toArray]<;>omega);rw[rY,<- hlen];refine⟨.ref s.heap.objs.size,_,I.laid (t':=s.toks) (o:=.lst (aA8 xs lo hi)) (λb ob q=>Heap.get?_push_of_some _ q) (Nat.le_refl _) ?_,rfl,q _ (I.hok.fresh (Nat.le_refl _))⟩;exact⟨Nat.le_trans (xM xs lo hi) hz,_,0,(r.drop (HT.sIx xs.length 0 lo)).take (HT.sIx xs.length xs.length hi-HT.sIx xs.length 0 lo),Heap.get?_push_size _ rfl⟩
noncomputable def aCH:V->Bool
 |.non=>true
 |.bl _=>true
 |.int _=>true
 |.str _=>true
 |_=>false
noncomputable def eqV:V->V->Bool
 |.non,.non=>true
 |.bl a,.bl b=>a==b
 |.bl a,.int b=>(if a then 1 else 0)==b
 |.int a,.bl b=>a==(if b then 1 else 0)
 |.int a,.int b=>a==b
 |.str a,.str b=>a==b
 |_,_=>false
theorem aCq {A:Around}{s:Shared}{y x:V}{u v:Value}(ry:RelV y u)(rx:RelV x v)(fy:aCH y=true)(fx:aCH x=true):SeqAt.EqAt A s u v (eqV y x):=by
 cases y with
 |non =>
  cases ry;cases x with
  |non=>cases rx;exact SeqAt.EqAt.same _
  |bl b=>cases rx;exact SeqAt.EqAt.none_bool b
  |int b=>obtain⟨t,rfl⟩:=rx;exact SeqAt.EqAt.none_int b t
  |str b=>obtain⟨t,rfl⟩:=rx;exact SeqAt.EqAt.none_str b t
  |_=>exact absurd (show false=true from fx) Bool.false_ne_true
 |bl a =>
  cases ry;cases x with
  |non=>cases rx;exact SeqAt.EqAt.bool_none a
  |bl b=>cases rx;exact SeqAt.EqAt.bool_bool a b
  |int b=>obtain⟨t,rfl⟩:=rx;exact SeqAt.EqAt.bool_int a b t
  |str b=>obtain⟨t,rfl⟩:=rx;exact SeqAt.EqAt.bool_str a b t
  |_=>exact absurd (show false=true from fx) Bool.false_ne_true
 |int a =>
  obtain⟨t',rfl⟩:=ry;cases x with
  |non=>cases rx;exact SeqAt.EqAt.int_none a t'
  |bl b=>cases rx;exact SeqAt.EqAt.int_bool a t' b
  |int b=>obtain⟨t,rfl⟩:=rx;exact SeqAt.EqAt.int_int a t' b t
  |str b=>obtain⟨t,rfl⟩:=rx;exact SeqAt.EqAt.int_str a t' b t
  |_=>exact absurd (show false=true from fx) Bool.false_ne_true
 |str a =>
  obtain⟨t',rfl⟩:=ry;cases x with
  |non=>cases rx;exact SeqAt.EqAt.str_none a t'
  |bl b=>cases rx;exact SeqAt.EqAt.str_bool a t' b
  |int b=>obtain⟨t,rfl⟩:=rx;exact SeqAt.EqAt.str_int a t' b t
  |str b=>obtain⟨t,rfl⟩:=rx;exact SeqAt.EqAt.str_str a t' b t
  |_=>exact absurd (show false=true from fx) Bool.false_ne_true
 |_=>exact absurd (show false=true from fy) Bool.false_ne_true
theorem uX:jO X (.builtin "len") (λxs H Q=>∃p ys,xs=[.ref p]/\(SqL X.K H p ys∨SqT X.K H p ys)/\Q (.int ys.length) H):=by
 intro pins s σ H xs us Q I r h;obtain⟨p,ys,rfl,hq,q⟩:=h;obtain⟨u,rfl,rx⟩:=pA r;cases rx;have hn:=vB;rcases hq with hq|hq
 ·obtain⟨its,r',pl,hz⟩:=I.list hq;have hlen:=r'.length;exact Calls.call_len_list pl.isList (by simp only[size_toArray]<;>omega) ⟨.int ys.length,H,I.tok _,⟨s.toks+1,by rw[size_toArray,hlen]⟩,q⟩
 ·obtain⟨its,r',pl,hz⟩:=I.tuple hq;have hlen:=r'.length;exact len_tuple pl (by simp only[size_toArray]<;>omega) ⟨.int ys.length,H,I.tok _,⟨s.toks+1,by rw[size_toArray,hlen]⟩,q⟩
theorem uA:jO X (.type "list") (λxs H Q=>∃p ys,xs=[.ref p]/\(SqL X.K H p ys∨SqT X.K H p ys)/\∀l,H l=none->Q (.ref l) (upd H l (.lst ys))):=by
 intro pins s σ H xs us Q I r h;obtain⟨p,ys,rfl,hq,q⟩:=h;obtain⟨u,rfl,rx⟩:=pA r;cases rx;have fin:∀(its:List Value),bJ ys its->ys.length<=sizeLine->∀(h':Heap)(c':Nat),(∀b o',s.heap.get? b=some o'->h'.get? b=some o') ->
   h'.get? s.heap.objs.size = some { cls:=.type "list",dict:=none,data:=.seq its.toArray c',slots:=#[] }->EP X pins σ Q (.ref s.heap.objs.size) { s with heap:=h' }:=λits r' hz h' c' kp e =>
  ⟨.ref s.heap.objs.size,_,I.laid (t':=s.toks) kp (Nat.le_refl _) (show dR X.prog X.w _ h' _ (.lst ys) from⟨hz,its,c',r',e⟩),rfl,q _ (I.hok.fresh (Nat.le_refl _))⟩
 rcases hq with hq|hq
 ·obtain⟨its,r',pl,hz⟩:=I.list hq;have hlen:=r'.length;obtain⟨o,ho,hc,n,hd⟩:=pl.isList;exact call_list_seq p (.inl rfl) ho hc hd (λh' c' kp e=>fin its r' hz h' c' kp e) (by simp only[size_toArray]<;>omega)
 ·obtain⟨its,r',pl,hz⟩:=I.tuple hq;have hlen:=r'.length;obtain⟨o,ho,hc,n,hd⟩:=pl;exact call_list_seq p (.inr rfl) ho hc hd (λh' c' kp e=>fin its r' hz h' c' kp e) (by simp only[size_toArray]<;>omega)
def tyV (K:Frag)(T:String)(x:V)(H:Hp):Prop:=match x with
 |.str _=>T = "str"
 |.int _=>T = "int"
 |.ref p=>(T = "list"/\∃xs,SqL K H p xs)∨(T = "tuple"/\∃o,K.lookup p = some o/\o.cls = .type "tuple"/\o.dict=none) ∨
   (T = "dict"/\((∃kvs,H p = some (.dK kvs)) ∨ ∃kvs,H p = some (.dT kvs)))∨(T = "set"/\∃S n,H p=some (.set S n))
 |_=>False
theorem aFf {pins:List (Addr×Obj)}{σ:St}{H:Hp}{s:Shared}{T:String}{x:V}{v:Value}(I:Inv X pins σ H s)(r:RelV x v)(ty:tyV X.K T x H) :
  s.TypeIs v T/\∀a,v=.ref a->∃ob,s.heap.get? a=some ob/\ob.dict=none:=by
 cases x with
 |str z =>
  obtain⟨t,rfl⟩:=r;cases (show T = "str" from ty);exact⟨typeIs_str s z t,λ_ e=>nomatch e⟩
 |int i =>
  obtain⟨t,rfl⟩:=r;cases (show T = "int" from ty);exact⟨typeIs_int s i t,λ_ e=>nomatch e⟩
 |ref p =>
  cases r;rcases ty with⟨rfl,xs,hq⟩|⟨rfl,o,hk,hc,hd⟩|⟨rfl,hk⟩|⟨rfl,S,n,hk⟩
  ·obtain⟨its,_,pl,_⟩:=I.list hq;refine⟨pl.isList.typeIs,λa e=>?_⟩;cases e;obtain⟨o,n,e,c,hd,_⟩:=pl;exact⟨o,e,hd⟩
  ·refine⟨⟨o,I.kIn p o hk,hc⟩,λa e=>?_⟩;cases e;exact⟨o,I.kIn _ o hk,hd⟩
  ·have z:∃o,s.heap.get? p=some o/\o.ExactDict:=by
    rcases hk with⟨kvs,hk⟩|⟨kvs,hk⟩
    ·obtain⟨_,_,_,_,o,_,_,e,ex,_⟩:=I.hok p _ hk;exact⟨o,e,ex⟩
    ·obtain⟨_,_,_,_,o,_,_,e,ex,_⟩:=I.hok p _ hk;exact⟨o,e,ex⟩
   obtain⟨o,e,ex⟩:=z;refine⟨⟨o,e,ex.1⟩,λa e2=>?_⟩;cases e2;exact⟨o,e,ex.2.1⟩
  ·obtain⟨o,_,_,_,e,ex,_⟩:=I.hok p _ hk;refine⟨⟨o,e,ex.1⟩,λa e2=>?_⟩;cases e2;exact⟨o,e,ex.2.1⟩
 |_=>exact False.elim ty
def tBM (K:Frag)(T:String)(r:V->List V->Hp->VK->Prop)(to:TE)(t:TA):TE:=λσ H Q=>to σ H λx H1=>tyV K T x H1/\t σ H1 λxs H2=>r x xs H2 Q
variable {o e:Expr}{es:List Expr}{to:TE}{t:TA}{name:Str}{apos cpos:Pos}{T id:String}{r:V->List V->Hp->VK->Prop}
theorem aIb (pa:PlainAttrs T)(slot:Slot T name id)(hty:typeOf (.builtin id) = pure (.type "method_descriptor"))(hm:MtR X id r)(ho:PE X o to)(ha:PA X (e::es) t)(hbase:attributeBase o name X.env (eval o X.env)=eval o X.env:=by rfl)(hfew:((backTo cpos (starEach (e::es) X.env)).all (λx=>!x.1)&&(backToKw cpos (keywordEach [] X.env)).all (λx=>x.1.isSome)
  &&decide ((e::es).length+([]:List Keyword).length+(if ([]:List Keyword).isEmpty then 0 else 1)<30))=true:=by rfl)(hline:(apos.endLine==cpos.line)=true:=by rfl)(hs:starEach (e::es) X.env=(false,eval e X.env)::starEach es X.env:=by rfl)(hplain:(backTo cpos (starEach es X.env)).any (·.1)=false:=by rfl) :
  PE X (.Call (.Attribute o name apos) (e::es) [] cpos) (tBM X.K T r to t):=by
 intro pins s σ H Q I h;refine wpAny_Call_method_late hbase hfew hline rfl (thn (ho pins s σ H _ I h) λv s1 ⟨x,H1,I1,r1,ty,q1⟩=>?_);obtain⟨h1,h2⟩:=aFf I1 r1 ty;refine⟨T,id,pa,slot,hty,h1,h2,?_⟩;have hA:=ha cpos pins s1 σ H1 _ I1 q1;rw[hs] at hA ⊢;refine Calls.callWith_builtin (by show(false||(backTo cpos (starEach es X.env)).any (·.1))=false;rw[hplain]<;>rfl) (Calls.evalArgs_plain ?_);exact thn hA λus s2 ⟨vs,H2,I2,r2,q2⟩=>hm pins s2 σ H2 x vs v us Q I2 r1 r2 q2
end
def MtM (X:Cx)(id:String)(r:V->List V->Hp->VK->Prop):Prop :=
 ∀(pins:List (Addr×Obj)) (s:Shared) (σ:St) (H:Hp) (x:V) (xs:List V) (v:Value) (us:List Value) (Q:VK),Inv X pins σ H s->RelV x v->bJ xs us->r x xs H Q ->
  wpAny (model X.prog X.w) X.A (call (.builtin id) (v::us)) (EP X pins σ Q) X.xe s
theorem bJ.one:∀{x:V}{us:List Value},bJ [x] us->∃u,us=[u]/\RelV x u
 |_,_,.cons r .nil=>⟨_,rfl,r⟩
theorem bJ.two:∀{x y:V}{us:List Value},bJ [x,y] us->∃u v,us=[u,v]/\RelV x u/\RelV y v
 |_,_,_,.cons r (.cons q .nil)=>⟨_,_,rfl,r,q⟩
section
variable {X:Cx}{pins:List (Addr×Obj)}{σ:St}{H:Hp}{s:Shared}{l b:Addr}{xs ys zs:List V}
theorem Inv.lset {its its':List Value}{n:Nat}{f:Array Value->Array Value}{t':Nat}(I:Inv X pins σ H s)(hH:H l=some (.lst xs))(e:s.heap.get? l = some { cls:=.type "list",data:=.seq its.toArray n })(hf:f its.toArray=its'.toArray)(hv:bJ ys its')(hz:ys.length<=sizeLine) :
  Inv X pins σ (upd H l (.lst ys)) { s with heap:=s.heap.update l (Obj.mapSeq f),toks:=t' }:=by
 have q:=PySem.IsL.update e f;rw[hf] at q;refine I.write (x:=l) (e:=l) (by rw[hH];exact trivial) (.inl rfl) (λb' u hb hu=>(Heap.get?_update_other s.heap (Obj.mapSeq f) (Ne.symm hb)).trans hu) ⟨_,q⟩ ?_;exact⟨hz,its',_,hv,q⟩
theorem Inv.lnew {its:List Value}{t':Nat}(I:Inv X pins σ H s)(hv:bJ ys its)(hz:ys.length<=sizeLine) :
  Inv X pins σ (upd H s.heap.objs.size (.lst ys)) { s with heap:=s.heap.push { cls:=.type "list",data:=.seq its.toArray },toks:=t' } :=
 I.laid (λ_ _ q=>Heap.get?_push_of_some _ q) (Nat.le_refl _) ⟨hz,its,0,hv,Heap.get?_push_size _ rfl⟩
theorem Inv.fresh (I:Inv X pins σ H s):H s.heap.objs.size=none:=I.hok.fresh (Nat.le_refl _)
theorem Inv.lstM (I:Inv X pins σ H s)(hH:H l = some (.lst xs)):xs.length<=sizeLine/\∃(its:List Value)(n:Nat),bJ xs its/\xs.length = its.length/\s.heap.get? l = some { cls:=.type "list",data:=.seq its.toArray n }:=by obtain⟨z,its,n,r,e⟩:=I.hok l _ hH;exact⟨z,its,n,r,r.length,e⟩
theorem aCD {n:Nat}(h:n<=sizeLine):Builtin.List.listTooLong n=false:=by unfold Builtin.List.listTooLong;exact decide_eq_false (by omega)
end
section
variable {X:Cx}
def aDZ:V->List V->Hp->VK->Prop:=λx vs H Q=>∃l xs y,x=.ref l/\vs=[y]/\H l=some (.lst xs)/\xs.length<sizeLine/\Q .non (upd H l (.lst (xs++[y])))
theorem aAW:MtM X "list.append" aDZ:=by intro pins s σ H x vs v us Q I rx rv h;obtain⟨l,xs,y,rfl,rfl,hH,hz,q⟩:=h;cases rx;obtain⟨u,rfl,ru⟩:=rv.one;obtain⟨z,its,n,r,hl,e⟩:=I.lstM hH;refine call_meets F.slot_list_append ⟨_,e,rfl⟩ F.entry_list_append (F.args_list_append_2 _ _) (PySem.list_append l its.toArray n u (by rw[size_toArray];omega)) ⟨e,?_⟩;refine⟨.non,_,I.lset (its':=its++[u]) hH e (by simp) (r.append (.cons ru .nil)) ?_,rfl,q⟩;rw[length_append,List.length_singleton];omega
def aJz:R2:=λx y H Q=>∃l b xs zs,x=.ref l/\y=.ref b/\H l=some (.lst xs)/\H b=some (.lst zs)/\xs.length+zs.length<=sizeLine/\∀p,H p=none->Q (.ref p) (upd H p (.lst (xs++zs)))
theorem aGi:OpR X (binaryOp .Add) aJz:=by
 intro pins s σ H x y v u Q I rx ry h;obtain⟨l,b,xs,zs,rfl,rfl,hH,hB,hz,q⟩:=h;cases rx;cases ry;obtain⟨z,its,n,r,hl,e⟩:=I.lstM hH;obtain⟨z2,its2,n2,r2,hl2,e2⟩:=I.lstM hB;refine PySem.P.add_list e e2 ?_ (by rw[size_toArray,size_toArray];omega);have ea:its.toArray++its2.toArray=(its++its2).toArray:=by simp
 rw[ea];exact⟨.ref _,_,I.lnew (t':=s.toks) (r.append r2) (by rw[length_append];omega),rfl,q _ I.fresh⟩
theorem len_rep {α:Type}(xs:List α)(k:Nat):(replicate k xs).flatten.length=k*xs.length:=by
 induction k with
 |zero=>simp
 |succ k ih=>rw[replicate_succ,flatten_cons,length_append,ih,Nat.succ_mul,Nat.add_comm]
end
section
variable {prog:Program}{w:World}{A:Around}{E:Value->Shared->Prop}{s:Shared}
end
section
variable {X:Cx}
end
end L2
namespace Att
open PySem PySem.W PySem.Calls PyProof.Rows
theorem pJ {P:Params}{h:Heap}:∀(ns:List Int)(vs:List Value),WellAll P h vs (ns.map WData.int)->IntsAre vs ns:=by
 intro ns
 induction ns with
 |nil =>
  intro vs w;rw[List.map_nil] at w;cases w;exact .nil
 |cons n ns ih =>
  intro vs w;rw[map_cons] at w;cases w with
  |cons a b =>
   cases a;exact .cons _ _ (ih _ b)
theorem aAJ {l:OpenLaw}{n:Nat}(hn:l.most=some n){P:Params}{h:Heap}{args:List WData}{vals:List Value}(hpre:l.row.toRowW.claim.pre args=true)(hwl:WellAll P h vals args) :
  ∃a vs ns,vals = [Value.ref a]/\args = [WData.list (ns.map WData.int)]/\h.get? a = some { cls:=.type "list",data:=.seq vs.toArray }/\IntsAre vs ns/\ns.length<=n:=by
 have hsh:WShape.hasAll [] args [.list .int]=true:=(pre_splitW hpre).1;have hc:l.pre.holds [] { args:=args }=true:=(pre_splitW hpre).2;obtain⟨d,r,rfl,h1,h2⟩:=hasAllW_cons hsh;obtain rfl:=hasAllW_nil h2;obtain⟨xs,rfl,h3⟩:=hasW_list h1;obtain⟨ns,rfl⟩:=items_int h3;have hlen:ns.length<=n:=by
  unfold OpenLaw.pre at hc;have h4:(WTm.not (.lt (.lit (.int (n:Int))) (.len (.arg 0)))).holds [] { args:=[.list (ns.map .int)] }=true:=by have h4:=(holds_andW hc).1;rw[hn] at h4;exact h4
  have h5:=condW_of h4 (w_not (w_lt w_lit (w_len_list (w_arg rfl))));rw[length_map] at h5;refine Nat.le_of_not_lt λq=>?_;have q':(n:Int)<((ns.length:Nat):Int):=by omega
  first
   |(rw[decide_eq_true q'] at h5;exact absurd h5 (by decide))
   |(simp at h5;omega)
 cases hwl with
 |cons w1 w2 =>
  cases w2;cases w1 with
  |list ho hall=>exact⟨_,_,ns,rfl,rfl,ho,pJ ns _ hall,hlen⟩
theorem aBd (l:OpenLaw)(args:List WData):l.row.toRowW.claim.post args (.bool true) args=true :=
 postW_of (r:=l.row.toRowW) (X:=(true==true))
  (show WShape.has [] (.bool true) .bool=true by first|rfl|decide|simp[WShape.has,WShape.arms,WShape.armsAll])
  (show(WTm.eq .res (.lit (.bool true))).value [] { args:=args,res:=some (.bool true),after:=args }=some (.bool (true==true)) from w_eq_bool (w_res rfl) w_lit) rfl
theorem attach_call {l:OpenLaw}{n:Nat}{q:Program}{loose:List Str}{XP:(Str->Option Value)->Heap->Prop}{YP:World->Heap->Prop}{d:DefRec}(hn:l.most=some n)(hdf:d.params.defaults=[])(call:∀(w:World)(s₀ s₁:Shared) (mg mb:Str->Option Value) (fa:Addr) (o:Obj) (pm cd doc:Value) (a:Addr) (vs:List Value) (ns:List Int),
   Ground q loose [] XP w s₀ mg mb s₁.heap->YP w s₁.heap ->
   s₁.heap.get? fa=some o->o.data=.func (docDef d.name d.params d.body d.scope pm cd doc)->s₁.heap.CodeRec cd d.name->mg d.name=some (.ref fa) ->
   s₁.heap.get? a = some { cls:=.type "list",data:=.seq vs.toArray }->IntsAre vs ns->ns.length<=n->s₁.gens=#[] ->
   codeAny (model l.prog w) callerA (.call (.ref fa) ⟨[.ref a],[]⟩) (λr s'=>r=.ok (.ret (.bool true))/\OldK s₁.heap s'.heap/\s'.os=s₁.os/\AllBare s'.gens) s₁) :
  WalkO q loose XP YP l.row.toRowW d [] (λf vs=>PySem.call f vs):=by
 intro w s₀ s₁ mg mb G Y fa o pm cd doc dV kV ho hd hcd hD hmg hg args vals as hpre hlay hrd hwl hlo;obtain rfl:dV=.none:=Dflts.none hD hdf;obtain rfl:kV=.none:=Dflts.noKw hD;obtain⟨a,vs,ns,rfl,rfl,hobj,hints,hlen⟩:=aAJ hn hpre hwl;refine enter_call (codeAny_mono (call w s₀ s₁ mg mb fa o pm cd doc a vs ns G Y ho (fd_plain hd) hcd hmg hobj hints hlen hg) λr s' hq=>?_);obtain⟨rfl,h2,h3,h4⟩:=hq;exact⟨.inl ⟨.bool true,.bool true,[],rfl,λ_=>rfl,.bool true,aBd l _,λ_=>⟨List.Pairwise.nil,λ_ hm=>(nomatch hm)⟩⟩,h2,h3,h4⟩
section
variable {prog:Program}{w:World}{A:Around}{E:Value->Shared->Prop}{s:Shared}{K:Frag}
end
end Att
namespace L2
open PySem PySem.Spec PyProof.Rows
theorem sT:∀{vs:List Value}{ns:List Int},IntsAre vs ns->bJ (ns.map V.int) vs
 |_,_,.nil=>.nil
 |_,_,.cons n t h=>.cons ⟨t,rfl⟩ (sT h)
noncomputable def jE (s:Stmt):Arguments:=match s with
 |.FunctionDef _ a _ _ _ _ _ _ _ _=>a
 |_=>{ posonlyargs:=[],args:=[],vararg:=none,kwonlyargs:=[],kw_defaults:=[],kwarg:=none,defaults:=[] }
noncomputable def dY (s:Stmt):List Stmt:=match s with
 |.FunctionDef _ _ b _ _ _ _ _ _ _=>b
 |_=>[]
noncomputable def aK (s:Stmt):Scope:=match s with
 |.FunctionDef _ _ _ _ _ _ sc _ _ _=>sc
 |_=>{ kind:=.function,names:=[],isGenerator:=false,isCoroutine:=false }
noncomputable abbrev CX0:CXT:=λ_ _ _ _ _ _=>False
noncomputable abbrev E0:XK:=λ_ _ _=>False
theorem aEW {X:Cx}:uC CX0 X E0:=λ_ _ _ _ _ _ _ h=>h.elim
structure Fun (K:Frag)(x qual:Str)(st:Stmt)(f:Addr)(fd:FuncData):Prop where
 ex:∃(oc:Value)(od:Option Addr) (kV doc pm:Value) (an:Option Addr) (cdv ct:Value) (osl:Array (Option Value)),
  fd=fnOf x qual (jE st) (dY st) (aK st) .none kV doc pm an cdv ct/\K.lookup f=some ⟨oc,od,.func fd,osl⟩/\codeIn K cdv qual=true
 kp:keepIn K (.ref f)=true
section
variable {P:Program}{w:World}{K:Frag}{mg:Str->Option Value}{base:Heap}
theorem Fun.ok {x qual:Str}{st:Stmt}{f:Addr}{fd:FuncData}{N ps:List Str}{k:Nat}{sp:Sp}(F:Fun K x qual st f fd)(S:aR N ps (aK st))(len:∀vs H Q E,sp vs H Q E->vs.length=ps.length)(hbody:∀(cdv:Value)(A:Around) (outer:List Env) (s:Shared) (H:Hp) (vs:List V) (Q:VK) (E:XK),cO k (A.deeper (envOfC qual (aK st) s.heap.objs.size f cdv))->sp vs H Q E ->
   ∃t,PSs (nZ CX0 P w K mg base N qual (aK st) f cdv A outer s H E).nox (dY st) t/\t { nx:=λ_ H'=>Q .non H',rt:=Q } (start N vs) H):jP P w K mg base CX0 (k+1) f fd ps sp:=by
 obtain⟨oc,od,kV,doc,pm,an,cdv,ct,osl,rfl,lk,hcd⟩:=F.ex;refine aE1 lk hcd S len λA outer s H vs Q E hr hsp=>?_;obtain⟨t,h,q⟩:=hbody cdv A outer s H vs Q E hr hsp;exact⟨t,h.nox,q⟩
theorem Fun.binds {x qual:Str}{st:Stmt}{f:Addr}{fd:FuncData}{ps:List Str}(F:Fun K x qual st f fd)(h:∀(kV doc pm:Value)(an:Option Addr) (cdv ct:Value) (us:List Value),us.length=ps.length->bindArgs (fnOf x qual (jE st) (dY st) (aK st) .none kV doc pm an cdv ct) ⟨us,[]⟩=pure (ps.zip us)):pB K fd ps []:=by obtain⟨oc,od,kV,doc,pm,an,cdv,ct,osl,rfl,lk,hcd⟩:=F.ex;exact .all (h kV doc pm an cdv ct)
theorem fun_mk {x qual:Str}{st:Stmt}{f:Addr}{oc:Value}{od an:Option Addr}{osl:Array (Option Value)}{kV doc pm cdv ct:Value}(l:K.lookup f=some ⟨oc,od,.func (fnOf x qual (jE st) (dY st) (aK st) .none kV doc pm an cdv ct),osl⟩)(c:codeIn K cdv qual=true)(k:keepIn K (.ref f)=true):Fun K x qual st f (fnOf x qual (jE st) (dY st) (aK st) .none kV doc pm an cdv ct):=⟨⟨oc,od,kV,doc,pm,an,cdv,ct,osl,rfl,l,c⟩,k⟩
end
theorem dE {n:Nat}(h:n<=1000):n<sizeLine:=Nat.lt_of_le_of_lt h (by decide)
section
variable {X:Cx}
end
def aEK (H H':Hp):Prop:=∀b o,H b=some o->H' b=some o
theorem aEK.trans {H H1 H2:Hp}(a:aEK H H1)(b:aEK H1 H2):aEK H H2:=λc o h=>b c o (a c o h)
end L2
set_option maxHeartbeats 4000000
namespace Dd
open PySem PySem.Spec PyProof.Rows L2
inductive D where
 |non|bl (b:Bool)|int (i:Int)|str (x:Str)|tup (xs:List D)|fz (xs:List D)|ref (a:Addr)
def SqX (K:Frag)(H:Hp)(a:Addr)(xs:List V):Prop :=
 (∃o,H a=some (.frz o (.lst xs))) ∨
 ∃(its:Array Value)(n:Nat),K.lookup a = some { cls:=.type "list",data:=.seq its n }/\its.size<=sizeLine/\bJ xs its.toList
theorem SqX.sq {K:Frag}{H:Hp}{a:Addr}{xs:List V}(h:SqX K H a xs):SqL K H a xs:=by
 rcases h with⟨o,h⟩|⟨its,n,h,z,r⟩
 ·exact .inl (.inr ⟨o,h⟩)
 ·exact .inr ⟨_,its,n,h,rfl,rfl,rfl,z,r⟩
mutual
def Rep (K:Frag)(H:Hp):D->V->Prop
 |.non,v=>v=.non
 |.bl b,v=>v=.bl b
 |.int i,v=>v=.int i
 |.str x,v=>v=.str x
 |.ref a,v=>v=.ref a
 |.tup ds,v=>∃a xs,v=.ref a/\SqT K H a xs/\aY K H ds xs
 |.fz ds,v=>∃a xs,v=.ref a/\SqX K H a xs/\aY K H ds xs
def aY (K:Frag)(H:Hp):List D->List V->Prop
 |[],vs=>vs=[]
 |d::ds,vs=>∃v r,vs=v::r/\Rep K H d v/\aY K H ds r
end
structure Ext (H H':Hp):Prop where
 tup:∀a xs,H a=some (.tup xs)->H' a=some (.tup xs)
 frz:∀a o u,H a=some (.frz o u)->H' a=some (.frz o u)
theorem Ext.refl (H:Hp):Ext H H:=⟨λ_ _ h=>h,λ_ _ _ h=>h⟩
theorem Ext.trans {H H1 H2:Hp}(a:Ext H H1)(b:Ext H1 H2):Ext H H2:=⟨λc xs h=>b.tup c xs (a.tup c xs h),λc o u h=>b.frz c o u (a.frz c o u h)⟩
theorem Ext.new {H:Hp}{p:Addr}(h:H p=none)(o:HO):Ext H (upd H p o) :=
 ⟨λa xs e=>by rw[aJ (aO e h)];exact e,λa ob u e=>by rw[aJ (aO e h)];exact e⟩
theorem Ext.put {H:Hp}{p:Addr}{xs:List V}(h:H p=some (.lst xs))(o:HO):Ext H (upd H p o) :=
 ⟨λa ys e=>by rw[aJ (oS e h (by intro z;cases z))];exact e,λa ob u e=>by rw[aJ (oS e h (by intro z;cases z))];exact e⟩
section
variable {K:Frag}{H H':Hp}
theorem vH (e:Ext H H'){a:Addr}{xs:List V}(h:SqT K H a xs):SqT K H' a xs:=by
 rcases h with(h|⟨o,h⟩)|h
 ·exact .inl (.inl (e.tup _ _ h))
 ·exact .inl (.inr ⟨o,e.frz _ _ _ h⟩)
 ·exact .inr h
theorem fL (e:Ext H H'){a:Addr}{xs:List V}(h:SqX K H a xs):SqX K H' a xs:=by
 rcases h with⟨o,h⟩|h
 ·exact .inl ⟨o,e.frz _ _ _ h⟩
 ·exact .inr h
structure yA (K:Frag)(H H':Hp):Prop where
 t:∀{a:Addr}{xs:List V},SqT K H a xs->SqT K H' a xs
 x:∀{a:Addr}{xs:List V},SqX K H a xs->SqX K H' a xs
mutual
theorem Rep.extS (e:yA K H H'):∀{d:D}{v:V},Rep K H d v->Rep K H' d v
 |.non,_,h=>by unfold Rep at h ⊢;exact h
 |.bl _,_,h=>by unfold Rep at h ⊢;exact h
 |.int _,_,h=>by unfold Rep at h ⊢;exact h
 |.str _,_,h=>by unfold Rep at h ⊢;exact h
 |.ref _,_,h=>by unfold Rep at h ⊢;exact h
 |.tup ds,_,h=>by unfold Rep at h ⊢;obtain⟨a,xs,e1,sq,r⟩:=h;exact⟨a,xs,e1,e.t sq,aY.extS e r⟩
 |.fz ds,_,h=>by unfold Rep at h ⊢;obtain⟨a,xs,e1,sq,r⟩:=h;exact⟨a,xs,e1,e.x sq,aY.extS e r⟩
theorem aY.extS (e:yA K H H'):∀{ds:List D}{vs:List V},aY K H ds vs->aY K H' ds vs
 |[],_,h=>by unfold aY at h ⊢;exact h
 |d::ds,_,h=>by unfold aY at h ⊢;obtain⟨v,r,e1,hv,hr⟩:=h;exact⟨v,r,e1,Rep.extS e hv,aY.extS e hr⟩
end
theorem Ext.s (e:Ext H H'):yA K H H':=⟨vH e,fL e⟩
theorem Rep.ext (e:Ext H H'){d:D}{v:V}(h:Rep K H d v):Rep K H' d v:=h.extS e.s
theorem aY.ext (e:Ext H H'){ds:List D}{vs:List V}(h:aY K H ds vs):aY K H' ds vs:=h.extS e.s
theorem cP {i:Int}:Rep K H (.int i) (.int i):=by unfold Rep;rfl
theorem dW {b:Bool}:Rep K H (.bl b) (.bl b):=by unfold Rep;rfl
theorem aDm {x:Str}:Rep K H (.str x) (.str x):=by unfold Rep;rfl
theorem pY:Rep K H .non .non:=by unfold Rep;rfl
theorem cK {a:Addr}:Rep K H (.ref a) (.ref a):=by unfold Rep;rfl
theorem aQ {i:Int}{v:V}(h:Rep K H (.int i) v):v=.int i:=by unfold Rep at h;exact h
theorem bZ {b:Bool}{v:V}(h:Rep K H (.bl b) v):v=.bl b:=by unfold Rep at h;exact h
theorem cW {x:Str}{v:V}(h:Rep K H (.str x) v):v=.str x:=by unfold Rep at h;exact h
theorem dI {v:V}(h:Rep K H .non v):v=.non:=by unfold Rep at h;exact h
theorem aM {a:Addr}{v:V}(h:Rep K H (.ref a) v):v=.ref a:=by unfold Rep at h;exact h
theorem bI {ds:List D}{v:V}(h:Rep K H (.tup ds) v):∃a xs,v=.ref a/\SqT K H a xs/\aY K H ds xs:=by unfold Rep at h;exact h
theorem iX {ds:List D}{v:V}(h:Rep K H (.fz ds) v):∃a xs,v=.ref a/\SqX K H a xs/\aY K H ds xs:=by unfold Rep at h;exact h
theorem mC {ds:List D}{a:Addr}{xs:List V}(sq:SqT K H a xs)(r:aY K H ds xs):Rep K H (.tup ds) (.ref a):=by unfold Rep;exact⟨a,xs,rfl,sq,r⟩
theorem cD:aY K H [] []:=by unfold aY;rfl
theorem bE {vs:List V}(h:aY K H [] vs):vs=[]:=by unfold aY at h;exact h
theorem bU {d:D}{ds:List D}{v:V}{vs:List V}(h:Rep K H d v)(r:aY K H ds vs):aY K H (d::ds) (v::vs):=by unfold aY;exact⟨v,vs,rfl,h,r⟩
theorem aN {d:D}{ds:List D}{vs:List V}(h:aY K H (d::ds) vs):∃v r,vs=v::r/\Rep K H d v/\aY K H ds r:=by unfold aY at h;exact h
theorem aY.length:∀{ds:List D}{vs:List V},aY K H ds vs->ds.length=vs.length
 |[],_,h=>by rw[bE h];rfl
 |d::ds,_,h=>by obtain⟨v,r,rfl,_,hr⟩:=aN h;rw[length_cons,length_cons,aY.length hr]
theorem aY.get:∀{ds:List D}{vs:List V} {i:Nat} {d:D},aY K H ds vs->ds[i]?=some d->∃v,vs[i]?=some v/\Rep K H d v
 |[],_,i,d,h,e=>by simp at e
 |d0::ds,_,0,d,h,e=>by obtain⟨v,r,rfl,hv,hr⟩:=aN h;simp at e;subst e;exact⟨v,rfl,hv⟩
 |d0::ds,_,i+1,d,h,e=>by obtain⟨v,r,rfl,hv,hr⟩:=aN h;exact aY.get (i:=i) hr (by simpa using e)
theorem aY.getV:∀{ds:List D}{vs:List V} {i:Nat} {v:V},aY K H ds vs->vs[i]?=some v->∃d,ds[i]?=some d/\Rep K H d v
 |[],_,i,v,h,e=>by rw[bE h] at e;simp at e
 |d0::ds,_,0,v,h,e=>by obtain⟨v0,r,rfl,hv,hr⟩:=aN h;simp at e;subst e;exact⟨d0,rfl,hv⟩
 |d0::ds,_,i+1,v,h,e=>by obtain⟨v0,r,rfl,hv,hr⟩:=aN h;exact aY.getV (i:=i) hr (by simpa using e)
theorem aY.set {d:D}{v:V}(h:Rep K H d v):∀{ds:List D}{vs:List V} (i:Nat),aY K H ds vs->aY K H (ds.set i d) (vs.set i v)
 |[],_,i,r=>by rw[bE r];exact cD
 |d0::ds,_,0,r=>by obtain⟨v0,r0,rfl,hv,hr⟩:=aN r;exact bU h hr
 |d0::ds,_,i+1,r=>by obtain⟨v0,r0,rfl,hv,hr⟩:=aN r;exact bU hv (aY.set h i hr)
theorem aY.append:∀{ds es:List D}{vs us:List V},aY K H ds vs->aY K H es us->aY K H (ds++es) (vs++us)
 |[],es,vs,us,h,q=>by rw[bE h];exact q
 |d::ds,es,_,us,h,q=>by obtain⟨v,r,rfl,hv,hr⟩:=aN h;exact bU hv (aY.append hr q)
theorem aY.take:∀{ds:List D}{vs:List V} (n:Nat),aY K H ds vs->aY K H (ds.take n) (vs.take n)
 |ds,vs,0,h=>by rw[List.take_zero,List.take_zero];exact cD
 |[],_,n+1,h=>by rw[bE h];exact cD
 |d::ds,_,n+1,h=>by obtain⟨v,r,rfl,hv,hr⟩:=aN h;exact bU hv (aY.take n hr)
theorem aY.drop:∀{ds:List D}{vs:List V} (n:Nat),aY K H ds vs->aY K H (ds.drop n) (vs.drop n)
 |ds,vs,0,h=>h
 |[],_,n+1,h=>by rw[bE h];exact cD
 |d::ds,_,n+1,h=>by obtain⟨v,r,rfl,hv,hr⟩:=aN h;exact aY.drop n hr
theorem sW:∀(ns:List Int),aY K H (ns.map D.int) (ns.map V.int)
 |[]=>cD
 |n::ns=>bU cP (sW ns)
end
inductive AK where
 |l (a:Addr)|d (a:Addr)|o (a:Addr)|x (a:Addr)
deriving DecidableEq
instance:Coe Addr AK:=⟨AK.l⟩
noncomputable abbrev DM:=AK->Option (List D)
noncomputable def aU (M:DM)(a:Addr)(ds:List D):DM:=λb=>if b=AK.l a then some ds else M b
noncomputable def oC (M:DM)(a:Addr)(ds:List D):DM:=λb=>if b=AK.d a then some ds else M b
noncomputable def aH6 (M:DM)(a:Addr)(ds:List D):DM:=λb=>if b=AK.o a then some ds else M b
noncomputable def putX (M:DM)(a:Addr)(ds:List D):DM:=λb=>if b=AK.x a then some ds else M b
theorem lD {M:DM}{a:Addr}{ds:List D}:putX M a ds (.x a)=some ds:=if_pos rfl
theorem eJ {M:DM}{a:Addr}{b:AK}{ds:List D}(h:b≠AK.x a):putX M a ds b=M b:=if_neg h
theorem kQ {M:DM}{a b:Addr}{ds:List D}:aU M a ds (.x b)=M (.x b):=if_neg λe=>nomatch e
theorem aB8 {M:DM}{a b:Addr}{ds:List D}:oC M a ds (.x b)=M (.x b):=if_neg λe=>nomatch e
theorem zC {M:DM}{a b:Addr}{ds:List D}:aU M a ds (.o b)=M (.o b):=if_neg λe=>nomatch e
theorem aCJ {M:DM}{a b:Addr}{ds:List D}:oC M a ds (.o b)=M (.o b):=if_neg λe=>nomatch e
theorem aI {M:DM}{a:Addr}{ds:List D}:aU M a ds a=some ds:=if_pos rfl
theorem cT {M:DM}{a b:Addr}{ds:List D}(h:b≠a):aU M a ds b=M b:=if_neg λe=>h (AK.l.inj e)
theorem iL {M:DM}{a:Addr}{b:AK}{ds:List D}(h:b≠AK.l a):aU M a ds b=M b:=if_neg h
theorem gO {M:DM}{a b:Addr}{ds:List D}:aU M a ds (.d b)=M (.d b):=if_neg λe=>nomatch e
theorem iQ {M:DM}{a:Addr}{ds es:List D}:aU (aU M a ds) a es=aU M a es:=by funext b;unfold aU;split<;>rfl
theorem gC {M:DM}{a:Addr}{ds:List D}:oC M a ds (.d a)=some ds:=if_pos rfl
theorem aAm {M:DM}{a b:Addr}{ds:List D}(h:b≠a):oC M a ds (.d b)=M (.d b):=if_neg λe=>h (AK.d.inj e)
theorem qS {M:DM}{a:Addr}{b:AK}{ds:List D}(h:b≠AK.d a):oC M a ds b=M b:=if_neg h
theorem tW {M:DM}{a b:Addr}{ds:List D}:oC M a ds (.l b)=M (.l b):=if_neg λe=>nomatch e
theorem bP {M:DM}{a b:Addr}{o:List D}(h:M a=some o)(h':M b=none):a≠b:=by intro e;subst e;rw[h] at h';cases h'
theorem bK {M:DM}{a b:AK}{o:List D}(h:M a=some o)(h':M b=none):a≠b:=by intro e;subst e;rw[h] at h';cases h'
def cC (a:Addr)(es:List DictEntry):Heap->Prop:=λh=>(a==sysModules) = false/\es.length<=sizeLine/\∃ep,h.get? a = some { cls:=.type "dict",data:=.dict es.toArray ep }
def aA9 (K:Frag)(H:Hp)(d:D)(e:DictEntry):Prop:=∃k v kv vv,d=.tup [.int e.hash,k,v]/\RelV kv e.key/\Rep K H k kv/\RelV vv e.val/\Rep K H v vv
theorem aA9.ext {K:Frag}{H H':Hp}{d:D}{e:DictEntry}(h:aA9 K H d e)(x:Ext H H'):aA9 K H' d e :=
 let ⟨k,v,kv,vv,a,b,c,f,g⟩:=h;⟨k,v,kv,vv,a,b,c.ext x,f,g.ext x⟩
abbrev kU (K:Frag)(H:Hp)(ds:List D)(es:List DictEntry):Prop:=Paired (aA9 K H) ds es
theorem dD {K:Frag}{H H':Hp}{ds:List D}{es:List DictEntry}(h:kU K H ds es)(x:Ext H H'):kU K H' ds es:=Paired.mapP h λ_ _ r=>r.ext x
noncomputable def aBk (C:Addr)(gs:List (Str×D)):List D:=.ref C::gs.map λp=>.tup [.str p.1,p.2]
abbrev aCP (K:Frag)(H:Hp)(gs:List (Str×D))(fs:List (Str×V)):Prop:=Paired (λ(g:Str×D)(f:Str×V)=>g.1=f.1/\Rep K H g.2 f.2) gs fs
theorem fF {K:Frag}{H H':Hp}{gs:List (Str×D)}{fs:List (Str×V)}(h:aCP K H gs fs)(x:Ext H H'):aCP K H' gs fs:=Paired.mapP h λ_ _ r=>⟨r.1,r.2.ext x⟩
def aAS (H:Hp)(a:Addr)(q:Str):Prop:=∃ps:Array Value,H a=some (.tbl ps)/\TriplesOk ps.toList/\∀pos v,codeAmong pos ps.toList=some v->∃c oc u vs t,v=.ref c/\H c=some (.frz oc u)/\oc.data=.fields vs/\vs[1]?=some (.str q t)
noncomputable def aBQ (p1 p2:Pos):Arguments:={ posonlyargs:=[],args:=[⟨"one",none,p1⟩,⟨"other",none,p2⟩],vararg:=none,kwonlyargs:=[],kw_defaults:=[],kwarg:=none,defaults:=[] }
noncomputable def aAG (p1 p2 p3 p4 p5 p6 p7 p8:Pos):Expr:=.Call (.Name "earlier" p1) [.Subscript (.Name "one" p2) (.Constant (.int 0) 0 p3) p4,.Subscript (.Name "other" p5) (.Constant (.int 0) 0 p6) p7] [] p8
noncomputable def lI:Scope:={ kind:=.function,names:=[("one",.local),("other",.local),("earlier",.free)],isGenerator:=false,isCoroutine:=false }
def aF1 (H:Hp)(f g:Addr):Prop:=∃(q:Str)(a1 a2 b1 b2 b3 b4 b5 b6 b7 b8:Pos) (c c':Addr) (pm ct:Value) (oc oc':Obj) (u u':HO) (vs:Array Value) (t:Tok),
 H f = some (.frz { cls:=.type "function",data:=.func { name:="<lambda>",qualname:=q,params:=aBQ a1 a2,body:=.expr (aAG b1 b2 b3 b4 b5 b6 b7 b8),scope:=lI,globals:=mainGlobals,closure:=[("earlier",c)],defaults:=.none,kwdefaults:=.none,doc:=.none,pyModule:=pm,annotations:=none,code:=.ref c',closureTuple:=ct,builtins:=builtinsNs } } u) /\
 H c=some (.frz oc (.own f))/\oc.data=.cell (some (.ref g))/\H c'=some (.frz oc' u')/\oc'.data=.fields vs/\vs[1]?=some (.str q t)
def aFN (K:Frag)(H:Hp)(a:Addr)(es:List D):Prop:=∃o ens ep,o.data=.dict (toArray ens) ep/\H a=some (.frz o (.ext (cC a ens)))/\kU K H es ens
def mZ (K:Frag)(H:Hp)(a:Addr):List D->Prop
 |[.str q]=>aAS H a q
 |[.ref g]=>aF1 H a g
 |.bl _::es=>aFN K H a es
 |_=>False
theorem mZ.ext {K:Frag}{H H':Hp}{a:Addr}{ds:List D}(h:mZ K H a ds)(e:Ext H H')(tb:∀ps,H a=some (.tbl ps)->H' a=some (.tbl ps)):mZ K H' a ds:=by
 unfold mZ at h ⊢;split at h
 ·obtain⟨ps,h1,h2,h3⟩:=h;exact⟨ps,tb ps h1,h2,λpos v z=>let ⟨c,oc,u,vs,t,a,b,r⟩:=h3 pos v z;⟨c,oc,u,vs,t,a,e.frz _ _ _ b,r⟩⟩
 ·obtain⟨q,a1,a2,b1,b2,b3,b4,b5,b6,b7,b8,c,c',pm,ct,oc,oc',u,u',vs,t,h1,h4,h5,h6,h7⟩:=h;exact⟨q,a1,a2,b1,b2,b3,b4,b5,b6,b7,b8,c,c',pm,ct,oc,oc',u,u',vs,t,e.frz _ _ _ h1,e.frz _ _ _ h4,h5,e.frz _ _ _ h6,h7⟩
 ·obtain⟨o,ens,ep,h0,h1,h2⟩:=h;exact⟨o,ens,ep,h0,e.frz _ _ _ h1,dD h2 e⟩
 ·exact h
theorem mZ.sth {K:Frag}{H:Hp}{a:Addr}{ds:List D}(h:mZ K H a ds):(∃ps,H a=some (.tbl ps)) ∨ ∃o u,H a=some (.frz o u):=by
 unfold mZ at h;split at h
 ·obtain⟨ps,h1,_⟩:=h;exact .inl ⟨ps,h1⟩
 ·obtain⟨_,_,_,_,_,_,_,_,_,_,_,_,_,_,_,_,_,_,_,_,_,h1,_⟩:=h;exact .inr ⟨_,_,h1⟩
 ·obtain⟨_,_,_,_,h1,_⟩:=h;exact .inr ⟨_,_,h1⟩
 ·exact h.elim
theorem mZ.wr {K:Frag}{H:Hp}{a p:Addr}{o:HO}{ds:List D}(h:mZ K H a ds)(e:Ext H (upd H p o))(n:∀ps,H p≠some (.tbl ps)):mZ K (upd H p o) a ds :=
 h.ext e λps z=>by rw[aJ (λw=>n ps (by rw[<- w];exact z))];exact z
structure bF (K:Frag)(M:DM)(H:Hp):Prop where
 l:∀(a:Addr) ds,M (.l a)=some ds->∃xs,H a=some (.lst xs)/\aY K H ds xs
 d:∀(a:Addr) ds,M (.d a)=some ds->∃es,H a=some (.ext (cC a es))/\kU K H ds es
 o:∀(a:Addr) ds,M (.o a)=some ds->∃C dx gs fs,ds=aBk C gs/\H a=some (.ins C dx fs)/\aCP K H gs fs
 x:∀(a:Addr) ds,M (.x a)=some ds->mZ K H a ds
theorem Ext.putX {H:Hp}{p:Addr}{φ:Heap->Prop}(h:H p=some (.ext φ))(o:HO):Ext H (upd H p o) :=
 ⟨λa ys e=>by rw[aJ (oS e h (by intro z;cases z))];exact e,λa ob u e=>by rw[aJ (oS e h (by intro z;cases z))];exact e⟩
section
variable {K:Frag}{H H':Hp}{M M':DM}
theorem bF.fresh (h:bF K M H){p:Addr}(e:H p=none):M p=none:=by
 cases q:M p with
 |none=>rfl
 |some ds=>obtain⟨xs,z,_⟩:=h.l p ds q;rw[e] at z;cases z
theorem bF.freshD (h:bF K M H){p:Addr}(e:H p=none):M (.d p)=none:=by
 cases q:M (.d p) with
 |none=>rfl
 |some ds=>obtain⟨xs,z,_⟩:=h.d p ds q;rw[e] at z;cases z
theorem bF.freshX (h:bF K M H){p:Addr}(e:H p=none):M (.x p)=none:=by
 cases q:M (.x p) with
 |none=>rfl
 |some ds=>rcases (h.x p ds q).sth with⟨_,z⟩|⟨_,_,z⟩<;>(rw[e] at z;cases z)
theorem bF.new (h:bF K M H){p:Addr}(e:H p=none)(o:HO):bF K M (upd H p o) where
 l:=λa ds q=>by obtain⟨xs,z,r⟩:=h.l a ds q;exact⟨xs,by rw[aJ (aO z e)];exact z,r.ext (Ext.new e o)⟩
 d:=λa ds q=>by obtain⟨xs,z,r⟩:=h.d a ds q;exact⟨xs,by rw[aJ (aO z e)];exact z,dD r (Ext.new e o)⟩
 o:=λa ds q=>by obtain⟨C,dx,gs,fs,w,z,r⟩:=h.o a ds q;exact⟨C,dx,gs,fs,w,by rw[aJ (aO z e)];exact z,fF r (Ext.new e o)⟩
 x:=λa ds q=>(h.x a ds q).wr (Ext.new e o) λps z=>by rw[e] at z;cases z
theorem bF.lnew (h:bF K M H){p:Addr}(e:H p=none){xs:List V}{ds:List D}(r:aY K H ds xs):bF K (aU M p ds) (upd H p (.lst xs)) where
 l:=λa es q=>by
  by_cases ha:a=p
  ·subst ha;rw[aI] at q;cases q;exact⟨xs,bD,r.ext (Ext.new e _)⟩
  ·rw[cT ha] at q;obtain⟨ys,z,r2⟩:=h.l a es q;exact⟨ys,by rw[aJ ha];exact z,r2.ext (Ext.new e _)⟩
 d:=λa es q=>by rw[gO] at q;obtain⟨ys,z,r2⟩:=h.d a es q;exact⟨ys,by rw[aJ (aO z e)];exact z,dD r2 (Ext.new e _)⟩
 o:=λa es q=>by rw[zC] at q;obtain⟨C,dx,gs,fs,w,z,r⟩:=h.o a es q;exact⟨C,dx,gs,fs,w,by rw[aJ (aO z e)];exact z,fF r (Ext.new e _)⟩
 x:=λa es q=>(h.x a es (by rw[kQ] at q;exact q)).wr (Ext.new e _) λps z=>by rw[e] at z;cases z
theorem bF.put (h:bF K M H){p:Addr}{xs0:List V}(e:H p=some (.lst xs0)){xs:List V}{ds:List D}(r:aY K H ds xs):bF K (aU M p ds) (upd H p (.lst xs)) where
 l:=λa es q=>by
  by_cases ha:a=p
  ·subst ha;rw[aI] at q;cases q;exact⟨xs,bD,r.ext (Ext.put e _)⟩
  ·rw[cT ha] at q;obtain⟨ys,z,r2⟩:=h.l a es q;exact⟨ys,by rw[aJ ha];exact z,r2.ext (Ext.put e _)⟩
 d:=λa es q=>by rw[gO] at q;obtain⟨ys,z,r2⟩:=h.d a es q;exact⟨ys,by rw[aJ (oS z e (by intro z;cases z))];exact z,dD r2 (Ext.put e _)⟩
 o:=λa es q=>by rw[zC] at q;obtain⟨C,dx,gs,fs,w,z,r⟩:=h.o a es q;exact⟨C,dx,gs,fs,w,by rw[aJ (oS z e (by intro z;cases z))];exact z,fF r (Ext.put e _)⟩
 x:=λa es q=>(h.x a es (by rw[kQ] at q;exact q)).wr (Ext.put e _) λps z=>by rw[e] at z;cases z
theorem bF.knew (h:bF K M H){p:Addr}(e:H p=none){xs:List DictEntry}{ds:List D}(r:kU K H ds xs):bF K (oC M p ds) (upd H p (.ext (cC p xs))) where
 d:=λa es q=>by
  by_cases ha:a=p
  ·subst ha;rw[gC] at q;cases q;exact⟨xs,bD,dD r (Ext.new e _)⟩
  ·rw[aAm ha] at q;obtain⟨ys,z,r2⟩:=h.d a es q;exact⟨ys,by rw[aJ ha];exact z,dD r2 (Ext.new e _)⟩
 l:=λa es q=>by rw[tW] at q;obtain⟨ys,z,r2⟩:=h.l a es q;exact⟨ys,by rw[aJ (aO z e)];exact z,r2.ext (Ext.new e _)⟩
 o:=λa es q=>by rw[aCJ] at q;obtain⟨C,dx,gs,fs,w,z,r⟩:=h.o a es q;exact⟨C,dx,gs,fs,w,by rw[aJ (aO z e)];exact z,fF r (Ext.new e _)⟩
 x:=λa es q=>(h.x a es (by rw[aB8] at q;exact q)).wr (Ext.new e _) λps z=>by rw[e] at z;cases z
theorem bF.kput (h:bF K M H){p:Addr}{φ:Heap->Prop}(e:H p=some (.ext φ)){xs:List DictEntry}{ds:List D}(r:kU K H ds xs):bF K (oC M p ds) (upd H p (.ext (cC p xs))) where
 d:=λa es q=>by
  by_cases ha:a=p
  ·subst ha;rw[gC] at q;cases q;exact⟨xs,bD,dD r (Ext.putX e _)⟩
  ·rw[aAm ha] at q;obtain⟨ys,z,r2⟩:=h.d a es q;exact⟨ys,by rw[aJ ha];exact z,dD r2 (Ext.putX e _)⟩
 l:=λa es q=>by rw[tW] at q;obtain⟨ys,z,r2⟩:=h.l a es q;exact⟨ys,by rw[aJ (oS z e (by intro z;cases z))];exact z,r2.ext (Ext.putX e _)⟩
 o:=λa es q=>by rw[aCJ] at q;obtain⟨C,dx,gs,fs,w,z,r⟩:=h.o a es q;exact⟨C,dx,gs,fs,w,by rw[aJ (oS z e (by intro z;cases z))];exact z,fF r (Ext.putX e _)⟩
 x:=λa es q=>(h.x a es (by rw[aB8] at q;exact q)).wr (Ext.putX e _) λps z=>by rw[e] at z;cases z
def bG (M M':DM):Prop:=∀a o,M a=some o->M' a=some o
theorem bG.refl (M:DM):bG M M:=λ_ _ h=>h
theorem bG.trans {M1 M2 M3:DM}(a:bG M1 M2)(b:bG M2 M3):bG M1 M3:=λc o h=>b c o (a c o h)
theorem bG.new {M:DM}{p:Addr}(h:M p=none)(ds:List D):bG M (aU M p ds):=λa o e=>by rw[iL (bK e h)];exact e
theorem bG.newK {M:DM}{p:Addr}(h:M (.d p)=none)(ds:List D):bG M (oC M p ds):=λa o e=>by rw[qS (bK e h)];exact e
theorem bF.sub (h:bF K M' H)(s:bG M M'):bF K M H:=⟨λa ds q=>h.l a ds (s _ ds q),λa ds q=>h.d a ds (s _ ds q),λa ds q=>h.o a ds (s _ ds q),λa ds q=>h.x a ds (s _ ds q)⟩
end
noncomputable abbrev cH:=List (Option D)
structure eV (K:Frag)(H:Hp)(ρ:cH)(σ:L2.St):Prop where
 len:ρ.length=σ.length
 get:∀(i:Nat) d,ρ[i]?=some (some d)->∃v,σ[i]?=some (some v)/\Rep K H d v
section
variable {K:Frag}{H H':Hp}{ρ:cH}{σ:L2.St}
theorem eV.ext (h:eV K H ρ σ)(e:Ext H H'):eV K H' ρ σ:=⟨h.len,λi d q=>let ⟨v,a,b⟩:=h.get i d q;⟨v,a,b.ext e⟩⟩
theorem eV.set (h:eV K H ρ σ){d:D}{v:V}(r:Rep K H d v)(i:Nat):eV K H (ρ.set i (some d)) (σ.set i (some v)):=by
 refine⟨by rw[List.length_set,List.length_set,h.len],λj d' q=>?_⟩;rw[List.getElem?_set] at q;by_cases hij:i=j
 ·subst hij;rw[if_pos rfl] at q;by_cases hl:i<ρ.length
  ·rw[if_pos hl] at q;cases q;exact⟨v,by rw[List.getElem?_set,if_pos rfl,if_pos (by rw[<- h.len];exact hl)],r⟩
  ·rw[if_neg hl] at q;cases q
 ·rw[if_neg hij] at q;obtain⟨u,a,b⟩:=h.get j d' q;exact⟨u,by rw[List.getElem?_set,if_neg hij];exact a,b⟩
end
abbrev DQ:=D->DM->Prop
abbrev DE:=cH->DM->DQ->Prop
abbrev DT:=cH->DM->(Bool->DM->Prop)->Prop
abbrev DA:=cH->DM->(List D->DM->Prop)->Prop
structure eF where
 nx:cH->DM->Prop
 rt:DQ
 bk:cH->DM->Prop:=λ_ _=>False
 ct:cH->DM->Prop:=λ_ _=>False
abbrev DS:=eF->cH->DM->Prop
abbrev DG:=D->cH->DM->(cH->DM->Prop)->Prop
abbrev DGs:=List D->cH->DM->(cH->DM->Prop)->Prop
noncomputable def LQ (K:Frag)(H:Hp)(Q:DQ):VK:=λv H'=>∃d M',Rep K H' d v/\bF K M' H'/\Ext H H'/\Q d M'
def LT (K:Frag)(H:Hp)(Q:Bool->DM->Prop):Bool->Hp->Prop:=λb H'=>∃M',bF K M' H'/\Ext H H'/\Q b M'
def LA (K:Frag)(H:Hp)(Q:List D->DM->Prop):List V->Hp->Prop:=λvs H'=>∃ds M',aY K H' ds vs/\bF K M' H'/\Ext H H'/\Q ds M'
def LN (K:Frag)(H:Hp)(Q:cH->DM->Prop):L2.St->Hp->Prop:=λσ' H'=>∃ρ' M',eV K H' ρ' σ'/\bF K M' H'/\Ext H H'/\Q ρ' M'
structure mB (K:Frag)(H:Hp)(D:eF)(E:pO):Prop where
 nx:∀σ' H',LN K H D.nx σ' H'->E.nx σ' H'
 rt:∀v H',LQ K H D.rt v H'->E.rt v H'
 bk:∀σ' H',LN K H D.bk σ' H'->E.bk σ' H'
 ct:∀σ' H',LN K H D.ct σ' H'->E.ct σ' H'
def low (K:Frag)(t:DE):TE:=λσ H Q=>∃ρ M Q',eV K H ρ σ/\bF K M H/\t ρ M Q'/\∀v H',LQ K H Q' v H'->Q v H'
def aHg (K:Frag)(t:DT):TT:=λσ H Q=>∃ρ M Q',eV K H ρ σ/\bF K M H/\t ρ M Q'/\∀v H',LT K H Q' v H'->Q v H'
def aIA (K:Frag)(t:DA):TA:=λσ H Q=>∃ρ M Q',eV K H ρ σ/\bF K M H/\t ρ M Q'/\∀v H',LA K H Q' v H'->Q v H'
def aCc (K:Frag)(t:DS):TS:=λE σ H=>∃ρ M D,eV K H ρ σ/\bF K M H/\t D ρ M/\mB K H D E
def xU (K:Frag)(g:DG):TG:=λv σ H Q=>∃d ρ M Q',Rep K H d v/\eV K H ρ σ/\bF K M H/\g d ρ M Q'/\∀σ' H',LN K H Q' σ' H'->Q σ' H'
def aJg (K:Frag)(g:DGs):TGs:=λvs σ H Q=>∃ds ρ M Q',aY K H ds vs/\eV K H ρ σ/\bF K M H/\g ds ρ M Q'/\∀σ' H',LN K H Q' σ' H'->Q σ' H'
abbrev PDE (X:Cx)(e:Expr)(t:DE):Prop:=PE X e (low X.K t)
abbrev PDT (X:Cx)(e:Expr)(t:DT):Prop:=PT X e (aHg X.K t)
abbrev PDW (X:Cx)(e:Expr)(t:DT):Prop:=PW X e (aHg X.K t)
abbrev PDA (X:Cx)(es:List Expr)(t:DA):Prop:=PA X es (aIA X.K t)
abbrev PDS (X:Cx)(st:Stmt)(t:DS):Prop:=PS X st (aCc X.K t)
abbrev jQ (X:Cx)(st:List Stmt)(t:DS):Prop:=PSs X st (aCc X.K t)
abbrev PDG (X:Cx)(e:Expr)(g:DG):Prop:=PG X e (xU X.K g)
abbrev xD (X:Cx)(es:List Expr)(g:DGs):Prop:=PGs X es (aJg X.K g)
section
variable {K:Frag}{H H1:Hp}
theorem LQ.back {Q:DQ}{v:V}{H2:Hp}(e:Ext H H1)(h:LQ K H1 Q v H2):LQ K H Q v H2:=let ⟨d,M,a,b,c,q⟩:=h;⟨d,M,a,b,e.trans c,q⟩
theorem LT.back {Q:Bool->DM->Prop}{v:Bool}{H2:Hp}(e:Ext H H1)(h:LT K H1 Q v H2):LT K H Q v H2:=let ⟨M,b,c,q⟩:=h;⟨M,b,e.trans c,q⟩
theorem LN.back {Q:cH->DM->Prop}{v:L2.St}{H2:Hp}(e:Ext H H1)(h:LN K H1 Q v H2):LN K H Q v H2:=let ⟨d,M,a,b,c,q⟩:=h;⟨d,M,a,b,e.trans c,q⟩
theorem mB.at {D:eF}{E:pO}(h:mB K H D E)(e:Ext H H1):mB K H1 D E :=
 ⟨λs H2 q=>h.nx s H2 (q.back e),λs H2 q=>h.rt s H2 (q.back e),λs H2 q=>h.bk s H2 (q.back e),λs H2 q=>h.ct s H2 (q.back e)⟩
end
section
variable {X:Cx}{e:Expr}{st:Stmt}{sts:List Stmt}
theorem cI {t u:TE}(h:PE X e t)(k:∀σ H Q,u σ H Q->t σ H Q):PE X e u:=λpins s σ H Q I q=>h pins s σ H Q I (k σ H Q q)
theorem zB {t u:TT}(h:PT X e t)(k:∀σ H Q,u σ H Q->t σ H Q):PT X e u:=λpins s σ H Q I q=>h pins s σ H Q I (k σ H Q q)
theorem aBo {t u:TT}(h:PW X e t)(k:∀σ H Q,u σ H Q->t σ H Q):PW X e u:=λwh pins s σ H Q I q=>h wh pins s σ H Q I (k σ H Q q)
theorem aBC {es:List Expr}{t u:TA}(h:PA X es t)(k:∀σ H Q,u σ H Q->t σ H Q):PA X es u:=λpos pins s σ H Q I q=>h pos pins s σ H Q I (k σ H Q q)
theorem eU {t u:TS}(h:PS X st t)(k:∀D σ H,u D σ H->t D σ H):PS X st u:=λpins s σ H D I q=>h pins s σ H D I (k D σ H q)
theorem uH {t u:TS}(h:PSs X sts t)(k:∀D σ H,u D σ H->t D σ H):PSs X sts u:=λpins s σ H D I q=>h pins s σ H D I (k D σ H q)
theorem uG {t u:TG}(h:PG X e t)(k:∀v σ H Q,u v σ H Q->t v σ H Q):PG X e u:=λpins s σ H v w Q I r q=>h pins s σ H v w Q I r (k v σ H Q q)
theorem zO {es:List Expr}{t u:TGs}(h:PGs X es t)(k:∀v σ H Q,u v σ H Q->t v σ H Q):PGs X es u:=λpins s σ H v w Q I r q=>h pins s σ H v w Q I r (k v σ H Q q)
end
section
variable {X:Cx}{a b c e:Expr}{es:List Expr}{ta tb tc te:DE}{tA tB:DT}{t:DA}{pos:Pos}
def yX (i:Nat):DE:=λρ M Q=>match ρ[i]? with
 |some (some d)=>Q d M
 |_=>False
theorem tN (i:Nat){x:Str}{pos:Pos}(hN:X.N[i]?=some x:=by rfl)(hv:Vis X.env.scope x:=by first|exact Or.inl rfl|exact Or.inr (Or.inl rfl)|exact Or.inr (Or.inr rfl))(hd:(x==("__debug__":Str))=false:=by decide)(hcd:(x==("__classdict__":Str))=false:=by decide):PDE X (.Name x pos) (yX i) :=
 cI (aCw (i:=i) hN hv hd hcd) λσ H Q ⟨ρ,M,Q',re,hm,q,k⟩=>by
  unfold yX at q;split at q
  ·rename_i d e;obtain⟨v,e1,r⟩:=re.get i d e;exact⟨v,e1,k v H ⟨d,M,r,hm,.refl H,q⟩⟩
  ·exact q.elim
def dC (d:D):DE:=λ_ M Q=>Q d M
theorem yO {i j pos}:PDE X (.Constant (.int i) j pos) (dC (.int i)):=cI aG6 λσ H Q ⟨ρ,M,Q',re,hm,q,k⟩=>k _ H ⟨_,M,cP,hm,.refl H,q⟩
theorem aHL {i j pos}:PDE X (.Constant (.bool i) j pos) (dC (.bl i)):=cI aJo λσ H Q ⟨ρ,M,Q',re,hm,q,k⟩=>k _ H ⟨_,M,dW,hm,.refl H,q⟩
theorem aG9 {j pos}:PDE X (.Constant .none j pos) (dC .non):=cI aGk λσ H Q ⟨ρ,M,Q',re,hm,q,k⟩=>k _ H ⟨_,M,pY,hm,.refl H,q⟩
theorem aFJ {x j pos}:PDE X (.Constant (.str x) j pos) (dC (.str x)):=cI aG4 λσ H Q ⟨ρ,M,Q',re,hm,q,k⟩=>k _ H ⟨_,M,aDm,hm,.refl H,q⟩
theorem aDR {x:Str}{d:D}{v:V}{u:Value}{pos:Pos}(hg:Gl X x)(hm:X.mg x=some u)(r:RelV v u)(hr:∀H,Rep X.K H d v)(hd:(x==("__debug__":Str))=false:=by decide):PDE X (.Name x pos) (dC d) :=
 cI (aEw hg hm r hd) λσ H Q ⟨ρ,M,Q',re,hm,q,k⟩=>k _ H ⟨_,M,hr H,hm,.refl H,q⟩
abbrev D2:=D->D->DM->DQ->Prop
def OpL (K:Frag)(r:R2)(r':D2):Prop:=∀x y H M dx dy Q,Rep K H dx x->Rep K H dy y->bF K M H->r' dx dy M Q->r x y H (LQ K H Q)
def OpD (X:Cx)(f:Value->Value->Sem Value)(r':D2):Prop :=
 OpR X f λx y H Q=>∃dx dy M Q',Rep X.K H dx x/\Rep X.K H dy y/\bF X.K M H/\r' dx dy M Q'/\∀v H',LQ X.K H Q' v H'->Q v H'
theorem zU {pins:List (Addr×Obj)}{σ:L2.St}{Q Q':VK}{u:Value}{s:Shared}(h:EP X pins σ Q u s)(k:∀v H,Q v H->Q' v H):EP X pins σ Q' u s:=let ⟨v,H,a,b,c⟩:=h;⟨v,H,a,b,k v H c⟩
theorem OpD.of {f:Value->Value->Sem Value}{r:R2}{r':D2}(h:OpR X f r)(l:OpL X.K r r'):OpD X f r':=λpins s σ H x y v u Q I rx ry ⟨dx,dy,M,Q',r1,r2,hm,q,k⟩ =>
 thn (h pins s σ H x y v u _ I rx ry (l x y H M dx dy Q' r1 r2 hm q)) λv s h=>zU h k
def dOp (r:D2)(ta tb:DE):DE:=λρ M Q=>ta ρ M λx M1=>tb ρ M1 λy M2=>r x y M2 Q
theorem tU {r':D2}{σ:L2.St}{H:Hp}{Q:VK}{R:V->V->Hp->VK->Prop}(hR:∀x y H1 Q1,(∃dx dy M Q',Rep X.K H1 dx x/\Rep X.K H1 dy y/\bF X.K M H1/\r' dx dy M Q'/\∀v H',LQ X.K H1 Q' v H'->Q1 v H')->R x y H1 Q1)(h:low X.K (dOp r' ta tb) σ H Q):low X.K ta σ H λx H1=>low X.K tb σ H1 λy H2=>R x y H2 Q:=by obtain⟨ρ,M,Q',re,hm,q,k⟩:=h;refine⟨ρ,M,_,re,hm,q,λx H1 ⟨dx,M1,rx,hm1,e1,q1⟩=>⟨ρ,M1,_,re.ext e1,hm1,q1,λy H2 ⟨dy,M2,ry,hm2,e2,q2⟩=>?_⟩⟩;exact hR x y H2 Q ⟨dx,dy,M2,Q',rx.ext e2,ry,hm2,q2,λv H' z=>k v H' (z.back (e1.trans e2))⟩
theorem aIL {op:Operator}{r:D2}(ho:OpD X (binaryOp op) r)(ha:PDE X a ta)(hb:PDE X b tb):PDE X (.BinOp a op b pos) (dOp r ta tb) :=
 cI (aIj ho ha hb) λσ H Q h=>tU (λ_ _ _ _ z=>z) h
theorem aFE {op:CmpOp}{r:D2}(ho:OpD X (compareOp op) r)(ha:PDE X a ta)(hb:PDE X b tb)(hm:behindInMarks op b=false:=by exact tY _):PDE X (.Compare a [op] [b] pos) (dOp r ta tb) :=
 cI (aDG ho ha hb hm) λσ H Q h=>tU (λ_ _ _ _ z=>z) h
def sY (t:DE):DT:=λρ M Q=>t ρ M λd M'=>match d with
 |.bl k=>Q k M'
 |_=>False
theorem xG {σ:L2.St}{H:Hp}{Q:Bool->Hp->Prop}(h:aHg X.K (sY te) σ H Q):low X.K te σ H λx H'=>∃k,x=.bl k/\Q k H':=by
 obtain⟨ρ,M,Q',re,hm,q,k⟩:=h;refine⟨ρ,M,_,re,hm,q,λx H1 ⟨d,M1,rd,hm1,e1,q1⟩=>?_⟩;cases d with
 |bl c=>exact⟨c,bZ rd,k c H1 ⟨M1,hm1,e1,q1⟩⟩
 |_=>exact q1.elim
theorem aHc {op:CmpOp}{r:D2}(ho:OpD X (compareOp op) r)(ha:PDE X a ta)(hb:PDE X b tb)(hm:behindInMarks op b=false:=by exact tY _):PDT X (.Compare a [op] [b] pos) (sY (dOp r ta tb)) :=
 zB (aD8 ho ha hb hm) λσ H Q h=>tU (R:=λx y H Q1=>∃dx dy M Q',Rep X.K H dx x/\Rep X.K H dy y/\bF X.K M H/\r dx dy M Q'/\∀v H',LQ X.K H Q' v H'->Q1 v H') (λ_ _ _ _ z=>z) (xG h)
theorem aGu (h:PDE X e te)(he:∀whole,isTrue e X.env whole=(do let v <- whole;standAt e.pos;holding [v] (truthy v)):=by intro _;rfl):PDT X e (sY te) :=
 zB (aHe h he) λσ H Q h=>xG h
def aHB (t u:DT):DT:=λρ M Q=>t ρ M λc M1=>if c=true then u ρ M1 Q else Q false M1
def dOr (t u:DT):DT:=λρ M Q=>t ρ M λc M1=>if c=true then Q true M1 else u ρ M1 Q
def aFF (t:DT):DT:=λρ M Q=>t ρ M λc M1=>Q (!c) M1
variable {bV:List Expr}
theorem aEL (ha:PDT X a tA):PDW X (.BoolOp .And [a] pos) tA:=aDx ha
theorem aFL (ha:PDT X a tA):PDW X (.BoolOp .Or [a] pos) tA:=aHA ha
theorem aFO (ha:PDT X a tA)(hb:PDW X (.BoolOp .And (b::bV) pos) tB):PDW X (.BoolOp .And (a::b::bV) pos) (aHB tA tB) :=
 aBo (aHl ha hb) λσ H Q ⟨ρ,M,Q',re,hm,q,k⟩=>⟨ρ,M,_,re,hm,q,λc H1 ⟨M1,hm1,e1,q1⟩=>by
  cases c with
  |true=>exact⟨ρ,M1,_,re.ext e1,hm1,q1,λv H' z=>k v H' (z.back e1)⟩
  |false=>exact k false H1 ⟨M1,hm1,e1,q1⟩⟩
theorem aHR (ha:PDT X a tA)(hb:PDW X (.BoolOp .Or (b::bV) pos) tB):PDW X (.BoolOp .Or (a::b::bV) pos) (dOr tA tB) :=
 aBo (aIP ha hb) λσ H Q ⟨ρ,M,Q',re,hm,q,k⟩=>⟨ρ,M,_,re,hm,q,λc H1 ⟨M1,hm1,e1,q1⟩=>by
  cases c with
  |false=>exact⟨ρ,M1,_,re.ext e1,hm1,q1,λv H' z=>k v H' (z.back e1)⟩
  |true=>exact k true H1 ⟨M1,hm1,e1,q1⟩⟩
theorem aJD (h:PDW X e tA):PDT X e tA:=PW.pt h
theorem aFp (ha:PDT X a tA):PDT X (.UnaryOp .Not a pos) (aFF tA) :=
 zB (aGe ha) λσ H Q ⟨ρ,M,Q',re,hm,q,k⟩=>⟨ρ,M,_,re,hm,q,λc H1 ⟨M1,hm1,e1,q1⟩=>k (!c) H1 ⟨M1,hm1,e1,q1⟩⟩
def aBu (ta tb:DE):DE:=λρ M Q=>ta ρ M λx M1=>match x with
 |.bl c=>if c=true then tb ρ M1 Q else Q (.bl false) M1
 |_=>False
def aGZ (ta tb:DE):DE:=λρ M Q=>ta ρ M λx M1=>match x with
 |.bl c=>if c=true then Q (.bl true) M1 else tb ρ M1 Q
 |_=>False
def aCY (ta:DE):DE:=λρ M Q=>ta ρ M λx M1=>match x with
 |.bl c=>Q (.bl (!c)) M1
 |_=>False
theorem aFA {op}(h:PDE X a ta):PDE X (.BoolOp op [a] pos) ta:=aGD h
theorem aHE (ha:PDE X a ta)(hb:PDE X (.BoolOp .And (b::bV) pos) tb):PDE X (.BoolOp .And (a::b::bV) pos) (aBu ta tb) :=
 cI (aHq ha hb) λσ H Q ⟨ρ,M,Q',re,hm,q,k⟩=>⟨ρ,M,_,re,hm,q,λx H1 ⟨d,M1,rd,hm1,e1,q1⟩=>by
  cases d with
  |bl c =>
   refine⟨c,bZ rd,?_⟩;cases c with
   |true=>exact⟨ρ,M1,_,re.ext e1,hm1,q1,λv H' z=>k v H' (z.back e1)⟩
   |false=>exact k _ H1 ⟨_,M1,dW,hm1,e1,q1⟩
  |_=>exact q1.elim⟩
theorem aHM (ha:PDE X a ta)(hb:PDE X (.BoolOp .Or (b::bV) pos) tb):PDE X (.BoolOp .Or (a::b::bV) pos) (aGZ ta tb) :=
 cI (aIV ha hb) λσ H Q ⟨ρ,M,Q',re,hm,q,k⟩=>⟨ρ,M,_,re,hm,q,λx H1 ⟨d,M1,rd,hm1,e1,q1⟩=>by
  cases d with
  |bl c =>
   refine⟨c,bZ rd,?_⟩;cases c with
   |false=>exact⟨ρ,M1,_,re.ext e1,hm1,q1,λv H' z=>k v H' (z.back e1)⟩
   |true=>exact k _ H1 ⟨_,M1,dW,hm1,e1,q1⟩
  |_=>exact q1.elim⟩
theorem aGR (ha:PDE X a ta):PDE X (.UnaryOp .Not a pos) (aCY ta) :=
 cI (aHu ha) λσ H Q ⟨ρ,M,Q',re,hm,q,k⟩=>⟨ρ,M,_,re,hm,q,λx H1 ⟨d,M1,rd,hm1,e1,q1⟩=>by
  cases d with
  |bl c=>exact⟨c,bZ rd,k _ H1 ⟨_,M1,dW,hm1,e1,q1⟩⟩
  |_=>exact q1.elim⟩
def aGj (t:DT)(ta tb:DE):DE:=λρ M Q=>t ρ M λc M1=>if c=true then ta ρ M1 Q else tb ρ M1 Q
theorem aDf (hc:PDT X c tA)(ha:PDE X a ta)(hb:PDE X b tb):PDE X (.IfExp c a b pos) (aGj tA ta tb) :=
 cI (aCE hc ha hb) λσ H Q ⟨ρ,M,Q',re,hm,q,k⟩=>⟨ρ,M,_,re,hm,q,λc H1 ⟨M1,hm1,e1,q1⟩=>by
  cases c with
  |true=>exact⟨ρ,M1,_,re.ext e1,hm1,q1,λv H' z=>k v H' (z.back e1)⟩
  |false=>exact⟨ρ,M1,_,re.ext e1,hm1,q1,λv H' z=>k v H' (z.back e1)⟩⟩
def lH:DA:=λ_ M Q=>Q [] M
def eR (ta:DE)(tr:DA):DA:=λρ M Q=>ta ρ M λx M1=>tr ρ M1 λxs M2=>Q (x::xs) M2
theorem uK:PDA X [] lH:=aBC yH λσ H Q ⟨ρ,M,Q',re,hm,q,k⟩=>k [] H ⟨[],M,cD,hm,.refl H,q⟩
theorem lB (ha:PDE X e te)(hr:PDA X es t)(hs:starEach (e::es) X.env=(false,eval e X.env)::starEach es X.env:=by rfl):PDA X (e::es) (eR te t) :=
 aBC (nT ha hr hs) λσ H Q ⟨ρ,M,Q',re,hm,q,k⟩=>⟨ρ,M,_,re,hm,q,λx H1 ⟨dx,M1,rx,hm1,e1,q1⟩=>⟨ρ,M1,_,re.ext e1,hm1,q1,λxs H2 ⟨dxs,M2,rxs,hm2,e2,q2⟩ =>
  k _ H2 ⟨dx::dxs,M2,bU (rx.ext e2) rxs,hm2,e1.trans e2,q2⟩⟩⟩
def aF3 (t:DA):DE:=λρ M Q=>t ρ M λxs M1=>xs.length<=1000/\Q (.tup xs) M1
def aFT (t:DA):DE:=λρ M Q=>t ρ M λxs M1=>xs.length<=1000/\∀p:Addr,M1 p=none->Q (.ref p) (aU M1 p xs)
theorem aHH {x1}(h:PDA X es t):PDE X (.Tuple es x1 pos) (aF3 t) :=
 cI (aFo h) λσ H Q ⟨ρ,M,Q',re,hm,q,k⟩=>⟨ρ,M,_,re,hm,q,λxs H1 ⟨ds,M1,rs,hm1,e1,q1,q2⟩=>⟨by rw[<- rs.length];exact Nat.le_of_lt (dE q1),λp hp =>
  k _ _ ⟨.tup ds,M1,mC (.of bD) (rs.ext (Ext.new hp _)),hm1.new hp _,e1.trans (Ext.new hp _),q2⟩⟩⟩
theorem aFw (h:PDA X es t):PDE X (.List es pos) (aFT t) :=
 cI (aHh h) λσ H Q ⟨ρ,M,Q',re,hm,q,k⟩=>⟨ρ,M,_,re,hm,q,λxs H1 ⟨ds,M1,rs,hm1,e1,q1,q2⟩=>⟨by rw[<- rs.length];exact Nat.le_of_lt (dE q1),λp hp =>
  k _ _ ⟨.ref p,_,cK,hm1.lnew hp rs,e1.trans (Ext.new hp _),q2 p (hm1.fresh hp)⟩⟩⟩
end
section
variable {X:Cx}{st:Stmt}{bV:List Stmt}{t u:DS}{e:Expr}{te:DE}{pos:Pos}
def aBL:DS:=λE ρ M=>E.nx ρ M
def aFr (t u:DS):DS:=λE ρ M=>t { E with nx:=u E } ρ M
theorem aDC:jQ X [] aBL:=uH aEs λE σ H ⟨ρ,M,D,re,hm,q,k⟩=>k.nx σ H ⟨ρ,M,re,hm,.refl H,q⟩
theorem aBR (h1:PDS X st t)(h2:jQ X bV u):jQ X (st::bV) (aFr t u) :=
 uH (wH h1 h2) λE σ H ⟨ρ,M,D,re,hm,q,k⟩=>⟨ρ,M,{ D with nx:=u D },re,hm,q,
  ⟨λσ' H' ⟨ρ',M',re',hm',ex,q'⟩=>⟨ρ',M',D,re',hm',q',k.at ex⟩,k.rt,k.bk,k.ct⟩⟩
theorem aDF (h1:PDS X st t):jQ X [st] t:=aDY h1
def aCi (te:DE):DS:=λE ρ M=>te ρ M λ_ M1=>E.nx ρ M1
theorem aDV (he:PDE X e te)(hs:swapsWith e none pos.line X.env=pure false:=by rfl):PDS X (.Expr e pos) (aCi te) :=
 eU (aD4 he hs) λE σ H ⟨ρ,M,D,re,hm,q,k⟩=>⟨ρ,M,_,re,hm,q,λv H1 ⟨d,M1,rd,hm1,ex,q1⟩=>k.nx σ H1 ⟨ρ,M1,re.ext ex,hm1,ex,q1⟩⟩
def aGl (te:DE):DS:=λE ρ M=>te ρ M E.rt
theorem aGw (he:PDE X e te):PDS X (.Return (some e) pos) (aGl te) :=
 eU (aGa he) λE σ H ⟨ρ,M,D,re,hm,q,k⟩=>⟨ρ,M,_,re,hm,q,k.rt⟩
def aHf (c:DT)(t u:DS):DS:=λE ρ M=>c ρ M λb M1=>if b=true then t E ρ M1 else u E ρ M1
theorem aIU {c:Expr}{a b:List Stmt}{tc:DT}(hc:PDT X c tc)(ha:jQ X a t)(hb:jQ X b u):PDS X (.If c a b pos) (aHf tc t u) :=
 eU (aH0 hc ha hb) λE σ H ⟨ρ,M,D,re,hm,q,k⟩=>⟨ρ,M,_,re,hm,q,λb H1 ⟨M1,hm1,ex,q1⟩=>by
  cases b with
  |true=>exact⟨ρ,M1,D,re.ext ex,hm1,q1,k.at ex⟩
  |false=>exact⟨ρ,M1,D,re.ext ex,hm1,q1,k.at ex⟩⟩
def zF:DS:=λ_ _ _=>False
theorem aBK:PDS X st zF:=λ_ _ _ _ _ _ ⟨_,_,_,_,_,q,_⟩=>q.elim
end
section
variable {X:Cx}{pos:Pos}{e tg:Expr}{es:List Expr}{te:DE}
def gN (i:Nat):DG:=λd ρ M Q=>Q (ρ.set i (some d)) M
theorem aDu {i:Nat}{x:Str}(hN:X.N.Nodup)(hi:X.N[i]?=some x:=by rfl)(hx:Loc X.env.scope x:=by first|exact Or.inl rfl|exact Or.inr rfl)(hf:X.fn x=true∨X.env.scope.names.lookup x=some .local:=by first|exact .inl rfl|exact .inr rfl|assumption):PDG X (.Name x pos) (gN i) :=
 uG (aDQ (i:=i) hN hi hx hf) λv σ H Q ⟨d,ρ,M,Q',rd,re,hm,q,k⟩=>k _ H ⟨_,M,re.set rd i,hm,.refl H,q⟩
def gNl:DGs:=λds ρ M Q=>match ds with
 |[]=>Q ρ M
 |_=>False
def gCn (t:DG)(u:DGs):DGs:=λds ρ M Q=>match ds with
 |d::r=>t d ρ M λρ' M'=>u r ρ' M' Q
 |[]=>False
theorem aEe:xD X [] gNl:=zO aD0 λv σ H Q ⟨ds,ρ,M,Q',rd,re,hm,q,k⟩=>by
 cases ds with
 |nil=>exact⟨bE rd,k σ H ⟨ρ,M,re,hm,.refl H,q⟩⟩
 |cons _ _=>exact q.elim
theorem aB9 {t:DG}{u:DGs}(h1:PDG X e t)(h2:xD X es u)(hs:(assignEach (e::es) X.env).map (·.2)=assign e X.env::(assignEach es X.env).map (·.2):=by rfl):xD X (e::es) (gCn t u) :=
 zO (aBM h1 h2 hs) λv σ H Q ⟨ds,ρ,M,Q',rd,re,hm,q,k⟩=>by
  cases ds with
  |nil=>exact q.elim
  |cons d r =>
   obtain⟨x,xs,rfl,rx,rxs⟩:=aN rd;exact⟨x,xs,rfl,d,ρ,M,_,rx,re,hm,q,λσ' H' ⟨ρ',M',re',hm',ex,q'⟩=>⟨r,ρ',M',Q',rxs.ext ex,re',hm',q',λσ2 H2 z=>k σ2 H2 (z.back ex)⟩⟩
def gT (n:Nat)(t:DGs):DG:=λd ρ M Q=>match d with
 |.tup ds=>ds.length=n/\t ds ρ M Q
 |_=>False
theorem aHv {k:Nat}{t:DGs}{n:Nat}(hc:X.calm=true)(h:xD X es t)(hn:(assignEach es X.env).length=n:=by rfl)(hst:(assignEach es X.env).findIdx? (·.1)=none:=by rfl):PDG X (.Tuple es k pos) (gT n t) :=
 uG (aF5 hc h hn hst) λv σ H Q ⟨d,ρ,M,Q',rd,re,hm,q,k⟩=>by
  cases d with
  |tup ds =>
   obtain⟨a,xs,rfl,sq,rs⟩:=bI rd;exact⟨a,xs,rfl,sq,by rw[<- rs.length];exact q.1,ds,ρ,M,Q',rs,re,hm,q.2,k⟩
  |_=>exact q.elim
def aAQ (te:DE)(g:DG):DS:=λE ρ M=>te ρ M λx M1=>g x ρ M1 E.nx
theorem aEt {g:DG}{σ:L2.St}{H:Hp}{E:pO}(h:aCc X.K (aAQ te g) E σ H):low X.K te σ H λx H1=>xU X.K g x σ H1 E.nx:=by obtain⟨ρ,M,D,re,hm,q,k⟩:=h;exact⟨ρ,M,_,re,hm,q,λv H1 ⟨d,M1,rd,hm1,ex,q1⟩=>⟨d,ρ,M1,_,rd,re.ext ex,hm1,q1,λσ' H' z=>k.nx σ' H' (z.back ex)⟩⟩
theorem aFS {g:DG}(he:PDE X e te)(hg:PDG X tg g)(hs:swapsWithSole [tg] e pos.line X.env=pure false:=by rfl)(hw:swappedStores [tg] e X.env=pure none:=by rfl)(h1:(assignEach [tg] X.env).map (·.2)=[assign tg X.env]:=by rfl):PDS X (.Assign [tg] e pos) (aAQ te g) :=
 eU (aGx he hg hs hw h1) λE σ H h=>aEt h
theorem aFv {i:Nat}{x:Str}{pos':Pos}(hN:X.N.Nodup)(he:PDE X e te)(hi:X.N[i]?=some x:=by rfl)(hx:Loc X.env.scope x:=by first|exact Or.inl rfl|exact Or.inr rfl)(hs:swapsWith e (some (.Name x pos')) pos.line X.env=pure false:=by rfl)(hf:X.fn x=true∨X.env.scope.names.lookup x=some .local:=by first|exact .inl rfl|exact .inr rfl|assumption) :
  PDS X (.Assign [.Name x pos'] e pos) (aAQ te (gN i)) :=
 eU (aHD (i:=i) hN hi hx he hs hf) λE σ H ⟨ρ,M,D,re,hm,q,k⟩=>⟨ρ,M,_,re,hm,q,λv H1 ⟨d,M1,rd,hm1,ex,q1⟩=>k.nx _ H1 ⟨_,M1,(re.ext ex).set rd i,hm1,ex,q1⟩⟩
def aHw (i j:Nat)(ta:DA):DS:=λE ρ M=>ta ρ M λds M1=>match ds with
 |[x,y]=>E.nx ((ρ.set i (some x)).set j (some y)) M1
 |_=>False
theorem aHy {i j:Nat}{x y:Str}{a b:Expr}{ta:DA}{px py pt:Pos}{kt k2 pt2}(hc:X.calm=true)(hN:X.N.Nodup)(ha:PDA X [a,b] ta)(hi:X.N[i]?=some x:=by rfl)(hj:X.N[j]?=some y:=by rfl)(hij:i≠j:=by decide)(hx:X.env.scope.names.lookup x=some .local:=by rfl)(hy:X.env.scope.names.lookup y=some .local:=by rfl)(hw:swappedStores [.Tuple [.Name x px,.Name y py] kt pt] (.Tuple [a,b] k2 pt2) X.env=pure (some [x,y]):=by rfl)(hs:swapsWithSole [.Tuple [.Name x px,.Name y py] kt pt] (.Tuple [a,b] k2 pt2) pos.line X.env=pure false:=by rfl) :
  PDS X (.Assign [.Tuple [.Name x px,.Name y py] kt pt] (.Tuple [a,b] k2 pt2) pos) (aHw i j ta) :=
 eU (aHx (i:=i) (j:=j) hc hN hi hj hij hx hy ha hw hs) λE σ H ⟨ρ,M,D,re,hm,q,k⟩=>⟨ρ,M,_,re,hm,q,λvs H1 ⟨ds,M1,rs,hm1,ex,q1⟩=>by
  match ds,q1 with
  |[d1,d2],q1 =>
   obtain⟨v1,r1,rfl,rv1,rr1⟩:=aN rs;obtain⟨v2,r2,rfl,rv2,rr2⟩:=aN rr1;obtain rfl:=bE rr2;exact⟨v1,v2,rfl,k.nx _ H1 ⟨_,M1,((re.ext ex).set rv1 i).set rv2 j,hm1,ex,q1⟩⟩
  |[],q1=>exact q1.elim
  |[_],q1=>exact q1.elim
  |_::_::_::_,q1=>exact q1.elim⟩
def aC9 (to ti:DE):DG:=λd ρ M Q=>to ρ M λo M1=>ti ρ M1 λi M2=>match o,i with
 |.ref p,.int k=>∃ds j,M2 p=some ds/\ixN ds.length k=some j/\Q ρ (aU M2 p (ds.set j d))
 |_,_=>False
theorem aFG {o i:Expr}{to ti:DE}(ho:PDE X o to)(hi:PDE X i ti)(ha:∀v,assign (.Subscript o i pos) X.env v=(do
   let ov <- holding [v] (eval o X.env)
   let iv <- holding [v,ov] (eval i X.env)
   standAt pos
   holding [v,ov,iv] (setItem ov iv v)
   release [v,ov,iv] []):=by intro _;rfl):PDG X (.Subscript o i pos) (aC9 to ti) :=
 uG (aB1 ho hi aCz ha) λv σ H Q ⟨d,ρ,M,Q',rd,re,hm,q,k⟩=>⟨ρ,M,_,re,hm,q,λov H1 ⟨dov,M1,rov,hm1,e1,q1⟩=>⟨ρ,M1,_,re.ext e1,hm1,q1,λiv H2 ⟨div,M2,riv,hm2,e2,q2⟩=>by
  cases dov with
  |ref p =>
   cases div with
   |int z =>
    obtain⟨ds,j,hp,hj,q2⟩:=q2;obtain rfl:=aM rov;obtain rfl:=aQ riv;obtain⟨xs,hx,rs⟩:=hm2.l p ds hp;exact⟨p,xs,z,j,rfl,rfl,hx,by rw[<- rs.length];exact hj,k _ _ ⟨ρ,_,((re.ext e1).ext e2).ext (Ext.put hx _),hm2.put hx (rs.set ((rd.ext e1).ext e2) j),(e1.trans e2).trans (Ext.put hx _),q2⟩⟩
   |_=>exact q2.elim
  |_=>exact q2.elim⟩⟩
end
section
variable {X:Cx}{pos:Pos}
def zD (c:DT)(tb:DS):DS:=λE ρ M=>∃W:Nat->cH->DM->Prop,(∃m,W m ρ M)/\∀m ρ M,W m ρ M ->
 c ρ M λb M1=>if b=true then tb { E with nx:=λρ' M'=>∃m',m'<m/\W m' ρ' M',ct:=λρ' M'=>∃m',m'<m/\W m' ρ' M',bk:=E.nx } ρ M1 else E.nx ρ M1
theorem aBv {c:Expr}{body:List Stmt}{tc:DT}{tb:DS}(hp:PassesOwn (model X.prog X.w) X.A X.env X.xe)(hc:PDT X c tc)(hb:jQ X body tb):PDS X (.While c body [] pos) (zD tc tb) :=
 eU (aC2 hp hc hb) λE σ H ⟨ρ,M,D,re,hm,⟨W,⟨m0,w0⟩,turn⟩,k⟩=>by
  refine⟨λm σ' H'=>∃ρ' M',eV X.K H' ρ' σ'/\bF X.K M' H'/\Ext H H'/\W m ρ' M',⟨m0,ρ,M,re,hm,.refl H,w0⟩,?_⟩;rintro m σ1 H1 ⟨ρ1,M1,re1,hm1,e1,w1⟩;refine⟨ρ1,M1,_,re1,hm1,turn m ρ1 M1 w1,λb H2 ⟨M2,hm2,e2,q2⟩=>?_⟩;cases b with
  |false=>exact k.nx σ1 H2 ⟨ρ1,M2,re1.ext e2,hm2,e1.trans e2,q2⟩
  |true =>
   refine⟨λσ' H'=>∃m',m'<m/\∃ρ' M',eV X.K H' ρ' σ'/\bF X.K M' H'/\Ext H H'/\W m' ρ' M',λσ' H' z=>z,?_⟩;refine⟨ρ1,M2,_,re1.ext e2,hm2,q2,?_⟩;have ex:=e1.trans e2;exact⟨λσ' H' ⟨ρ',M',a,b,c,m',l,d⟩=>⟨m',l,ρ',M',a,b,ex.trans c,d⟩,λv H' z=>k.rt v H' (z.back ex),λσ' H' z=>k.nx σ' H' (z.back ex),λσ' H' ⟨ρ',M',a,b,c,m',l,d⟩=>⟨m',l,ρ',M',a,b,ex.trans c,d⟩⟩
theorem sS {c:DT}{tb:DS}{E:eF}{ρ:cH}{M:DM}(Pv:Nat->cH->DM->Prop)(m0:Nat)(h0:Pv m0 ρ M)(hs:∀m ρ M,Pv m ρ M->c ρ M λb M1=>if b=true then tb { E with nx:=λρ' M'=>∃m',m'<m/\Pv m' ρ' M',ct:=λρ' M'=>∃m',m'<m/\Pv m' ρ' M',bk:=E.nx } ρ M1 else E.nx ρ M1):zD c tb E ρ M:=⟨Pv,⟨m0,h0⟩,hs⟩
def dIt (at':Option Addr)(ds:List D)(g:DG)(tb:DS):DS:=λE ρ M=>∃Pv:Nat->cH->DM->Prop,Pv 0 ρ M /\
 (∀i ρ M,i<=ds.length->Pv i ρ M->∀a,at'=some a->M a=some ds) /\
 (∀i d ρ M,ds[i]?=some d->Pv i ρ M->g d ρ M λρ2 M2=>tb { E with nx:=Pv (i+1),ct:=Pv (i+1),bk:=E.nx } ρ2 M2)/\∀ρ M,Pv ds.length ρ M->E.nx ρ M
def aCg (tl:DE)(g:DG)(tb:DS):DS:=λE ρ M=>tl ρ M λd M1=>match d with
 |.fz ds=>dIt none ds g tb E ρ M1
 |.ref a=>∃ds,M1 a=some ds/\dIt (some a) ds g tb E ρ M1
 |_=>False
variable {iter tg:Expr}{body:List Stmt}{tl:DE}{g:DG}{tb:DS}
theorem aB0 {K:Frag}{a':Option Addr}{ds:List D}{E:pO}{Dn:eF}{σ:L2.St}{ρ:cH}{M:DM}{H0 H:Hp}{J:It}(ex0:Ext H0 H)(re:eV K H ρ σ)(hm:bF K M H)(k:mB K H0 Dn E)(h:dIt a' ds g tb Dn ρ M)(seq:∀H',Ext H H'->(∀M',bF K M' H'->(∀a,a'=some a->M' a=some ds)->∃xs,aY K H' ds xs/\(∀i,xs.length<=i->J.stop i H')/\(∀i,i<xs.length->J.go i H')/\∀i x H2,J.yld i H' x H2->H2=H'/\xs[i]?=some x)) :
  ∃W:Nat->Nat->L2.St->Hp->Prop,(∃m,W 0 m σ H)/\∀i m σ H,W i m σ H ->
   (J.stop i H/\E.nx σ H)∨(J.go i H/\∃N:L2.St->Hp->Prop,(∀σ' H',N σ' H'->∃m',m'<m/\W (i+1) m' σ' H')/\∀x H',J.yld i H x H'->xU K g x σ H' λσ2 H2=>aCc K tb { E with nx:=N,ct:=N,bk:=E.nx } σ2 H2):=by
 obtain⟨Pv,p0,hat,step,done⟩:=h;refine⟨λi m σ' H'=>∃ρ' M',eV K H' ρ' σ'/\bF K M' H'/\Ext H H'/\m=ds.length-i/\i<=ds.length/\Pv i ρ' M',⟨ds.length,ρ,M,re,hm,.refl H,rfl,Nat.zero_le _,p0⟩,?_⟩;rintro i m σ1 H1 ⟨ρ1,M1,re1,hm1,e1,rfl,hi,w1⟩;obtain⟨xs,rs,hst,hgo,hy⟩:=seq H1 e1 M1 hm1 (hat i ρ1 M1 hi w1);have hl:=rs.length;by_cases hlt:i<ds.length
 ·refine .inr ⟨hgo i (by omega),λσ' H'=>∃ρ' M',eV K H' ρ' σ'/\bF K M' H'/\Ext H H'/\Pv (i+1) ρ' M',λσ' H' ⟨ρ',M',a,b,c,d⟩=>⟨ds.length-(i+1),by omega,ρ',M',a,b,c,rfl,hlt,d⟩,λx H' y=>?_⟩;obtain⟨rfl,hx⟩:=hy i x H' y;obtain⟨d,hd,rd⟩:=rs.getV hx;refine⟨d,ρ1,M1,_,rd,re1,hm1,step i d ρ1 M1 hd w1,λσ2 H2 ⟨ρ2,M2,re2,hm2,e2,q2⟩=>⟨ρ2,M2,_,re2,hm2,q2,?_⟩⟩;have ex:=e1.trans e2;exact⟨λσ' H' ⟨ρ',M',a,b,c,d⟩=>⟨ρ',M',a,b,ex.trans c,d⟩,λv H' z=>k.rt v H' (z.back (ex0.trans ex)),λσ' H' z=>k.nx σ' H' (z.back (ex0.trans ex)),λσ' H' ⟨ρ',M',a,b,c,d⟩=>⟨ρ',M',a,b,ex.trans c,d⟩⟩
 ·have e:i=ds.length:=by omega
  subst e;exact .inl ⟨hst _ (by omega),k.nx σ1 H1 ⟨ρ1,M1,re1,hm1,ex0.trans e1,done ρ1 M1 w1⟩⟩
end
section
variable {X:Cx}{pos:Pos}{iter tg:Expr}{body:List Stmt}{tl:DE}{g:DG}{tb:DS}{ta:DA}
theorem aDM (hp:PassesOwn (model X.prog X.w) X.A X.env X.xe)(hc:X.calm=true)(hi:PDE X iter tl)(hg:PDG X tg g)(hb:jQ X body tb)(hs:∀x,foldedSetIterable iter X.env x=pure x:=by intro _;rfl):PDS X (.For tg iter body [] pos) (aCg tl g tb) :=
 eU (xZ hp hc (uS hi) hg hb hs) λE σ H ⟨ρ,M,Dn,re,hm,q,k⟩=>⟨ρ,M,_,re,hm,q,λv H1 ⟨d,M1,rd,hm1,ex,q1⟩=>by
  cases d with
  |fz ds =>
   obtain⟨a,xs,rfl,sq,rs⟩:=iX rd;exact⟨a,rfl,⟨xs,sq.sq⟩,aB0 ex (re.ext ex) hm1 k q1 λH' e' M' hm' _=>⟨xs,rs.ext e',λi hi=>⟨xs,(fL e' sq).sq,hi⟩,λi hi=>⟨xs,xs[i],(fL e' sq).sq,by simp[hi]⟩,λi x H2 y=>⟨y.1,y.2 xs (fL e' sq).sq⟩⟩⟩
  |ref a =>
   obtain⟨ds,ha,q1⟩:=q1;obtain rfl:=aM rd;obtain⟨xs,hx,rs⟩:=hm1.l a ds ha;refine⟨a,rfl,⟨xs,.of hx⟩,aB0 ex (re.ext ex) hm1 k q1 λH' e' M' hm' hat=>?_⟩;obtain⟨ys,hy,rs'⟩:=hm'.l a ds (hat a rfl);exact⟨ys,rs',λi hi=>⟨ys,.of hy,hi⟩,λi hi=>⟨ys,ys[i],.of hy,by simp[hi]⟩,λi x H2 y=>⟨y.1,y.2 ys (.of hy)⟩⟩
  |_=>exact q1.elim⟩
end
mutual
noncomputable def eqD:D->D->Bool
 |.tup xs,.tup ys=>fR xs ys
 |.non,.non=>true
 |.bl a,.bl b=>a==b
 |.bl a,.int b=>(if a then 1 else 0)==b
 |.int a,.bl b=>a==(if b then 1 else 0)
 |.int a,.int b=>a==b
 |.str a,.str b=>a==b
 |_,_=>false
noncomputable def fR:List D->List D->Bool
 |[],[]=>true
 |x::xs,y::ys=>eqD x y&&fR xs ys
 |_,_=>false
end
noncomputable def bH:Nat->D->Bool
 |_,.ref _=>false
 |_,.fz _=>false
 |0,.tup _=>false
 |n+1,.tup ds=>ds.all (bH n)
 |_,_=>true
noncomputable def nR:List D->List D->Nat->Bool
 |x::_,y::_,0=>eqD x y
 |_::xs,_::ys,j+1=>nR xs ys j
 |_,_,_=>true
theorem qG (n:Nat)(e:Nat->Bool):(range (n+1)).all e=(e 0&&(range n).all λj=>e (j+1)):=by rw[List.range_succ_eq_map,all_cons,List.all_map];rfl
theorem fE:∀(xs ys:List D),fR xs ys=((range (min xs.length ys.length)).all (nR xs ys)&&xs.length==ys.length)
 |[],[]=>by simp[fR]
 |[],_::_=>by simp[fR]
 |_::_,[]=>by simp[fR]
 |x::xs,y::ys=>by
  have ih:=fE xs ys;have e1:min (x::xs).length (y::ys).length=min xs.length ys.length+1:=by simp only[length_cons];omega
  have e2:((x::xs).length==(y::ys).length)=(xs.length==ys.length):=by simp
  rw[e1,e2,qG];show(eqD x y&&fR xs ys)=((eqD x y&&(range (min xs.length ys.length)).all λj=>nR xs ys j)&&xs.length==ys.length);rw[ih,Bool.and_assoc]
section
variable {X:Cx}{pins:List (Addr×Obj)}{σ:L2.St}{H:Hp}{s:Shared}
theorem sC {n:Nat}{d:D}(p:bH n d=true)(h:∀xs,d ≠ .tup xs):bH 0 d=true:=by
 cases d with
 |tup xs=>exact absurd rfl (h xs)
 |ref b=>cases n<;>exact absurd p Bool.false_ne_true
 |fz b=>cases n<;>exact absurd p Bool.false_ne_true
 |_=>rfl
theorem nQ {d d':D}{v:V}(p:bH 0 d=true)(p':bH 0 d'=true)(r:Rep X.K H d v)(r':Rep X.K H d' v):eqD d d'=true:=by
 cases d<;>cases d'<;>first
  |(exact absurd p Bool.false_ne_true)
  |(exact absurd p' Bool.false_ne_true)
  |(unfold Rep at r r';subst r;cases r'<;>simp[eqD])
theorem qY {d:D}{a:Addr}(p:bH 0 d=true)(r:Rep X.K H d (.ref a)):False:=by
 cases d<;>first
  |(exact absurd p Bool.false_ne_true)
  |(unfold Rep at r;cases r)
theorem vT {n:Nat}(ih:∀{d d':D}{v:V},bH n d=true->bH n d'=true->Rep X.K H d v->Rep X.K H d' v->eqD d d'=true) :
  ∀{xs ys:List D}{us:List V},xs.all (bH n)=true->ys.all (bH n)=true->aY X.K H xs us->aY X.K H ys us->fR xs ys=true
 |[],[],_,_,_,_,_=>by simp[fR]
 |[],_::_,_,_,_,r,r'=>by rw[bE r] at r';obtain⟨_,_,z,_⟩:=aN r';cases z
 |_::_,[],_,_,_,r,r'=>by rw[bE r'] at r;obtain⟨_,_,z,_⟩:=aN r;cases z
 |x::xs,y::ys,_,p1,p2,r,r'=>by obtain⟨v0,r0,rfl,h1,h2⟩:=aN r;obtain⟨v0',r0',e0,h1',h2'⟩:=aN r';cases e0;rw[all_cons,Bool.and_eq_true] at p1 p2;show(eqD x y&&fR xs ys)=true;rw[ih p1.1 p2.1 h1 h1',vT ih p1.2 p2.2 h2 h2'];rfl
theorem aEO (I:Inv X pins σ H s):∀(n:Nat){d d':D} {v:V},bH n d=true->bH n d'=true->Rep X.K H d v->Rep X.K H d' v->eqD d d'=true:=by
 intro n
 induction n with
 |zero=>intro d d' v p p' r r';exact nQ p p' r r'
 |succ n ih =>
  intro d d' v p p' r r';by_cases h1:∃xs,d=.tup xs
  ·obtain⟨xs,rfl⟩:=h1;obtain⟨a,us,rfl,sq,rs⟩:=bI r;by_cases h2:∃ys,d'=.tup ys
   ·obtain⟨ys,rfl⟩:=h2;obtain⟨a',us',e1',sq',rs'⟩:=bI r';cases e1';obtain rfl:=I.tuple_inj sq sq';exact vT ih p p' rs rs'
   ·exact(qY (sC p' λxs e=>h2 ⟨xs,e⟩) r').elim
  ·have p0:=sC p λxs e=>h1 ⟨xs,e⟩;by_cases h2:∃ys,d'=.tup ys
   ·obtain⟨ys,rfl⟩:=h2;obtain⟨a',us',rfl,sq',rs'⟩:=bI r';exact(qY p0 r).elim
   ·exact nQ p0 (sC p' λxs e=>h2 ⟨xs,e⟩) r r'
theorem gJ (I:Inv X pins σ H s){a:Addr}{xs:List V}(sq:SqT X.K H a xs):∃its:List Value,bJ xs its/\s.heap.IsTuple a its.toArray:=let ⟨its,r,p,_⟩:=I.tuple sq;⟨its,r,p⟩
theorem pT {d:D}{v:V}{n:Nat}(h:Rep X.K H d v)(p:bH 0 d=true):aCH v=true:=by
 cases d with
 |non=>unfold Rep at h;subst h;rfl
 |bl b=>unfold Rep at h;subst h;rfl
 |int b=>unfold Rep at h;subst h;rfl
 |str b=>unfold Rep at h;subst h;rfl
 |tup b=>exact absurd p Bool.false_ne_true
 |ref b=>exact absurd p Bool.false_ne_true
 |fz b=>exact absurd p Bool.false_ne_true
theorem nF {A:Around}{n:Nat}(ih:∀{d d':D}{v v':V} {u u':Value},bH n d=true->bH n d'=true->Rep X.K H d v->Rep X.K H d' v'->RelV v u->RelV v' u'->SeqAt.EqAt A s u u' (eqD d d')) :
  ∀{xs ys:List D}{us us':List V} {its its':List Value},xs.all (bH n)=true->ys.all (bH n)=true->aY X.K H xs us->aY X.K H ys us'->bJ us its->bJ us' its'->∀j (h1:j<its.length) (h2:j<its'.length),SeqAt.EqAt A s its[j] its'[j] (nR xs ys j)
 |[],ys,us,us',its,its',_,_,r1,_,v1,_,j,h1,_=>by rw[bE r1] at v1;cases v1;exact absurd h1 (Nat.not_lt_zero _)
 |_::_,[],us,us',its,its',_,_,_,r2,_,v2,j,_,h2=>by rw[bE r2] at v2;cases v2;exact absurd h2 (Nat.not_lt_zero _)
 |x::xs,y::ys,us,us',its,its',p1,p2,r1,r2,v1,v2,j,h1,h2=>by
  obtain⟨a,ra,rfl,ha,hra⟩:=aN r1;obtain⟨b,rb,rfl,hb,hrb⟩:=aN r2;rw[all_cons,Bool.and_eq_true] at p1 p2;cases v1 with
  |cons q1 w1 =>
   cases v2 with
   |cons q2 w2 =>
    cases j with
    |zero=>exact ih p1.1 p2.1 ha hb q1 q2
    |succ j=>exact nF ih p1.2 p2.2 hra hrb w1 w2 j (Nat.lt_of_succ_lt_succ h1) (Nat.lt_of_succ_lt_succ h2)
theorem aBm {d d':D}{v v':V}(p:bH 0 d=true)(p':bH 0 d'=true)(r:Rep X.K H d v)(r':Rep X.K H d' v'):eqV v v'=eqD d d':=by
 cases d<;>cases d'<;>first
  |(exact absurd p Bool.false_ne_true)
  |(exact absurd p' Bool.false_ne_true)
  |(unfold Rep at r r';subst r;subst r';simp[eqD,eqV])
theorem aAh (I:Inv X pins σ H s):∀(n:Nat){A:Around} {d d':D} {v v':V} {u u':Value},A.units+n<cLine->bH n d=true->bH n d'=true->Rep X.K H d v->Rep X.K H d' v'->RelV v u->RelV v' u'->SeqAt.EqAt A s u u' (eqD d d'):=by
 intro n
 induction n with
 |zero =>
  intro A d d' v v' u u' hu p p' r r' q q';have:=aCq (A:=A) (s:=s) q q' (pT (n:=0) r p) (pT (n:=0) r' p');rw[aBm p p' r r'] at this;exact this
 |succ n ih =>
  intro A d d' v v' u u' hu p p' r r' q q';by_cases h1:∃xs,d=.tup xs
  ·obtain⟨xs,rfl⟩:=h1;obtain⟨a,us,rfl,sq,rs⟩:=bI r;obtain⟨its,rv,ht⟩:=gJ I sq;cases q;by_cases h2:∃ys,d'=.tup ys
   ·obtain⟨ys,rfl⟩:=h2;obtain⟨a',us',rfl,sq',rs'⟩:=bI r';obtain⟨its',rv',ht'⟩:=gJ I sq';cases q';by_cases hll:a=a'
    ·subst hll;rw[aEO I (n+1) p p' r r'];exact SeqAt.EqAt.same _
    ·have e1:=rs.length;have e2:=rv.length;have e3:=rs'.length;have e4:=rv'.length;show SeqAt.EqAt A s (.ref a) (.ref a') (fR xs ys);rw[fE,show xs.length=its.toArray.size by rw[size_toArray];omega,show ys.length=its'.toArray.size by rw[size_toArray];omega];refine SeqAt.EqAt.of_refs hll (SeqAt.RcAt.tuples ht ht' (by omega) λj j1 j2=>?_);have hu':A.in1.units+n<cLine:=by show A.units+1+n<cLine;omega
     have:=nF (A:=A.in1) (s:=s) (λ{d d' v v' u u'} p p' r r' q q'=>ih hu' p p' r r' q q') p p' rs rs' rv rv' j (by simpa using j1) (by simpa using j2);simpa using this
   ·have p0:=sC p' (λxs e=>h2 ⟨xs,e⟩);cases d' with
    |non=>rw[dI r'] at q';cases q';exact SeqAt.EqAt.tuple_none ht (by omega)
    |bl b=>rw[bZ r'] at q';cases q';exact SeqAt.EqAt.tuple_bool b ht (by omega)
    |int b=>rw[aQ r'] at q';obtain⟨t,rfl⟩:=q';exact SeqAt.EqAt.tuple_int b t ht (by omega)
    |str b=>rw[cW r'] at q';obtain⟨t,rfl⟩:=q';exact SeqAt.EqAt.tuple_str b t ht (by omega)
    |tup b=>exact absurd p0 Bool.false_ne_true
    |ref b=>exact absurd p0 Bool.false_ne_true
    |fz b=>exact absurd p0 Bool.false_ne_true
  ·have p0:=sC p (λxs e=>h1 ⟨xs,e⟩);by_cases h2:∃ys,d'=.tup ys
   ·obtain⟨ys,rfl⟩:=h2;obtain⟨a',us',rfl,sq',rs'⟩:=bI r';obtain⟨its',rv',ht'⟩:=gJ I sq';cases q';cases d with
    |non=>rw[dI r] at q;cases q;exact SeqAt.EqAt.none_tuple ht' (by omega)
    |bl b=>rw[bZ r] at q;cases q;exact SeqAt.EqAt.bool_tuple b ht' (by omega)
    |int b=>rw[aQ r] at q;obtain⟨t,rfl⟩:=q;exact SeqAt.EqAt.int_tuple b t ht' (by omega)
    |str b=>rw[cW r] at q;obtain⟨t,rfl⟩:=q;exact SeqAt.EqAt.str_tuple b t ht' (by omega)
    |tup b=>exact absurd p0 Bool.false_ne_true
    |ref b=>exact absurd p0 Bool.false_ne_true
    |fz b=>exact absurd p0 Bool.false_ne_true
   ·have p0':=sC p' (λxs e=>h2 ⟨xs,e⟩);have:=aCq (A:=A) (s:=s) q q' (pT (n:=0) r p0) (pT (n:=0) r' p0');rw[aBm p0 p0' r r'] at this;exact this
theorem aII (I:Inv X pins σ H s){A:Around}(hu:A.units+60<cLine){d d':D}{v v':V}{u u':Value}(p:bH 60 d=true)(p':bH 60 d'=true)(r:Rep X.K H d v)(r':Rep X.K H d' v')(q:RelV v u)(q':RelV v' u') :
  SeqAt.RcAt A s u u' (eqD d d')/\SeqAt.RcNeAt A s u u' (!eqD d d'):=by
 have hu0:A.units<cLine:=by omega
 cases d with
 |ref b=>exact absurd p Bool.false_ne_true
 |fz b=>exact absurd p Bool.false_ne_true
 |tup xs =>
  obtain⟨a,us,rfl,sq,rs⟩:=bI r;obtain⟨its,rv,ht⟩:=gJ I sq;cases q;cases d' with
  |ref b=>exact absurd p' Bool.false_ne_true
  |fz b=>exact absurd p' Bool.false_ne_true
  |non=>rw[dI r'] at q';cases q';exact⟨SeqAt.RcAt.tuple_none ht hu0,SeqAt.RcNeAt.tuple_none ht hu0⟩
  |bl b=>rw[bZ r'] at q';cases q';exact⟨SeqAt.RcAt.tuple_bool b ht hu0,SeqAt.RcNeAt.tuple_bool b ht hu0⟩
  |int b=>rw[aQ r'] at q';obtain⟨t,rfl⟩:=q';exact⟨SeqAt.RcAt.tuple_int b t ht hu0,SeqAt.RcNeAt.tuple_int b t ht hu0⟩
  |str b=>rw[cW r'] at q';obtain⟨t,rfl⟩:=q';exact⟨SeqAt.RcAt.tuple_str b t ht hu0,SeqAt.RcNeAt.tuple_str b t ht hu0⟩
  |tup ys =>
   obtain⟨a',us',rfl,sq',rs'⟩:=bI r';obtain⟨its',rv',ht'⟩:=gJ I sq';cases q';have e1:=rs.length;have e2:=rv.length;have e3:=rs'.length;have e4:=rv'.length;have hit:∀j (h1:j<its.toArray.size) (h2:j<its'.toArray.size),SeqAt.EqAt A.in1 s its.toArray[j] its'.toArray[j] (nR xs ys j):=λj j1 j2=>by
    have hu':A.in1.units+59<cLine:=by show A.units+1+59<cLine;omega
    have:=nF (A:=A.in1) (s:=s) (λ{d d' v v' u u'} p p' r r' q q'=>aAh I 59 hu' p p' r r' q q') p p' rs rs' rv rv' j (by simpa using j1) (by simpa using j2);simpa using this
   have hz:eqD (.tup xs) (.tup ys)=((range (min its.toArray.size its'.toArray.size)).all (nR xs ys)&&its.toArray.size==its'.toArray.size):=by show fR xs ys=_;rw[fE,show xs.length=its.toArray.size by rw[size_toArray];omega,show ys.length=its'.toArray.size by rw[size_toArray];omega]
   rw[hz];exact⟨SeqAt.RcAt.tuples ht ht' hu0 hit,SeqAt.RcNeAt.tuples ht ht' hu0 hit⟩
 |non =>
  rw[dI r] at q;cases q;cases d' with
  |ref b=>exact absurd p' Bool.false_ne_true
  |fz b=>exact absurd p' Bool.false_ne_true
  |non=>rw[dI r'] at q';cases q';exact⟨SeqAt.RcAt.none_none,SeqAt.RcNeAt.none_none⟩
  |bl b=>rw[bZ r'] at q';cases q';exact⟨SeqAt.RcAt.none_bool b,SeqAt.RcNeAt.none_bool b⟩
  |int b=>rw[aQ r'] at q';obtain⟨t,rfl⟩:=q';exact⟨SeqAt.RcAt.none_int b t,SeqAt.RcNeAt.none_int b t⟩
  |str b=>rw[cW r'] at q';obtain⟨t,rfl⟩:=q';exact⟨SeqAt.RcAt.none_str b t,SeqAt.RcNeAt.none_str b t⟩
  |tup ys =>
   obtain⟨a',us',rfl,sq',rs'⟩:=bI r';obtain⟨its',rv',ht'⟩:=gJ I sq';cases q';exact⟨SeqAt.RcAt.none_tuple ht' hu0,SeqAt.RcNeAt.none_tuple ht' hu0⟩
 |bl z =>
  rw[bZ r] at q;cases q;cases d' with
  |ref b=>exact absurd p' Bool.false_ne_true
  |fz b=>exact absurd p' Bool.false_ne_true
  |non=>rw[dI r'] at q';cases q';exact⟨SeqAt.RcAt.bool_none z,SeqAt.RcNeAt.bool_none z⟩
  |bl b=>rw[bZ r'] at q';cases q';exact⟨SeqAt.RcAt.bool_bool z b,SeqAt.RcNeAt.bool_bool z b⟩
  |int b=>rw[aQ r'] at q';obtain⟨t,rfl⟩:=q';exact⟨SeqAt.RcAt.bool_int z b t,SeqAt.RcNeAt.bool_int z b t⟩
  |str b=>rw[cW r'] at q';obtain⟨t,rfl⟩:=q';exact⟨SeqAt.RcAt.bool_str z b t,SeqAt.RcNeAt.bool_str z b t⟩
  |tup ys =>
   obtain⟨a',us',rfl,sq',rs'⟩:=bI r';obtain⟨its',rv',ht'⟩:=gJ I sq';cases q';exact⟨SeqAt.RcAt.bool_tuple z ht' hu0,SeqAt.RcNeAt.bool_tuple z ht' hu0⟩
 |int z =>
  rw[aQ r] at q;obtain⟨tz,rfl⟩:=q;cases d' with
  |ref b=>exact absurd p' Bool.false_ne_true
  |fz b=>exact absurd p' Bool.false_ne_true
  |non=>rw[dI r'] at q';cases q';exact⟨SeqAt.RcAt.int_none z tz,SeqAt.RcNeAt.int_none z tz⟩
  |bl b=>rw[bZ r'] at q';cases q';exact⟨SeqAt.RcAt.int_bool z tz b,SeqAt.RcNeAt.int_bool z tz b⟩
  |int b=>rw[aQ r'] at q';obtain⟨t,rfl⟩:=q';exact⟨SeqAt.RcAt.int_int z tz b t,SeqAt.RcNeAt.int_int z tz b t⟩
  |str b=>rw[cW r'] at q';obtain⟨t,rfl⟩:=q';exact⟨SeqAt.RcAt.int_str z tz b t,SeqAt.RcNeAt.int_str z tz b t⟩
  |tup ys =>
   obtain⟨a',us',rfl,sq',rs'⟩:=bI r';obtain⟨its',rv',ht'⟩:=gJ I sq';cases q';exact⟨SeqAt.RcAt.int_tuple z tz ht' hu0,SeqAt.RcNeAt.int_tuple z tz ht' hu0⟩
 |str z =>
  rw[cW r] at q;obtain⟨tz,rfl⟩:=q;cases d' with
  |ref b=>exact absurd p' Bool.false_ne_true
  |fz b=>exact absurd p' Bool.false_ne_true
  |non=>rw[dI r'] at q';cases q';exact⟨SeqAt.RcAt.str_none z tz,SeqAt.RcNeAt.str_none z tz⟩
  |bl b=>rw[bZ r'] at q';cases q';exact⟨SeqAt.RcAt.str_bool z tz b,SeqAt.RcNeAt.str_bool z tz b⟩
  |int b=>rw[aQ r'] at q';obtain⟨t,rfl⟩:=q';exact⟨SeqAt.RcAt.str_int z tz b t,SeqAt.RcNeAt.str_int z tz b t⟩
  |str b=>rw[cW r'] at q';obtain⟨t,rfl⟩:=q';exact⟨SeqAt.RcAt.str_str z tz b t,SeqAt.RcNeAt.str_str z tz b t⟩
  |tup ys =>
   obtain⟨a',us',rfl,sq',rs'⟩:=bI r';obtain⟨its',rv',ht'⟩:=gJ I sq';cases q';exact⟨SeqAt.RcAt.str_tuple z tz ht' hu0,SeqAt.RcNeAt.str_tuple z tz ht' hu0⟩
end
section
variable {X:Cx}{a b e o:Expr}{es:List Expr}{ta tb te to:DE}{t:DA}{pos:Pos}
def d2I (C:Int->Int->Prop)(g:Int->Int->D):D2:=λx y M Q=>match x,y with
 |.int i,.int j=>C i j/\Q (g i j) M
 |_,_=>False
def d2J (g:Int->Int->D):D2:=λx y M Q=>match x,y with
 |.int i,.int j=>Q (g i j) M
 |_,_=>False
theorem aDJ {f:Value->Value->Sem Value}{C:Int->Int->Prop}{g:Int->Int->D}{g':Int->Int->V}(h:OpR X f (rI C g'))(hg:∀H i j,Rep X.K H (g i j) (g' i j)):OpD X f (d2I C g) :=
 OpD.of h λx y H M dx dy Q rx ry hm q=>by
  cases dx with
  |int i =>
   cases dy with
   |int j=>exact⟨i,j,aQ rx,aQ ry,q.1,_,M,hg H i j,hm,.refl H,q.2⟩
   |_=>exact q.elim
  |_=>exact q.elim
theorem aBS {f:Value->Value->Sem Value}{g:Int->Int->D}{g':Int->Int->V}(h:OpR X f (rI0 g'))(hg:∀H i j,Rep X.K H (g i j) (g' i j)):OpD X f (d2J g) :=
 OpD.of h λx y H M dx dy Q rx ry hm q=>by
  cases dx with
  |int i =>
   cases dy with
   |int j=>exact⟨i,j,aQ rx,aQ ry,_,M,hg H i j,hm,.refl H,q⟩
   |_=>exact q.elim
  |_=>exact q.elim
theorem kN:OpD X (binaryOp .Sub) (d2J λi j=>.int (i-j)):=aBS aHC λ_ _ _=>cP
theorem aD3:OpR X (binaryOp .Mult) (rI IntMulOk λi j=>.int (i*j)):=opI λ_ _ _ _ _ _ _ hc q=>mul_int q hc
theorem bN:OpD X (binaryOp .Mult) (d2I IntMulOk λi j=>.int (i*j)):=aDJ aD3 λ_ _ _=>cP
def CFd (i j:Int):Prop:=j≠0/\j.natAbs.log2<9000
theorem aHI:OpR X (binaryOp .FloorDiv) (rI CFd λi j=>.int (i.fdiv j)):=opI λ_ _ _ _ _ _ _ hc q=>floordiv_int hc.1 q (.inl (PyProof.noPylong_of_log2 hc.2))
theorem cY:OpD X (binaryOp .FloorDiv) (d2I CFd λi j=>.int (i.fdiv j)):=aDJ aHI λ_ _ _=>cP
theorem lR:OpD X (binaryOp .Mod) (d2I (λ_ j=>j≠0) λi j=>.int (i.fmod j)):=aDJ aEE λ_ _ _=>cP
theorem oI:OpD X (binaryOp .Pow) (d2I aJa λi j=>.int (i^j.toNat)):=aDJ aHs λ_ _ _=>cP
theorem nO:OpD X (compareOp .Lt) (d2J λi j=>.bl (decide (i<j))):=aBS aIr λ_ _ _=>dW
theorem aIc:OpD X (compareOp .LtE) (d2J λi j=>.bl (decide (i<=j))):=aBS aHT λ_ _ _=>dW
theorem aBN:OpD X (compareOp .Gt) (d2J λi j=>.bl (decide (j<i))):=aBS aHS λ_ _ _=>dW
theorem aIK:OpD X (compareOp .GtE) (d2J λi j=>.bl (decide (j<=i))):=aBS aHX λ_ _ _=>dW
def aIT:D2:=λx y M Q=>match x,y with
 |.int i,.int j=>Q (.int (i+j)) M
 |.ref a,.ref b=>∃xs ys,M a=some xs/\M b=some ys/\xs.length+ys.length<=1000/\∀p:Addr,M p=none->Q (.ref p) (aU M p (xs++ys))
 |.fz xs,.ref b=>∃ys,M b=some ys/\xs.length+ys.length<=1000/\∀p:Addr,M p=none->Q (.ref p) (aU M p (xs++ys))
 |.tup xs,.tup ys=>xs≠[]/\ys≠[]/\xs.length+ys.length<=1000/\Q (.tup (xs++ys)) M
 |_,_=>False
theorem aDc {pins:List (Addr×Obj)}{σ:L2.St}{H:Hp}{s:Shared}(I:Inv X pins σ H s){a:Addr}{xs:List V}(h:SqX X.K H a xs):xs.length<=sizeLine/\∃(its:List Value)(n:Nat),bJ xs its/\s.heap.get? a = some { cls:=.type "list",data:=.seq its.toArray n }:=by
 rcases h with⟨o,h⟩|⟨its,n,hk,hz,r⟩
 ·obtain⟨_,z,its,n,r,e⟩:=I.hok a _ h;exact⟨z,its,n,r,e⟩
 ·have e:=r.length;simp only[Array.length_toList] at e;exact⟨by omega,its.toList,n,r,by simpa using I.kIn a _ hk⟩
theorem eD:OpD X (binaryOp .Add) aIT:=by
 intro pins s σ H x y v u Q I rx ry ⟨dx,dy,M,Q',r1,r2,hm,q,k⟩;cases dx with
 |int i =>
  cases dy with
  |int j=>exact aGp pins s σ H x y v u Q I rx ry ⟨i,j,aQ r1,aQ r2,k _ H ⟨_,M,cP,hm,.refl H,q⟩⟩
  |_=>exact q.elim
 |ref a =>
  cases dy with
  |ref b =>
   obtain⟨xs,ys,ha,hb,hl,q⟩:=q;obtain⟨us,hu,ru⟩:=hm.l a xs ha;obtain⟨ws,hw,rw'⟩:=hm.l b ys hb;refine aGi pins s σ H x y v u Q I rx ry ⟨a,b,us,ws,aM r1,aM r2,hu,hw,?_,λp hp=>k _ _ ⟨.ref p,_,cK,hm.lnew hp (ru.append rw'),Ext.new hp _,q p (hm.fresh hp)⟩⟩;rw[<- ru.length,<- rw'.length];exact Nat.le_of_lt (dE hl)
  |_=>exact q.elim
 |fz xs =>
  cases dy with
  |ref b =>
   obtain⟨ys,hb,hl,q⟩:=q;obtain⟨a,us,rfl,sq,ru⟩:=iX r1;obtain⟨ws,hw,rw'⟩:=hm.l b ys hb;obtain rfl:=aM r2;cases rx;cases ry;obtain⟨z,its,n,r,e⟩:=aDc I sq;obtain⟨z2,its2,n2,r3,hl2,e2⟩:=I.lstM hw;have l1:=r.length;have l2:=r3.length;have l3:=ru.length;have l4:=rw'.length;have hz:=dE hl;refine PySem.P.add_list e e2 ?_ (by rw[size_toArray,size_toArray];omega);have ea:its.toArray++its2.toArray=(its++its2).toArray:=by simp
   rw[ea];refine⟨.ref _,_,I.lnew (t':=s.toks) (r.append r3) (by rw[length_append];omega),rfl,k _ _ ⟨.ref _,_,cK,hm.lnew I.fresh (ru.append rw'),Ext.new I.fresh _,q _ (hm.fresh I.fresh)⟩⟩
  |_=>exact q.elim
 |tup xs =>
  cases dy with
  |tup ys =>
   obtain⟨h1,h2,hl,q⟩:=q;obtain⟨a,us,rfl,sq,ru⟩:=bI r1;obtain⟨b,ws,rfl,sq2,rw'⟩:=bI r2;have l3:=ru.length;have l4:=rw'.length;refine aDt pins s σ H _ _ v u Q I rx ry ?_;have n1:us≠[]:=λz=>by rw[z] at l3;exact h1 (List.length_eq_zero_iff.mp l3)
   have n2:ws≠[]:=λz=>by rw[z] at l4;exact h2 (List.length_eq_zero_iff.mp l4)
   exact⟨a,b,us,ws,rfl,rfl,sq,sq2,n1,by rw[<- l3,<- l4];exact Nat.le_of_lt (dE hl),λz=>absurd z n2,λ_ p hp=>k _ _ ⟨.tup _,M,mC (.of bD) ((ru.append rw').ext (Ext.new hp _)),hm.new hp _,Ext.new hp _,q⟩⟩
  |_=>exact q.elim
 |_=>exact q.elim
def dEq (g:Bool->Bool):D2:=λx y M Q=>match x,y with
 |.ref a,.ref b=>∃xs ys,M a=some xs/\M b=some ys/\(a≠b)/\xs.all (bH 59)=true/\ys.all (bH 59)=true/\Q (.bl (g (fR xs ys))) M
 |x,y=>bH 60 x=true/\bH 60 y=true/\Q (.bl (g (eqD x y))) M
theorem aBT {pins:List (Addr×Obj)}{σ:L2.St}{H:Hp}{s:Shared}(I:Inv X pins σ H s){A:Around}(hu:A.units+60<cLine){a b:Addr}{us ws:List V}{xs ys:List D}(ha:H a=some (.lst us))(hb:H b=some (.lst ws))(ru:aY X.K H xs us)(rw':aY X.K H ys ws)(p:xs.all (bH 59)=true)(p':ys.all (bH 59)=true):SeqAt.RcAt A s (.ref a) (.ref b) (fR xs ys)/\SeqAt.RcNeAt A s (.ref a) (.ref b) (!fR xs ys):=by
 obtain⟨z,its,n,r,hl,e⟩:=I.lstM ha;obtain⟨z2,its2,n2,r3,hl2,e2⟩:=I.lstM hb;have i1:s.heap.IsList a its.toArray:=⟨_,e,rfl,_,rfl⟩;have i2:s.heap.IsList b its2.toArray:=⟨_,e2,rfl,_,rfl⟩;have l3:=ru.length;have l4:=rw'.length;have hu0:A.units<cLine:=by omega
 by_cases hz:its.toArray.size=its2.toArray.size
 ·have hz':=hz;rw[size_toArray,size_toArray] at hz';have hit:∀j (h1:j<its.toArray.size) (h2:j<its2.toArray.size),SeqAt.EqAt A.in1 s its.toArray[j] its2.toArray[j] (nR xs ys j):=λj j1 j2=>by
   have hu':A.in1.units+59<cLine:=by show A.units+1+59<cLine;omega
   have:=nF (A:=A.in1) (s:=s) (λ{d d' v v' u u'} p p' r r' q q'=>aAh I 59 hu' p p' r r' q q') p p' ru rw' r r3 j (by simpa using j1) (by simpa using j2);simpa using this
  have hz2:fR xs ys=(range its.toArray.size).all (nR xs ys):=by rw[fE,show min xs.length ys.length=its.toArray.size by rw[size_toArray];omega,show(xs.length==ys.length)=true by simp;omega,Bool.and_true]
  rw[hz2];exact⟨SeqAt.RcAt.lists i1 i2 hz hu0 hit,SeqAt.RcNeAt.lists i1 i2 hz hu0 hit⟩
 ·have hz':=hz;rw[size_toArray,size_toArray] at hz';have hz2:fR xs ys=false:=by rw[fE,show(xs.length==ys.length)=false by simp;omega,Bool.and_false]
  rw[hz2];exact⟨SeqAt.RcAt.lists_lengths i1 i2 (by simpa using hz) hu0,SeqAt.RcNeAt.lists_lengths i1 i2 (by simpa using hz) hu0⟩
theorem aCG (hu:X.A.units+60<cLine):OpD X (compareOp .Eq) (dEq id)/\OpD X (compareOp .NotEq) (dEq not):=by
 have key:∀{pins:List (Addr×Obj)}{s:Shared} {σ:L2.St} {H:Hp} {x y:V} {v u:Value} {dx dy:D} {M:DM} {Q':DQ} {g:Bool->Bool},Inv X pins σ H s->RelV x v->RelV y u->Rep X.K H dx x->Rep X.K H dy y->bF X.K M H->dEq g dx dy M Q' ->
   ∃b,SeqAt.RcAt X.A s v u b/\SeqAt.RcNeAt X.A s v u (!b)/\Q' (.bl (g b)) M:=by
  intro pins s σ H x y v u dx dy M Q' g I rx ry r1 r2 hm q;have gen:bH 60 dx=true->bH 60 dy=true->Q' (.bl (g (eqD dx dy))) M->∃b,SeqAt.RcAt X.A s v u b/\SeqAt.RcNeAt X.A s v u (!b)/\Q' (.bl (g b)) M:=λp p' q=>let ⟨h1,h2⟩:=aII I hu p p' r1 r2 rx ry;⟨_,h1,h2,q⟩
  cases dx with
  |ref a =>
   cases dy with
   |ref b =>
    obtain⟨xs,ys,ha,hb,_,p,p',q⟩:=q;obtain⟨us,hu',ru⟩:=hm.l a xs ha;obtain⟨ws,hw,rw'⟩:=hm.l b ys hb;obtain rfl:=aM r1;obtain rfl:=aM r2;cases rx;cases ry;obtain⟨h1,h2⟩:=aBT I hu hu' hw ru rw' p p';exact⟨_,h1,h2,q⟩
   |_=>exact gen q.1 q.2.1 q.2.2
  |_=>exact gen q.1 q.2.1 q.2.2
 refine⟨λpins s σ H x y v u Q I rx ry ⟨dx,dy,M,Q',r1,r2,hm,q,k⟩=>?_,λpins s σ H x y v u Q I rx ry ⟨dx,dy,M,Q',r1,r2,hm,q,k⟩=>?_⟩
 ·obtain⟨b,h1,_,q⟩:=key I rx ry r1 r2 hm q;exact h1 X.prog X.w X.xe _ ⟨.bl b,H,I,rfl,k _ H ⟨.bl b,M,dW,hm,.refl H,q⟩⟩
 ·obtain⟨b,_,h2,q⟩:=key I rx ry r1 r2 hm q;exact h2 X.prog X.w X.xe _ ⟨.bl (!b),H,I,rfl,k _ H ⟨.bl (!b),M,dW,hm,.refl H,q⟩⟩
theorem eI {k:Nat}(hr:cO k X.A):OpD X (compareOp .Eq) (dEq id):=(aCG (by have:=hr.un;omega)).1
theorem zX {k:Nat}(hr:cO k X.A):OpD X (compareOp .NotEq) (dEq not):=(aCG (by have:=hr.un;omega)).2
def aGG (ta:DE):DE:=λρ M Q=>ta ρ M λx M1=>match x with
 |.int i=>Q (.int (-i)) M1
 |_=>False
theorem aGf (ha:PDE X a ta):PDE X (.UnaryOp .USub a pos) (aGG ta) :=
 cI (aH5 aGr ha) λσ H Q ⟨ρ,M,Q',re,hm,q,k⟩=>⟨ρ,M,_,re,hm,q,λx H1 ⟨d,M1,rd,hm1,ex,q1⟩=>by
  cases d with
  |int i=>exact⟨i,aQ rd,k _ H1 ⟨_,M1,cP,hm1,ex,q1⟩⟩
  |_=>exact q1.elim⟩
def mG:D2:=λx y M Q=>match x,y with
 |.tup ds,.int i=>match atI ds i with
  |some d=>Q d M
  |none=>False
 |.fz ds,.int i=>match atI ds i with
  |some d=>Q d M
  |none=>False
 |.ref a,.int i=>∃ds d,M a=some ds/\atI ds i=some d/\Q d M
 |_,_=>False
theorem rJ {K:Frag}{H:Hp}{ds:List D}{xs:List V}{i:Int}{d:D}(r:aY K H ds xs)(h:atI ds i=some d):∃v,atI xs i=some v/\Rep K H d v:=by
 unfold atI at h ⊢;rw[<- r.length];cases e:ixN ds.length i with
 |none=>rw[e] at h;cases h
 |some j =>
  rw[e] at h;exact r.get h
theorem ixd:IxR X λx y H Q=>∃dx dy M Q',Rep X.K H dx x/\Rep X.K H dy y/\bF X.K M H/\mG dx dy M Q'/\∀v H',LQ X.K H Q' v H'->Q v H':=by
 intro value slice pins s σ H x y v u Q I rx ry ⟨dx,dy,M,Q',r1,r2,hm,q,k⟩ hs;cases dx with
 |tup ds =>
  cases dy with
  |int i =>
   obtain⟨a,us,rfl,sq,ru⟩:=bI r1;obtain rfl:=aQ r2;cases e:atI ds i with
   |none=>exact absurd q (by show ¬(match atI ds i with|some d=>Q' d M|none=>False);rw[e];exact id)
   |some d =>
    have q':Q' d M:=by have z:(match atI ds i with|some d=>Q' d M|none=>False):=q;rw[e] at z;exact z
    obtain⟨w,hw,rw'⟩:=rJ ru e;exact aGm value slice pins s σ H _ _ v u Q I rx ry ⟨a,us,i,w,rfl,rfl,sq,hw,k _ H ⟨d,M,rw',hm,.refl H,q'⟩⟩ hs
  |_=>exact q.elim
 |fz ds =>
  cases dy with
  |int i =>
   obtain⟨a,us,rfl,sq,ru⟩:=iX r1;obtain rfl:=aQ r2;cases e:atI ds i with
   |none=>exact absurd q (by show ¬(match atI ds i with|some d=>Q' d M|none=>False);rw[e];exact id)
   |some d =>
    have q':Q' d M:=by have z:(match atI ds i with|some d=>Q' d M|none=>False):=q;rw[e] at z;exact z
    obtain⟨w,hw,rw'⟩:=rJ ru e;exact aAt value slice pins s σ H _ _ v u Q I rx ry ⟨a,us,i,w,rfl,rfl,sq.sq,hw,k _ H ⟨d,M,rw',hm,.refl H,q'⟩⟩ hs
  |_=>exact q.elim
 |ref a =>
  cases dy with
  |int i =>
   obtain⟨ds,d,ha,e,q'⟩:=q;obtain rfl:=aM r1;obtain rfl:=aQ r2;obtain⟨us,hu,ru⟩:=hm.l a ds ha;obtain⟨w,hw,rw'⟩:=rJ ru e;exact aAt value slice pins s σ H _ _ v u Q I rx ry ⟨a,us,i,w,rfl,rfl,.of hu,hw,k _ H ⟨d,M,rw',hm,.refl H,q'⟩⟩ hs
  |_=>exact q.elim
 |_=>exact q.elim
theorem aCs (ha:PDE X a ta)(hb:PDE X b tb)(hs:mS b:=by exact λ_ _=>rfl):PDE X (.Subscript a b pos) (dOp mG ta tb) :=
 cI (aIg ixd ha hb hs) λσ H Q h=>tU (λ_ _ _ _ z=>z) h
abbrev DO:=cH->DM->(Option Int->DM->Prop)->Prop
def xY (K:Frag)(t:DO):TO:=λσ H Q=>∃ρ M Q',eV K H ρ σ/\bF K M H/\t ρ M Q'/\∀i H',(∃M',bF K M' H'/\Ext H H'/\Q' i M')->Q i H'
noncomputable def aGX:DO:=λ_ M Q=>Q none M
noncomputable def dPt (t:DE):DO:=λρ M Q=>t ρ M λx M1=>match x with
 |.int i=>Q (some i) M1
 |_=>False
theorem aEr:PO X none (xY X.K aGX):=λpins s σ H Q I ⟨ρ,M,Q',re,hm,q,k⟩=>aDT pins s σ H Q I (k none H ⟨M,hm,.refl H,q⟩)
theorem aEn (h:PDE X e te):PO X (some e) (xY X.K (dPt te)):=λpins s σ H Q I ⟨ρ,M,Q',re,hm,q,k⟩=>aD5 h pins s σ H Q I ⟨ρ,M,_,re,hm,q,λv H1 ⟨d,M1,rd,hm1,ex,q1⟩=>by
 cases d with
 |int i=>exact⟨i,aQ rd,k (some i) H1 ⟨M1,hm1,ex,q1⟩⟩
 |_=>exact q1.elim⟩
noncomputable def cutD (xs:List D)(lo hi:Option Int):List D:=(xs.drop (HT.sIx xs.length 0 lo)).take (HT.sIx xs.length xs.length hi-HT.sIx xs.length 0 lo)
theorem wW {K:Frag}{H:Hp}{ds:List D}{xs:List V}(r:aY K H ds xs)(lo hi:Option Int):aY K H (cutD ds lo hi) (aA8 xs lo hi):=by unfold cutD aA8;rw[r.length];exact(r.drop _).take _
def aIF (x:D)(lo hi:Option Int)(M:DM)(Q:DQ):Prop:=match x with
 |.fz ds=>∀p:Addr,M p=none->Q (.ref p) (aU M p (cutD ds lo hi))
 |.ref a=>∃ds,M a=some ds/\∀p:Addr,M p=none->Q (.ref p) (aU M p (cutD ds lo hi))
 |_=>False
def dSl (te:DE)(tl th:DO):DE:=λρ M Q=>te ρ M λx M1=>tl ρ M1 λl M2=>th ρ M2 λh M3=>aIF x l h M3 Q
variable {lo hi:Option Expr}{tl th:DO}{p2:Pos}
theorem aCW (he:PDE X e te)(hl:PO X lo (xY X.K tl))(hu:PO X hi (xY X.K th)):PDE X (.Subscript e (.Slice lo hi none p2) pos) (dSl te tl th) :=
 cI (aB3 aDI he hl hu) λσ H Q ⟨ρ,M,Q',re,hm,q,k⟩=>⟨ρ,M,_,re,hm,q,λv H1 ⟨d,M1,rd,hm1,e1,q1⟩=>⟨ρ,M1,_,re.ext e1,hm1,q1,λl H2 ⟨M2,hm2,e2,q2⟩=>⟨ρ,M2,_,(re.ext e1).ext e2,hm2,q2,λh H3 ⟨M3,hm3,e3,q3⟩=>by
  have rd3:=(rd.ext e2).ext e3;have ex:=(e1.trans e2).trans e3;cases d with
  |fz ds =>
   obtain⟨a,us,rfl,sq,ru⟩:=iX rd3;exact⟨a,us,rfl,sq.sq,λp hp=>k _ _ ⟨.ref p,_,cK,hm3.lnew hp (wW ru l h),ex.trans (Ext.new hp _),q3 p (hm3.fresh hp)⟩⟩
  |ref a =>
   obtain⟨ds,ha,q3⟩:=q3;obtain rfl:=aM rd;obtain⟨us,hu,ru⟩:=hm3.l a ds ha;exact⟨a,us,rfl,.of hu,λp hp=>k _ _ ⟨.ref p,_,cK,hm3.lnew hp (wW ru l h),ex.trans (Ext.new hp _),q3 p (hm3.fresh hp)⟩⟩
  |_=>exact q3.elim⟩⟩⟩
abbrev DSp:=List D->DM->DQ->Prop
def mL (K:Frag)(sp:DSp):Sp:=λvs H Q _=>∃ds M Q',aY K H ds vs/\bF K M H/\sp ds M Q'/\∀v H',LQ K H Q' v H'->Q v H'
def mR (sp:DSp)(t:DA):DE:=λρ M Q=>t ρ M λds M1=>sp ds M1 Q
variable {CX:CXT}{k:Nat}{f:Addr}{fd:FuncData}{ps:List Str}{sp:DSp}{E:XK}{x:Str}{p:Pos}
theorem aEl (F:jP X.prog X.w X.K X.mg X.base CX k f fd ps (mL X.K sp))(hr:cO k X.A)(hm:X.mg x=some (.ref f))(hk:keepIn X.K (.ref f)=true)(hb:pB X.K fd ps [])(hx:uC CX X E)(ha:PDA X (e::es) t)(hg:Gl X x:=by rfl)(hdb:(x==("__debug__":Str))=false:=by decide)(he:starEach (e::es) X.env=(false,eval e X.env)::starEach es X.env:=by rfl)(hpl:(backTo pos (starEach es X.env)).any (·.1)=false:=by rfl) :
  PDE X (.Call (.Name x p) (e::es) [] pos) (mR sp t) :=
 cI (aDn F hr hg hm hk hb .nil hx ha hdb he hpl) λσ H Q ⟨ρ,M,Q',re,hm,q,k⟩=>⟨ρ,M,_,re,hm,q,λvs H1 ⟨ds,M1,rs,hm1,ex,q1⟩=>⟨ds,M1,Q',by rw[append_nil];exact rs,hm1,q1,λv H' z=>k v H' (z.back ex)⟩⟩
def eB (X:Cx)(fv:Value)(r:DSp):Prop:=jO X fv λvs H Q=>∃ds M Q',aY X.K H ds vs/\bF X.K M H/\r ds M Q'/\∀v H',LQ X.K H Q' v H'->Q v H'
theorem eB.of {fv:Value}{r:List V->Hp->VK->Prop}{r':DSp}(h:jO X fv r)(l:∀vs H M ds Q,aY X.K H ds vs->bF X.K M H->r' ds M Q->r vs H (LQ X.K H Q)):eB X fv r':=λpins s σ H xs us Q I rs ⟨ds,M,Q',r1,hm,q,k⟩ =>
 thn (h pins s σ H xs us _ I rs (l xs H M ds Q' r1 hm q)) λv s h=>zU h k
theorem aBW {r:DSp}{σ:L2.St}{H:Hp}{Q:VK}(h:low X.K (mR r t) σ H Q):aIA X.K t σ H λvs H1=>∃ds M Q',aY X.K H1 ds vs/\bF X.K M H1/\r ds M Q'/\∀v H',LQ X.K H1 Q' v H'->Q v H':=by obtain⟨ρ,M,Q',re,hm,q,k⟩:=h;exact⟨ρ,M,_,re,hm,q,λvs H1 ⟨ds,M1,rs,hm1,ex,q1⟩=>⟨ds,M1,Q',rs,hm1,q1,λv H' z=>k v H' (z.back ex)⟩⟩
theorem aB2 {id:String}{r:DSp}(hc:eB X (.builtin id) r)(hm:X.mg x = none)(ha:PDA X (e :: es) t)(hv:bootBuiltins x = some (.builtin id):=by rfl)(hg:Gl X x:=by rfl)(hn:x ≠ "__name__":=by decide)(hdb:(x==("__debug__":Str))=false:=by decide)(he:starEach (e::es) X.env=(false,eval e X.env)::starEach es X.env:=by rfl)(hpl:(backTo pos (starEach es X.env)).any (·.1)=false:=by rfl):PDE X (.Call (.Name x p) (e::es) [] pos) (mR r t) :=
 cI (vY hc hg hm hv ha hn hdb he hpl) λσ H Q h=>aBW h
theorem aAP {T:String}{r:DSp}(hc:eB X (.type T) r)(hm:X.mg x = none)(ha:PDA X (e :: es) t)(hv:bootBuiltins x = some (.type T):=by rfl)(hg:Gl X x:=by rfl)(hn:x ≠ "__name__":=by decide)(hdb:(x==("__debug__":Str))=false:=by decide)(he:starEach (e::es) X.env=(false,eval e X.env)::starEach es X.env:=by rfl)(hpl:(backTo pos (starEach es X.env)).any (·.1)=false:=by rfl):PDE X (.Call (.Name x p) (e::es) [] pos) (mR r t) :=
 cI (aBc hc hg hm hv ha hn hdb he hpl) λσ H Q h=>aBW h
end
section
variable {X:Cx}{a b e o:Expr}{es:List Expr}{ta tb te to:DE}{t:DA}{pos:Pos}
def aH3:DSp:=λds M Q=>match ds with
 |[.int i]=>Q (.int (if i<0 then -i else i)) M
 |_=>False
theorem fS {K:Frag}{H:Hp}{d:D}{vs:List V}(h:aY K H [d] vs):∃v,vs=[v]/\Rep K H d v:=by obtain⟨v,r,rfl,rv,rr⟩:=aN h;obtain rfl:=bE rr;exact⟨v,rfl,rv⟩
theorem aBB {K:Frag}{H:Hp}{d d2:D}{vs:List V}(h:aY K H [d,d2] vs):∃v v2,vs=[v,v2]/\Rep K H d v/\Rep K H d2 v2:=by obtain⟨v,r,rfl,rv,rr⟩:=aN h;obtain⟨v2,rfl,rv2⟩:=fS rr;exact⟨v,v2,rfl,rv,rv2⟩
theorem yK:eB X (.builtin "abs") aH3:=eB.of aCd λvs H M ds Q rs hm q=>by
 rcases ds with _|⟨d,_|⟨d2,r⟩⟩
 ·exact q.elim
 ·cases d with
  |int i =>
   obtain⟨v,rfl,rv⟩:=fS rs;obtain rfl:=aQ rv;exact⟨i,rfl,_,M,cP,hm,.refl H,q⟩
  |_=>exact q.elim
 ·cases d<;>exact q.elim
def aIB:DSp:=λds M Q=>match ds with
 |[.int i]=>Q (.int i) M
 |[.bl k]=>Q (.int (if k then 1 else 0)) M
 |_=>False
theorem aBD:eB X (.type "int") aIB:=eB.of aA2 λvs H M ds Q rs hm q=>by
 rcases ds with _|⟨d,_|⟨d2,r⟩⟩
 ·exact q.elim
 ·cases d with
  |int i =>
   obtain⟨v,rfl,rv⟩:=fS rs;obtain rfl:=aQ rv;exact .inl ⟨i,rfl,_,M,cP,hm,.refl H,q⟩
  |bl i =>
   obtain⟨v,rfl,rv⟩:=fS rs;obtain rfl:=bZ rv;exact .inr ⟨i,rfl,_,M,cP,hm,.refl H,q⟩
  |_=>exact q.elim
 ·cases d<;>exact q.elim
def qO:DSp:=λds M Q=>match ds with
 |[.tup xs]=>Q (.int xs.length) M
 |[.fz xs]=>Q (.int xs.length) M
 |[.ref a]=>∃xs,M a=some xs/\Q (.int xs.length) M
 |_=>False
theorem rN:eB X (.builtin "len") qO:=eB.of uX λvs H M ds Q rs hm q=>by
 rcases ds with _|⟨d,_|⟨d2,r⟩⟩
 ·exact q.elim
 ·cases d with
  |tup xs =>
   obtain⟨v,rfl,rv⟩:=fS rs;obtain⟨a,us,rfl,sq,ru⟩:=bI rv;exact⟨a,us,rfl,.inr sq,_,M,by rw[<- ru.length];exact cP,hm,.refl H,q⟩
  |fz xs =>
   obtain⟨v,rfl,rv⟩:=fS rs;obtain⟨a,us,rfl,sq,ru⟩:=iX rv;exact⟨a,us,rfl,.inl sq.sq,_,M,by rw[<- ru.length];exact cP,hm,.refl H,q⟩
  |ref a =>
   obtain⟨v,rfl,rv⟩:=fS rs;obtain rfl:=aM rv;obtain⟨xs,ha,q⟩:=q;obtain⟨us,hu,ru⟩:=hm.l a xs ha;exact⟨a,us,rfl,.inl (.of hu),_,M,by rw[<- ru.length];exact cP,hm,.refl H,q⟩
  |_=>exact q.elim
 ·cases d<;>exact q.elim
def vN (to te:DE):DE:=λρ M Q=>to ρ M λx M1=>match x with
 |.ref p=>(∃ds,M1 p=some ds)/\eR te lH ρ M1 λys M2=>∃ds y,ys=[y]/\M2 p=some ds/\ds.length<1000/\Q .non (aU M2 p (ds++[y]))
 |_=>False
theorem aBi {apos cpos:Pos}(ho:PDE X o to)(he:PDE X e te)(hse:starEach [e] X.env=(false,eval e X.env)::starEach [] X.env:=by rfl)(hbase:attributeBase o "append" X.env (eval o X.env)=eval o X.env:=by rfl)(hfew:((backTo cpos (starEach [e] X.env)).all (λx=>!x.1)&&(backToKw cpos (keywordEach [] X.env)).all (λx=>x.1.isSome)
  &&decide ([e].length+([]:List Keyword).length+(if ([]:List Keyword).isEmpty then 0 else 1)<30))=true:=by rfl)(hline:(apos.endLine==cpos.line)=true:=by rfl)(hplain:(backTo cpos (starEach [] X.env)).any (·.1)=false:=by rfl) :
  PDE X (.Call (.Attribute o "append" apos) [e] [] cpos) (vN to te) :=
 cI (aIb PySem.F.plainAttrs_list PySem.F.slot_list_append PySem.F.type_list_append aAW ho (lB he uK hse) hbase hfew hline hse hplain) λσ H Q ⟨ρ,M,Q',re,hm,q,k⟩=>⟨ρ,M,_,re,hm,q,λv H1 ⟨d,M1,rd,hm1,e1,q1⟩=>by
  cases d with
  |ref p =>
   obtain rfl:=aM rd;obtain⟨⟨ds0,h0⟩,q1⟩:=q1;obtain⟨us0,hu0,_⟩:=hm1.l p ds0 h0;refine⟨.inl ⟨rfl,us0,.of hu0⟩,ρ,M1,_,re.ext e1,hm1,q1,λvs H2 ⟨dvs,M2,rs,hm2,e2,ds,y,ey,hp,hl,q2⟩=>?_⟩;subst ey;obtain⟨w,rfl,rw'⟩:=fS rs;obtain⟨us,hu,ru⟩:=hm2.l p ds hp;exact⟨p,us,w,rfl,rfl,hu,by rw[<- ru.length];exact dE (Nat.le_of_lt hl),k _ _ ⟨.non,_,pY,hm2.put hu (ru.append (bU rw' cD)),(e1.trans e2).trans (Ext.put hu _),q2⟩⟩
  |_=>exact q1.elim⟩
noncomputable def tyD:D->Option String
 |.non=>some "NoneType"
 |.bl _=>some "bool"
 |.int _=>some "int"
 |.str _=>some "str"
 |.tup _=>some "tuple"
 |.fz _=>some "list"
 |.ref _=>none
theorem tyT {K:Frag}{H:Hp}{s:Shared}{pins:List (Addr×Obj)}{σ:L2.St}(I:Inv X pins σ H s){a:Addr}{xs:List V}(sq:SqT X.K H a xs):∃o,s.heap.get? a = some o/\o.cls = .type "tuple":=by obtain⟨its,_,⟨o,h1,h2,_⟩,_⟩:=I.tuple sq;exact⟨o,h1,h2⟩
theorem aJj {K:Frag}{H:Hp}{s:Shared}{pins:List (Addr×Obj)}{σ:L2.St}{A:Around}{E:Value->Shared->Prop}{Q:Value->Shared->Prop}{c:Value}{d:D}{v:V}{u:Value}{T:String}{k:Bool}(I:Inv X pins σ H s)(rd:Rep X.K H d v)(rv:RelV v u)(ty:tyD d=some T)(e:kitOne X.K (.type T) c = some k)(h:∀tk,Q (.bool k) { s with toks:=tk }):wpAny (model X.prog X.w) A (call (.builtin "isinstance") [u,c]) Q E s:=by
 cases d with
 |non=>cases ty;rw[dI rd] at rv;exact iR I rv (.non) e h
 |bl b=>cases ty;rw[bZ rd] at rv;exact iR I rv (.bl b) e h
 |int b=>cases ty;rw[aQ rd] at rv;exact iR I rv (.int b) e h
 |str b=>cases ty;rw[cW rd] at rv;exact iR I rv (.str b) e h
 |ref b=>cases ty
 |tup b =>
  cases ty;obtain⟨a,us,rfl,sq,ru⟩:=bI rd;cases rv;obtain⟨o,h1,h2⟩:=tyT (K:=K) I sq;exact kia_one PySem.W.kitx_tuple I.kIn ⟨o,h1,h2⟩ e (λz=>nomatch z) h
 |fz b =>
  cases ty;obtain⟨a,us,rfl,sq,ru⟩:=iX rd;cases rv;obtain⟨z,its,n,r,e1⟩:=aDc I sq;exact kia_one kitx_list I.kIn ⟨_,e1,rfl⟩ e (λz=>nomatch z) h
def dIs (K:Frag)(c:Value)(te:DE):DE:=λρ M Q=>te ρ M λd M1=>(∃T k,tyD d = some T/\kitOne K (.type T) c = some k/\Q (.bl k) M1)∨(∃(p:Addr)(xs:List D) (k:Bool),d = .ref p/\M1 p = some xs/\kitOne K (.type "list") c=some k/\Q (.bl k) M1)
theorem aDr {T:String}{x:Str}{p p2:Pos}(he:PDE X e te)(hm:X.mg "isinstance" = none)(hmx:X.mg x = none)(hv:bootBuiltins x = some (.type T):=by rfl)(hg:Gl X "isinstance":=by rfl)(hgx:Gl X x:=by rfl)(hn:x ≠ "__name__":=by decide)(hdb:(x==("__debug__":Str))=false:=by decide)(hse:starEach [e,.Name x p2] X.env=(false,eval e X.env)::starEach [.Name x p2] X.env:=by rfl)(hse2:starEach [.Name x p2] X.env=(false,eval (.Name x p2) X.env)::starEach [] X.env:=by rfl)(hpl:(backTo pos (starEach [.Name x p2] X.env)).any (·.1)=false:=by rfl) :
  PDE X (.Call (.Name "isinstance" p) [e,.Name x p2] [] pos) (dIs X.K (.type T) te):=by
 have hc:jO X (.builtin "isinstance") λvs H Q=>∃d M Q' v,vs = [v,.ty T]/\Rep X.K H d v/\bF X.K M H/\((∃T' k,tyD d = some T'/\kitOne X.K (.type T') (.type T) = some k/\Q' (.bl k) M)∨(∃(p:Addr)(xs:List D) (k:Bool),d = .ref p/\M p = some xs/\kitOne X.K (.type "list") (.type T)=some k/\Q' (.bl k) M))/\∀v H',LQ X.K H Q' v H'->Q v H':=by
  intro pins s σ H xs us Q I rs ⟨d,M,Q',v,e1,rd,hm,q,k⟩;subst e1;obtain⟨u1,u2,rfl,rv,rt⟩:=rs.two;cases rt;rcases q with⟨T',b,ty,e2,q⟩|⟨p,ys,b,rfl,hp,e2,q⟩
  ·exact aJj (K:=X.K) I rd rv ty e2 λtk=>⟨.bl b,H,I.tok tk,rfl,k _ H ⟨_,M,dW,hm,.refl H,q⟩⟩
  ·obtain rfl:=aM rd;obtain⟨us,hu,ru⟩:=hm.l p ys hp;exact iR I rv (.lst hu) e2 λtk=>⟨.bl b,H,I.tok tk,rfl,k _ H ⟨_,M,dW,hm,.refl H,q⟩⟩
 refine cI (vY hc hg hm rfl (nT he (nT (aDB hgx hmx hv (v:=.ty T) rfl hn hdb) yH hse2) hse) (by decide) (by decide) hse hpl) λσ H Q ⟨ρ,M,Q',re,hm,q,k⟩=>?_;exact⟨ρ,M,_,re,hm,q,λv H1 ⟨d,M1,rd,hm1,ex,q1⟩=>⟨d,M1,Q',v,rfl,rd,hm1,q1,λv H' z=>k v H' (z.back ex)⟩⟩
end
noncomputable def gF (N:List Str)(ds:List D):cH:=ds.map some++replicate (N.length-ds.length) none
noncomputable def Dn (Q:DQ):DQ:=λd M=>∃M',bG M' M/\Q d M'
section
variable {P:Program}{w:World}{K:Frag}{mg:Str->Option Value}{base:Heap}
theorem qW {H:Hp}{ds:List D}{vs:List V}(r:aY K H ds vs)(N:List Str):eV K H (gF N ds) (L2.start N vs):=by
 have hl:=r.length;refine⟨by unfold gF L2.start;simp only[length_append,length_map,List.length_replicate,hl],λi d q=>?_⟩;unfold gF at q;unfold L2.start;by_cases hi:i<ds.length
 ·rw[List.getElem?_append_left (by simpa using hi),getElem?_map] at q;rw[List.getElem?_append_left (by simpa[<- hl] using hi),getElem?_map];cases e:ds[i]? with
  |none=>rw[e] at q;cases q
  |some d' =>
   rw[e] at q;cases q;obtain⟨v,e2,rv⟩:=r.get e;exact⟨v,by rw[e2];rfl,rv⟩
 ·rw[List.getElem?_append_right (by simpa using hi),List.getElem?_replicate] at q;split at q<;>cases q
theorem Fun.okD {x qual:Str}{st:Stmt}{f:Addr}{fd:FuncData}{N ps:List Str}{k:Nat}{sp:DSp}(F:L2.Fun K x qual st f fd)(S:aR N ps (aK st))(len:∀ds M Q,sp ds M Q->ds.length=ps.length)(hbody:∀(cdv:Value)(A:Around) (outer:List Env) (s:Shared) (H:Hp) (ds:List D) (M:DM) (Q:DQ) (E:XK),cO k (A.deeper (envOfC qual (aK st) s.heap.objs.size f cdv))->sp ds M Q ->
   ∃t,jQ (nZ CX0 P w K mg base N qual (aK st) f cdv A outer s H E).nox (dY st) t/\t { nx:=λ_ M'=>Dn Q .non M',rt:=Dn Q } (gF N ds) M):jP P w K mg base CX0 (k+1) f fd ps (mL K sp):=by
 refine F.ok S (λvs H Q E ⟨ds,M,Q',rs,hm,q,_⟩=>by rw[<- rs.length];exact len ds M Q' q) λcdv A outer s H vs Q E hr ⟨ds,M,Q',rs,hm,q,k'⟩=>?_;obtain⟨t,h1,h2⟩:=hbody cdv A outer s H ds M Q' E hr q;have fin:∀v H',LQ K H (Dn Q') v H'->Q v H':=λv H' ⟨d,M1,rd,hm1,ex,M2,sub,q2⟩=>k' v H' ⟨d,M2,rd,hm1.sub sub,ex,q2⟩;refine⟨_,h1,gF N ds,M,_,qW rs N,hm,h2,⟨λσ' H' ⟨ρ',M',_,hm',ex,q'⟩=>fin _ H' ⟨.non,M',pY,hm',ex,q'⟩,fin,λσ' H' ⟨_,_,_,_,_,z⟩=>z.elim,λσ' H' ⟨_,_,_,_,_,z⟩=>z.elim⟩⟩
end
def cQ (K:Frag)(mg:Str->Option Value)(x:Str)(st:Stmt)(ps:List Str):Prop:=∃f fd,L2.Fun K x x st f fd/\mg x=some (.ref f)/\pB K fd ps []
def Has (P:Program)(w:World)(K:Frag)(mg:Str->Option Value)(base:Heap)(k:Nat)(x:Str)(ps:List Str)(sp:DSp):Prop :=
 ∃f fd,jP P w K mg base CX0 k f fd ps (mL K sp)/\mg x=some (.ref f)/\keepIn K (.ref f)=true/\pB K fd ps []
def aGq (K:Frag)(mg:Str->Option Value)(x:Str)(d:D):Prop:=∃u v,mg x=some u/\RelV v u/\∀H,Rep K H d v
section
variable {P:Program}{w:World}{K:Frag}{mg:Str->Option Value}{base:Heap}
theorem Has.mk {x:Str}{st:Stmt}{N ps:List Str}{k:Nat}{sp:DSp}(h:cQ K mg x st ps)(S:aR N ps (aK st))(len:∀ds M Q,sp ds M Q->ds.length=ps.length)(hbody:∀(f:Addr)(cdv:Value) (A:Around) (outer:List Env) (s:Shared) (H:Hp) (ds:List D) (M:DM) (Q:DQ) (E:XK),cO k (A.deeper (envOfC x (aK st) s.heap.objs.size f cdv))->sp ds M Q ->
   ∃t,jQ (nZ CX0 P w K mg base N x (aK st) f cdv A outer s H E).nox (dY st) t/\t { nx:=λ_ M'=>Dn Q .non M',rt:=Dn Q } (gF N ds) M):Has P w K mg base (k+1) x ps sp:=by
 obtain⟨f,fd,F,hm,hb⟩:=h;exact⟨f,fd,Fun.okD F S len λcdv A outer s H ds M Q E hr q=>hbody f cdv A outer s H ds M Q E hr q,hm,F.kp,hb⟩
theorem Has.imp {x:Str}{ps:List Str}{k:Nat}{sp sp':DSp}(h:Has P w K mg base k x ps sp)(i:∀ds M Q,sp' ds M Q->sp ds M Q):Has P w K mg base k x ps sp':=by obtain⟨f,fd,F,hm,hk,hb⟩:=h;exact⟨f,fd,F.imp λvs H Q E ⟨ds,M,Q',a,b,c,d⟩=>⟨ds,M,Q',a,b,i _ _ _ c,d⟩,hm,hk,hb⟩
end
section
variable {X:Cx}{a b c e:Expr}{es:List Expr}{ta tb te:DE}{t:DA}{pos p:Pos}{x:Str}{ps:List Str}{sp:DSp}{k j:Nat}
theorem aCf (h:Has X.prog X.w X.K X.mg X.base k x ps sp)(hr:cO j X.A)(hkj:k<=j)(ha:PDA X (e::es) t)(hg:Gl X x:=by rfl)(hdb:(x==("__debug__":Str))=false:=by decide)(he:starEach (e::es) X.env=(false,eval e X.env)::starEach es X.env:=by rfl)(hpl:(backTo pos (starEach es X.env)).any (·.1)=false:=by rfl) :
  PDE X (.Call (.Name x p) (e::es) [] pos) (mR sp t):=by
 obtain⟨f,fd,F,hm,hk,hb⟩:=h;exact aEl F (hr.mono hkj) hm hk hb aEW ha hg hdb he hpl
theorem aBw {d:D}(h:aGq X.K X.mg x d)(hg:Gl X x:=by rfl)(hd:(x==("__debug__":Str))=false:=by decide):PDE X (.Name x pos) (dC d):=by obtain⟨u,v,hm,rv,hr⟩:=h;exact aDR hg hm rv hr hd
def aEy (i:Nat)(te:DE)(g:Int->Int->Int):DS:=λE ρ M=>match ρ[i]? with
 |some (some (.int z))=>te ρ M λy M1=>match y with
  |.int j=>E.nx (ρ.set i (some (.int (g z j)))) M1
  |_=>False
 |_=>False
theorem aDw {i:Nat}{op:Operator}{g:Int->Int->Int}{pos':Pos}(ho:PIp X op (ipI g))(hN:X.N.Nodup)(he:PDE X e te)(hi:X.N[i]?=some x:=by rfl)(hx:Loc X.env.scope x:=by first|exact Or.inl rfl|exact Or.inr rfl)(hf:X.fn x=true∨X.env.scope.names.lookup x=some .local:=by first|exact .inl rfl|exact .inr rfl|assumption) :
  PDS X (.AugAssign (.Name x pos') op e pos) (aEy i te g) :=
 eU (aBF (i:=i) hN hi hx he ho hf) λE σ H ⟨ρ,M,Dn,re,hm,q,k⟩=>by
  unfold aEy at q;split at q
  ·rename_i z e1;obtain⟨v,e2,rv⟩:=re.get i _ e1;obtain rfl:=aQ rv;refine⟨_,e2,ρ,M,_,re,hm,q,λw H1 ⟨d,M1,rd,hm1,ex,q1⟩=>?_⟩;cases d with
   |int j=>exact⟨z,j,rfl,aQ rd,k.nx _ H1 ⟨_,M1,(re.ext ex).set cP i,hm1,ex,q1⟩⟩
   |_=>exact q1.elim
  ·exact q.elim
end
theorem dif {c A B:Prop}[Decidable c](h1:c->A)(h2:¬c->B):if decide c=true then A else B:=by
 by_cases h:c
 ·rw[decide_eq_true h];exact h1 h
 ·rw[decide_eq_false h];exact h2 h
theorem aEX {b:Bool}{A B:Prop}(h1:b=true->A)(h2:b=false->B):if b=true then A else B:=by
 cases b
 ·exact h2 rfl
 ·exact h1 rfl
section
variable {prog:Program}{w:World}{A:Around}{E:Value->Shared->Prop}{s:Shared}
theorem qK {h h':Heap}{it t:Addr}{items:Array Value}(ht:h.IsList t items)(hs:Heap.SameBut it h h')(hne:t≠it):h'.IsList t items:=by obtain⟨o,e,r⟩:=ht;exact⟨o,(hs.2 t hne).trans e,r⟩
theorem oR {h:Heap}{t:Addr}{items:Array Value}(ht:h.IsList t items)(o:Obj):(h.push o).IsList t items:=by obtain⟨o',e,r⟩:=ht;exact⟨o',Heap.get?_push_of_some _ e,r⟩
theorem sF {it t:Addr}{items:Array Value}(hne:t≠it):∀(n i:Nat)(s:Shared) (Q:List Value->Shared->Prop),s.heap.IsListIter it t i->s.heap.IsList t items->i+n<=items.size ->
  (∀h',h'.IsListIter it t (i+n)->Heap.SameBut it s.heap h'->Q ((items.toList.drop i).take n) { s with heap:=h' })->wpAny (model prog w) A (draw (.ref it) n) Q E s
 |0,i,s,Q,hit,_,_,hQ=>by show wpAny _ _ (pure []) Q E s;exact wpAny_pure (by simpa using hQ s.heap hit (Heap.SameBut.refl ..))
 |n+1,i,s,Q,hit,ht,hle,hQ=>by
  have hlt:i<items.size:=by omega
  show wpAny _ _ (pyNext (.ref it) >>= _) Q E s;refine wpAny_bind (wpAny_pyNext_list_item hit ht (x:=items[i]) (by simp[hlt]) λh₁ hit₁ hs₁=>?_);refine wpAny_bind (wpAny_holding (sF hne n (i+1) _ _ hit₁ (qK ht hs₁ hne) (by omega) λh₂ hit₂ hs₂=>wpAny_pure ?_));have hd:items.toList.drop i=items[i]::items.toList.drop (i+1):=by simp[List.drop_eq_getElem_cons,hlt]
  have:=hQ h₂ (by rw[show i+(n+1)=i+1+n by omega];exact hit₂) (hs₁.trans hs₂);rw[hd,List.take_succ_cons] at this;exact this
theorem oO {t:Addr}{items:Array Value}{Q:List Value->Shared->Prop}(hh:A.handled=none)(ht:s.heap.IsList t items)(hQ:∀h',Heap.ExtBut s.heap.objs.size s.heap h'->Q items.toList { s with heap:=h' }):wpAny (model prog w) A (unpackItems (.ref t) items.size none) Q E s:=by
 have hlt:t≠s.heap.objs.size:=by obtain⟨o,ho,_⟩:=ht;exact Nat.ne_of_lt (Heap.lt_size ho)
 unfold unpackItems;refine wpAny_bind ?_
 ·unfold notIterableAtAll;refine wpAny_bind (wpAny_specialOf ht.typeIs slot_list_iter.lookup ?_);refine wpAny_pure ?_;simp only[Bool.false_eq_true,if_false];refine wpAny_bind (wpAny_holding (wpAny_pyIter_list ht ?_));refine wpAny_bind (wpAny_holding (sF hlt items.size 0 _ _ ⟨_,Heap.get?_push_size _ rfl,rfl,rfl⟩ (oR ht _) (by omega) λh₁ hit₁ hs₁=>?_));have hall:List.take items.size (List.drop 0 items.toList)=items.toList:=by rw[List.drop_zero];exact List.take_of_length_le (by simp)
  rw[hall];rw[if_neg (by simp)];have ht₁:h₁.IsList t items:=qK (oR ht _) hs₁ hlt;refine wpAny_bind (wpAny_holding (wpAny_pyNext_list_end hh hit₁ ht₁ (by simp) λh₂ he₂=>?_));simp only[Option.isSome_none,Bool.false_eq_true,if_false];refine wpAny_pure (hQ h₂ λb o hb e=>he₂ b o hb (hs₁.extBut b o hb (Heap.get?_push_of_some _ e)))
theorem nE {env:Env}{elts:List Expr}{x1}{pos:Pos}{t:Addr}{items:Array Value}{Q:Unit->Shared->Prop}(hh:A.handled=none)(ht:s.heap.IsList t items)(hn:(assignEach elts env).length=items.size)(hstar:(assignEach elts env).findIdx? (·.1)=none)(h:∀h',Heap.ExtBut s.heap.objs.size s.heap h'->wpAny (model prog w) A (assignInOrder ((assignEach elts env).map (·.2)) items.toList) Q E { s with heap:=h' }) :
  wpAny (model prog w) A (assign (.Tuple elts x1 pos) env (.ref t)) Q E s:=by
 rw[assign_Tuple];refine wpAny_bind (wpAny_standAt ?_);unfold unpack;rw[hn,hstar];exact wpAny_bind (wpAny_holding (oO hh ht h))
end
section
variable {X:Cx}{pos:Pos}{e a b:Expr}{es:List Expr}{te ta tb:DE}
def gU (n:Nat)(t:DGs):DG:=λd ρ M Q=>match d with
 |.tup ds=>ds.length=n/\t ds ρ M Q
 |.ref a=>∃ds,M a=some ds/\ds.length=n/\t ds ρ M Q
 |_=>False
theorem aFh {k:Nat}{t:DGs}{n:Nat}(hc:X.calm=true)(h:xD X es t)(hn:(assignEach es X.env).length=n:=by rfl)(hst:(assignEach es X.env).findIdx? (·.1)=none:=by rfl):PDG X (.Tuple es k pos) (gU n t):=by
 intro pins s σ H v u Q I r ⟨d,ρ,M,Q',rd,re,hm,q,k'⟩;cases d with
 |tup ds=>exact aHv hc h hn hst pins s σ H v u Q I r ⟨.tup ds,ρ,M,Q',rd,re,hm,q,k'⟩
 |ref p =>
  obtain⟨ds,hp,hl,q⟩:=q;obtain rfl:=aM rd;cases r;obtain⟨us,hu,ru⟩:=hm.l p ds hp;obtain⟨z,its,nn,rv,hlen,e1⟩:=I.lstM hu;have l1:=ru.length;refine nE (I.ok.hd hc) ⟨_,e1,rfl,_,rfl⟩ (by rw[hn,size_toArray];omega) hst λh' hx=>?_;have I1:Inv X pins σ H { s with heap:=h' }:=I.kept (t':=s.toks) λb o e=>hx b o (Nat.ne_of_lt (Heap.lt_size e)) e;exact h pins _ σ H us _ Q I1 (by simpa using rv) ⟨ds,ρ,M,Q',ru,re,hm,q,k'⟩
 |_=>exact q.elim
end
section
variable {M:DM}{Q:DQ}{g:Bool->Bool}{ds:List D}{i:Int}{a:Addr}{α:Type}{x0 x1 x2 x3 x4 x5:α}{l:List α}
theorem ixT:mG (.tup ds) (.int i) M Q=(match atI ds i with|some d=>Q d M|none=>False):=rfl
theorem ixF:mG (.fz ds) (.int i) M Q=(match atI ds i with|some d=>Q d M|none=>False):=rfl
theorem aJ5:mG (.ref a) (.int i) M Q=(∃ds d,M a=some ds/\atI ds i=some d/\Q d M):=rfl
theorem aGN:atI [x0] 0=some x0:=rfl
theorem aGt:atI [x0] (-1)=some x0:=rfl
theorem aF6:atI [x0,x1] 0=some x0:=rfl
theorem aGW:atI [x0,x1] 1=some x1:=rfl
theorem aFt:atI [x0,x1] (-1)=some x1:=rfl
theorem aFd:atI [x0,x1,x2] 0=some x0:=rfl
theorem aGH:atI [x0,x1,x2] 1=some x1:=rfl
theorem aFM:atI [x0,x1,x2] 2=some x2:=rfl
theorem aFz:atI [x0,x1,x2] (-1)=some x2:=rfl
theorem aGE:atI [x0,x1,x2,x3] 0=some x0:=rfl
theorem aF7:atI [x0,x1,x2,x3] 1=some x1:=rfl
theorem aHz:atI [x0,x1,x2,x3] 2=some x2:=rfl
theorem aHj:atI [x0,x1,x2,x3] 3=some x3:=rfl
theorem aGA:atI [x0,x1,x2,x3] (-1)=some x3:=rfl
theorem aHk:atI [x0,x1,x2,x3,x4] 0=some x0:=rfl
theorem aGT:atI [x0,x1,x2,x3,x4] 1=some x1:=rfl
theorem aFZ:atI [x0,x1,x2,x3,x4] 2=some x2:=rfl
theorem aHd:atI [x0,x1,x2,x3,x4] 3=some x3:=rfl
theorem aFV:atI [x0,x1,x2,x3,x4] 4=some x4:=rfl
theorem aFg:atI [x0,x1,x2,x3,x4] (-1)=some x4:=rfl
theorem aFx:atI [x0,x1,x2,x3,x4,x5] 0=some x0:=rfl
theorem aGs:atI [x0,x1,x2,x3,x4,x5] 1=some x1:=rfl
theorem aGz:atI [x0,x1,x2,x3,x4,x5] 2=some x2:=rfl
theorem aFW:atI [x0,x1,x2,x3,x4,x5] 3=some x3:=rfl
theorem aG5:atI [x0,x1,x2,x3,x4,x5] 4=some x4:=rfl
theorem aFU:atI [x0,x1,x2,x3,x4,x5] 5=some x5:=rfl
theorem aFX:atI [x0,x1,x2,x3,x4,x5] (-1)=some x5:=rfl
theorem aFq {n:Nat}{t:DGs}{ρ:cH}{R:cH->DM->Prop}:gU n t (.tup ds) ρ M R=(ds.length=n/\t ds ρ M R):=rfl
theorem aGY {n:Nat}{t:DGs}{ρ:cH}{R:cH->DM->Prop}:gU n t (.ref a) ρ M R=(∃ds,M a=some ds/\ds.length=n/\t ds ρ M R):=rfl
theorem gY {i j:Int}:dEq g (.int i) (.int j) M Q=Q (.bl (g (decide (i=j)))) M:=by
 show(bH 60 (.int i)=true/\bH 60 (.int j)=true/\Q (.bl (g (eqD (.int i) (.int j)))) M)=_;have e:eqD (.int i) (.int j)=decide (i=j):=by show(i==j)=_;by_cases h:i=j<;>simp[h]
 rw[e];exact propext ⟨λh=>h.2.2,λh=>⟨rfl,rfl,h⟩⟩
theorem fN {x y:Str}:dEq g (.str x) (.str y) M Q=Q (.bl (g (decide (x=y)))) M:=by
 show(bH 60 (.str x)=true/\bH 60 (.str y)=true/\Q (.bl (g (eqD (.str x) (.str y)))) M)=_;have e:eqD (.str x) (.str y)=decide (x=y):=by show(x==y)=_;by_cases h:x=y<;>simp[h]
 rw[e];exact propext ⟨λh=>h.2.2,λh=>⟨rfl,rfl,h⟩⟩
def isK (K:Frag)(c:Value)(d:D)(M:DM)(Q:DQ):Prop:=(∃T k,tyD d = some T/\kitOne K (.type T) c = some k/\Q (.bl k) M)∨(∃(p:Addr)(xs:List D) (k:Bool),d = .ref p/\M p = some xs/\kitOne K (.type "list") c=some k/\Q (.bl k) M)
theorem aFe {K:Frag}{c:Value}{te:DE}{ρ:cH}:dIs K c te ρ M Q=te ρ M λd M1=>isK K c d M1 Q:=rfl
theorem aDL {K:Frag}{c:Value}{p:Addr}{xs:List D}{k:Bool}(h:M p = some xs)(e:kitOne K (.type "list") c=some k)(q:Q (.bl k) M):isK K c (.ref p) M Q:=.inr ⟨p,xs,k,rfl,h,e,q⟩
end
end Dd
namespace L2
open PySem PySem.Spec PyProof.Rows
noncomputable def clo (cells:List (Str×Addr)):List (Str×NameKind)->List (Str×Addr)->List (Str×Addr)
 |[],cs=>cs
 |(n,k)::r,cs=>clo cells r (if k == .free then (n,(cells.lookup n).getD 0)::cs else cs)
noncomputable def wQ (env:Env)(x:Str×NameKind)(r:List (Str×Addr)):Sem (ForInStep (List (Str×Addr))) :=
 if (x.2==NameKind.free)=true then do let a <- cellOf env x.1;pure (ForInStep.yield ((x.1,a)::r)) else pure (ForInStep.yield r)
theorem wC {env:Env}:∀(names:List (Str×NameKind)) (cs:List (Str×Addr)),(∀y∈names,y.2=.free->∃c,env.cells.lookup y.1=some c)->(forIn names cs (wQ env):Sem (List (Str×Addr)))=pure (clo env.cells names cs)
 |[],cs,_=>rfl
 |(n,k)::r,cs,hh=>by
  rw[List.forIn_cons];have ih:=λcs=>wC (env:=env) r cs λz hz=>hh z (mem_cons_of_mem _ hz);cases hk:k==NameKind.free with
  |true =>
   have hf:k=.free:=by simpa using hk
   obtain⟨c,hc⟩:=hh (n,k) mem_cons_self hf;have hc:env.cells.lookup n=some c:=hc;have e:wQ env (n,k) cs=pure (ForInStep.yield ((n,c)::cs)):=by unfold wQ;rw[if_pos hk];show(cellOf env n >>= _)=_;unfold cellOf;rw[hc];rfl
   rw[e];refine Eq.trans (b:=(forIn r ((n,c)::cs) (wQ env):Sem (List (Str×Addr)))) rfl ?_;rw[ih];show _=pure (clo env.cells r (if k == .free then (n,(env.cells.lookup n).getD 0)::cs else cs));rw[hk,if_pos rfl,hc];rfl
  |false =>
   have e:wQ env (n,k) cs=pure (ForInStep.yield cs):=by unfold wQ;rw[if_neg (by rw[hk];decide)]
   rw[e];refine Eq.trans (b:=(forIn r cs (wQ env):Sem (List (Str×Addr)))) rfl ?_;rw[ih];show _=pure (clo env.cells r (if k == .free then (n,(env.cells.lookup n).getD 0)::cs else cs));rw[hk,if_neg (by decide)]
theorem vX {scope:Scope}{env:Env}(h:∀y∈scope.names,y.2=.free->∃c,env.cells.lookup y.1=some c):closureFor scope env=pure (clo env.cells scope.names []):=by have e:closureFor scope env=((forIn scope.names [] (wQ env):Sem (List (Str×Addr))) >>= λcs=>pure cs):=rfl;rw[e,wC _ _ h];rfl
theorem zR {cells:List (Str×Addr)}{x:Str}{c:Addr}:∀{names:List (Str×NameKind)}{cs:List (Str×Addr)},(∀y∈names,y.2=.free->∃c,cells.lookup y.1=some c)->(cs.lookup x=some c->cells.lookup x=some c)->(clo cells names cs).lookup x=some c->cells.lookup x=some c
 |[],cs,_,h,e=>h e
 |(n,k)::r,cs,hh,h,e=>by
  unfold clo at e;refine zR (λy hy=>hh y (mem_cons_of_mem _ hy)) (λe2=>?_) e;cases hk:k==NameKind.free with
  |false=>rw[hk,if_neg (by decide)] at e2;exact h e2
  |true =>
   rw[hk,if_pos rfl] at e2;have hk':k=.free:=by simpa using hk
   obtain⟨c',hc'⟩:=hh (n,k) mem_cons_self hk';have hc':cells.lookup n=some c':=hc';rw[lookup_cons] at e2;cases hx:x==n with
   |true =>
    rw[hx] at e2;have:x=n:=by simpa using hx
    subst this;rw[hc'] at e2 ⊢;exact e2
   |false=>rw[hx] at e2;exact h e2
theorem uR {cells:List (Str×Addr)}{x:Str}:∀{names:List (Str×NameKind)}{cs:List (Str×Addr)},((x,NameKind.free)∈names ∨ ∃c,cs.lookup x=some c)->∃c,(clo cells names cs).lookup x=some c
 |[],cs,h=>by
  rcases h with h|h
  ·exact nomatch h
  ·exact h
 |(n,k)::r,cs,h=>by
  unfold clo;refine uR ?_;have ins:∀{v:Addr},(∃c,cs.lookup x=some c)->∃c,((n,v)::cs).lookup x=some c:=λ{v} ⟨c,e⟩=>by
   rw[lookup_cons];cases x==n with
   |true=>exact⟨_,rfl⟩
   |false=>exact⟨c,e⟩
  rcases h with h|h
  ·rcases List.mem_cons.mp h with e|e
   ·cases e;refine .inr ⟨_,by rw[if_pos (by rfl),lookup_cons,beq_self_eq_true]⟩
   ·exact .inl e
  ·cases hk:k==NameKind.free with
   |true=>rw[if_pos rfl];exact .inr (ins h)
   |false=>rw[if_neg (by decide)];exact .inr h
theorem oQ {g:Str->NameKind->NameKind}{x:Str}:∀{names:List (Str×NameKind)},(names.map λp=>(p.1,g p.1 p.2)).lookup x=(names.lookup x).map (g x)
 |[]=>rfl
 |(n,k)::r=>by
  rw[map_cons,lookup_cons,lookup_cons];cases hx:x==n with
  |true =>
   have:x=n:=by simpa using hx
   subst this;rfl
  |false=>exact oQ
theorem kO {scope:Scope}{env:Env}{x:Str}:(relabel scope env).names.lookup x=(scope.names.lookup x).map λk=>if (k==NameKind.free&&env.scope.kind == .function&&env.kindOf x==some .cell)=true then .cell else k:=by rw[<- oQ (g:=λx k=>if (k==NameKind.free&&env.scope.kind == .function&&env.kindOf x==some .cell)=true then .cell else k)];unfold relabel;dsimp only;congr 1;refine List.map_congr_left λp _=>?_;obtain⟨n,k⟩:=p;dsimp only;split<;>rfl
noncomputable abbrev Cx.blk (X:Cx)(N':List Str)(scope:Scope)(C:Addr)(s:Shared)(H:Hp)(fp:List Addr)(pins:List (Addr×Obj)):Cx :=
 { X with N:=N',s₀:=s,H₀:=H,env:=compEnvC scope (clo X.env.cells scope.names []) C X.env,outer:=X.stack,ex:=fp,fn:=λ_=>false,pn:=X.pn++pins,xe:=λ_ _=>False }
structure dX (X:Cx)(N':List Str)(fr:List (Option Nat))(scope:Scope):Prop where
 kind:scope.kind=.function
 nocell:∀y∈scope.names,y.2 ≠ .cell
 names:∀y∈scope.names,y.2=.local->scope.names.lookup y.1=some .local
 free:∀y∈scope.names,y.2=.free->X.env.scope.names.lookup y.1=some .cell
 len:fr.length=N'.length
 at':∀(i j:Nat)(x:Str),N'[i]?=some x->fr[i]?=some (some j)->X.N[j]?=some x/\scope.names.lookup x=some .free
structure vF (oN:List Str)(osc:Scope)(N':List Str)(fr:List (Option Nat))(scope:Scope):Prop where
 kind:scope.kind=.function
 nocell:∀y∈scope.names,y.2 ≠ .cell
 names:∀y∈scope.names,y.2=.local->scope.names.lookup y.1=some .local
 free:∀y∈scope.names,y.2=.free->osc.names.lookup y.1=some .cell
 len:fr.length=N'.length
 at':∀p∈N'.zip fr,∀j∈p.2,oN[j]?=some p.1/\scope.names.lookup p.1=some .free
theorem vF.scope {X:Cx}{oN:List Str}{osc:Scope}{N':List Str}{fr:List (Option Nat)}{scope:Scope}(B:vF oN osc N' fr scope)(hN:X.N=oN)(ho:X.env.scope=osc):dX X N' fr scope:=by
 subst hN ho;refine⟨B.kind,B.nocell,B.names,B.free,B.len,λi j x h1 h2=>?_⟩;have:(x,some j)∈N'.zip fr:=by refine mem_of_getElem? (i:=i) ?_;rw[List.getElem?_zip_eq_some];exact⟨h1,h2⟩
 exact B.at' _ this j rfl
noncomputable def oE (fr:List (Option Nat))(σ:St):St:=fr.map λo=>match o with
 |some j=>(σ[j]?).join
 |none=>none
section
variable {X:Cx}{pins:List (Addr×Obj)}{σ:St}{H:Hp}{s:Shared}{N':List Str}{fr:List (Option Nat)}{scope:Scope}{C:Addr}{fp:List Addr}
theorem dX.hasC (S:dX X N' fr scope)(ok:X.Ok):∀y∈scope.names,y.2=.free->∃c,X.env.cells.lookup y.1=some c:=λy hy e=>ok.has y.1 (.inl (S.free y hy e))
theorem dX.sub (S:dX X N' fr scope)(ok:X.Ok){x:Str}{c:Addr}(h:(clo X.env.cells scope.names []).lookup x=some c):X.env.cells.lookup x=some c:=zR (S.hasC ok) (λz=>by cases z) h
theorem aAs (S:dX X N' fr scope)(I:Inv X pins σ H s){h':Heap}{m:Str->Option Value}(k:∀x c v,(clo X.env.cells scope.names []).lookup x=some c->s.heap.IsCell c v->h'.IsCell c v) :
  ∀(i:Nat)(x:Str) (v:V),N'[i]?=some x->(oE fr σ)[i]?=some (some v)->∃u,RelV v u/\aJi (compEnvC scope (clo X.env.cells scope.names []) C X.env) h' m x u:=by
 intro i x v hx hv;unfold oE at hv;rw[getElem?_map] at hv;cases hf:fr[i]? with
 |none=>rw[hf] at hv;cases hv
 |some o =>
  rw[hf] at hv;cases o with
  |none=>cases hv
  |some j =>
   have hv:(σ[j]?).join=some v:=Option.some.inj hv;obtain⟨hN,hfree⟩:=S.at' i j x hx hf;have hσ:σ[j]?=some (some v):=by
    cases e:σ[j]? with
    |none=>rw[e] at hv;cases hv
    |some o=>rw[e] at hv;rw[show o=some v from hv]
   have hmem:(x,NameKind.free)∈scope.names:=PySem.mem_of_lookup hfree;have hcell:=S.free _ hmem rfl;obtain⟨mm,_,hl⟩:=I.loc;obtain⟨u,r,l⟩:=hl j x v hN hσ (.inr (.inl hcell));refine⟨u,r,.inr ⟨.inl ?_,?_⟩⟩
   ·show(relabel scope X.env).names.lookup x=some .cell;rw[kO,hfree];have h1:X.env.scope.kind=.function:=I.ok.kind;have h2:X.env.kindOf x=some .cell:=hcell;rw[h1,h2];rfl
   ·rcases l with⟨k1,_⟩|⟨_,c,e,z⟩
    ·have:X.env.scope.names.lookup x=some .local:=k1;rw[hcell] at this;cases this
    ·obtain⟨c',e'⟩:=uR (cells:=X.env.cells) (x:=x) (names:=scope.names) (cs:=[]) (.inl hmem);have e2:=S.sub I.ok e';rw[e] at e2;cases e2;exact⟨c,e',k x c _ e' z⟩
theorem aDK (S:dX X N' fr scope)(I:Inv X pins σ H s)(hf:∀b∈fp,rZ X pins H b)(ho:∀b∈fp,∃o,s.heap.get? b=some o){s1:Shared}{m:Str->Option Value}(hos:s1.os=s.os)(hg:s1.gens=s.gens)(hC:s.heap.objs.size<=C)(k:∀b o,s.heap.get? b=some o->s1.heap.get? b=some o)(hn:s1.heap.Ns C m) :
  Inv (X.blk N' scope C s H fp pins) [] (oE fr σ) H s1:=by
 have lt:∀b o,s.heap.get? b=some o->b≠C:=λb o e=>Nat.ne_of_lt (Nat.lt_of_lt_of_le (Heap.lt_size e) hC);have stk:∀b,b≠X.env.locals->b∉X.fs->b∉frs X.stack:=λb h1 h2 hb=>(List.mem_cons.mp (I.stkSub b hb)).elim h1 h2;have cellK:∀x c v,(clo X.env.cells scope.names []).lookup x=some c->s.heap.IsCell c v->s1.heap.IsCell c v:=λx c v _ ⟨o,e,d⟩=>⟨o,k c o e,d⟩;refine⟨⟨I.ok.mod,S.kind,I.ok.glob,I.ok.blt,hC,λx y c h1 h2=>I.ok.inj x y c (S.sub I.ok h1) (S.sub I.ok h2),λx hx=>?_,(λx c z=>by cases z),I.ok.hd,I.ok.frames,.inl rfl,λb hb=>?_,I.bs,Nat.le_trans I.ok.bsz I.sz,λb o e hb=>?_,λb hb=>?_,I.stack,I.stkFree⟩,
  hos,by rw[hg];exact I.bare,Un.kept k,⟨m,hn,λi x v h1 h2 _=>aAs S I cellK i x v h1 h2⟩,λx c e=>?_,I.hok.fresh hC,λx c e=>I.freeC x c (S.sub I.ok e),λp hp=>?_,I.hok.kept k,?_⟩
 ·have hx:(relabel scope X.env).names.lookup x=some .cell∨(relabel scope X.env).names.lookup x=some .free:=hx;rw[kO] at hx;have hfree:(x,NameKind.free)∈scope.names:=by
   cases e:scope.names.lookup x with
   |none=>rw[e] at hx;rcases hx with z|z<;>cases z
   |some kk =>
    rw[e] at hx;have hm:=PySem.mem_of_lookup e;cases kk with
    |free=>exact hm
    |cell=>exact absurd rfl (S.nocell _ hm)
    |_=>rcases hx with z|z<;>cases z
  exact uR (.inl hfree)
 ·obtain⟨o,e⟩:=ho b hb;obtain⟨_,_,_,_,f4,_⟩:=hf b hb;exact⟨lt b o e,λx c z=>f4 x c (S.sub I.ok z)⟩
 ·obtain⟨_,_,_,f3,_⟩:=hf b hb;rcases f3 with z|z
  ·exact I.ok.noex b o e z
  ·exact absurd (Nat.lt_of_lt_of_le (Heap.lt_size e) (Nat.le_trans I.ok.bsz z)) (Nat.lt_irrefl _)
 ·obtain⟨_,f1,f2,_⟩:=hf b hb;exact stk b f1 f2
 ·obtain⟨v,z⟩:=I.cell x c (S.sub I.ok e);exact⟨v,cellK x c v e z⟩
 ·rw[append_nil] at hp;obtain⟨e,n,ne,nf,d⟩:=I.pin p hp;exact⟨k p.1 p.2 e,n,lt p.1 p.2 e,stk p.1 ne nf,d⟩
 ·unfold oE;rw[length_map];exact S.len
theorem aAH (S:dX X N' fr scope){s1:Shared}{H1:Hp}{σ1:St}{pl:List (Addr×Obj)}(I:Inv X pins σ H s)(J:Inv (X.blk N' scope C s H fp pins) pl σ1 H1 s1):Inv (X.blk N' scope C s H fp pins) pl (oE fr σ) H1 s1:=by
 obtain⟨m,hn,_⟩:=id J.loc;refine⟨J.ok,J.os,J.bare,J.base,⟨m,hn,λi x v h1 h2 _=>aAs S I (λx c v e z=>?_) i x v h1 h2⟩,J.cell,J.free,J.freeC,J.pin,J.hok,?_⟩
 ·obtain⟨o,eo,d⟩:=z;have e':=S.sub I.ok e;have hfree:=I.freeC x c e';have nex:c∉fp:=λhb=>(J.ok.exf c hb).2 x c e rfl;by_cases hfs:c∈frs X.stack
  ·obtain⟨sl,q⟩:=J.base.slot c o eo hfree hfs nex;exact⟨_,q,d⟩
  ·exact⟨o,J.base.keep c o eo hfree hfs nex,d⟩
 ·unfold oE;rw[length_map];exact S.len
end
section
variable {prog:Program}{w:World}{A:Around}{R:Result->Shared->Prop}{s:Shared}
theorem kA {elt target iter:Expr}{scope:Scope}{pos:Pos}{it acc:Value}{env:Env}(I:Nat->Shared->Prop)(turn:∀n s,I n s->wpAny (model prog w) A (pyNext it) (λr s₁=>match r with
   |none=>R (.ok .next) s₁
   |some v=>wpAny (model prog w) A (letOwnedTupleGo target it v) (λ_ s₁'=>wpAny (model prog w) A (assign target env v) (λ_ s₂=>wpAny (model prog w) A (eval elt env) (λx s₃ =>
     wpAny (model prog w) A (call (.builtin "list.append") [acc,x]) (λ_ s₄=>∃m,m<n/\I m s₄) (λ_ _=>False) s₃)
     (λ_ _=>False) s₂) (λ_ _=>False) s₁') (λ_ _=>False) s₁) (λ_ _=>False) s)(n:Nat)(h:I n s):codeAny (model prog w) A (.compLoop (.ListComp elt [⟨target,iter,[],0⟩] scope pos) 0 it acc env) R s:=by
 refine codeAny_loop rfl I (λn s hI=>?_) n h;show wpAny _ _ ((compTurn (.ListComp elt [⟨target,iter,[],0⟩] scope pos) 0 it acc env).onRaise (λx=>do noteFrame x env;theTreesLotGoes x)) _ _ s;refine wpAny_noted ?_;rw[compTurn_list1];refine wpAny_bind (wpAny_standAt (wpAny_bind (wpAny_mono (turn n s hI) (λr s₁ h₁=>?_) λ_ _ h'=>h'.elim)));cases r with
 |none=>exact wpAny_pure h₁
 |some v =>
  exact wpAny_bind (wpAny_mono h₁ (λ_ s₁' h₁'=>wpAny_bind (wpAny_mono h₁' (λ_ s₂ h₂=>wpAny_bind (wpAny_bind (wpAny_mono h₂ (λx s₃ h₃=>wpAny_bind (wpAny_mono h₃
   (λ_ s₄ h₄=>wpAny_pure (wpAny_pure ⟨rfl,h₄⟩)) λ_ _ h'=>h'.elim)) λ_ _ h'=>h'.elim))) λ_ _ h'=>h'.elim)) λ_ _ h'=>h'.elim)
end
theorem Inv.track {X:Cx}{pins:List (Addr×Obj)}{σ:St}{H:Hp}{s:Shared}{d:Addr}{ys:List V}(I:Inv X pins σ H s)(hn:H d=none)(hs:X.s₀.heap.objs.size<=d)(hL:d≠X.env.locals)(hc:∀x c,X.env.cells.lookup x=some c->c≠d)(hp:∀p∈X.pn++pins,p.1≠d)(new:dR X.prog X.w (upd H d (.lst ys)) s.heap d (.lst ys)):Inv X pins σ (upd H d (.lst ys)) s:=by
 have ne0:∀b o,X.s₀.heap.get? b=some o->b≠d:=λb o e=>Nat.ne_of_lt (Nat.lt_of_lt_of_le (Heap.lt_size e) hs);refine⟨I.ok,I.os,I.bare,⟨I.base.keep,I.base.slot,λb o e n hx=>?_,I.base.there,λb xs e=>?_,λb o u e=>?_,λb ps e=>?_⟩,I.loc,I.cell,?_,λx c e=>?_,λp hpp=>?_,λb u e=>?_,I.len⟩
 ·rw[aJ (ne0 b o e)];exact I.base.free b o e n hx
 ·have:=I.base.tups b xs e;rw[aJ (aO this hn)];exact this
 ·have:=I.base.frzs b o u e;rw[aJ (aO this hn)];exact this
 ·obtain⟨more,q⟩:=I.base.tbls b ps e;exact⟨more,by rw[aJ (aO q hn)];exact q⟩
 ·rw[aJ (Ne.symm hL)];exact I.free
 ·rw[aJ (hc x c e)];exact I.freeC x c e
 ·obtain⟨e,n,r⟩:=I.pin p hpp;exact⟨e,by rw[aJ (hp p hpp)];exact n,r⟩
 ·by_cases hb:b=d
  ·subst hb;rw[bD] at e;cases e;exact new
  ·rw[aJ hb] at e;exact(I.hok b u e).stay (λc v _ q=>q) (λc q=>by rw[aJ (aO q hn)];exact q) λc xs q=>by rw[aJ (aO q hn)];exact q
def tLc (wi:TI)(fr:List (Option Nat))(g:TG)(te:TE):TE:=λσ H Q=>wi σ H λJ H1=>∃W:Nat->Nat->List V->Hp->Prop,(∃m,W 0 m [] H1)/\∀i m ys H,W i m ys H ->
 (J.stop i H/\ys.length<=sizeLine/\∀p,H p=none->Q (.ref p) (upd H p (.lst ys))) ∨
 (J.go i H/\ys.length<=sizeLine/\∀x H',J.yld i H x H'->g x (oE fr σ) H' λσ2 H2=>te σ2 H2 λy H3=>∃m',m'<m/\W (i+1) m' (ys++[y]) H3)
structure CF (X:Cx)(pins:List (Addr×Obj))(H:Hp)(C:Addr):Prop where
 none:H C=none
 loc:C≠X.env.locals
 sz:X.s₀.heap.objs.size<=C
 cel:∀x c,X.env.cells.lookup x=some c->c≠C
 pin:∀p∈X.pn++pins,p.1≠C
theorem aAu {X:Cx}{elt iter tg:Expr}{scope:Scope}{pos pos2:Pos}{N':List Str}{fr:List (Option Nat)}{wi:TI}{g:TG}{te:TE}(S:dX X N' fr scope)(hc:X.calm=true)(hi:PI X tg iter wi)(hg:∀C s H fp pins,PG (X.blk N' scope C s H fp pins) tg g)(he:∀C s H fp pins,PE (X.blk N' scope C s H fp pins) elt te)(hs:∀x,foldedSetIterable iter X.env x=pure x){pins:List (Addr×Obj)}{s:Shared}{σ:St}{H:Hp}{Q:VK}(I:Inv X pins σ H s)(h:tLc wi fr g te σ H Q)(use:Option (Value->Sem Unit))(Post:Value->Shared->Prop)(fin:∀D C H' s4 m,Inv X pins σ H' s4->s4.heap.Ns C m->CF X pins H' C->Q (.ref D) H'->compPost (model X.prog X.w) X.A X.xe use Post (.ref D) C (.ok .next) s4) :
  wpAny (model X.prog X.w) X.A (comprehension (.ListComp elt [⟨tg,iter,[],0⟩] scope pos) scope X.env pos2 (newList []) false (eval iter X.env) use) Post X.xe s:=by
 refine wpAny_comprehension_free (use:=use) rfl hs (vX (S.hasC I.ok)) S.kind S.names ?_;show wpAny _ _ (eval iter X.env) _ _ s;refine thn (hi pins s σ H _ I h) λv s1 h1=>thn h1 λitv s2 h2=>?_;obtain⟨it,fp,tn,J,H2,e,I2,T,st2,f2,W,⟨m0,w0⟩,turn⟩:=h2;subst e;refine wpAny_newObj_type (wpAny_newFunctionEnv S.nocell (by intro y hy;simp at hy) (λh₁ hns₁ hsb₁=>?_) S.kind);dsimp only at hns₁ hsb₁ ⊢;generalize hHp:s2.heap.push { cls:=.type "list",dict:=none,data:=.seq ([]:List Value).toArray }=HP at hns₁ hsb₁ ⊢;have hC:HP.objs.size=s2.heap.objs.size+1:=by rw[<- hHp,Heap.size_push]
 generalize hCe:HP.objs.size=C at hns₁ hsb₁ ⊢;generalize hDe:s2.heap.objs.size=D at hC ⊢;have hDC:D≠C:=by omega
 have hCle:s2.heap.objs.size<=C:=by omega
 have old:∀b o,s2.heap.get? b=some o->h₁.get? b=some o:=λb o e=>hsb₁.extBut b o (Nat.ne_of_lt (Nat.lt_of_lt_of_le (Heap.lt_size e) hCle)) (Heap.get?_push_of_some _ (hHp ▸ Heap.get?_push_of_some _ e));have hD1:h₁.PlainList D #[]:=⟨_,by refine hsb₁.extBut _ _ hDC (Heap.get?_push_of_some _ ?_);rw[<- hHp,<- hDe];exact Heap.get?_push_size _ rfl⟩
 have ltf:∀b∈fp,b<D:=λb hb=>by obtain⟨o,e,_⟩:=T.obj _ _ st2 b hb;exact Nat.lt_of_lt_of_eq (Heap.lt_size e) hDe
 have J0:=aDK (s1:={ s2 with heap:=h₁,toks:=s2.toks+([]:List (Str×Value)).length }) S I2 f2 (λb hb=>let ⟨o,e,_⟩:=T.obj _ _ st2 b hb;⟨o,e⟩) rfl rfl hCle old hns₁;have ltC:∀b,b<D->b≠C:=λb hb=>Nat.ne_of_lt (Nat.lt_of_lt_of_le hb (by rw[<- hDe];exact hCle));have old2:∀b o,s2.heap.get? b=some o->b<D:=λb o e=>Nat.lt_of_lt_of_eq (Heap.lt_size e) hDe;have neD:∀b o,s2.heap.get? b=some o->b≠D:=λb o e=>Nat.ne_of_lt (old2 b o e);have hDs:s2.heap.objs.size<=D:=Nat.le_of_eq hDe;have hDfs:D∉frs X.stack:=λhb=>by
  rcases List.mem_cons.mp (I2.stkSub D hb) with z|z
  ·have:=I2.lt;rw[<- z] at this;exact absurd (Nat.lt_of_lt_of_le this hDs) (Nat.lt_irrefl _)
  ·exact I2.nofs hDs z
 have cellD:∀x c,X.env.cells.lookup x=some c->c≠D/\c≠C:=λx c e=>by obtain⟨v,o,ho,_⟩:=I2.cell x c e;exact⟨neD c o ho,ltC c (old2 c o ho)⟩
 have pinD:∀p∈X.pn++pins,p.1≠D/\p.1≠C:=λp hp=>by have e:=(I2.pin p hp).1;exact⟨neD _ _ e,ltC _ (old2 _ _ e)⟩
 have fpok:∀(pl:List (Addr×Obj)) (H':Hp),(∀b∈fp,H' b=none)->(∀p∈pl,∀b∈fp,p.1≠b)->∀b∈fp,rZ (X.blk N' scope C s2 H2 fp pins) pl H' b:=λpl H' hn hpl b hb=>by
  refine⟨hn b hb,ltC b (ltf b hb),J0.ok.exfs b hb,.inl hb,(J0.ok.exf b hb).2,λp hp=>?_⟩;rcases List.mem_append.mp hp with z|z
  ·exact(f2 b hb).2.2.2.2.2 p z
  ·exact hpl p z b hb
 have loop:codeAny (model X.prog X.w) X.A (.compLoop (.ListComp elt [⟨tg,iter,[],0⟩] scope pos) 0 (.ref it) (.ref D) (compEnvC scope (clo X.env.cells scope.names []) C X.env))
   (compPost (model X.prog X.w) X.A X.xe use Post (.ref D) C) { s2 with heap:=h₁,toks:=s2.toks+([]:List (Str×Value)).length }:=by
  refine kA (λn s'=>∃i H' ys its,Inv (X.blk N' scope C s2 H2 fp pins) [] (oE fr σ) H' s'/\tn i s'.heap/\(∀b∈fp,H' b=none)/\s'.heap.PlainList D its/\H' D=none/\bJ ys its.toList/\W i n ys H') ?_ m0
   ⟨0,H2,[],#[],J0,T.keep _ _ _ st2 λb hb o e=>old b o e,λb hb=>(f2 b hb).1,hD1,I2.hok.fresh hDs,.nil,w0⟩
  rintro n s3 ⟨i,H3,ys,its,I3,st3,fr3,⟨nn,pl3⟩,hD3,rv3,w3⟩;have I3p:Inv (X.blk N' scope C s2 H2 fp pins) [(D,{ cls:=.type "list",data:=.seq its nn })] (oE fr σ) H3 s3:=I3.pins_of λp hp=>by have e:=List.mem_singleton.mp hp;subst e;exact⟨pl3,hD3,hDC,hDfs,λv z=>by cases z⟩
  have pf:∀p∈[((D,{ cls:=.type "list",data:=.seq its nn }):Addr×Obj)],∀b∈fp,p.1≠b:=λp hp b hb=>by have e:=List.mem_singleton.mp hp;subst e;exact(Nat.ne_of_lt (ltf b hb)).symm
  rcases turn i n ys H3 w3 with⟨stop,hz,q⟩|⟨go,hz,step⟩
  ·refine thn (T.done (X.blk N' scope C s2 H2 fp pins) rfl rfl rfl hc i _ s3 _ H3 (λ_ _=>False) I3p (fpok _ H3 fr3 pf) st3 stop) λr s4 ⟨hr,I4⟩=>?_;subst hr;obtain⟨mm,hn4,_⟩:=id I4.loc;have pD:=(I4.pin _ (mem_append_right _ mem_cons_self)).1;have IX:Inv X pins σ H3 s4:=I2.call' I4.os I4.base I4.hok I4.bare λb hb=>⟨(f2 b hb).2.2.2.1,(f2 b hb).2.1,(f2 b hb).2.2.2.2.1,(f2 b hb).2.2.2.2.2⟩;have CL:C≠X.env.locals:=(Nat.ne_of_lt (Nat.lt_of_lt_of_le I2.lt hCle)).symm;have DL:D≠X.env.locals:=(Nat.ne_of_lt (Nat.lt_of_lt_of_le I2.lt hDs)).symm;refine fin D C (upd H3 D (.lst ys)) s4 mm (IX.track hD3 (Nat.le_trans I2.sz hDs) DL (λx c e=>(cellD x c e).1) (λp hp=>(pinD p hp).1) ⟨hz,its.toList,nn,rv3,pD⟩) hn4 ⟨by rw[aJ (Ne.symm hDC)];exact I4.free,CL,Nat.le_trans I2.sz hCle,λx c e=>(cellD x c e).2,λp hp=>(pinD p hp).2⟩ (q D hD3)
  ·refine thn (T.item (X.blk N' scope C s2 H2 fp pins) rfl rfl rfl hc i _ s3 _ H3 (λ_ _=>False) I3p (fpok _ H3 fr3 pf) st3 go) λr s4 ⟨u,hr,h4⟩=>?_;subst hr;refine thn h4 λ_ s5 ⟨x,H5,I5,r5,y5,st5,fr5⟩=>?_;have I5':=I5.pinned (fpok _ H5 fr5 pf) (T.obj _ _ st5);refine thn (hg C s2 H2 fp pins _ s5 _ H5 x u _ I5' r5 (step x H5 y5)) λ_ s6 ⟨σ6,H6,I6,q6⟩=>?_;refine thn (he C s2 H2 fp pins _ s6 σ6 H6 _ I6 q6) λyv s7 ⟨y,H7,I7,ry,m',hm,w7⟩=>?_;obtain⟨pD,nD,_⟩:=I7.pin _ (mem_append_right _ (mem_append_left _ mem_cons_self));have lz:its.size<=sizeLine:=by
    have e:ys.length=its.size:=by rw[rv3.length];simp
    rw[<- e];exact hz
   refine wpAny_list_append_plain (hsz:=lz) ⟨nn,pD⟩ λh8 pl8 sb8=>?_;have I7a:Inv (X.blk N' scope C s2 H2 fp pins) [] σ6 H7 s7:=I7.pins_of λp hp=>nomatch hp;have I8:Inv (X.blk N' scope C s2 H2 fp pins) [] σ6 H7 { s7 with heap:=h8,toks:=s7.toks }:=I7a.turned (it:=D) (λb o hb e=>sb8.extBut b o hb e) nD hDC (.inr hDs) (λx c e=>(cellD x c (S.sub I2.ok e)).1) λp hp=>by rw[append_nil] at hp;exact(pinD p hp).1
   refine⟨m',hm,i+1,H7,ys++[y],its.push yv,aAH S I2 I8,?_,λb hb=>?_,pl8,nD,?_,w7⟩
   ·refine T.keep _ _ _ st5 λb hb o e=>sb8.extBut b o (Nat.ne_of_lt (ltf b hb)) (I7.pin (b,o) (mem_append_right _ (mem_append_right _ (jB hb e)))).1
   ·obtain⟨o,e,d⟩:=T.obj _ _ st5 b hb;exact(I7.pin (b,o) (mem_append_right _ (mem_append_right _ (jB hb e)))).2.1
   ·rw[Array.toList_push];exact rv3.append (.cons ry .nil)
 exact codeAny_compStart_list loop (T.self _ _ _ _ _ (T.keep _ _ _ st2 λb hb o e=>old b o e) loop)
theorem aIu {X:Cx}{elt iter tg:Expr}{scope:Scope}{pos:Pos}{N':List Str}{fr:List (Option Nat)}{wi:TI}{g:TG}{te:TE}(S:dX X N' fr scope)(hc:X.calm=true)(hi:PI X tg iter wi)(hg:∀C s H fp pins,PG (X.blk N' scope C s H fp pins) tg g)(he:∀C s H fp pins,PE (X.blk N' scope C s H fp pins) elt te)(hs:∀x,foldedSetIterable iter X.env x=pure x:=by intro _;rfl) :
  PE X (.ListComp elt [⟨tg,iter,[],0⟩] scope pos) (tLc wi fr g te):=by
 intro pins s σ H Q I h;rw[eval_ListComp];refine aAu S hc hi hg he hs I h none (EP X pins σ Q) λD C H' s4 m J hn F q=>⟨m,hn,λh' sb=>?_⟩;exact⟨.ref D,H',J.turned (t':=s4.toks) (it:=C) (λb o hb e=>sb.extBut b o hb e) F.none F.loc (.inr F.sz) F.cel F.pin,rfl,q⟩
theorem aBl {X:Cx}{elt iter tg:Expr}{scope:Scope}{pos spos py:Pos}{N':List Str}{fr:List (Option Nat)}{wi:TI}{g:TG}{te:TE}{i:Nat}{y:Str}(S:dX X N' fr scope)(hc:X.calm=true)(hN:X.N.Nodup)(hi:PI X tg iter wi)(hg:∀C s H fp pins,PG (X.blk N' scope C s H fp pins) tg g)(he:∀C s H fp pins,PE (X.blk N' scope C s H fp pins) elt te)(hy:X.N[i]?=some y)(hx:Loc X.env.scope y)(hsw:swapsWith (.ListComp elt [⟨tg,iter,[],0⟩] scope pos) (some (.Name y py)) spos.line X.env=pure true)(hf:X.fn y=true∨X.env.scope.names.lookup y=some .local)(hs:∀x,foldedSetIterable iter X.env x=pure x) :
  PS X (.Assign [.Name y py] (.ListComp elt [⟨tg,iter,[],0⟩] scope pos) spos) (λD σ H=>tLc wi fr g te σ H λv H'=>D.nx (σ.set i (some v)) H'):=by
 intro pins s σ H D I h;rw[exec_Assign_Name_used _ _ _ _ hsw];refine wpAny_bind (wpAny_standAt (wpAny_bind ?_));show wpAny _ X.A (do let _ <- comprehension (.ListComp elt [⟨tg,iter,[],0⟩] scope pos) scope X.env _ (newList []) false (eval iter X.env) (some (assign (.Name y py) X.env))) _ _ s;refine wpAny_bind (wpAny_mono (aAu S hc hi hg he hs I h (some (assign (.Name y py) X.env)) (λ_ s'=>SP X pins D .next s') λD' C H' s4 m J hn F q=>?_) (λ_ s' hq=>wpAny_pure (wpAny_pure hq)) λ_ _ e=>e);show wpAny _ X.A (assign (.Name y py) X.env (.ref D')) _ _ s4;refine wpAny_assign_Name (tI J hN hy hx (v:=.ref D') rfl (λs5 I5 ⟨a,sb,ha⟩=>?_) hf);have hCa:C≠a:=by
  rcases ha with rfl|ha
  ·exact F.loc
  ·exact(F.cel y a ha).symm
 refine⟨m,hn.sameBut sb hCa,λh' sb'=>?_⟩;exact⟨_,H',I5.turned (t':=s5.toks) (it:=C) (λb o hb e=>sb'.extBut b o hb e) F.none F.loc (.inr F.sz) F.cel F.pin,q⟩
end L2
namespace Dd
open PySem PySem.Spec PyProof.Rows L2
noncomputable def vZ (fr:List (Option Nat))(ρ:cH):cH:=fr.map λo=>match o with
 |some j=>(ρ[j]?).join
 |none=>none
section
variable {K:Frag}{H:Hp}{ρ:cH}{σ:L2.St}
theorem aCo (re:eV K H ρ σ)(fr:List (Option Nat)):eV K H (vZ fr ρ) (oE fr σ):=by
 refine⟨by unfold vZ oE;rw[length_map,length_map],λi d e=>?_⟩;unfold vZ at e;unfold oE;rw[getElem?_map] at e ⊢;cases hf:fr[i]? with
 |none=>rw[hf] at e;cases e
 |some o =>
  rw[hf] at e;cases o with
  |none=>cases e
  |some j =>
   have e:(ρ[j]?).join=some d:=Option.some.inj e;have e2:ρ[j]?=some (some d):=by
    cases h:ρ[j]? with
    |none=>rw[h] at e;cases e
    |some o=>rw[h] at e;rw[show o=some d from e]
   obtain⟨v,hv,r⟩:=re.get j d e2;refine⟨v,?_,r⟩;show some (σ[j]?).join=some (some v);rw[hv];rfl
end
def aHm (at':Option Addr)(ds:List D)(ρ0:cH)(g:DG)(te:DE)(M:DM)(Q:DQ):Prop:=ds.length<=1000/\∃Pv:Nat->List D->DM->Prop,Pv 0 [] M /\
 (∀i ys M,i<=ds.length->Pv i ys M->∀a,at'=some a->M a=some ds) /\
 (∀i d ys M,ds[i]?=some d->Pv i ys M->g d ρ0 M λρ2 M2=>te ρ2 M2 λy M3=>Pv (i+1) (ys++[y]) M3) /\
 ∀ys M,ys.length=ds.length->Pv ds.length ys M->∀p:Addr,M p=none->Q (.ref p) (aU M p ys)
def aC8 (tl:DE)(fr:List (Option Nat))(g:DG)(te:DE):DE:=λρ M Q=>tl ρ M λd M1=>match d with
 |.fz ds=>aHm none ds (vZ fr ρ) g te M1 Q
 |.ref a=>∃ds,M1 a=some ds/\aHm (some a) ds (vZ fr ρ) g te M1 Q
 |_=>False
section
variable {X:Cx}{g:DG}{te:DE}
theorem tM {K:Frag}{a':Option Addr}{ds:List D}{fr:List (Option Nat)}{σ:L2.St}{ρ:cH}{M:DM}{H0 H:Hp}{J:It}{Q:VK}{Q':DQ}(ex0:Ext H0 H)(re:eV K H ρ σ)(hm:bF K M H)(h:aHm a' ds (vZ fr ρ) g te M Q')(kq:∀v H',LQ K H0 Q' v H'->Q v H')(seq:∀H',Ext H H'->(∀M',bF K M' H'->(∀a,a'=some a->M' a=some ds)->∃xs,aY K H' ds xs/\(∀i,xs.length<=i->J.stop i H')/\(∀i,i<xs.length->J.go i H')/\∀i x H2,J.yld i H' x H2->H2=H'/\xs[i]?=some x)) :
  ∃W:Nat->Nat->List V->Hp->Prop,(∃m,W 0 m [] H)/\∀i m ys H,W i m ys H ->
   (J.stop i H/\ys.length<=sizeLine/\∀p,H p=none->Q (.ref p) (upd H p (.lst ys))) ∨
   (J.go i H/\ys.length<=sizeLine/\∀x H',J.yld i H x H'->xU K g x (oE fr σ) H' λσ2 H2=>low K te σ2 H2 λy H3=>∃m',m'<m/\W (i+1) m' (ys++[y]) H3):=by
 obtain⟨hl,Pv,p0,hat,step,done⟩:=h;refine⟨λi m ysV H'=>∃ys M',aY K H' ys ysV/\bF K M' H'/\Ext H H'/\m=ds.length-i/\i<=ds.length/\ys.length=i/\Pv i ys M',⟨ds.length,[],M,cD,hm,.refl H,rfl,Nat.zero_le _,rfl,p0⟩,?_⟩;rintro i m ysV H1 ⟨ys,M1,ry,hm1,e1,rfl,hi,ly,w1⟩;obtain⟨xs,rs,hst,hgo,hy⟩:=seq H1 e1 M1 hm1 (hat i ys M1 hi w1);have hll:=rs.length;have lz:ysV.length<=sizeLine:=by rw[<- ry.length];exact Nat.le_of_lt (dE (by omega))
 by_cases hlt:i<ds.length
 ·refine .inr ⟨hgo i (by omega),lz,λx H' y=>?_⟩;obtain⟨rfl,hx⟩:=hy i x H' y;obtain⟨d,hd,rd⟩:=rs.getV hx;refine⟨d,vZ fr ρ,M1,_,rd,aCo (re.ext e1) fr,hm1,step i d ys M1 hd w1,λσ2 H2 ⟨ρ2,M2,re2,hm2,e2,q2⟩=>?_⟩;refine⟨ρ2,M2,_,re2,hm2,q2,λv H3 ⟨dy,M3,rdy,hm3,e3,q3⟩=>?_⟩;exact⟨ds.length-(i+1),by omega,ys++[dy],M3,(ry.ext (e2.trans e3)).append (bU rdy cD),hm3,(e1.trans e2).trans e3,rfl,hlt,by rw[length_append,ly];rfl,q3⟩
 ·have e:i=ds.length:=by omega
  subst e;exact .inl ⟨hst _ (by omega),lz,λp hp=>kq _ _ ⟨.ref p,_,cK,hm1.lnew hp ry,(ex0.trans e1).trans (Ext.new hp _),done ys M1 ly w1 p (hm1.fresh hp)⟩⟩
variable {elt iter tg:Expr}{scope:Scope}{pos:Pos}{N':List Str}{fr:List (Option Nat)}{tl:DE}{ta:DA}{oN:List Str}{osc:Scope}
theorem aGd (B:vF oN osc N' fr scope)(hc:X.calm=true)(hi:PDE X iter tl)(hg:∀C s H fp pins,PG (X.blk N' scope C s H fp pins) tg (xU X.K g))(he:∀C s H fp pins,PE (X.blk N' scope C s H fp pins) elt (low X.K te))(hN:X.N=oN:=by rfl)(ho:X.env.scope=osc:=by rfl)(hs:∀x,foldedSetIterable iter X.env x=pure x:=by intro _;rfl) :
  PDE X (.ListComp elt [⟨tg,iter,[],0⟩] scope pos) (aC8 tl fr g te) :=
 cI (aIu (B.scope hN ho) hc (uS hi) hg he hs) λσ H Q ⟨ρ,M,Q',re,hm,q,k⟩=>⟨ρ,M,_,re,hm,q,λv H1 ⟨d,M1,rd,hm1,ex,q1⟩=>by
  cases d with
  |fz ds =>
   obtain⟨a,xs,rfl,sq,rs⟩:=iX rd;exact⟨a,rfl,⟨xs,sq.sq⟩,tM ex (re.ext ex) hm1 q1 k λH' e' M' hm' _=>⟨xs,rs.ext e',λi hi=>⟨xs,(fL e' sq).sq,hi⟩,λi hi=>⟨xs,xs[i],(fL e' sq).sq,by simp[hi]⟩,λi x H2 y=>⟨y.1,y.2 xs (fL e' sq).sq⟩⟩⟩
  |ref a =>
   obtain⟨ds,ha,q1⟩:=q1;obtain rfl:=aM rd;obtain⟨xs,hx,rs⟩:=hm1.l a ds ha;refine⟨a,rfl,⟨xs,.of hx⟩,tM ex (re.ext ex) hm1 q1 k λH' e' M' hm' hat=>?_⟩;obtain⟨ys,hy,rs'⟩:=hm'.l a ds (hat a rfl);exact⟨ys,rs',λi hi=>⟨ys,.of hy,hi⟩,λi hi=>⟨ys,ys[i],.of hy,by simp[hi]⟩,λi x H2 y=>⟨y.1,y.2 ys (.of hy)⟩⟩
  |_=>exact q1.elim⟩
def yN (i:Nat)(t:DE):DS:=λE ρ M=>t ρ M λx M1=>E.nx (ρ.set i (some x)) M1
theorem aAX {i:Nat}{y:Str}{spos py:Pos}(B:vF oN osc N' fr scope)(hc:X.calm=true)(hNd:X.N.Nodup)(hi:PDE X iter tl)(hg:∀C s H fp pins,PG (X.blk N' scope C s H fp pins) tg (xU X.K g))(he:∀C s H fp pins,PE (X.blk N' scope C s H fp pins) elt (low X.K te))(hy:X.N[i]?=some y:=by rfl)(hx:Loc X.env.scope y:=by first|exact Or.inl rfl|exact Or.inr rfl)(hsw:swapsWith (.ListComp elt [⟨tg,iter,[],0⟩] scope pos) (some (.Name y py)) spos.line X.env=pure true:=by rfl)(hf:X.fn y=true∨X.env.scope.names.lookup y=some .local:=by first|exact .inl rfl|exact .inr rfl|assumption)(hN:X.N=oN:=by rfl)(ho:X.env.scope=osc:=by rfl)(hs:∀x,foldedSetIterable iter X.env x=pure x:=by intro _;rfl) :
  PDS X (.Assign [.Name y py] (.ListComp elt [⟨tg,iter,[],0⟩] scope pos) spos) (yN i (aC8 tl fr g te)) :=
 eU (aBl (i:=i) (B.scope hN ho) hc hNd (uS hi) hg he hy hx hsw hf hs) λE σ H ⟨ρ,M,D,re,hm,q,kk⟩=>⟨ρ,M,_,re,hm,q,λv H1 ⟨d,M1,rd,hm1,ex,q1⟩=>by
  have k:∀v H',LQ X.K H (λx M1=>D.nx (ρ.set i (some x)) M1) v H'->E.nx (σ.set i (some v)) H':=λv H' ⟨d,M',rd',hm',e',q'⟩=>kk.nx _ H' ⟨_,M',(re.ext e').set rd' i,hm',e',q'⟩;cases d with
  |fz ds =>
   obtain⟨a,xs,rfl,sq,rs⟩:=iX rd;exact⟨a,rfl,⟨xs,sq.sq⟩,tM ex (re.ext ex) hm1 q1 k λH' e' M' hm' _=>⟨xs,rs.ext e',λi hi=>⟨xs,(fL e' sq).sq,hi⟩,λi hi=>⟨xs,xs[i],(fL e' sq).sq,by simp[hi]⟩,λi x H2 y=>⟨y.1,y.2 xs (fL e' sq).sq⟩⟩⟩
  |ref a =>
   obtain⟨ds,ha,q1⟩:=q1;obtain rfl:=aM rd;obtain⟨xs,hx,rs⟩:=hm1.l a ds ha;refine⟨a,rfl,⟨xs,.of hx⟩,tM ex (re.ext ex) hm1 q1 k λH' e' M' hm' hat=>?_⟩;obtain⟨ys,hy,rs'⟩:=hm'.l a ds (hat a rfl);exact⟨ys,rs',λi hi=>⟨ys,.of hy,hi⟩,λi hi=>⟨ys,ys[i],.of hy,by simp[hi]⟩,λi x H2 y=>⟨y.1,y.2 ys (.of hy)⟩⟩
  |_=>exact q1.elim⟩
end
end Dd
namespace L2
open PySem PySem.Spec PyProof.Rows
variable {X:Cx}
end L2
namespace Dd
open PySem PySem.Spec PyProof.Rows L2
variable {X:Cx}
theorem wO {K:Frag}{H:Hp}:∀{bs:List Bool}{vs:List V},aY K H (bs.map D.bl) vs->vs=bs.map V.bl
 |[],_,h=>bE h
 |b::bs,_,h=>by obtain⟨v,r,rfl,hv,hr⟩:=aN h;rw[bZ hv,wO hr];rfl
section
variable {g:DG}{te:DE}{tb:DS}{Q:DQ}{ρ0:cH}
def goF (g:DG)(tb:DS)(E:eF):List D->cH->DM->Prop
 |[],ρ,M=>E.nx ρ M
 |d::r,ρ,M=>g d ρ M λρ2 M2=>tb { E with nx:=goF g tb E r,ct:=goF g tb E r,bk:=E.nx } ρ2 M2
theorem aCn {E:eF}{ds:List D}{ρ:cH}{M:DM}(h:goF g tb E ds ρ M):dIt none ds g tb E ρ M:=by
 refine⟨λi ρ M=>goF g tb E (ds.drop i) ρ M,h,λ_ _ _ _ _ a e=>(by cases e),λi d ρ M hd hp=>?_,λρ M hp=>?_⟩
 ·obtain⟨hi,e⟩:=List.getElem?_eq_some_iff.mp hd;have hp:goF g tb E (ds.drop i) ρ M:=hp;rw[List.drop_eq_getElem_cons hi,e] at hp;exact hp
 ·have hp:goF g tb E (ds.drop ds.length) ρ M:=hp;rw[List.drop_length] at hp;exact hp
end
section
variable {e:Expr}{te:DE}{pos:Pos}
end
section
variable {X:Cx}{e:Expr}{te:DE}{pos p2:Pos}{lo hi:Option Expr}{tl th:DO}
end
end Dd
namespace L2
open PySem PySem.Spec PyProof.Rows
open PySem.AutoSeq1 (wpAny_loadPart')
section
variable {X:Cx}{a n:Expr}{ta:TE}{tn:TA}{pos:Pos}
end
end L2
namespace Dd
open PySem PySem.Spec PyProof.Rows L2
section
variable {X:Cx}{a n:Expr}{ta:DE}{tn:DA}{pos p pos':Pos}
end
section
variable {X:Cx}{a b c e o:Expr}{es:List Expr}{ta tb tc te to:DE}{pos:Pos}
def aC6 (g:Int->Int->Int):DSp:=λds M Q=>match ds with
 |[.int i,.int j]=>Q (.int (g i j)) M
 |_=>False
theorem aEB {g:Int->Int->Int}{fv:Value}(h:jO X fv (λxs H Q=>∃i j,xs=[.int i,.int j]/\Q (.int (g i j)) H)):eB X fv (aC6 g):=eB.of h λvs H M ds Q rs hm q=>by
 rcases ds with _|⟨d,_|⟨d2,_|⟨d3,r⟩⟩⟩
 ·exact q.elim
 ·cases d<;>exact q.elim
 ·cases d with
  |int i =>
   cases d2 with
   |int j =>
    obtain⟨v,v2,rfl,rv,rv2⟩:=aBB rs;obtain rfl:=aQ rv;obtain rfl:=aQ rv2;exact⟨i,j,rfl,_,M,cP,hm,.refl H,q⟩
   |_=>exact q.elim
  |_=>exact q.elim
 ·cases d<;>first|exact q.elim|(cases d2<;>exact q.elim)
def aIG:DSp:=aC6 λi j=>if j > i then j else i
theorem aFm (hc:X.calm = true):eB X (.builtin "max") aIG:=aEB (aAO hc)
def aER:DSp:=λds M Q=>match ds with
 |[.tup xs]=>∀p:Addr,M p=none->Q (.ref p) (aU M p xs)
 |[.fz xs]=>∀p:Addr,M p=none->Q (.ref p) (aU M p xs)
 |[.ref a]=>∃xs,M a=some xs/\∀p:Addr,M p=none->Q (.ref p) (aU M p xs)
 |_=>False
theorem aAk:eB X (.type "list") aER:=eB.of uA λvs H M ds Q rs hm q=>by
 rcases ds with _|⟨d,_|⟨d2,r⟩⟩
 ·exact q.elim
 ·obtain⟨v,rfl,rv⟩:=fS rs;cases d with
  |tup xs =>
   obtain⟨a,us,rfl,sq,ru⟩:=bI rv;exact⟨a,us,rfl,.inr sq,λl hl=>⟨.ref l,_,cK,hm.lnew hl ru,Ext.new hl _,q l (hm.fresh hl)⟩⟩
  |fz xs =>
   obtain⟨a,us,rfl,sq,ru⟩:=iX rv;exact⟨a,us,rfl,.inl sq.sq,λl hl=>⟨.ref l,_,cK,hm.lnew hl ru,Ext.new hl _,q l (hm.fresh hl)⟩⟩
  |ref a =>
   obtain rfl:=aM rv;obtain⟨xs,ha,q⟩:=q;obtain⟨us,hu,ru⟩:=hm.l a xs ha;exact⟨a,us,rfl,.inl (.of hu),λl hl=>⟨.ref l,_,cK,hm.lnew hl ru,Ext.new hl _,q l (hm.fresh hl)⟩⟩
  |_=>exact q.elim
 ·cases d<;>exact q.elim
end
theorem ifF {b:Bool}{A B:Prop}(h:b=false)(q:B):if b=true then A else B:=by subst h;exact q
theorem ifT {b:Bool}{A B:Prop}(h:b=true)(q:A):if b=true then A else B:=by subst h;exact q
end Dd
set_option maxHeartbeats 400000
namespace L2
open PySem PySem.Spec PyProof.Rows
theorem aCh {xs:List V}{its:List Value}(h:bJ xs its):bJ xs.reverse its.reverse:=by
 induction h with
 |nil=>exact .nil
 |cons a b ih=>rw[reverse_cons,reverse_cons];exact ih.append (.cons a .nil)
theorem aGb {X:Cx}{e k:Expr}{te tk:TE}{pos p2:Pos}(he:PE X e te)(hk:PE X k tk):PE X (.Subscript e (.Slice none none (some k) p2) pos) (λσ H Q=>te σ H λx H1=>tk σ H1 λy H2=>∃a xs,x=.ref a/\y=.int (-1)/\SqL X.K H2 a xs/\∀p,H2 p=none->Q (.ref p) (upd H2 p (.lst xs.reverse))):=by intro pins s σ H Q I h;refine Subscript_ (thn (he pins s σ H _ I h) λv s1 ⟨x,H1,I1,r1,q1⟩=>?_);refine wpAny_Slice ?_;rw[evalPart_none];refine wpAny_pure (wpAny_pure ?_);rw[evalPart_some];refine thn (hk pins s1 σ H1 _ I1 q1) λvk s4 ⟨y,H4,I4,r4,q4⟩=>?_;obtain⟨a,xs,rfl,rfl,sq,q⟩:=q4;cases r1;obtain⟨t,rfl⟩:=r4;have I5:Inv X pins σ H4 { s4 with heap:=s4.heap.push { cls:=.type "slice",data:=.fields #[.none,.none,.int (-1) t] } }:=I4.kept (t':=s4.toks) λb ob q=>Heap.get?_push_of_some _ q;obtain⟨its,r,ht,hz⟩:=I5.list sq;have hlen:=r.length;show wpAny (model X.prog X.w) X.A (subscriptTail e (.Slice none none (some k) p2) (.ref a) (.ref s4.heap.objs.size)) (EP X pins σ Q) X.xe { s4 with heap:=s4.heap.push { cls:=.type "slice",data:=.fields #[.none,.none,.int (-1) t] } };refine tail_any (T:="list") (ops:=[.ref a,.ref s4.heap.objs.size]) ht.isList.typeIs slot_list_getitem.lookup ?_ (by with_unfolding_all rfl);refine wpAny_getItem_list_slice (st:=some (-1)) ht.isList (Heap.IsSliceOf.new ..) .none .none (by constructor) (by decide) ?_ (by rw[size_toArray]<;>omega);rw[PySem.W.krv_pick];refine⟨.ref _,_,I5.laid (t':=s4.toks) (o:=.lst xs.reverse) (λb ob q=>Heap.get?_push_of_some _ q) (Nat.le_refl _) ?_,rfl,q _ (I5.hok.fresh (Nat.le_refl _))⟩;exact⟨by rw[List.length_reverse];exact hz,_,0,by simpa using aCh r,Heap.get?_push_size _ rfl⟩
end L2
namespace Dd
open PySem PySem.Spec PyProof.Rows L2
theorem aY.rev {K:Frag}{H:Hp}:∀{ds:List D}{vs:List V},aY K H ds vs->aY K H ds.reverse vs.reverse
 |[],_,h=>by rw[bE h];exact cD
 |d::ds,_,h=>by obtain⟨v,r,rfl,hv,hr⟩:=aN h;rw[reverse_cons,reverse_cons];exact(aY.rev hr).append (bU hv cD)
section
variable {X:Cx}{e k:Expr}{te tk:DE}{pos p2:Pos}
def aFl (te tk:DE):DE:=λρ M Q=>te ρ M λx M1=>tk ρ M1 λy M2=>match x,y with
 |.ref a,.int i=>i = -1/\∃ds,M2 a=some ds/\∀p:Addr,M2 p=none->Q (.ref p) (aU M2 p ds.reverse)
 |_,_=>False
theorem aG7 (he:PDE X e te)(hk:PDE X k tk):PDE X (.Subscript e (.Slice none none (some k) p2) pos) (aFl te tk) :=
 cI (aGb he hk) λσ H Q ⟨ρ,M,Q',re,hm,q,kk⟩=>⟨ρ,M,_,re,hm,q,λv H1 ⟨d,M1,rd,hm1,e1,q1⟩=>⟨ρ,M1,_,re.ext e1,hm1,q1,λy H2 ⟨dy,M2,ry,hm2,e2,q2⟩=>by
  cases d with
  |ref a =>
   cases dy with
   |int i =>
    obtain⟨rfl,ds,ha,q2⟩:=q2;obtain rfl:=aM rd;obtain⟨us,hu,ru⟩:=hm2.l a ds ha;exact⟨a,us,rfl,aQ ry,.of hu,λp hp=>kk _ _ ⟨.ref p,_,cK,hm2.lnew hp ru.rev,(e1.trans e2).trans (Ext.new hp _),q2 p (hm2.fresh hp)⟩⟩
   |_=>exact q2.elim
  |_=>exact q2.elim⟩⟩
end
end Dd
namespace Zp
open PySem PySem.Spec PyProof.Rows
section
variable {prog:Program}{w:World}{A:Around}{E:Value->Shared->Prop}{s:Shared}
theorem aDj {it t:Addr}{i:Nat}{items:Array Value}{x:Value}{Q:Value->Shared->Prop}(hit:s.heap.IsTupleIter it t i)(ht:s.heap.IsTuple t items)(hx:items[i]?=some x)(hQ:∀h',h'.IsTupleIter it t (i+1)->Heap.SameBut it s.heap h'->Q x { s with heap:=h' }):wpAny (model prog w) A (Builtin.SmallTypes.nextOf (.ref it)) Q E s:=by obtain⟨o,ho,hc,hd⟩:=id hit;obtain⟨ol,hol,_,nl,hdl⟩:=ht;unfold Builtin.SmallTypes.nextOf;refine wpAny_bind (wpAny_callSpecial?_slot (name:=Str.ofString "__next__") hit.typeIs F.slot_tuple_iterator_next (wpAny_call_entry F.slot_tuple_iterator_next hit.typeIs F.entry_tuple_iterator_next ?_ (F.args_tuple_iterator_next_1 _)));show wpAny _ _ (field (.ref it) 0 >>= _) _ _ s;refine wpAny_bind (wpAny_field ho hd (x:=.ref t) rfl ?_);show wpAny _ _ (if (Value.ref t==Value.none)=true then _ else _) _ _ s;rw[if_neg (show ¬((Value.ref t==Value.none)=true) from Bool.false_ne_true)];show wpAny _ _ (field (.ref it) 1 >>= _) _ _ s;refine wpAny_bind (wpAny_field ho hd (x:=.int i 0) rfl ?_);show wpAny _ _ (seqItems? (.ref t) >>= _) _ _ s;refine wpAny_bind (wpAny_seqItems hol hdl ?_);simp only[Int.toNat_natCast,hx];refine wpAny_bind (wpAny_setField ho hd (by simp) (wpAny_pure ⟨x,rfl,wpAny_pure (hQ _ ⟨_,Heap.get?_update_self _ ho (Obj.isFreed_of_fields (Obj.data_mapFields hd _)),(Obj.cls_mapFields ..).trans hc,by rw[Obj.data_mapFields hd];simp[rawInt]⟩ (Heap.SameBut.update ..))⟩))
theorem aIJ {it t:Addr}{i:Nat}{items:Array Value}{Q:Value->Shared->Prop}(hh:A.handled=none)(hit:s.heap.IsTupleIter it t i)(ht:s.heap.IsTuple t items)(hx:items[i]?=none)(hE:∀h' e,Heap.ExtBut it s.heap h'->(∃o,h'.get? e = some o/\o.cls = .type "StopIteration")->E (.ref e) { s with heap:=h' }):wpAny (model prog w) A (Builtin.SmallTypes.nextOf (.ref it)) Q E s:=by
 obtain⟨o,ho,hc,hd⟩:=id hit;obtain⟨ol,hol,_,nl,hdl⟩:=ht;unfold Builtin.SmallTypes.nextOf;refine wpAny_bind (wpAny_callSpecial?_slot (name:=Str.ofString "__next__") hit.typeIs F.slot_tuple_iterator_next (wpAny_call_entry F.slot_tuple_iterator_next hit.typeIs F.entry_tuple_iterator_next ?_ (F.args_tuple_iterator_next_1 _)));show wpAny _ _ (field (.ref it) 0 >>= _) _ _ s;refine wpAny_bind (wpAny_field ho hd (x:=.ref t) rfl ?_);show wpAny _ _ (if (Value.ref t==Value.none)=true then _ else _) _ _ s;rw[if_neg (show ¬((Value.ref t==Value.none)=true) from Bool.false_ne_true)];show wpAny _ _ (field (.ref it) 1 >>= _) _ _ s;refine wpAny_bind (wpAny_field ho hd (x:=.int i 0) rfl ?_);show wpAny _ _ (seqItems? (.ref t) >>= _) _ _ s;refine wpAny_bind (wpAny_seqItems hol hdl ?_);simp only[Int.toNat_natCast,hx];refine wpAny_bind (wpAny_rule (wpAny_bind (wpAny_setField ho hd (by simp) ?_)));show wpAny _ _ (newExc (.type "StopIteration") [] >>= _) _ _ _;refine wpAny_bind ?_;simp only[newExc,newTuple];refine wpAny_bind (wpAny_newObj_type ?_ (by size_fits));refine wpAny_bind (m:=firstArgMember _ _) (wpAny_of_eq (a:=Value.none) (by first|rfl|(simp only[firstArgMember];rfl)) ?_);refine wpAny_newObj_type ?_ (by size_fits);simp only[raiseNew];refine wpAny_bind (wpAny_handled ?_);(first|rw[show A.in1.handled=none from hh]|rw[hh])
 refine wpAny_bind (wpAny_pure (wpAny_throw (hE _ _ (((Heap.SameBut.update ..).extBut.push _).push _) ⟨_,Heap.get?_push_size _ rfl,rfl⟩)))
theorem aB7 {z TI TO i1 i2 l1 l2:Addr}{k1 k2:Nat}{xs ys:Array Value}{x y a b:Value}{Q:Value->Shared->Prop}(D:ZipApart z TI TO i1 i2 l1 l2)(hz:IsZip s.heap z TI TO .none)(hTI:IsPair s.heap TI (.ref i1) (.ref i2))(hTO:IsPair s.heap TO a b)(h1:s.heap.IsTupleIter i1 l1 k1)(h2:s.heap.IsTupleIter i2 l2 k2)(hl1:s.heap.IsTuple l1 xs)(hl2:s.heap.IsTuple l2 ys)(hx:xs[k1]?=some x)(hy:ys[k2]?=some y)(hQ:∀h',IsZip h' z TI TO (rawInt s.heap.objs.size)->IsPair h' TO x y->h'.IsTupleIter i1 l1 (k1+1)->h'.IsTupleIter i2 l2 (k2+1)->IsPair h' s.heap.objs.size x y->h'.objs.size=s.heap.objs.size+1->(∀c o,c≠z->c≠TO->c≠i1->c≠i2->s.heap.get? c=some o->h'.get? c=some o)->Q (.ref s.heap.objs.size) { s with heap:=h' }) :
  wpAny (model prog w) A (Builtin.«zip.__next__» ⟨[.ref z],[]⟩) (λfin s'=>∃v,fin=.done (.ret v)/\Q v s') E s:=by
 show wpAny _ _ (field (.ref z) 2 >>= _) _ _ _;refine wpAny_bind (wpAny_field hz rfl (x:=.bool false) rfl ?_);show wpAny _ _ (field (.ref z) 3 >>= _) _ _ _;refine wpAny_bind (wpAny_field hz rfl (x:=.ref TI) rfl ?_);refine wpAny_bind (wpAny_seqItems hTI rfl ?_);show wpAny _ _ (Builtin.SmallTypes.ownedTupleIsFree (.ref z) >>= _) _ _ _;refine wpAny_bind ?_;unfold Builtin.SmallTypes.ownedTupleIsFree;refine wpAny_bind (wpAny_field hz rfl (x:=.none) rfl (wpAny_pure ?_));simp only[if_true];refine wpAny_bind (wpAny_rule ?_);refine wpAny_bind (wpAny_field hz rfl (x:=.ref TO) rfl ?_);refine wpAny_bind (wpAny_setField_rec hz (by simp) λh₁ hz₁ hs₁=>?_);replace hz₁:IsZip h₁ z TI TO .ellipsis:=hz₁
 refine wpAny_bind ?_;simp only[List.zipIdx_cons,List.zipIdx_nil,List.forIn_cons,List.forIn_nil];refine wpAny_bind (wpAny_bind (wpAny_onRaise ?_));show wpAny _ _ (Builtin.SmallTypes.nextOf (.ref i1) >>= _) _ _ _;refine wpAny_bind (aDj (h1.extBut hs₁.extBut D.i1z) (hl1.extBut hs₁.extBut D.l1z) hx λh₂ h1₂ hs₂=>wpAny_pure ?_);have hTO₂:IsPair h₂ TO a b:=hs₂.extBut _ _ D.TOi1 (hs₁.extBut _ _ D.TOz hTO);refine wpAny_bind (wpAny_seqItems hTO₂ rfl ?_);refine wpAny_bind (wpAny_updateSeq_pair hTO₂ λh₃ hTO₃ hs₃=>?_);replace hTO₃:IsPair h₃ TO x b:=hTO₃;refine wpAny_bind (wpAny_letGo (wpAny_pure ?_))
 refine wpAny_bind (wpAny_bind (wpAny_onRaise ?_));show wpAny _ _ (Builtin.SmallTypes.nextOf (.ref i2) >>= _) _ _ _;refine wpAny_bind (aDj (((h2.extBut hs₁.extBut D.i2z).extBut hs₂.extBut D.i12.symm).extBut hs₃.extBut D.TOi2.symm) (((hl2.extBut hs₁.extBut D.l2z).extBut hs₂.extBut D.l2i1).extBut hs₃.extBut D.l2TO) hy λh₄ h2₄ hs₄=>wpAny_pure ?_);have hTO₄:IsPair h₄ TO x b:=hs₄.extBut _ _ D.TOi2 hTO₃;refine wpAny_bind (wpAny_seqItems hTO₄ rfl ?_);refine wpAny_bind (wpAny_updateSeq_pair hTO₄ λh₅ hTO₅ hs₅=>?_);replace hTO₅:IsPair h₅ TO x y:=hTO₅;refine wpAny_bind (wpAny_letGo (wpAny_pure (wpAny_pure ?_)))
 refine wpAny_bind (wpAny_seqItems hTO₅ rfl ?_);refine wpAny_bind (wpAny_newTuple ?_);have hsz:h₅.objs.size=s.heap.objs.size:=by rw[hs₅.1,hs₄.1,hs₃.1,hs₂.1,hs₁.1]
 have hz₅:IsZip h₅ z TI TO .ellipsis:=hs₅.extBut _ _ D.TOz.symm (hs₄.extBut _ _ D.i2z.symm (hs₃.extBut _ _ D.TOz.symm (hs₂.extBut _ _ D.i1z.symm hz₁)));have hk₅:∀c o,c≠z->c≠TO->c≠i1->c≠i2->s.heap.get? c=some o->h₅.get? c=some o:=λc o c1 c2 c3 c4 e=>hs₅.extBut _ _ c2 (hs₄.extBut _ _ c4 (hs₃.extBut _ _ c2 (hs₂.extBut _ _ c3 (hs₁.extBut _ _ c1 e))));have h1₅:h₅.IsTupleIter i1 l1 (k1+1):=((h1₂.extBut hs₃.extBut D.TOi1.symm).extBut hs₄.extBut D.i12).extBut hs₅.extBut D.TOi1.symm;have h2₅:h₅.IsTupleIter i2 l2 (k2+1):=h2₄.extBut hs₅.extBut D.TOi2.symm;have hzlt:z<h₅.objs.size:=Heap.lt_size hz₅;show wpAny _ _ (Builtin.SmallTypes.ownedTupleHandOut (.ref z) (.ref h₅.objs.size) >>= _) _ _ _;refine wpAny_bind ?_;unfold Builtin.SmallTypes.ownedTupleHandOut;have hz₆:IsZip (h₅.push { cls:=.type "tuple",data:=.seq #[x,y] }) z TI TO .ellipsis:=Heap.get?_push_of_some _ hz₅;refine wpAny_bind (wpAny_setField_rec hz₆ (by simp) λh₇ hz₇ hs₇=>?_);replace hz₇:IsZip h₇ z TI TO (rawInt h₅.objs.size):=hz₇
 refine wpAny_setField_rec hz₇ (by simp) λh₈ hz₈ hs₈=>?_;replace hz₈:IsZip h₈ z TI TO (rawInt h₅.objs.size):=hz₈
 have up:∀c o,c≠z->h₅.get? c=some o->h₈.get? c=some o:=λc o c1 e=>hs₈.extBut _ _ c1 (hs₇.extBut _ _ c1 (Heap.get?_push_of_some _ e));have hT₈:IsPair h₈ h₅.objs.size x y:=hs₈.extBut _ _ (Nat.ne_of_gt hzlt) (hs₇.extBut _ _ (Nat.ne_of_gt hzlt) (Heap.get?_push_size _ rfl));have hz8:h₈.objs.size=h₅.objs.size+1:=by rw[hs₈.1,hs₇.1,Heap.size_push]
 rw[hsz] at hz₈ hT₈ hz8;refine wpAny_pure ⟨_,rfl,?_⟩;show Q (.ref h₅.objs.size) _;rw[hsz];exact hQ h₈ hz₈ (up _ _ D.TOz hTO₅) (h1₅.at λo e=>up _ o D.i1z e) (h2₅.at λo e=>up _ o D.i2z e) hT₈ hz8 λc o c1 c2 c3 c4 e=>up c o c1 (hk₅ c o c1 c2 c3 c4 e)
theorem aEH {z TI TO i1 i2 l1 l2:Addr}{k1 k2:Nat}{xs ys:Array Value}{a b:Value}{Q:Fin->Shared->Prop}(hh:A.handled=none)(D:ZipApart z TI TO i1 i2 l1 l2)(hz:IsZip s.heap z TI TO .none)(hTI:IsPair s.heap TI (.ref i1) (.ref i2))(hTO:IsPair s.heap TO a b)(h1:s.heap.IsTupleIter i1 l1 k1)(h2:s.heap.IsTupleIter i2 l2 k2)(hl1:s.heap.IsTuple l1 xs)(hl2:s.heap.IsTuple l2 ys)(hend:xs[k1]?=none∨ys[k2]?=none)(hE:∀h' e,(∀c o,c≠z->c≠TO->c≠i1->c≠i2->s.heap.get? c = some o->h'.get? c = some o)->(∃o,h'.get? e = some o/\o.cls = .type "StopIteration")->E (.ref e) { s with heap:=h' }) :
  wpAny (model prog w) A (Builtin.«zip.__next__» ⟨[.ref z],[]⟩) Q E s:=by
 show wpAny _ _ (field (.ref z) 2 >>= _) _ _ _;refine wpAny_bind (wpAny_field hz rfl (x:=.bool false) rfl ?_);show wpAny _ _ (field (.ref z) 3 >>= _) _ _ _;refine wpAny_bind (wpAny_field hz rfl (x:=.ref TI) rfl ?_);refine wpAny_bind (wpAny_seqItems hTI rfl ?_);show wpAny _ _ (Builtin.SmallTypes.ownedTupleIsFree (.ref z) >>= _) _ _ _;refine wpAny_bind ?_;unfold Builtin.SmallTypes.ownedTupleIsFree;refine wpAny_bind (wpAny_field hz rfl (x:=.none) rfl (wpAny_pure ?_));simp only[if_true];refine wpAny_bind (wpAny_rule ?_);refine wpAny_bind (wpAny_field hz rfl (x:=.ref TO) rfl ?_);refine wpAny_bind (wpAny_setField_rec hz (by simp) λh₁ hz₁ hs₁=>?_);replace hz₁:IsZip h₁ z TI TO .ellipsis:=hz₁
 refine wpAny_bind ?_;simp only[List.zipIdx_cons,List.zipIdx_nil,List.forIn_cons,List.forIn_nil];refine wpAny_bind (wpAny_bind (wpAny_onRaise ?_));show wpAny _ _ (Builtin.SmallTypes.nextOf (.ref i1) >>= _) _ _ _;cases hx:xs[k1]? with
 |none =>
  refine wpAny_bind (aIJ hh (h1.extBut hs₁.extBut D.i1z) (hl1.extBut hs₁.extBut D.l1z) hx λh₂ e hs₂ he=>?_);obtain⟨oe,hoe,hce⟩:=he;have hz₂:IsZip h₂ z TI TO .ellipsis:=hs₂ _ _ D.i1z.symm hz₁;have hez:e≠z:=λx=>by (subst x;rw[hz₂] at hoe;cases hoe;simp at hce)
  exact wpAny_setField_rec hz₂ (by simp) λh₃ _ hs₃=>hE h₃ e (λc o c1 _ c3 _ x=>hs₃.extBut _ _ c1 (hs₂ _ _ c3 (hs₁.extBut _ _ c1 x))) ⟨oe,hs₃.extBut _ _ hez hoe,hce⟩
 |some x =>
  have hy:ys[k2]?=none:=by (rcases hend with h|h;rw[hx] at h;cases h;exact h)
  refine wpAny_bind (aDj (h1.extBut hs₁.extBut D.i1z) (hl1.extBut hs₁.extBut D.l1z) hx λh₂ h1₂ hs₂=>wpAny_pure ?_);have hTO₂:IsPair h₂ TO a b:=hs₂.extBut _ _ D.TOi1 (hs₁.extBut _ _ D.TOz hTO);refine wpAny_bind (wpAny_seqItems hTO₂ rfl ?_);refine wpAny_bind (wpAny_updateSeq_pair hTO₂ λh₃ hTO₃ hs₃=>?_);refine wpAny_bind (wpAny_letGo (wpAny_pure ?_));refine wpAny_bind (wpAny_bind (wpAny_onRaise ?_));show wpAny _ _ (Builtin.SmallTypes.nextOf (.ref i2) >>= _) _ _ _;refine wpAny_bind (aIJ hh (((h2.extBut hs₁.extBut D.i2z).extBut hs₂.extBut D.i12.symm).extBut hs₃.extBut D.TOi2.symm) (((hl2.extBut hs₁.extBut D.l2z).extBut hs₂.extBut D.l2i1).extBut hs₃.extBut D.l2TO) hy λh₄ e hs₄ he=>?_);obtain⟨oe,hoe,hce⟩:=he;have hz₄:IsZip h₄ z TI TO .ellipsis:=hs₄ _ _ D.i2z.symm (hs₃.extBut _ _ D.TOz.symm (hs₂.extBut _ _ D.i1z.symm hz₁));have hez:e≠z:=λx=>by (subst x;rw[hz₄] at hoe;cases hoe;simp at hce)
  exact wpAny_setField_rec hz₄ (by simp) λh₅ _ hs₅=>hE h₅ e (λc o c1 c2 c3 c4 x=>hs₅.extBut _ _ c1 (hs₄ _ _ c4 (hs₃.extBut _ _ c2 (hs₂.extBut _ _ c3 (hs₁.extBut _ _ c1 x))))) ⟨oe,hs₅.extBut _ _ hez hoe,hce⟩
theorem pyNextItemT {z TI TO i1 i2 l1 l2:Addr}{k1 k2:Nat}{xs ys:Array Value}{x y a b:Value}{Q:Option Value->Shared->Prop}(D:ZipApart z TI TO i1 i2 l1 l2)(hz:IsZip s.heap z TI TO .none)(hTI:IsPair s.heap TI (.ref i1) (.ref i2))(hTO:IsPair s.heap TO a b)(h1:s.heap.IsTupleIter i1 l1 k1)(h2:s.heap.IsTupleIter i2 l2 k2)(hl1:s.heap.IsTuple l1 xs)(hl2:s.heap.IsTuple l2 ys)(hx:xs[k1]?=some x)(hy:ys[k2]?=some y)(hQ:∀h',IsZip h' z TI TO (rawInt s.heap.objs.size)->IsPair h' TO x y->h'.IsTupleIter i1 l1 (k1+1)->h'.IsTupleIter i2 l2 (k2+1)->IsPair h' s.heap.objs.size x y->h'.objs.size=s.heap.objs.size+1->(∀c o,c≠z->c≠TO->c≠i1->c≠i2->s.heap.get? c=some o->h'.get? c=some o)->Q (some (.ref s.heap.objs.size)) { s with heap:=h' }) :
  wpAny (model prog w) A (pyNext (.ref z)) Q E s:=by
 have hT:s.TypeIs (.ref z) "zip":=⟨_,hz,rfl⟩;unfold pyNext;exact wpAny_bind (wpAny_attempt (wpAny_callSpecial?_slot (name:=Str.ofString "__next__") hT F.slot_zip_next (wpAny_call_entry F.slot_zip_next hT F.entry_zip_next (aB7 D hz hTI hTO h1 h2 hl1 hl2 hx hy λh' a1 a2 a3 a4 a5 a6 a7=>wpAny_pure (hQ h' a1 a2 a3 a4 a5 a6 a7)) (F.args_zip_next_1 _))))
theorem pyNextEndT {z TI TO i1 i2 l1 l2:Addr}{k1 k2:Nat}{xs ys:Array Value}{a b:Value}{Q:Option Value->Shared->Prop}(hh:A.handled=none)(D:ZipApart z TI TO i1 i2 l1 l2)(hz:IsZip s.heap z TI TO .none)(hTI:IsPair s.heap TI (.ref i1) (.ref i2))(hTO:IsPair s.heap TO a b)(h1:s.heap.IsTupleIter i1 l1 k1)(h2:s.heap.IsTupleIter i2 l2 k2)(hl1:s.heap.IsTuple l1 xs)(hl2:s.heap.IsTuple l2 ys)(hend:xs[k1]?=none∨ys[k2]?=none)(hQ:∀h',(∀c o,c≠z->c≠TO->c≠i1->c≠i2->s.heap.get? c=some o->h'.get? c=some o)->Q none { s with heap:=h' }):wpAny (model prog w) A (pyNext (.ref z)) Q E s:=by have hT:s.TypeIs (.ref z) "zip":=⟨_,hz,rfl⟩;unfold pyNext;refine wpAny_bind (wpAny_attempt (wpAny_callSpecial?_slot (name:=Str.ofString "__next__") hT F.slot_zip_next (wpAny_call_entry F.slot_zip_next hT F.entry_zip_next (aEH hh D hz hTI hTO h1 h2 hl1 hl2 hend λh' e hk he=>?_) (F.args_zip_next_1 _))));obtain⟨o,ho,hc⟩:=he;exact wpAny_bind (wpAny_isInstance (T:="StopIteration") (b:=true) ⟨o,ho,hc⟩ isSubtype_stop (wpAny_pure (hQ _ hk)))
end
noncomputable abbrev zT1 (h:Heap)(l1:Addr):Heap:=h.push { cls:=.type "tuple_iterator",data:=.fields #[.ref l1,.int 0 0] }
noncomputable abbrev zT2 (h:Heap)(l1 l2:Addr):Heap:=(zT1 h l1).push { cls:=.type "tuple_iterator",data:=.fields #[.ref l2,.int 0 0] }
noncomputable abbrev zT3 (h:Heap)(l1 l2:Addr):Heap:=(zT2 h l1 l2).push { cls:=.type "tuple",data:=.seq #[.ref h.objs.size,.ref (zT1 h l1).objs.size] }
noncomputable abbrev zT4 (h:Heap)(l1 l2:Addr):Heap:=(zT3 h l1 l2).push { cls:=.type "tuple",data:=.seq #[.none,.none] }
noncomputable abbrev zT5 (h:Heap)(l1 l2:Addr):Heap:=(zT4 h l1 l2).push { cls:=.type "zip",data:=.fields #[.none,.bool false,.bool false,.ref (zT2 h l1 l2).objs.size,.ref (zT3 h l1 l2).objs.size] }
theorem aDH (l1 l2:Addr)(xs ys:Array Value):Meets (Builtin.«zip.__new__» ⟨[.type "zip",.ref l1,.ref l2],[]⟩) (λ_ R s=>s.heap.IsTuple l1 xs/\s.heap.IsTuple l2 ys/\R (.ok (.ret (.ref (zT4 s.heap l1 l2).objs.size))) { s with heap:=zT5 s.heap l1 l2 }) :=
 .of_wp λprog w A R s h=>by
  obtain⟨hp,g,d,tk,os⟩:=s;obtain⟨hl1,hl2,h⟩:=h;have hsub:=sub_zip;have hL1:Heap.IsTuple (Shared.heap ⟨hp,g,d,tk,os⟩) l1 xs:=hl1;have hL2:Heap.IsTuple (Shared.heap ⟨hp.push { cls:=.type "tuple_iterator",data:=.fields #[.ref l1,.int 0 0] },g,d,tk,os⟩) l2 ys:=Heap.IsTuple.push hl2 _
  wp_walk using wpAny_pyIter_tuple hL1,wpAny_pyIter_tuple hL2
  exact⟨_,rfl,h⟩
theorem callZipT {prog:Program}{w:World}{A:Around}{E:Value->Shared->Prop}{s:Shared}{l1 l2:Addr}{xs ys:Array Value}{Q:Value->Shared->Prop}(hl1:s.heap.IsTuple l1 xs)(hl2:s.heap.IsTuple l2 ys)(h:∀h',IsZip h' (s.heap.objs.size+4) (s.heap.objs.size+2) (s.heap.objs.size+3) .none->IsPair h' (s.heap.objs.size+2) (.ref s.heap.objs.size) (.ref (s.heap.objs.size+1))->IsPair h' (s.heap.objs.size+3) .none .none->h'.IsTupleIter s.heap.objs.size l1 0->h'.IsTupleIter (s.heap.objs.size+1) l2 0->h'.objs.size=s.heap.objs.size+5 ->
   (∀c o,s.heap.get? c = some o->h'.get? c = some o)->Q (.ref (s.heap.objs.size+4)) { s with heap:=h' }):wpAny (model prog w) A (call (.type "zip") [.ref l1,.ref l2]) Q E s:=by
 refine callType_new F.called_zip (by decide) (F.typeCall_zip_2 _ _) (F.newCall_zip_2 _ _) (λobj=>F.args_object_init_3 obj _ _) F.entry_zip_new (aDH l1 l2 xs ys) ⟨hl1,hl2,?_⟩;have z1:(zT1 s.heap l1).objs.size=s.heap.objs.size+1:=Heap.size_push ..;have z2:(zT2 s.heap l1 l2).objs.size=s.heap.objs.size+2:=by rw[Heap.size_push,z1]
 have z3:(zT3 s.heap l1 l2).objs.size=s.heap.objs.size+3:=by rw[Heap.size_push,z2]
 have z4:(zT4 s.heap l1 l2).objs.size=s.heap.objs.size+4:=by rw[Heap.size_push,z3]
 have z5:(zT5 s.heap l1 l2).objs.size=s.heap.objs.size+5:=by rw[Heap.size_push,z4]
 have g5:(zT5 s.heap l1 l2).get? (zT4 s.heap l1 l2).objs.size=some _:=Heap.get?_push_size _ rfl;have g4:(zT5 s.heap l1 l2).get? (zT3 s.heap l1 l2).objs.size=some _:=Heap.get?_push_of_some _ (Heap.get?_push_size _ rfl);have g3:(zT5 s.heap l1 l2).get? (zT2 s.heap l1 l2).objs.size=some _:=Heap.get?_push_of_some _ (Heap.get?_push_of_some _ (Heap.get?_push_size _ rfl));have g2:(zT5 s.heap l1 l2).get? (zT1 s.heap l1).objs.size=some _:=Heap.get?_push_of_some _ (Heap.get?_push_of_some _ (Heap.get?_push_of_some _ (Heap.get?_push_size _ rfl)));have g1:(zT5 s.heap l1 l2).get? s.heap.objs.size=some _:=Heap.get?_push_of_some _ (Heap.get?_push_of_some _ (Heap.get?_push_of_some _ (Heap.get?_push_of_some _ (Heap.get?_push_size _ rfl))));show _/\_;rw[z2,z3,z4] at g5;rw[z1,z2] at g3;rw[z3] at g4;rw[z1] at g2;rw[z4];exact⟨⟨_,g5,rfl⟩,h _ g5 g3 g4 ⟨_,g1,rfl,rfl⟩ ⟨_,g2,rfl,rfl⟩ z5 λc o x=>Heap.get?_push_of_some _ (Heap.get?_push_of_some _ (Heap.get?_push_of_some _ (Heap.get?_push_of_some _ (Heap.get?_push_of_some _ x))))⟩
end Zp
namespace L2
open PySem PySem.Spec PyProof.Rows
theorem Inv.turnedT {X:Cx}{pins:List (Addr×Obj)}{σ:St}{H:Hp}{s:Shared}{h':Heap}{fp:List Addr}{p:Addr}{xs:List V}{its:List Value}(I:Inv X pins σ H s)(k:∀b o,b∉fp->s.heap.get? b=some o->h'.get? b=some o)(hf:∀b∈fp,rZ X pins H b)(hp:s.heap.objs.size<=p)(hz:xs.length<=sizeLine)(hv:bJ xs its)(ht:IsTup h' p its.toArray)(th:∀b∈fp,∃o,h'.get? b=some o) :
  Inv X pins σ (upd H p (.tup xs)) { s with heap:=h' }:=by
 have hn:H p=none:=I.hok.fresh hp;have nf:∀b u,H b=some u->b∉fp:=λb u e hb=>by rw[(hf b hb).1] at e;cases e
 have np:∀b o,s.heap.get? b=some o->b≠p:=λb o e=>Nat.ne_of_lt (Nat.lt_of_lt_of_le (Heap.lt_size e) hp);refine I.step (g':=s.gens) (d':=s.drawn) (t':=s.toks) (ch:=fp) (λb hb=>⟨(hf b hb).2.2.2.1,(hf b hb).2.1,(hf b hb).2.2.2.2.1,(hf b hb).2.2.2.2.2⟩) (λb o _ _ hc e _=>k b o hc e) (λb o _ _ hc e _=>⟨o.slots,k b o hc e⟩) (λb o _ e n=>by rw[aJ (np b o e)];exact n)
  (λb o hc e=>⟨o,k b o hc e⟩) (λb ys e=>by rw[aJ (aO e hn)];exact e) (λb o u e=>by rw[aJ (aO e hn)];exact e) (λb ps e=>⟨#[],by rw[aJ (aO e hn),e];simp⟩) (λm hm=>?_) (λb u e=>?_) I.bare
 ·obtain⟨o,es,ep,ho,r⟩:=hm;exact⟨o,es,ep,k _ o (λhb=>(hf _ hb).2.1 rfl) ho,r⟩
 ·by_cases hb:b=p
  ·subst hb;rw[bD] at e;cases e;exact⟨hz,its,hv,ht⟩
  ·rw[aJ hb] at e;refine(I.hok b u e).stay (λc v hc q=>k c v ?_ q) (λc q=>by rw[aJ (aO q hn)];exact q) λc xs q=>by rw[aJ (aO q hn)];exact q
   rcases hc with z|z
   ·rw[z];exact nf b u e
   ·exact nf c _ z
theorem Inv.turnedL {X:Cx}{pins:List (Addr×Obj)}{σ:St}{H:Hp}{s:Shared}{h':Heap}{fp:List Addr}(I:Inv X pins σ H s)(k:∀b o,b∉fp->s.heap.get? b=some o->h'.get? b=some o)(hf:∀b∈fp,rZ X pins H b) :
  Inv X pins σ H { s with heap:=h' }:=by
 have nf:∀b u,H b=some u->b∉fp:=λb u e hb=>by rw[(hf b hb).1] at e;cases e
 refine I.step (g':=s.gens) (d':=s.drawn) (t':=s.toks) (ch:=fp) (λb hb=>⟨(hf b hb).2.2.2.1,(hf b hb).2.1,(hf b hb).2.2.2.2.1,(hf b hb).2.2.2.2.2⟩) (λb o _ _ hc e _=>k b o hc e) (λb o _ _ hc e _=>⟨o.slots,k b o hc e⟩) (λb o _ e n=>n)
  (λb o hc e=>⟨o,k b o hc e⟩) (λb ys e=>e) (λb o u e=>e) (λb ps e=>⟨#[],by rw[e];simp⟩) (λm hm=>?_) (λb u e=>?_) I.bare
 ·obtain⟨o,es,ep,ho,r⟩:=hm;exact⟨o,es,ep,k _ o (λhb=>(hf _ hb).2.1 rfl) ho,r⟩
 ·refine(I.hok b u e).stay (λc v hc q=>k c v ?_ q) (λc q=>q) λc xs q=>q;rcases hc with z|z
  ·rw[z];exact nf b u e
  ·exact nf c _ z
noncomputable def Itz (K:Frag)(l1 l2:Addr):It :=
 ⟨
  λi H=>∃xs ys x y,SqT K H l1 xs/\SqT K H l2 ys/\xs[i]?=some x/\ys[i]?=some y,
  λi H v H'=>∃p x y,v=.ref p/\H p=none/\H'=upd H p (.tup [x,y])/\∀xs ys,SqT K H l1 xs->SqT K H l2 ys->xs[i]?=some x/\ys[i]?=some y,
  λi H=>∃xs ys,SqT K H l1 xs/\SqT K H l2 ys/\(xs.length<=i∨ys.length<=i)⟩
theorem aBx {P:Program}{w:World}{K:Frag}{elts:List Expr}{kk:Nat}{tpos:Pos}{z TI TO i1 i2 l1 l2:Addr}(D:ZipApart z TI TO i1 i2 l1 l2) :
  aEb P w K (.Tuple elts kk tpos) (Itz K l1 l2) [z,TI,TO,i1,i2] z (λi h=>IsZip h z TI TO .none/\IsPair h TI (.ref i1) (.ref i2)/\(∃a b,IsPair h TO a b)/\h.IsTupleIter i1 l1 i/\h.IsTupleIter i2 l2 i) where
 mem:=by simp
 obj:=λi h st b hb=>by
  obtain⟨hz,hTI,⟨a,c,hTO⟩,⟨o1,e1,c1,d1⟩,⟨o2,e2,c2,d2⟩⟩:=st;simp only[mem_cons,not_mem_nil,or_false] at hb;rcases hb with rfl|rfl|rfl|rfl|rfl
  ·exact⟨_,hz,λv z=>by cases z⟩
  ·exact⟨_,hTI,λv z=>by cases z⟩
  ·exact⟨_,hTO,λv z=>by cases z⟩
  ·exact⟨o1,e1,λv z=>by rw[d1] at z;cases z⟩
  ·exact⟨o2,e2,λv z=>by rw[d2] at z;cases z⟩
 keep:=λi h h' st k=>by obtain⟨hz,hTI,⟨a,c,hTO⟩,t1,t2⟩:=st;exact⟨k z (by simp) _ hz,k TI (by simp) _ hTI,⟨a,c,k TO (by simp) _ hTO⟩,t1.at λo e=>k i1 (by simp) o e,t2.at λo e=>k i2 (by simp) o e⟩
 item:=by
  intro X hP hw hK hc i pins s σ H E I hf st hg;subst hP hw hK;obtain⟨xs,ys,x,y,hq1,hq2,hx,hy⟩:=hg;obtain⟨hz,hTI,⟨a,c,hTO⟩,t1,t2⟩:=st;obtain⟨its1,rv1,p1,hz1⟩:=I.tuple hq1;obtain⟨its2,rv2,p2,hz2⟩:=I.tuple hq2;obtain⟨u1,hu1,ru1⟩:=rv1.get hx;obtain⟨u2,hu2,ru2⟩:=rv2.get hy;refine Zp.pyNextItemT D hz hTI hTO t1 t2 (show s.heap.IsTuple l1 its1.toArray from p1) (show s.heap.IsTuple l2 its2.toArray from p2) (x:=u1) (y:=u2) (by simpa using hu1) (by simpa using hu2) λh' a1 a2 a3 a4 a5 a6 a7=>?_;refine⟨_,rfl,wpAny_letOwnedTupleGo_zip (s:={ s with heap:=h' }) a1 λh2 b1 b2=>?_⟩;have ltz:=Heap.lt_size hz;have nz:s.heap.objs.size≠z:=Nat.ne_of_gt ltz;have k2:∀b o,b∉[z,TI,TO,i1,i2]->s.heap.get? b=some o->h2.get? b=some o:=λb o hb e=>b2.extBut _ _ (λq=>hb (by simp[q])) (a7 b o (λq=>hb (by simp[q])) (λq=>hb (by simp[q])) (λq=>hb (by simp[q])) (λq=>hb (by simp[q])) e);have hTI2:IsPair h2 TI (.ref i1) (.ref i2):=b2.extBut _ _ D.TIz (a7 _ _ D.TIz D.TITO D.TIi1 D.TIi2 hTI);have hTO2:IsPair h2 TO u1 u2:=b2.extBut _ _ D.TOz a2;have e1:h2.IsTupleIter i1 l1 (i+1):=a3.extBut b2.extBut D.i1z;have e2:h2.IsTupleIter i2 l2 (i+1):=a4.extBut b2.extBut D.i2z;have I2:Inv X pins σ (upd H s.heap.objs.size (.tup [x,y])) { s with heap:=h2 }:=I.turnedT (its:=[u1,u2]) k2 hf (Nat.le_refl _) (by show 2<=sizeLine;decide) (.cons ru1 (.cons ru2 .nil)) ⟨_,b2.extBut _ _ nz a5,rfl,_,rfl⟩ λb hb=>by
   simp only[mem_cons,not_mem_nil,or_false] at hb;rcases hb with rfl|rfl|rfl|rfl|rfl
   ·exact⟨_,b1⟩
   ·exact⟨_,hTI2⟩
   ·exact⟨_,hTO2⟩
   ·obtain⟨o,e,_⟩:=e1;exact⟨o,e⟩
   ·obtain⟨o,e,_⟩:=e2;exact⟨o,e⟩
  refine⟨.ref s.heap.objs.size,_,I2,rfl,⟨_,x,y,rfl,I.hok.fresh (Nat.le_refl _),rfl,λxs' ys' q1 q2=>by rw[I.tuple_inj q1 hq1,I.tuple_inj q2 hq2];exact⟨hx,hy⟩⟩,⟨b1,hTI2,⟨_,_,hTO2⟩,e1,e2⟩,λb hb=>?_⟩;rw[aJ]
  ·exact(hf b hb).1
  ·intro q;subst q;simp only[mem_cons,not_mem_nil,or_false] at hb;obtain⟨o1,g1,_⟩:=t1;obtain⟨o2,g2,_⟩:=t2;rcases hb with q|q|q|q|q
   ·exact nz q
   ·exact absurd (Heap.lt_size hTI) (by rw[<- q];exact Nat.lt_irrefl _)
   ·exact absurd (Heap.lt_size hTO) (by rw[<- q];exact Nat.lt_irrefl _)
   ·exact absurd (Heap.lt_size g1) (by rw[<- q];exact Nat.lt_irrefl _)
   ·exact absurd (Heap.lt_size g2) (by rw[<- q];exact Nat.lt_irrefl _)
 done:=by
  intro X hP hw hK hc i pins s σ H E I hf st hg;subst hP hw hK;obtain⟨xs,ys,hq1,hq2,hend⟩:=hg;obtain⟨hz,hTI,⟨a,c,hTO⟩,t1,t2⟩:=st;obtain⟨its1,rv1,p1,hz1⟩:=I.tuple hq1;obtain⟨its2,rv2,p2,hz2⟩:=I.tuple hq2;have w1:=rv1.length;have w2:=rv2.length;refine Zp.pyNextEndT (I.ok.hd hc) D hz hTI hTO t1 t2 (show s.heap.IsTuple l1 its1.toArray from p1) (show s.heap.IsTuple l2 its2.toArray from p2) ?_ λh' k=>⟨rfl,I.turnedL (λb o hb e=>k b o (λq=>hb (by simp[q])) (λq=>hb (by simp[q])) (λq=>hb (by simp[q])) (λq=>hb (by simp[q])) e) hf⟩;rcases hend with q|q
  ·exact .inl (by simp;omega)
  ·exact .inr (by simp;omega)
 self:=λ_ _ _ _ _ st h=>wpAny_pyIter_zip st.1 h
theorem aGy (n l1 l2:Nat)(h1:l1<n)(h2:l2<n):ZipApart (n+4) (n+2) (n+3) n (n+1) l1 l2:=by have ad:∀{a b:Nat},a≠b->@Ne Addr a b:=λh=>h;constructor<;>exact ad (by omega)
noncomputable def aJ1 (K:Frag)(ta:TA):TI:=λσ H R=>ta σ H λvs H1=>∃a b,vs=[.ref a,.ref b]/\(∃xs,SqT K H1 a xs)/\(∃ys,SqT K H1 b ys)/\R (Itz K a b) H1
theorem aHt {X:Cx}{elts:List Expr}{kk:Nat}{tpos:Pos}{a b:Expr}{ta:TA}{p pos:Pos}(hg:Gl X "zip")(hm:X.mg "zip"=none)(ha:PA X [a,b] ta)(hs:starEach [a,b] X.env=[(false,eval a X.env),(false,eval b X.env)]:=by rfl)(hs2:starEach [b] X.env=[(false,eval b X.env)]:=by rfl) :
  PI X (.Tuple elts kk tpos) (.Call (.Name "zip" p) [a,b] [] pos) (aJ1 X.K ta):=by
 intro pins s σ H R I h;refine Call_ (tT I hg hm (show bootBuiltins "zip" = some (.type "zip") from rfl) (PyProof.Rows.callWith_type1 (thn (ha pos pins s σ H _ I h) λus s1 ⟨vs,H1,I1,r1,q1⟩=>?_) (by rw[hs,hs2]) (by rw[hs2];rfl)));obtain⟨l1,l2,rfl,⟨xs,hq1⟩,⟨ys,hq2⟩,q⟩:=q1;obtain⟨u1,u2,rfl,e1,e2⟩:=r1.two;cases e1;cases e2;obtain⟨its1,rv1,p1,hz1⟩:=I1.tuple hq1;obtain⟨its2,rv2,p2,hz2⟩:=I1.tuple hq2;have lt1:l1<s1.heap.objs.size:=by obtain⟨o,ho,_⟩:=id p1;exact Heap.lt_size ho
 have lt2:l2<s1.heap.objs.size:=by obtain⟨o,ho,_⟩:=id p2;exact Heap.lt_size ho
 refine Zp.callZipT (show s1.heap.IsTuple l1 its1.toArray from p1) (show s1.heap.IsTuple l2 its2.toArray from p2) λh' b1 b2 b3 b4 b5 b6 b7=>?_;refine wpAny_pyIter_zip (s:={ s1 with heap:=h' }) b1 ?_;have D:ZipApart (s1.heap.objs.size+4) (s1.heap.objs.size+2) (s1.heap.objs.size+3) s1.heap.objs.size (s1.heap.objs.size+1) l1 l2:=aGy _ _ _ lt1 lt2;refine⟨s1.heap.objs.size+4,[s1.heap.objs.size+4,s1.heap.objs.size+2,s1.heap.objs.size+3,s1.heap.objs.size,s1.heap.objs.size+1],_,_,H1,rfl,I1.kept (t':=s1.toks) b7,aBx D,⟨b1,b2,⟨_,_,b3⟩,b4,b5⟩,λb hb=>?_,q⟩;have hb':s1.heap.objs.size<=b:=by simp only[mem_cons,not_mem_nil,or_false] at hb;rcases hb with rfl|rfl|rfl|rfl|rfl<;>omega
 exact I1.fpOk hb' (I1.hok.fresh hb')
end L2
namespace Dd
open PySem PySem.Spec PyProof.Rows L2
section
variable {X:Cx}{pos:Pos}{iter tg:Expr}{body:List Stmt}{tl:DE}{g:DG}{tb:DS}{ta:DA}
theorem aHp {K:Frag}{ds:List D}{E:pO}{Dn:eF}{σ:L2.St}{ρ:cH}{M:DM}{H0 H:Hp}{J:It}(ex0:Ext H0 H)(re:eV K H ρ σ)(hm:bF K M H)(k:mB K H0 Dn E)(h:dIt none ds g tb Dn ρ M)(seq:∀H',Ext H H'->(∀i,ds.length<=i->J.stop i H')/\(∀i,i<ds.length->J.go i H')/\∀i x H2,J.yld i H' x H2->Ext H' H2/\(∀M',bF K M' H'->bF K M' H2)/\(i<ds.length->∃d,ds[i]?=some d/\Rep K H2 d x)) :
  ∃W:Nat->Nat->L2.St->Hp->Prop,(∃m,W 0 m σ H)/\∀i m σ H,W i m σ H ->
   (J.stop i H/\E.nx σ H)∨(J.go i H/\∃N:L2.St->Hp->Prop,(∀σ' H',N σ' H'->∃m',m'<m/\W (i+1) m' σ' H')/\∀x H',J.yld i H x H'->xU K g x σ H' λσ2 H2=>aCc K tb { E with nx:=N,ct:=N,bk:=E.nx } σ2 H2):=by
 obtain⟨Pv,p0,hat,step,done⟩:=h;refine⟨λi m σ' H'=>∃ρ' M',eV K H' ρ' σ'/\bF K M' H'/\Ext H H'/\m=ds.length-i/\i<=ds.length/\Pv i ρ' M',⟨ds.length,ρ,M,re,hm,.refl H,rfl,Nat.zero_le _,p0⟩,?_⟩;rintro i m σ1 H1 ⟨ρ1,M1,re1,hm1,e1,rfl,hi,w1⟩;obtain⟨hst,hgo,hy⟩:=seq H1 e1;by_cases hlt:i<ds.length
 ·refine .inr ⟨hgo i hlt,λσ' H'=>∃ρ' M',eV K H' ρ' σ'/\bF K M' H'/\Ext H H'/\Pv (i+1) ρ' M',λσ' H' ⟨ρ',M',a,b,c,d⟩=>⟨ds.length-(i+1),by omega,ρ',M',a,b,c,rfl,hlt,d⟩,λx H' y=>?_⟩;obtain⟨ey,hmy,hd⟩:=hy i x H' y;obtain⟨d,hd,rd⟩:=hd hlt;refine⟨d,ρ1,M1,_,rd,re1.ext ey,hmy _ hm1,step i d ρ1 M1 hd w1,λσ2 H2 ⟨ρ2,M2,re2,hm2,e2,q2⟩=>⟨ρ2,M2,_,re2,hm2,q2,?_⟩⟩;have ex:=(e1.trans ey).trans e2;exact⟨λσ' H' ⟨ρ',M',a,b,c,d⟩=>⟨ρ',M',a,b,ex.trans c,d⟩,λv H' z=>k.rt v H' (z.back (ex0.trans ex)),λσ' H' z=>k.nx σ' H' (z.back (ex0.trans ex)),λσ' H' ⟨ρ',M',a,b,c,d⟩=>⟨ρ',M',a,b,ex.trans c,d⟩⟩
 ·have e:i=ds.length:=by omega
  subst e;exact .inl ⟨hst _ (Nat.le_refl _),k.nx σ1 H1 ⟨ρ1,M1,re1,hm1,ex0.trans e1,done ρ1 M1 w1⟩⟩
noncomputable def tR:List D->List D->List D
 |x::xs,y::ys=>.tup [x,y]::tR xs ys
 |_,_=>[]
theorem xB:∀(xs ys:List D),(tR xs ys).length=min xs.length ys.length
 |[],ys=>by simp[tR]
 |_::_,[]=>by simp[tR]
 |x::xs,y::ys=>by show(tR xs ys).length+1=_;rw[xB xs ys,length_cons,length_cons];omega
theorem wF:∀{xs ys:List D}{i:Nat} {x y:D},xs[i]?=some x->ys[i]?=some y->(tR xs ys)[i]?=some (.tup [x,y])
 |[],_,_,_,_,h,_=>by simp at h
 |_::_,[],_,_,_,_,h=>by simp at h
 |a::xs,b::ys,0,x,y,h,h'=>by simp at h h';subst h h';rfl
 |a::xs,b::ys,i+1,x,y,h,h'=>by show(tR xs ys)[i]?=_;exact wF (by simpa using h) (by simpa using h')
def aBV (ta:DA)(g:DG)(tb:DS):DS:=λE ρ M=>ta ρ M λds M1=>match ds with
 |[.tup xs,.tup ys]=>dIt none (tR xs ys) g tb E ρ M1
 |_=>False
theorem aEm {elts:List Expr}{kk:Nat}{tpos:Pos}{a b:Expr}{p pos':Pos}(hp:PassesOwn (model X.prog X.w) X.A X.env X.xe)(hc:X.calm = true)(hmg:X.mg "zip" = none)(ha:PDA X [a,b] ta)(hg:PDG X (.Tuple elts kk tpos) g)(hb:jQ X body tb)(hgl:Gl X "zip":=by rfl)(hse:starEach [a,b] X.env=[(false,eval a X.env),(false,eval b X.env)]:=by rfl)(hse2:starEach [b] X.env=[(false,eval b X.env)]:=by rfl)(hs:∀x,foldedSetIterable (.Call (.Name "zip" p) [a,b] [] pos') X.env x = pure x:=by intro _;rfl):PDS X (.For (.Tuple elts kk tpos) (.Call (.Name "zip" p) [a,b] [] pos') body [] pos) (aBV ta g tb) :=
 eU (xZ hp hc (aHt hgl hmg ha hse hse2) hg hb hs) λE σ H ⟨ρ,M,Dn,re,hm,q,k⟩=>⟨ρ,M,_,re,hm,q,λvs H1 ⟨ds,M1,rs,hm1,ex,q1⟩=>by
  rcases ds with _|⟨d,_|⟨d2,_|⟨d3,r⟩⟩⟩
  ·exact q1.elim
  ·cases d<;>exact q1.elim
  ·cases d with
   |tup xs =>
    cases d2 with
    |tup ys =>
     obtain⟨v1,v2,rfl,rv1,rv2⟩:=aBB rs;obtain⟨l1,us,rfl,sq1,r1⟩:=bI rv1;obtain⟨l2,ws,rfl,sq2,r2⟩:=bI rv2;refine⟨l1,l2,rfl,⟨us,sq1⟩,⟨ws,sq2⟩,aHp ex (re.ext ex) hm1 k q1 λH' e'=>?_⟩;have t1:=vH e' sq1;have t2:=vH e' sq2;have n1:=r1.length;have n2:=r2.length;have n3:=xB xs ys;refine⟨λi hi=>⟨us,ws,t1,t2,by omega⟩,λi hi=>⟨us,ws,us[i]'(by omega),ws[i]'(by omega),t1,t2,by simp,by simp⟩,λi x H2 ⟨pp,vx,vy,e1,hn,e2,all⟩=>?_⟩;subst e1 e2;refine⟨Ext.new hn _,λM' h=>h.new hn _,λhi=>?_⟩;obtain⟨a1,a2⟩:=all us ws t1 t2;obtain⟨dx,hdx,rdx⟩:=(r1.ext e').getV a1;obtain⟨dy,hdy,rdy⟩:=(r2.ext e').getV a2;exact⟨_,wF hdx hdy,mC (.of bD) (bU (rdx.ext (Ext.new hn _)) (bU (rdy.ext (Ext.new hn _)) cD))⟩
    |_=>exact q1.elim
   |_=>exact q1.elim
  ·cases d<;>first|exact q1.elim|(cases d2<;>exact q1.elim)⟩
def foZ (ds:List D)(g:DG)(tb:DS)(E:eF)(ρ:cH)(M:DM):Prop:=match ds with
 |[.tup xs,.tup ys]=>dIt none (tR xs ys) g tb E ρ M
 |_=>False
theorem aBI {E:eF}{ρ:cH}{M:DM}:aBV ta g tb E ρ M=ta ρ M λds M1=>foZ ds g tb E ρ M1:=rfl
end
end Dd
set_option maxHeartbeats 1000000
namespace Dd
open PySem PySem.Spec PyProof.Rows L2
section
variable {X:Cx}{pins:List (Addr×Obj)}{σ:L2.St}{H H':Hp}{s:Shared}{h':Heap}
end
def Tr (h:Heap)(e:Addr)(cls:Value)(T:Addr)(fl:Value):Prop :=
 ∃oe vs oT ts,h.get? e=some oe/\(oe.cls=cls/\oe.dict=none)/\oe.data=.fields vs/\vs[1]?=some (.ref T)/\T≠e/\h.get? T=some oT/\oT.data=.fields ts/\ts[3]?=some fl
section
variable {X:Cx}{pins:List (Addr×Obj)}{σ:L2.St}{H:Hp}{s:Shared}{M:Model}{A:Around}{E:Value->Shared->Prop}{e T:Addr}{cls:Value}
end
noncomputable def CXr (P:Program)(w:World):CXT:=λouter H s E e s'=>∃(a:Addr)(cls:Value) (T:Addr) (H':Hp),e=Value.ref a/\s'.os=s.os/\AllBare s'.gens/\Un (frs outer) [] H H' s.heap s'.heap/\HOk P w H' s'.heap /\
 Tr s'.heap a cls T .none/\s.heap.get? a=none/\s.heap.get? T=none/\H' a=none/\H' T=none/\E cls none H'
section
variable {X:Cx}{x:Str}{V:DM->Prop}{e:Expr}{es:List Expr}{t:DA}{np cpos pos:Pos}
end
section
variable {P:Program}{w:World}{K:Frag}{mg:Str->Option Value}{base:Heap}
end
section
variable {X:Cx}{pins:List (Addr×Obj)}{σ:L2.St}{H:Hp}{s:Shared}{a:Addr}{o:Obj}
end
noncomputable def eF.un (D:eF)(j:Nat):eF:={ nx:=λρ M=>D.nx (ρ.set j none) M,rt:=D.rt,bk:=λρ M=>D.bk (ρ.set j none) M,ct:=λρ M=>D.ct (ρ.set j none) M }
section
variable {X:Cx}{a:Expr}{e:Expr}{es:List Expr}{t:DA}{x f n cm:Str}{ps:List Str}{sp:DSp}{cond:List D->DM->Prop}{C Cm:Addr}{k1 k2 k i j:Nat}{ts:Addr->DS}{b0:Stmt}{suite:List Stmt}{px pf pc pa pcm ph pos:Pos}
end
section
open PySem.W PySem.Calls
end
section
variable {X:Cx}{n c:Str}{C Cc a:Addr}{o:Obj}{p p1 p2 pos:Pos}{j:Nat}
end
section
open PySem.W PySem.Calls
variable {prog:Program}{w:World}{A:Around}{E:Value->Shared->Prop}{s:Shared}{K:Frag}{x C D:Addr}{ox:Obj}
end
section
variable {X:Cx}{a C:Addr}{o:Obj}
end
section
open PySem.SeqAt
open PySem.AutoSeq1 (wpAny_loadPart')
open PySem.MeetsSeq PySem.MeetsSeq2 PySem.MeetsSeq3
end
section
variable {X:Cx}{j:Nat}
theorem aEU {K:Frag}{H:Hp}{a b:Int}{xs:List V}{its:List Value}(r:aY K H [.int a,.int b] xs)(v:bJ xs its):∃t u,its=[.int a t,.int b u]:=by
 obtain⟨v1,r1,rfl,h1,r1'⟩:=aN r;obtain rfl:=aQ h1;obtain⟨v2,r2,rfl,h2,r2'⟩:=aN r1';obtain rfl:=aQ h2;obtain rfl:=bE r2';cases v with
 |cons q1 w1 =>
  cases w1 with
  |cons q2 w2 =>
   cases w2;obtain⟨t,rfl⟩:=q1;obtain⟨u,rfl⟩:=q2;exact⟨t,u,rfl⟩
end
def aGM (t u:DS):DS:=λD ρ M=>∃R:cH->DM->Prop,t { D with nx:=R } ρ M/\∀ρ' M',R ρ' M'->u D ρ' M'
section
variable {X:Cx}{st:Stmt}{bV:List Stmt}{t u:DS}
theorem aDN (h1:PDS X st t)(h2:jQ X bV u):jQ X (st::bV) (aGM t u) :=
 uH (wH h1 h2) λE σ H ⟨ρ,M,D,re,hm,⟨R,q,k2⟩,k⟩ =>
  ⟨ρ,M,{ D with nx:=R },re,hm,q,⟨λσ' H' ⟨ρ',M',re',hm',ex,r⟩=>⟨ρ',M',D,re',hm',k2 ρ' M' r,k.at ex⟩,k.rt,k.bk,k.ct⟩⟩
end
section
variable {X:Cx}{e:Expr}{es:List Expr}{t:DA}{x f cm:Str}{ps:List Str}{sp:DSp}{cond:List D->DM->Prop}{C Cm:Addr}{k1 k2 k i:Nat}{ts:DS}{b0:Stmt}{suite:List Stmt}{px pf pc pa pcm ph pos:Pos}
end
@[irreducible] def ZE (X:Cx)(e:Expr)(t:DE):Prop:=PDE X e t
theorem ZE.o {X:Cx}{e:Expr}{t:DE}(h:ZE X e t):PDE X e t:=by unfold ZE at h;exact h
theorem ZE.i {X:Cx}{e:Expr}{t:DE}(h:PDE X e t):ZE X e t:=by unfold ZE;exact h
@[irreducible] def ZT (X:Cx)(e:Expr)(t:DT):Prop:=PDT X e t
theorem ZT.o {X:Cx}{e:Expr}{t:DT}(h:ZT X e t):PDT X e t:=by unfold ZT at h;exact h
theorem ZT.i {X:Cx}{e:Expr}{t:DT}(h:PDT X e t):ZT X e t:=by unfold ZT;exact h
@[irreducible] def ZW (X:Cx)(e:Expr)(t:DT):Prop:=PDW X e t
theorem ZW.o {X:Cx}{e:Expr}{t:DT}(h:ZW X e t):PDW X e t:=by unfold ZW at h;exact h
theorem ZW.i {X:Cx}{e:Expr}{t:DT}(h:PDW X e t):ZW X e t:=by unfold ZW;exact h
@[irreducible] def ZA (X:Cx)(e:List Expr)(t:DA):Prop:=PDA X e t
theorem ZA.o {X:Cx}{e:List Expr}{t:DA}(h:ZA X e t):PDA X e t:=by unfold ZA at h;exact h
theorem ZA.i {X:Cx}{e:List Expr}{t:DA}(h:PDA X e t):ZA X e t:=by unfold ZA;exact h
@[irreducible] def ZS (X:Cx)(e:Stmt)(t:DS):Prop:=PDS X e t
theorem ZS.o {X:Cx}{e:Stmt}{t:DS}(h:ZS X e t):PDS X e t:=by unfold ZS at h;exact h
theorem ZS.i {X:Cx}{e:Stmt}{t:DS}(h:PDS X e t):ZS X e t:=by unfold ZS;exact h
@[irreducible] def ZSs (X:Cx)(e:List Stmt)(t:DS):Prop:=jQ X e t
theorem ZSs.o {X:Cx}{e:List Stmt}{t:DS}(h:ZSs X e t):jQ X e t:=by unfold ZSs at h;exact h
theorem ZSs.i {X:Cx}{e:List Stmt}{t:DS}(h:jQ X e t):ZSs X e t:=by unfold ZSs;exact h
@[irreducible] def ZG (X:Cx)(e:Expr)(t:DG):Prop:=PDG X e t
theorem ZG.o {X:Cx}{e:Expr}{t:DG}(h:ZG X e t):PDG X e t:=by unfold ZG at h;exact h
theorem ZG.i {X:Cx}{e:Expr}{t:DG}(h:PDG X e t):ZG X e t:=by unfold ZG;exact h
@[irreducible] def ZGs (X:Cx)(e:List Expr)(t:DGs):Prop:=xD X e t
theorem ZGs.o {X:Cx}{e:List Expr}{t:DGs}(h:ZGs X e t):xD X e t:=by unfold ZGs at h;exact h
theorem ZGs.i {X:Cx}{e:List Expr}{t:DGs}(h:xD X e t):ZGs X e t:=by unfold ZGs;exact h
@[irreducible] def ZO (X:Cx)(e:Option Expr)(t:DO):Prop:=PO X e (xY X.K t)
theorem ZO.o {X:Cx}{e:Option Expr}{t:DO}(h:ZO X e t):PO X e (xY X.K t):=by unfold ZO at h;exact h
theorem ZO.i {X:Cx}{e:Option Expr}{t:DO}(h:PO X e (xY X.K t)):ZO X e t:=by unfold ZO;exact h
section
variable {K:Frag}{H H':Hp}
end
section
variable {K:Frag}{H H':Hp}{M M':DM}
end
section
variable {K:Frag}{H H':Hp}{ρ:cH}{σ:L2.St}
end
section
variable {K:Frag}{H H1:Hp}
end
section
variable {X:Cx}{e:Expr}{st:Stmt}{sts:List Stmt}
end
section
variable {X:Cx}{a b c e:Expr}{es:List Expr}{ta tb tc te:DE}{tA tB:DT}{t:DA}{pos:Pos}
theorem aA (i:Nat){x:Str}{pos:Pos}(hN:X.N[i]?=some x:=by rfl)(hv:Vis X.env.scope x:=by first|exact Or.inl rfl|exact Or.inr (Or.inl rfl)|exact Or.inr (Or.inr rfl))(hd:(x==("__debug__":Str))=false:=by decide)(hcd:(x==("__classdict__":Str))=false:=by decide):ZE X (.Name x pos) (yX i):=.i (tN i hN hv hd hcd)
theorem aC {i j pos}:ZE X (.Constant (.int i) j pos) (dC (.int i)):=.i (yO (i:=i) (j:=j) (pos:=pos))
theorem uI {i j pos}:ZE X (.Constant (.bool i) j pos) (dC (.bl i)):=.i (aHL (i:=i) (j:=j) (pos:=pos))
theorem uB {j pos}:ZE X (.Constant .none j pos) (dC .non):=.i (aG9 (j:=j) (pos:=pos))
theorem dQ {x j pos}:ZE X (.Constant (.str x) j pos) (dC (.str x)):=.i (aFJ)
theorem aL {op:Operator}{r:D2}(ho:OpD X (binaryOp op) r)(ha:ZE X a ta)(hb:ZE X b tb):ZE X (.BinOp a op b pos) (dOp r ta tb):=.i (aIL (op:=op) ho ha.o hb.o)
theorem fK {op:CmpOp}{r:D2}(ho:OpD X (compareOp op) r)(ha:ZE X a ta)(hb:ZE X b tb)(hm:behindInMarks op b=false:=by exact tY _):ZE X (.Compare a [op] [b] pos) (dOp r ta tb):=.i (aFE (op:=op) ho ha.o hb.o hm)
theorem aX {op:CmpOp}{r:D2}(ho:OpD X (compareOp op) r)(ha:ZE X a ta)(hb:ZE X b tb)(hm:behindInMarks op b=false:=by exact tY _):ZT X (.Compare a [op] [b] pos) (sY (dOp r ta tb)):=.i (aHc (op:=op) ho ha.o hb.o hm)
theorem kY (h:ZE X e te)(he:∀whole,isTrue e X.env whole=(do let v <- whole;standAt e.pos;holding [v] (truthy v)):=by intro _;rfl):ZT X e (sY te):=.i (aGu h.o he)
variable {bV:List Expr}
theorem iP (ha:ZT X a tA):ZW X (.BoolOp .And [a] pos) tA:=.i (aEL ha.o)
theorem pU (ha:ZT X a tA):ZW X (.BoolOp .Or [a] pos) tA:=.i (aFL ha.o)
theorem jC (ha:ZT X a tA)(hb:ZW X (.BoolOp .And (b::bV) pos) tB):ZW X (.BoolOp .And (a::b::bV) pos) (aHB tA tB):=.i (aFO ha.o hb.o)
theorem qE (ha:ZT X a tA)(hb:ZW X (.BoolOp .Or (b::bV) pos) tB):ZW X (.BoolOp .Or (a::b::bV) pos) (dOr tA tB):=.i (aHR ha.o hb.o)
theorem lN (h:ZW X e tA):ZT X e tA:=.i (aJD h.o)
theorem tO (ha:ZT X a tA):ZT X (.UnaryOp .Not a pos) (aFF tA):=.i (aFp ha.o)
theorem vM {op}(h:ZE X a ta):ZE X (.BoolOp op [a] pos) ta:=.i (aFA (op:=op) h.o)
theorem qC (ha:ZE X a ta)(hb:ZE X (.BoolOp .And (b::bV) pos) tb):ZE X (.BoolOp .And (a::b::bV) pos) (aBu ta tb):=.i (aHE ha.o hb.o)
theorem aFc (ha:ZE X a ta)(hb:ZE X (.BoolOp .Or (b::bV) pos) tb):ZE X (.BoolOp .Or (a::b::bV) pos) (aGZ ta tb):=.i (aHM ha.o hb.o)
theorem tZ (ha:ZE X a ta):ZE X (.UnaryOp .Not a pos) (aCY ta):=.i (aGR ha.o)
theorem tK (hc:ZT X c tA)(ha:ZE X a ta)(hb:ZE X b tb):ZE X (.IfExp c a b pos) (aGj tA ta tb):=.i (aDf hc.o ha.o hb.o)
theorem aD :ZA X [] lH:=.i (uK)
theorem aB (ha:ZE X e te)(hr:ZA X es t)(hs:starEach (e::es) X.env=(false,eval e X.env)::starEach es X.env:=by rfl):ZA X (e::es) (eR te t):=.i (lB ha.o hr.o hs)
theorem bW {x1}(h:ZA X es t):ZE X (.Tuple es x1 pos) (aF3 t):=.i (aHH h.o)
theorem cX (h:ZA X es t):ZE X (.List es pos) (aFT t):=.i (aFw h.o)
end
section
variable {X:Cx}{st:Stmt}{bV:List Stmt}{t u:DS}{e:Expr}{te:DE}{pos:Pos}
theorem bQ :ZSs X [] aBL:=.i (aDC)
theorem aE (h1:ZS X st t)(h2:ZSs X bV u):ZSs X (st::bV) (aFr t u):=.i (aBR h1.o h2.o)
theorem aH (h1:ZS X st t):ZSs X [st] t:=.i (aDF h1.o)
theorem eT (he:ZE X e te)(hs:swapsWith e none pos.line X.env=pure false:=by rfl):ZS X (.Expr e pos) (aCi te):=.i (aDV he.o hs)
theorem aP (he:ZE X e te):ZS X (.Return (some e) pos) (aGl te):=.i (aGw he.o)
theorem cE {c:Expr}{a b:List Stmt}{tc:DT}(hc:ZT X c tc)(ha:ZSs X a t)(hb:ZSs X b u):ZS X (.If c a b pos) (aHf tc t u):=.i (aIU hc.o ha.o hb.o)
theorem aAN :ZS X st zF:=.i (aBK)
end
section
variable {X:Cx}{pos:Pos}{e tg:Expr}{es:List Expr}{te:DE}
theorem aZ {i:Nat}{x:Str}(hN:X.N.Nodup)(hi:X.N[i]?=some x:=by rfl)(hx:Loc X.env.scope x:=by first|exact Or.inl rfl|exact Or.inr rfl)(hf:X.fn x=true∨X.env.scope.names.lookup x=some .local:=by first|exact .inl rfl|exact .inr rfl|assumption):ZG X (.Name x pos) (gN i):=.i (aDu (i:=i) hN hi hx hf)
theorem eP :ZGs X [] gNl:=.i (aEe)
theorem bL {t:DG}{u:DGs}(h1:ZG X e t)(h2:ZGs X es u)(hs:(assignEach (e::es) X.env).map (·.2)=assign e X.env::(assignEach es X.env).map (·.2):=by rfl):ZGs X (e::es) (gCn t u):=.i (aB9 h1.o h2.o hs)
theorem fM {g:DG}(he:ZE X e te)(hg:ZG X tg g)(hs:swapsWithSole [tg] e pos.line X.env=pure false:=by rfl)(hw:swappedStores [tg] e X.env=pure none:=by rfl)(h1:(assignEach [tg] X.env).map (·.2)=[assign tg X.env]:=by rfl):ZS X (.Assign [tg] e pos) (aAQ te g):=.i (aFS he.o hg.o hs hw h1)
theorem aS {i:Nat}{x:Str}{pos':Pos}(hN:X.N.Nodup)(he:ZE X e te)(hi:X.N[i]?=some x:=by rfl)(hx:Loc X.env.scope x:=by first|exact Or.inl rfl|exact Or.inr rfl)(hs:swapsWith e (some (.Name x pos')) pos.line X.env=pure false:=by rfl)(hf:X.fn x=true∨X.env.scope.names.lookup x=some .local:=by first|exact .inl rfl|exact .inr rfl|assumption):ZS X (.Assign [.Name x pos'] e pos) (aAQ te (gN i)):=.i (aFv (i:=i) hN he.o hi hx hs hf)
theorem zW {i j:Nat}{x y:Str}{a b:Expr}{ta:DA}{px py pt:Pos}{kt k2 pt2}(hc:X.calm=true)(hN:X.N.Nodup)(ha:ZA X [a,b] ta)(hi:X.N[i]?=some x:=by rfl)(hj:X.N[j]?=some y:=by rfl)(hij:i≠j:=by decide)(hx:X.env.scope.names.lookup x=some .local:=by rfl)(hy:X.env.scope.names.lookup y=some .local:=by rfl)(hw:swappedStores [.Tuple [.Name x px,.Name y py] kt pt] (.Tuple [a,b] k2 pt2) X.env=pure (some [x,y]):=by rfl)(hs:swapsWithSole [.Tuple [.Name x px,.Name y py] kt pt] (.Tuple [a,b] k2 pt2) pos.line X.env=pure false:=by rfl):ZS X (.Assign [.Tuple [.Name x px,.Name y py] kt pt] (.Tuple [a,b] k2 pt2) pos) (aHw i j ta):=.i (aHy (i:=i) (j:=j) hc hN ha.o hi hj hij hx hy hw hs)
theorem qB {o i:Expr}{to ti:DE}(ho:ZE X o to)(hi:ZE X i ti)(ha:∀v,assign (.Subscript o i pos) X.env v=(do
   let ov <- holding [v] (eval o X.env)
   let iv <- holding [v,ov] (eval i X.env)
   standAt pos
   holding [v,ov,iv] (setItem ov iv v)
   release [v,ov,iv] []):=by intro _;rfl):ZG X (.Subscript o i pos) (aC9 to ti):=.i (aFG ho.o hi.o ha)
end
section
variable {X:Cx}{pos:Pos}
theorem nX {c:Expr}{body:List Stmt}{tc:DT}{tb:DS}(hp:PassesOwn (model X.prog X.w) X.A X.env X.xe)(hc:ZT X c tc)(hb:ZSs X body tb):ZS X (.While c body [] pos) (zD tc tb):=.i (aBv hp hc.o hb.o)
variable {iter tg:Expr}{body:List Stmt}{tl:DE}{g:DG}{tb:DS}
end
section
variable {X:Cx}{pos:Pos}{iter tg:Expr}{body:List Stmt}{tl:DE}{g:DG}{tb:DS}{ta:DA}
theorem gE (hp:PassesOwn (model X.prog X.w) X.A X.env X.xe)(hc:X.calm=true)(hi:ZE X iter tl)(hg:ZG X tg g)(hb:ZSs X body tb)(hs:∀x,foldedSetIterable iter X.env x=pure x:=by intro _;rfl):ZS X (.For tg iter body [] pos) (aCg tl g tb):=.i (aDM hp hc hi.o hg.o hb.o hs)
end
section
variable {X:Cx}{pins:List (Addr×Obj)}{σ:L2.St}{H:Hp}{s:Shared}
end
section
variable {X:Cx}{a b e o:Expr}{es:List Expr}{ta tb te to:DE}{t:DA}{pos:Pos}
theorem dG (ha:ZE X a ta):ZE X (.UnaryOp .USub a pos) (aGG ta):=.i (aGf ha.o)
theorem aG (ha:ZE X a ta)(hb:ZE X b tb)(hs:mS b:=by exact λ_ _=>rfl):ZE X (.Subscript a b pos) (dOp mG ta tb):=.i (aCs ha.o hb.o hs)
theorem rD :ZO X none aGX:=.i (aEr)
theorem kS (h:ZE X e te):ZO X (some e) (dPt te):=.i (aEn h.o)
variable {lo hi:Option Expr}{tl th:DO}{p2:Pos}
theorem lE (he:ZE X e te)(hl:ZO X lo tl)(hu:ZO X hi th):ZE X (.Subscript e (.Slice lo hi none p2) pos) (dSl te tl th):=.i (aCW he.o hl.o hu.o)
variable {CX:CXT}{k:Nat}{f:Addr}{fd:FuncData}{ps:List Str}{sp:DSp}{E:XK}{x:Str}{p:Pos}
theorem cL {id:String}{r:DSp}(hc:eB X (.builtin id) r)(hm:X.mg x = none)(ha:ZA X (e :: es) t)(hv:bootBuiltins x = some (.builtin id):=by rfl)(hg:Gl X x:=by rfl)(hn:x ≠ "__name__":=by decide)(hdb:(x==("__debug__":Str))=false:=by decide)(he:starEach (e::es) X.env=(false,eval e X.env)::starEach es X.env:=by rfl)(hpl:(backTo pos (starEach es X.env)).any (·.1)=false:=by rfl):ZE X (.Call (.Name x p) (e::es) [] pos) (mR r t):=.i (aB2 (id:=id) hc hm ha.o hv hg hn hdb he hpl)
theorem gH {T:String}{r:DSp}(hc:eB X (.type T) r)(hm:X.mg x = none)(ha:ZA X (e :: es) t)(hv:bootBuiltins x = some (.type T):=by rfl)(hg:Gl X x:=by rfl)(hn:x ≠ "__name__":=by decide)(hdb:(x==("__debug__":Str))=false:=by decide)(he:starEach (e::es) X.env=(false,eval e X.env)::starEach es X.env:=by rfl)(hpl:(backTo pos (starEach es X.env)).any (·.1)=false:=by rfl):ZE X (.Call (.Name x p) (e::es) [] pos) (mR r t):=.i (aAP (T:=T) hc hm ha.o hv hg hn hdb he hpl)
end
section
variable {X:Cx}{a b e o:Expr}{es:List Expr}{ta tb te to:DE}{t:DA}{pos:Pos}
theorem dL {apos cpos:Pos}(ho:ZE X o to)(he:ZE X e te)(hse:starEach [e] X.env = (false,eval e X.env) :: starEach [] X.env:=by rfl)(hbase:attributeBase o "append" X.env (eval o X.env)=eval o X.env:=by rfl)(hfew:((backTo cpos (starEach [e] X.env)).all (λx=>!x.1)&&(backToKw cpos (keywordEach [] X.env)).all (λx=>x.1.isSome)
  &&decide ([e].length+([]:List Keyword).length+(if ([]:List Keyword).isEmpty then 0 else 1)<30)) = true:=by rfl)(hline:(apos.endLine==cpos.line) = true:=by rfl)(hplain:(backTo cpos (starEach [] X.env)).any (·.1) = false:=by rfl):ZE X (.Call (.Attribute o "append" apos) [e] [] cpos) (vN to te):=.i (aBi ho.o he.o hse hbase hfew hline hplain)
theorem aCV {T:String}{x:Str}{p p2:Pos}(he:ZE X e te)(hm:X.mg "isinstance" = none)(hmx:X.mg x = none)(hv:bootBuiltins x = some (.type T):=by rfl)(hg:Gl X "isinstance":=by rfl)(hgx:Gl X x:=by rfl)(hn:x ≠ "__name__":=by decide)(hdb:(x==("__debug__":Str)) = false:=by decide)(hse:starEach [e,.Name x p2] X.env = (false,eval e X.env) :: starEach [.Name x p2] X.env:=by rfl)(hse2:starEach [.Name x p2] X.env = (false,eval (.Name x p2) X.env) :: starEach [] X.env:=by rfl)(hpl:(backTo pos (starEach [.Name x p2] X.env)).any (·.1) = false:=by rfl):ZE X (.Call (.Name "isinstance" p) [e,.Name x p2] [] pos) (dIs X.K (.type T) te):=.i (aDr (T:=T) he.o hm hmx hv hg hgx hn hdb hse hse2 hpl)
end
section
variable {P:Program}{w:World}{K:Frag}{mg:Str->Option Value}{base:Heap}
end
section
variable {P:Program}{w:World}{K:Frag}{mg:Str->Option Value}{base:Heap}
end
section
variable {X:Cx}{a b c e:Expr}{es:List Expr}{ta tb te:DE}{t:DA}{pos p:Pos}{x:Str}{ps:List Str}{sp:DSp}{k j:Nat}
theorem aF (h:Has X.prog X.w X.K X.mg X.base k x ps sp)(hr:cO j X.A)(hkj:k<=j)(ha:ZA X (e::es) t)(hg:Gl X x:=by rfl)(hdb:(x==("__debug__":Str))=false:=by decide)(he:starEach (e::es) X.env=(false,eval e X.env)::starEach es X.env:=by rfl)(hpl:(backTo pos (starEach es X.env)).any (·.1)=false:=by rfl):ZE X (.Call (.Name x p) (e::es) [] pos) (mR sp t):=.i (aCf h hr hkj ha.o hg hdb he hpl)
theorem aA6 {d:D}(h:aGq X.K X.mg x d)(hg:Gl X x:=by rfl)(hd:(x==("__debug__":Str))=false:=by decide):ZE X (.Name x pos) (dC d):=.i (aBw h hg hd)
theorem aDi {i:Nat}{op:Operator}{g:Int->Int->Int}{pos':Pos}(ho:PIp X op (ipI g))(hN:X.N.Nodup)(he:ZE X e te)(hi:X.N[i]?=some x:=by rfl)(hx:Loc X.env.scope x:=by first|exact Or.inl rfl|exact Or.inr rfl)(hf:X.fn x=true∨X.env.scope.names.lookup x=some .local:=by first|exact .inl rfl|exact .inr rfl|assumption):ZS X (.AugAssign (.Name x pos') op e pos) (aEy i te g):=.i (aDw (i:=i) (op:=op) ho hN he.o hi hx hf)
end
section
variable {prog:Program}{w:World}{A:Around}{E:Value->Shared->Prop}{s:Shared}
end
section
variable {X:Cx}{pos:Pos}{e a b:Expr}{es:List Expr}{te ta tb:DE}
theorem fY {k:Nat}{t:DGs}{n:Nat}(hc:X.calm=true)(h:ZGs X es t)(hn:(assignEach es X.env).length=n:=by rfl)(hst:(assignEach es X.env).findIdx? (·.1)=none:=by rfl):ZG X (.Tuple es k pos) (gU n t):=.i (aFh (n:=n) hc h.o hn hst)
end
section
variable {M:DM}{Q:DQ}{g:Bool->Bool}{ds:List D}{i:Int}{a:Addr}{α:Type}{x0 x1 x2 x3 x4 x5:α}{l:List α}
end
section
variable {K:Frag}{H:Hp}{ρ:cH}{σ:L2.St}
end
section
variable {X:Cx}{g:DG}{te:DE}
variable {elt iter tg:Expr}{scope:Scope}{pos:Pos}{N':List Str}{fr:List (Option Nat)}{tl:DE}{ta:DA}{oN:List Str}{osc:Scope}
theorem aAp (B:vF oN osc N' fr scope)(hc:X.calm=true)(hi:ZE X iter tl)(hg:∀C s H fp pins,ZG (X.blk N' scope C s H fp pins) tg g)(he:∀C s H fp pins,ZE (X.blk N' scope C s H fp pins) elt te)(hN:X.N=oN:=by rfl)(ho:X.env.scope=osc:=by rfl)(hs:∀x,foldedSetIterable iter X.env x=pure x:=by intro _;rfl):ZE X (.ListComp elt [⟨tg,iter,[],0⟩] scope pos) (aC8 tl fr g te):=.i (aGd B hc hi.o (λC s H fp pins=>(hg C s H fp pins).o) (λC s H fp pins=>(he C s H fp pins).o) hN ho hs)
theorem yS {i:Nat}{y:Str}{spos py:Pos}(B:vF oN osc N' fr scope)(hc:X.calm=true)(hNd:X.N.Nodup)(hi:ZE X iter tl)(hg:∀C s H fp pins,ZG (X.blk N' scope C s H fp pins) tg g)(he:∀C s H fp pins,ZE (X.blk N' scope C s H fp pins) elt te)(hy:X.N[i]?=some y:=by rfl)(hx:Loc X.env.scope y:=by first|exact Or.inl rfl|exact Or.inr rfl)(hsw:swapsWith (.ListComp elt [⟨tg,iter,[],0⟩] scope pos) (some (.Name y py)) spos.line X.env=pure true:=by rfl)(hf:X.fn y=true∨X.env.scope.names.lookup y=some .local:=by first|exact .inl rfl|exact .inr rfl|assumption)(hN:X.N=oN:=by rfl)(ho:X.env.scope=osc:=by rfl)(hs:∀x,foldedSetIterable iter X.env x=pure x:=by intro _;rfl):ZS X (.Assign [.Name y py] (.ListComp elt [⟨tg,iter,[],0⟩] scope pos) spos) (yN i (aC8 tl fr g te)):=.i (aAX (i:=i) B hc hNd hi.o (λC s H fp pins=>(hg C s H fp pins).o) (λC s H fp pins=>(he C s H fp pins).o) hy hx hsw hf hN ho hs)
end
variable {X:Cx}
section
variable {g:DG}{te:DE}{tb:DS}{Q:DQ}{ρ0:cH}
end
section
variable {e:Expr}{te:DE}{pos:Pos}
end
section
variable {X:Cx}{e:Expr}{te:DE}{pos p2:Pos}{lo hi:Option Expr}{tl th:DO}
end
section
variable {X:Cx}{a n:Expr}{ta:DE}{tn:DA}{pos p pos':Pos}
end
section
variable {X:Cx}{a b c e o:Expr}{es:List Expr}{ta tb tc te to:DE}{pos:Pos}
end
section
variable {X:Cx}{e k:Expr}{te tk:DE}{pos p2:Pos}
theorem aED (he:ZE X e te)(hk:ZE X k tk):ZE X (.Subscript e (.Slice none none (some k) p2) pos) (aFl te tk):=.i (aG7 he.o hk.o)
end
section
variable {X:Cx}{pos:Pos}{iter tg:Expr}{body:List Stmt}{tl:DE}{g:DG}{tb:DS}{ta:DA}
theorem aCN {elts:List Expr}{kk:Nat}{tpos:Pos}{a b:Expr}{p pos':Pos}(hp:PassesOwn (model X.prog X.w) X.A X.env X.xe)(hc:X.calm = true)(hmg:X.mg "zip" = none)(ha:ZA X [a,b] ta)(hg:ZG X (.Tuple elts kk tpos) g)(hb:ZSs X body tb)(hgl:Gl X "zip":=by rfl)(hse:starEach [a,b] X.env = [(false,eval a X.env),(false,eval b X.env)]:=by rfl)(hse2:starEach [b] X.env = [(false,eval b X.env)]:=by rfl)(hs:∀x,foldedSetIterable (.Call (.Name "zip" p) [a,b] [] pos') X.env x = pure x:=by intro _;rfl):ZS X (.For (.Tuple elts kk tpos) (.Call (.Name "zip" p) [a,b] [] pos') body [] pos) (aBV ta g tb):=.i (aEm hp hc hmg ha.o hg.o hb.o hgl hse hse2 hs)
end
section
variable {X:Cx}{x:Str}{V:DM->Prop}{e:Expr}{es:List Expr}{t:DA}{np cpos pos:Pos}
end
section
variable {P:Program}{w:World}{K:Frag}{mg:Str->Option Value}{base:Heap}
end
section
variable {X:Cx}{pins:List (Addr×Obj)}{σ:L2.St}{H:Hp}{s:Shared}{a:Addr}{o:Obj}
end
section
variable {X:Cx}{a:Expr}{e:Expr}{es:List Expr}{t:DA}{x f n cm:Str}{ps:List Str}{sp:DSp}{cond:List D->DM->Prop}{C Cm:Addr}{k1 k2 k i j:Nat}{ts:Addr->DS}{b0:Stmt}{suite:List Stmt}{px pf pc pa pcm ph pos:Pos}
end
section
end
section
variable {X:Cx}{n c:Str}{C Cc a:Addr}{o:Obj}{p p1 p2 pos:Pos}{j:Nat}
end
section
variable {prog:Program}{w:World}{A:Around}{E:Value->Shared->Prop}{s:Shared}{K:Frag}{x C D:Addr}{ox:Obj}
end
section
variable {X:Cx}{a C:Addr}{o:Obj}
end
section
end
section
variable {X:Cx}{j:Nat}
end
section
variable {X:Cx}{st:Stmt}{bV:List Stmt}{t u:DS}
theorem wS (h1:ZS X st t)(h2:ZSs X bV u):ZSs X (st::bV) (aGM t u):=.i (aDN h1.o h2.o)
end
section
variable {X:Cx}{e:Expr}{es:List Expr}{t:DA}{x f cm:Str}{ps:List Str}{sp:DSp}{cond:List D->DM->Prop}{C Cm:Addr}{k1 k2 k i:Nat}{ts:DS}{b0:Stmt}{suite:List Stmt}{px pf pc pa pcm ph pos:Pos}
end
section
variable {P:Program}{w:World}{K:Frag}{mg:Str->Option Value}{base:Heap}
theorem Fun.okZ {x qual:Str}{st:Stmt}{f:Addr}{fd:FuncData}{N ps:List Str}{k:Nat}{sp:DSp}(F:L2.Fun K x qual st f fd)(S:aR N ps (aK st))(len:∀ds M Q,sp ds M Q->ds.length=ps.length)(hbody:∀(cdv:Value)(A:Around) (outer:List Env) (s:Shared) (H:Hp) (ds:List D) (M:DM) (Q:DQ) (E:XK),cO k (A.deeper (envOfC qual (aK st) s.heap.objs.size f cdv))->sp ds M Q ->
   ∃t,ZSs (nZ CX0 P w K mg base N qual (aK st) f cdv A outer s H E).nox (dY st) t/\t { nx:=λ_ M'=>Dn Q .non M',rt:=Dn Q } (gF N ds) M):jP P w K mg base CX0 (k+1) f fd ps (mL K sp) :=
 Fun.okD F S len λcdv A outer s H ds M Q E hr h=>let ⟨t,h1,h2⟩:=hbody cdv A outer s H ds M Q E hr h;⟨t,h1.o,h2⟩
theorem Has.mkZ {x:Str}{st:Stmt}{N ps:List Str}{k:Nat}{sp:DSp}(h:cQ K mg x st ps)(S:aR N ps (aK st))(len:∀ds M Q,sp ds M Q->ds.length=ps.length)(hbody:∀(f:Addr)(cdv:Value) (A:Around) (outer:List Env) (s:Shared) (H:Hp) (ds:List D) (M:DM) (Q:DQ) (E:XK),cO k (A.deeper (envOfC x (aK st) s.heap.objs.size f cdv))->sp ds M Q ->
   ∃t,ZSs (nZ CX0 P w K mg base N x (aK st) f cdv A outer s H E).nox (dY st) t/\t { nx:=λ_ M'=>Dn Q .non M',rt:=Dn Q } (gF N ds) M):Has P w K mg base (k+1) x ps sp :=
 Has.mk h S len λf cdv A outer s H ds M Q E hr h=>let ⟨t,h1,h2⟩:=hbody f cdv A outer s H ds M Q E hr h;⟨t,h1.o,h2⟩
end
section
variable {P:Program}{w:World}{K:Frag}{mg:Str->Option Value}{base:Heap}
end
end Dd
namespace Mz
open PySem
def Bd (n:Nat)(x:Int):Prop:=x.natAbs<2^n
theorem Bd.mono {m n:Nat}{x:Int}(h:Bd m x)(l:m<=n):Bd n x:=Nat.lt_of_lt_of_le h (Nat.pow_le_pow_right (by decide) l)
theorem Bd.neg {n:Nat}{x:Int}(h:Bd n x):Bd n (-x):=by unfold Bd at *;rw[Int.natAbs_neg];exact h
theorem Bd.add {m:Nat}{x y:Int}(h:Bd m x)(h2:Bd m y):Bd (m+1) (x+y):=by unfold Bd at *;have:=Int.natAbs_add_le x y;rw[Nat.pow_succ];omega
theorem Bd.sub {m:Nat}{x y:Int}(h:Bd m x)(h2:Bd m y):Bd (m+1) (x-y):=by rw[Int.sub_eq_add_neg];exact h.add h2.neg
theorem Bd.mul {m n:Nat}{x y:Int}(h:Bd m x)(h2:Bd n y):Bd (m+n) (x*y):=by unfold Bd at *;rw[Int.natAbs_mul,Nat.pow_add];exact Nat.mul_lt_mul'' h h2
theorem Bd.of {n:Nat}{x:Int}(h1:-(2^n:Nat)<x)(h2:x<(2^n:Nat)):Bd n x:=by unfold Bd;omega
theorem Bd.log {n:Nat}{x:Int}(h:Bd n x)(h0:0<n):x.natAbs.log2<n:=by
 rcases Nat.eq_zero_or_pos x.natAbs with e|e
 ·rw[e];simpa using h0
 ·exact(Nat.log2_lt (Nat.ne_of_gt e)).mpr h
theorem Bd.bits {n:Nat}{x:Int}(h:Bd n x):Builtin.Int.intBits x<=n+1:=by
 unfold Builtin.Int.intBits;split
 ·exact Nat.zero_le _
 ·rcases Nat.eq_zero_or_pos n with e|e
  ·subst e;have:x.natAbs<1:=h;have:x.natAbs=0:=by omega
   rw[this];decide
  ·have:=h.log e;omega
theorem cF {m n:Nat}{x y:Int}(h:Bd m x)(h2:Bd n y)(l:m+n<=100000000:=by decide):IntMulOk x y:=IntMulOk.of_le h.bits h2.bits (by omega)
theorem zK {x y:Int}(h:Bd 63 x):IntMulOk x y:=IntMulOk.of_left (by have:=h.bits;omega)
theorem oA {x y:Int}(h:Bd 63 y):IntMulOk x y:=IntMulOk.of_right (by have:=h.bits;omega)
theorem zZ {a b:Int}(h:b≠0):(a.fmod b).natAbs<b.natAbs:=by
 rcases Int.lt_or_lt_of_ne h with hb|hb
 ·have e:=Int.fmod_eq_emod (a:=a) (b:=b);have h1:=Int.emod_nonneg a h;have h2:=Int.emod_lt_of_neg a hb;by_cases hd:b∣a
  ·rw[if_pos (.inr hd)] at e;have:=Int.emod_eq_zero_of_dvd hd;omega
  ·rw[if_neg (by omega)] at e;have h3:a % b≠0:=λz=>hd (Int.dvd_of_emod_eq_zero z);omega
 ·have h1:=Int.fmod_nonneg_of_pos a hb;have h2:=Int.fmod_lt_of_pos a hb;omega
theorem vU (a b:Int):Int.gcd b (a.fmod b)=Int.gcd a b:=by rw[Int.fmod_def,Int.mul_comm b,Int.gcd_sub_mul_right_right,Int.gcd_comm]
noncomputable def sg (t b:Int):Int:=if b<0 then -(Int.gcd t b:Int) else (Int.gcd t b:Int)
noncomputable def fT (t b:Int):Int:=t.fdiv (sg t b)
noncomputable def fB (t b:Int):Int:=b.fdiv (sg t b)
theorem gZ {t b:Int}(h:b≠0):0<Int.gcd t b:=Nat.pos_of_ne_zero λz=>h (Int.gcd_eq_zero_iff.mp z).2
theorem aH1 {t b:Int}(h:b≠0):sg t b≠0:=by have:=gZ (t:=t) h;unfold sg;split<;>omega
theorem jW (t b:Int):sg t b∣t:=by
 have h:=Int.gcd_dvd_left t b;unfold sg;split
 ·exact Int.neg_dvd.mpr h
 ·exact h
theorem kH (t b:Int):sg t b∣b:=by
 have h:=Int.gcd_dvd_right t b;unfold sg;split
 ·exact Int.neg_dvd.mpr h
 ·exact h
theorem aFn {t b:Int}(h:b≠0):fT t b*sg t b=t:=by unfold fT;rw[Int.fdiv_eq_ediv_of_dvd (jW t b)];exact Int.ediv_mul_cancel (jW t b)
theorem aCC {t b:Int}(h:b≠0):fB t b*sg t b=b:=by unfold fB;rw[Int.fdiv_eq_ediv_of_dvd (kH t b)];exact Int.ediv_mul_cancel (kH t b)
theorem aG3 {t b:Int}(h:b≠0):0<fB t b:=by
 have e:=aCC (t:=t) h;have hg:=gZ (t:=t) h;rcases Int.lt_trichotomy (fB t b) 0 with z|z|z
 ·exfalso;unfold sg at e;split at e
  ·rename_i hb;have:=Int.mul_pos_of_neg_of_neg z (show -(Int.gcd t b:Int)<0 by omega);omega
  ·rename_i hb;have:=Int.mul_neg_of_neg_of_pos z (show 0<(Int.gcd t b:Int) by omega);omega
 ·rw[z] at e;omega
 ·exact z
theorem aFs {t b:Int}(h:b≠0):fT t b*b=fB t b*t:=by
 have e1:=aFn (t:=t) h;have e2:=aCC (t:=t) h;have:fT t b*(fB t b*sg t b)=fB t b*(fT t b*sg t b):=by grind
 rw[e1,e2] at this;exact this
theorem tJ (t b:Int):(sg t b).natAbs=Int.gcd t b:=by unfold sg;split<;>simp
theorem aJY {t b:Int}(h:b≠0):Int.gcd (fT t b) (fB t b)=1:=by unfold fT fB;rw[Int.fdiv_eq_ediv_of_dvd (jW t b),Int.fdiv_eq_ediv_of_dvd (kH t b),Int.gcd_ediv (jW t b) (kH t b),tJ];exact Nat.div_self (gZ h)
theorem Bd.fT {n:Nat}{t b:Int}(h:Bd n t):Bd n (fT t b):=by unfold Bd at *;unfold Mz.fT;rw[Int.fdiv_eq_ediv_of_dvd (jW t b)];exact Nat.lt_of_le_of_lt (Int.natAbs_ediv_le_natAbs _ _) h
theorem Bd.fB {n:Nat}{t b:Int}(h:Bd n b):Bd n (fB t b):=by unfold Bd at *;unfold Mz.fB;rw[Int.fdiv_eq_ediv_of_dvd (kH t b)];exact Nat.lt_of_le_of_lt (Int.natAbs_ediv_le_natAbs _ _) h
theorem Bd.sg {n:Nat}{t b:Int}(h:Bd n b)(h0:b≠0):Bd n (sg t b):=by unfold Bd at *;rw[tJ];have:=Nat.le_of_dvd (by omega) (Int.natAbs_dvd_natAbs.mpr (Int.gcd_dvd_right t b));simp at this;omega
theorem rH {a b c:Int}(h:b∣a*c)(g:Int.gcd b a=1):b∣c:=by
 have h':b.natAbs∣a.natAbs*c.natAbs:=by rw[<- Int.natAbs_mul];exact Int.natAbs_dvd_natAbs.mpr h
 exact Int.natAbs_dvd_natAbs.mp (Nat.Coprime.dvd_of_dvd_mul_left g h')
theorem lK {t b t' b':Int}(h:0<b)(h':0<b')(g:Int.gcd t b=1)(g':Int.gcd t' b'=1)(e:t*b'=t'*b):t=t'/\b=b':=by
 have d1:b∣b':=by have:b∣t*b':=⟨t',by rw[e];exact Int.mul_comm _ _⟩;exact rH this (by rw[Int.gcd_comm];exact g)
 have d2:b'∣b:=by have:b'∣t'*b:=⟨t,by rw[<- e];exact Int.mul_comm _ _⟩;exact rH this (by rw[Int.gcd_comm];exact g')
 have e1:b=b':=Int.le_antisymm (Int.le_of_dvd h' d1) (Int.le_of_dvd h d2);subst e1;exact⟨Int.eq_of_mul_eq_mul_right (by omega) e,rfl⟩
theorem den_pos (q:Rat):(0:Int)<(q.den:Int):=by have:=q.den_pos;omega
theorem bT (q:Rat):(q.den:Int)≠0:=by have:=q.den_pos;omega
theorem kR (q:Rat):((q.den:Int):Rat)≠0:=by
 intro h;have:(q.den:Int)=0:=by exact_mod_cast h
 exact bT q this
theorem aEz (q:Rat):(q.num:Rat)/((q.den:Int):Rat)=q:=by have h:=Rat.num_divInt_den q;rw[Rat.divInt_eq_div] at h;exact h
theorem dJ (q:Rat):(q.num:Rat)=q*((q.den:Int):Rat):=by have h:=aEz q;have h2:=kR q;grind
theorem zY {t b:Int}(h:b≠0):fT t b=((t:Rat)/(b:Rat)).num/\fB t b=((((t:Rat)/(b:Rat)).den:Nat):Int):=by
 have hb:(b:Rat)≠0:=by exact_mod_cast h
 refine lK (aG3 h) (den_pos _) (aJY h) ?_ ?_
 ·have:=((t:Rat)/(b:Rat)).reduced;unfold Nat.Coprime at this;rw[<- this];rfl
 ·have e1:=aFs (t:=t) h;have e2:=dJ ((t:Rat)/(b:Rat));have e3:((fT t b:Int):Rat)*b=(fB t b:Int)*(t:Rat):=by rw[<- Rat.intCast_mul,<- Rat.intCast_mul,e1]
  have e4:((fT t b:Int):Rat)*((((t:Rat)/(b:Rat)).den:Int):Rat)=((((t:Rat)/(b:Rat)).num:Int):Rat)*(fB t b:Int):=by rw[e2];grind
  rw[<- Rat.intCast_mul,<- Rat.intCast_mul] at e4;exact Rat.intCast_inj.mp e4
def BQ (n:Nat)(q:Rat):Prop:=Bd n q.num/\Bd n (q.den:Int)
theorem BQ.mono {m n:Nat}{q:Rat}(h:BQ m q)(l:m<=n):BQ n q:=⟨h.1.mono l,h.2.mono l⟩
theorem BQ.make {n:Nat}{t b:Int}(h:b≠0)(h1:Bd n t)(h2:Bd n b):BQ n ((t:Rat)/(b:Rat)):=by obtain⟨e1,e2⟩:=zY (t:=t) h;exact⟨e1 ▸ h1.fT,e2 ▸ h2.fB⟩
theorem aJk (p q:Rat):(((p.num*q.den+q.num*p.den:Int)):Rat)/((p.den*q.den:Int):Rat)=p+q:=by have h1:=kR p;have h2:=kR q;have e1:=dJ p;have e2:=dJ q;rw[Rat.intCast_add,Rat.intCast_mul,Rat.intCast_mul,Rat.intCast_mul,e1,e2];grind
theorem aIE (p q:Rat):(((p.num*q.den-q.num*p.den:Int)):Rat)/((p.den*q.den:Int):Rat)=p-q:=by have h1:=kR p;have h2:=kR q;have e1:=dJ p;have e2:=dJ q;rw[Rat.intCast_sub,Rat.intCast_mul,Rat.intCast_mul,Rat.intCast_mul,e1,e2];grind
theorem aIM (p q:Rat):(((p.num*q.num:Int)):Rat)/((p.den*q.den:Int):Rat)=p*q:=by have h1:=kR p;have h2:=kR q;have e1:=dJ p;have e2:=dJ q;rw[Rat.intCast_mul,Rat.intCast_mul,e1,e2];grind
theorem BQ.add {m n:Nat}{p q:Rat}(h:BQ m p)(h2:BQ n q):BQ (m+n+1) (p+q):=by rw[<- aJk];exact .make (Int.mul_ne_zero (bT p) (bT q)) ((h.1.mul h2.2).add ((h2.1.mul h.2).mono (by omega))) ((h.2.mul h2.2).mono (by omega))
theorem BQ.sub {m n:Nat}{p q:Rat}(h:BQ m p)(h2:BQ n q):BQ (m+n+1) (p-q):=by rw[<- aIE];exact .make (Int.mul_ne_zero (bT p) (bT q)) ((h.1.mul h2.2).sub ((h2.1.mul h.2).mono (by omega))) ((h.2.mul h2.2).mono (by omega))
theorem BQ.mul {m n:Nat}{p q:Rat}(h:BQ m p)(h2:BQ n q):BQ (m+n) (p*q):=by rw[<- aIM];exact .make (Int.mul_ne_zero (bT p) (bT q)) (h.1.mul h2.1) (h.2.mul h2.2)
theorem qJ {q:Rat}:q.num=0↔q=0:=Rat.num_eq_zero
theorem BQ.neg {m:Nat}{p:Rat}(h:BQ m p):BQ m (-p):=⟨by rw[Rat.neg_num];exact h.1.neg,by rw[Rat.neg_den];exact h.2⟩
theorem BQ.int {m:Nat}{z:Int}(h:Bd m z)(h0:0<m):BQ m (z:Rat):=⟨by rw[Rat.num_intCast];exact h,by rw[Rat.den_intCast];unfold Bd;exact Nat.one_lt_two_pow (by omega)⟩
theorem ltQ (p q:Rat):(p.num*q.den<q.num*p.den)↔p<q:=(Rat.lt_iff p q).symm
theorem aE4 {t b:Int}{q:Rat}(hb:0<b)(hg:Int.gcd t b=1)(e:(t:Rat)=q*(b:Rat)):t=q.num/\b=(q.den:Int):=by
 refine lK hb (den_pos q) hg ?_ ?_
 ·have:=q.reduced;unfold Nat.Coprime at this;rw[<- this];rfl
 ·have e2:=dJ q;have:((t*(q.den:Int):Int):Rat)=((q.num*b:Int):Rat):=by rw[Rat.intCast_mul,Rat.intCast_mul,e,e2];grind
  exact Rat.intCast_inj.mp this
theorem jI {a b c:Int}(h:Int.gcd a b=1)(h2:Int.gcd a c=1):Int.gcd a (b*c)=1:=by unfold Int.gcd at *;rw[Int.natAbs_mul];exact Nat.Coprime.mul_right h h2
theorem cU {a b:Int}(h:Int.gcd a b=1):Int.gcd b a=1:=by rw[Int.gcd_comm];exact h
theorem hV {a a' b:Int}(h:a∣a')(h2:Int.gcd a' b=1):Int.gcd a b=1:=by unfold Int.gcd at *;exact Nat.Coprime.coprime_dvd_left (Int.natAbs_dvd_natAbs.mpr h) h2
theorem red (q:Rat):Int.gcd q.num (q.den:Int)=1:=by have:=q.reduced;unfold Nat.Coprime at this;rw[<- this];rfl
theorem lF {x y:Int}(h:y≠0):∃a b:Int,x=(Int.gcd x y:Int)*a/\y=(Int.gcd x y:Int)*b/\Int.gcd a b=1/\x.fdiv (Int.gcd x y:Int)=a/\y.fdiv (Int.gcd x y:Int)=b:=by
 have hp:0<Int.gcd x y:=gZ h;obtain⟨a,ha⟩:=Int.gcd_dvd_left x y;obtain⟨b,hb⟩:=Int.gcd_dvd_right x y;have e1:x.fdiv (Int.gcd x y:Int)=a:=by rw[Int.fdiv_eq_ediv_of_dvd (Int.gcd_dvd_left x y)];exact Int.ediv_eq_of_eq_mul_right (by omega) ha
 have e2:y.fdiv (Int.gcd x y:Int)=b:=by rw[Int.fdiv_eq_ediv_of_dvd (Int.gcd_dvd_right x y)];exact Int.ediv_eq_of_eq_mul_right (by omega) hb
 refine⟨a,b,ha,hb,?_,e1,e2⟩;rw[<- e1,<- e2,Int.fdiv_eq_ediv_of_dvd (Int.gcd_dvd_left x y),Int.fdiv_eq_ediv_of_dvd (Int.gcd_dvd_right x y),Int.gcd_ediv (Int.gcd_dvd_left x y) (Int.gcd_dvd_right x y)];simp;exact Nat.div_self hp
theorem aJV (p q:Rat):∀g a t l:Int,g=(Int.gcd p.den q.den:Int)->a=(p.den:Int).fdiv g->t=p.num*(q.den:Int).fdiv g+q.num*a->l=(Int.gcd t g:Int) ->
  g≠0/\l≠0/\g∣(p.den:Int)/\l∣g/\t.fdiv l=(p+q).num/\a*(q.den:Int).fdiv l=((p+q).den:Int):=by
 intro g a t l hg ha ht hl;have d1:=den_pos p;have d2:=den_pos q;obtain⟨a',b,e1,e2,cab,f1,f2⟩:=lF (x:=p.den) (y:=q.den) (bT q);rw[<- hg] at e1 e2 f1 f2;rw[f1] at ha;subst ha;rw[f2] at ht;have g0:0<g:=by have:=gZ (t:=(p.den:Int)) (bT q);omega
 have a0:0<a:=by
  rcases Int.lt_trichotomy a 0 with z|z|z
  ·have:=Int.mul_neg_of_pos_of_neg g0 z;omega
  ·subst z;omega
  ·exact z
 have b0:0<b:=by
  rcases Int.lt_trichotomy b 0 with z|z|z
  ·have:=Int.mul_neg_of_pos_of_neg g0 z;omega
  ·subst z;omega
  ·exact z
 obtain⟨t',g',e3,e4,ctg,f3,f4⟩:=lF (x:=t) (y:=g) (by omega);rw[<- hl] at e3 e4 f3 f4;have l0:0<l:=by have:=gZ (t:=t) (b:=g) (by omega);omega
 have g'0:0<g':=by
  rcases Int.lt_trichotomy g' 0 with z|z|z
  ·have:=Int.mul_neg_of_pos_of_neg l0 z;omega
  ·subst z;omega
  ·exact z
 have f5:(q.den:Int).fdiv l=g'*b:=by
  have e:(q.den:Int)=l*(g'*b):=by rw[e2,e4];grind
  rw[Int.fdiv_eq_ediv_of_dvd ⟨_,e⟩];exact Int.ediv_eq_of_eq_mul_right (by omega) e
 refine⟨by omega,by omega,⟨a,e1⟩,⟨g',e4⟩,?_⟩;rw[f3,f5];have ca:Int.gcd t a=1:=by have c1:Int.gcd p.num a=1:=cU (hV ⟨g,by rw[e1];grind⟩ (cU (red p)));have:Int.gcd a (p.num*b)=1:=jI (cU c1) cab;rw[ht,Int.gcd_comm,Int.gcd_add_mul_right_right];exact this
 have cb:Int.gcd t b=1:=by have c1:Int.gcd q.num b=1:=cU (hV ⟨g,by rw[e2];grind⟩ (cU (red q)));have:Int.gcd b (q.num*a)=1:=jI (cU c1) (cU cab);rw[ht,Int.gcd_comm,Int.add_comm,Int.gcd_add_mul_right_right];exact this
 have hd:t'∣t:=⟨l,by rw[e3];grind⟩;refine aE4 (q:=p+q) (Int.mul_pos a0 (Int.mul_pos g'0 b0)) (jI (hV hd ca) (jI ctg (hV hd cb))) ?_;have n1:=dJ p;have n2:=dJ q;have r1:=kR p;have r2:=kR q;have k1:((p.den:Int):Rat)=(l:Rat)*g'*a:=by rw[e1,e4,Rat.intCast_mul,Rat.intCast_mul]
 have k2:((q.den:Int):Rat)=(l:Rat)*g'*b:=by rw[e2,e4,Rat.intCast_mul,Rat.intCast_mul]
 have k3:(l:Rat)*t'=(p.num:Rat)*b+(q.num:Rat)*a:=by rw[<- Rat.intCast_mul,<- e3,ht,Rat.intCast_add,Rat.intCast_mul,Rat.intCast_mul]
 have k4:(l:Rat)≠0:=λz=>by
                     have:l=0:=by exact_mod_cast z
                     omega
 rw[n1,n2,k1,k2] at k3;rw[Rat.intCast_mul,Rat.intCast_mul];have:(l:Rat)*(t':Rat)=l*((p+q)*((a:Rat)*(g'*b))):=by rw[k3];grind
 grind
theorem aJy (p q:Rat):∀f r:Int,f=(Int.gcd p.num q.den:Int)->r=(Int.gcd q.num p.den:Int) ->
  f≠0/\r≠0/\f∣(q.den:Int)/\r∣(p.den:Int)/\p.num.fdiv f*q.num.fdiv r=(p*q).num/\(p.den:Int).fdiv r*(q.den:Int).fdiv f=((p*q).den:Int):=by
 intro f r hf hr;have d1:=den_pos p;have d2:=den_pos q;obtain⟨x,v,e1,e2,c1,f1,f2⟩:=lF (x:=p.num) (y:=q.den) (bT q);obtain⟨y,u,e3,e4,c2,f3,f4⟩:=lF (x:=q.num) (y:=p.den) (bT p);rw[<- hf] at e1 e2 f1 f2;rw[<- hr] at e3 e4 f3 f4;have f0:0<f:=by have:=gZ (t:=p.num) (bT q);omega
 have r0:0<r:=by have:=gZ (t:=q.num) (bT p);omega
 have v0:0<v:=by
  rcases Int.lt_trichotomy v 0 with z|z|z
  ·have:=Int.mul_neg_of_pos_of_neg f0 z;omega
  ·subst z;omega
  ·exact z
 have u0:0<u:=by
  rcases Int.lt_trichotomy u 0 with z|z|z
  ·have:=Int.mul_neg_of_pos_of_neg r0 z;omega
  ·subst z;omega
  ·exact z
 refine⟨by omega,by omega,⟨v,e2⟩,⟨u,e4⟩,?_⟩;rw[f1,f2,f3,f4];have cxu:Int.gcd x u=1:=hV ⟨f,by rw[e1];grind⟩ (cU (hV ⟨r,by rw[e4];grind⟩ (cU (red p))));have cyv:Int.gcd y v=1:=hV ⟨r,by rw[e3];grind⟩ (cU (hV ⟨f,by rw[e2];grind⟩ (cU (red q))));refine aE4 (q:=p*q) (Int.mul_pos u0 v0) ?_ ?_
 ·exact cU (jI (cU (jI cxu c1)) (cU (jI c2 cyv)))
 have n1:=dJ p;have n2:=dJ q;have r1:=kR p;have r2:=kR q;have k1:((p.den:Int):Rat)=(r:Rat)*u:=by rw[e4,Rat.intCast_mul]
 have k2:((q.den:Int):Rat)=(f:Rat)*v:=by rw[e2,Rat.intCast_mul]
 have k3:(p.num:Rat)=(f:Rat)*x:=by rw[e1,Rat.intCast_mul]
 have k4:(q.num:Rat)=(r:Rat)*y:=by rw[e3,Rat.intCast_mul]
 have k5:(f:Rat)≠0:=λz=>by
                     have:f=0:=by exact_mod_cast z
                     omega
 have k6:(r:Rat)≠0:=λz=>by
                     have:r=0:=by exact_mod_cast z
                     omega
 rw[Rat.intCast_mul,Rat.intCast_mul];have:(f:Rat)*r*((x:Rat)*y)=f*r*((p*q)*((u:Rat)*v)):=by
  have z1:(f:Rat)*x=p*(r*u):=by rw[<- k3,<- k1];exact n1
  have z2:(r:Rat)*y=q*(f*v):=by rw[<- k4,<- k2];exact n2
  grind
 grind
theorem Bd.dvd {n:Nat}{x y:Int}(h:Bd n y)(d:x∣y)(h0:y≠0):Bd n x:=by unfold Bd at *;have:=Nat.le_of_dvd (by omega) (Int.natAbs_dvd_natAbs.mpr d);omega
theorem Bd.fdiv {n:Nat}{x y:Int}(h:Bd n x)(d:y∣x):Bd n (x.fdiv y):=by unfold Bd at *;rw[Int.fdiv_eq_ediv_of_dvd d];exact Nat.lt_of_le_of_lt (Int.natAbs_ediv_le_natAbs _ _) h
noncomputable def sgn (q:Rat):Int:=if 0<q then 1 else if q<0 then -1 else 0
noncomputable def fC (ax ay bx by' px py:Rat):Rat:=(bx-ax)*(py-ay)-(by'-ay)*(px-ax)
theorem aEA {z F:Rat}(hF:0<F):sgn (z*F)=sgn z:=by
 unfold sgn;rcases (show z<0∨z=0∨0<z by grind) with c|c|c
 ·have:=Rat.mul_pos (show 0 < -z by grind) hF;rw[if_neg (by grind),if_pos (by grind),if_neg (by grind),if_pos c]
 ·subst c;rw[if_neg (by grind),if_neg (by grind),if_neg (by grind),if_neg (by grind)]
 ·have:=Rat.mul_pos c hF;rw[if_pos this,if_pos c]
noncomputable def vv (t:Rat):Rat:=(t+t)/(1+t*t)
noncomputable def tb (t h u:Int):Int:=(t+h*u).fmod 4
end Mz
namespace Dd
open PySem PySem.Spec PyProof.Rows L2 Mz
noncomputable def FQ (q:Rat):D:=.tup [.int q.num,.int (q.den:Int)]
theorem aDE {t b:Int}(h:b≠0):(D.tup [.int (fT t b),.int (fB t b)])=FQ ((t:Rat)/(b:Rat)):=by obtain⟨e1,e2⟩:=zY (t:=t) h;rw[e1,e2];rfl
def cZ:DSp:=λds M Q=>∃a b,ds=[.int a,.int b]/\Q (.int (Int.gcd a b:Int)) M
def qF (g:Rat->Rat->D)(C:Rat->Prop:=λ_=>True):DSp:=λds M Q=>∃p q m n,ds=[FQ p,FQ q]/\C q/\BQ m p/\BQ n q/\m+n<=8998/\Q (g p q) M
def pS:DSp:=qF λp q=>FQ (p+q)
def rE:DSp:=qF λp q=>FQ (p-q)
def nK:DSp:=qF λp q=>FQ (p*q)
def xJ:DSp:=qF λp q=>.bl (decide (p<q))
theorem mQ {g:Rat->Rat->D}{C:Rat->Prop}(ds:List D)(M:DM)(Q:DQ)(h:qF g C ds M Q):ds.length=2:=by obtain⟨a,b,m,n,rfl,_⟩:=h;rfl
theorem xP {n:Nat}{x y z:Int}(h:Bd n y)(l:n<=9000)(d:z∣y)(h0:y≠0)(hz:z≠0):CFd x z:=⟨hz,by
 rcases Nat.eq_zero_or_pos n with e|e
 ·subst e;have:y.natAbs<1:=h;omega
 ·exact Nat.lt_of_lt_of_le ((h.dvd d h0).log e) l⟩
theorem aEd (q:Rat):(D.tup [.int (-q.num),.int (q.den:Int)])=FQ (-q):=by unfold FQ;rw[Rat.neg_num,Rat.neg_den]
noncomputable def PQ (x y:Rat):D:=.tup [FQ x,FQ y]
theorem rS (p q:Rat):eqD (FQ p) (FQ q)=decide (p=q):=by
 show(p.num==q.num&&((p.den:Int)==(q.den:Int)&&true))=decide (p=q);by_cases h:p=q
 ·subst h;simp
 ·rw[decide_eq_false h];by_cases h1:p.num=q.num
  ·have h2:¬((p.den:Int)=(q.den:Int)):=λz=>h (Rat.ext h1 (by exact_mod_cast z));simp[h1,h2]
  ·simp[h1]
theorem aCK (x y u v:Rat):eqD (PQ x y) (PQ u v)=(decide (x=u)&&decide (y=v)):=by show(eqD (FQ x) (FQ u)&&(eqD (FQ y) (FQ v)&&true))=_;rw[rS,rS,Bool.and_true]
def fA:DSp:=λds M Q=>∃x y,ds=[PQ x y]/\BQ 900 x/\BQ 900 y/\∀X Y d:Int,0<d->(X:Rat)=x*(d:Rat)->(Y:Rat)=y*(d:Rat)->Bd 1800 X->Bd 1800 Y->Bd 1800 d->Q (.tup [.int X,.int Y,.int d]) M
def vO:DSp:=λds M Q=>∃z:Int,ds=[.int z]/\Q (.int (sgn (z:Rat))) M
theorem aEk {d:Int}(h:0<d):(0:Rat)<(d:Rat):=by exact_mod_cast h
def aAg:DSp:=λds M Q=>∃ax ay bx by' px py,ds=[PQ ax ay,PQ bx by',PQ px py]/\BQ 900 ax/\BQ 900 ay/\BQ 900 bx/\BQ 900 by'/\BQ 900 px/\BQ 900 py/\Q (.int (sgn (fC ax ay bx by' px py))) M
noncomputable def bef (x y u v:Rat):Bool:=if x=u then decide (y<v) else decide (x<u)
def iM:DSp:=λds M Q=>∃x y u v,ds=[PQ x y,PQ u v]/\BQ 4400 x/\BQ 4400 y/\BQ 4400 u/\BQ 4400 v/\Q (.bl (bef x y u v)) M
def FdN (M:DM)(a:Addr)(n:Nat):Prop:=∃(c k f:Int),M a=some [.int c,.int k,.int f]/\0<=k/\k<=n
structure Adv (M M':DM)(a:Addr):Prop where
 l:∀b:Addr,b≠a->M' (.l b)=M (.l b)
 d:∀b:Addr,M' (.d b)=M (.d b)
 o:∀b:Addr,M' (.o b)=M (.o b)
 x:∀b:Addr,M' (.x b)=M (.x b)
instance {M M':DM}{a:Addr}:CoeFun (Adv M M' a) (λ_=>∀b:Addr,b≠a->M' (.l b)=M (.l b)):=⟨Adv.l⟩
theorem Adv.trans {M M1 M2:DM}{a:Addr}(h:Adv M M1 a)(h2:Adv M1 M2 a):Adv M M2 a:=⟨λb n=>(h2.l b n).trans (h.l b n),λb=>(h2.d b).trans (h.d b),λb=>(h2.o b).trans (h.o b),λb=>(h2.x b).trans (h.x b)⟩
theorem Adv.ak {M M':DM}{a:Addr}(h:Adv M M' a){b:AK}(n:b≠AK.l a):M' b=M b:=by
 cases b with
 |l b=>exact h.l b λe=>n (congrArg AK.l e)
 |d b=>exact h.d b
 |o b=>exact h.o b
 |x b=>exact h.x b
theorem Adv.put {M:DM}{a:Addr}{ds:List D}:Adv M (aU M a ds) a:=⟨λ_ n=>cT n,λ_=>gO,λ_=>zC,λ_=>kQ⟩
theorem FdN.mono {M:DM}{a:Addr}{m n:Nat}(h:FdN M a m)(l:m<=n):FdN M a n:=by obtain⟨c,k,f,e,h0,h1⟩:=h;exact⟨c,k,f,e,h0,by omega⟩
def kI:DSp:=λds M Q=>∃c,ds=[.int c]/\∀(p:Addr) M',M p=none->FdN M' p 0->Adv M M' p->Q (.ref p) M'
def gW:DSp:=λds M Q=>∃a many n,ds=[.ref a,.int many]/\FdN M a n/\n<=100000/\0<many/\Bd 8999 many/\∀r M',0<=r->r<many->FdN M' a (n+1)->Adv M M' a->Q (.int r) M'
def rF (B c:Nat)(Pd:D->Prop):DSp:=λds M Q=>∃a n,ds=[.ref a]/\FdN M a n/\n<=B/\∀d M',Pd d->FdN M' a (n+c)->Adv M M' a->Q d M'
theorem sH {B c:Nat}{Pd:D->Prop}(ds:List D)(M:DM)(Q:DQ)(h:rF B c Pd ds M Q):ds.length=1:=by obtain⟨a,n,rfl,_⟩:=h;rfl
def IsF (B:Nat)(d:D):Prop:=∃q,d=FQ q/\BQ B q
def IsP (B:Nat)(d:D):Prop:=∃x y,d=PQ x y/\BQ B x/\BQ B y
theorem aGK (z:Int):FQ (z:Rat)=.tup [.int z,.int 1]:=by unfold FQ;rw[Rat.num_intCast,Rat.den_intCast];rfl
theorem bdk {x:Int}(h:x.natAbs<2^220):Bd 8999 x:=Bd.mono (m:=220) h (by decide)
theorem aE5 {x:Int}(h1:-(10^62)<=x)(h2:x<=10^62):Bd 210 x:=by
 unfold Bd;have:(2:Nat)^210=1645504557321206042154969182557350504982735865633579863348609024:=by decide
 omega
theorem aDv {xs:List D}{lo hi:Option Int}{d:D}(h:d∈cutD xs lo hi):d∈xs:=List.mem_of_mem_drop (List.mem_of_mem_take h)
def eH:DSp:=λds M Q=>∃t b,ds=[.int t,.int b]/\b≠0/\Bd 8999 b/\Q (FQ ((t:Rat)/(b:Rat))) M
theorem bq1:BQ 1 1:=⟨by unfold Bd;decide,by unfold Bd;decide⟩
theorem aI3 {q:Rat}{M:DM}{Q:DQ}:mG (FQ q) (.int 0) M Q=Q (.int q.num) M:=rfl
theorem aI5 {q:Rat}{M:DM}{Q:DQ}:mG (FQ q) (.int 1) M Q=Q (.int (q.den:Int)) M:=rfl
theorem aJl {x y:Rat}{M:DM}{Q:DQ}:mG (PQ x y) (.int 0) M Q=Q (FQ x) M:=rfl
theorem aJe {x y:Rat}{M:DM}{Q:DQ}:mG (PQ x y) (.int 1) M Q=Q (FQ y) M:=rfl
theorem aIh {x y:Rat}{n:Nat}{t:DGs}{ρ:cH}{M:DM}{R:cH->DM->Prop}:gU n t (PQ x y) ρ M R=(([FQ x,FQ y]:List D).length=n/\t [FQ x,FQ y] ρ M R):=rfl
theorem aIY {q:Rat}{n:Nat}{t:DGs}{ρ:cH}{M:DM}{R:cH->DM->Prop}:gU n t (FQ q) ρ M R=(([.int q.num,.int (q.den:Int)]:List D).length=n/\t [.int q.num,.int (q.den:Int)] ρ M R):=rfl
theorem aHG {g:Bool->Bool}{p q:Rat}{M:DM}{Q:DQ}:dEq g (FQ p) (FQ q) M Q=Q (.bl (g (decide (p=q)))) M:=by show(bH 60 (FQ p)=true/\bH 60 (FQ q)=true/\Q (.bl (g (eqD (FQ p) (FQ q)))) M)=_;rw[rS];exact propext ⟨λh=>h.2.2,λh=>⟨rfl,rfl,h⟩⟩
theorem yG {g:Bool->Bool}{x y u v:Rat}{M:DM}{Q:DQ}:dEq g (PQ x y) (PQ u v) M Q=Q (.bl (g (decide (x=u/\y=v)))) M:=by
 show(bH 60 (PQ x y)=true/\bH 60 (PQ u v)=true/\Q (.bl (g (eqD (PQ x y) (PQ u v)))) M)=_;have e:(decide (x=u)&&decide (y=v))=decide (x=u/\y=v):=by by_cases h1:x=u<;>by_cases h2:y=v<;>simp[h1,h2]
 rw[aCK,e];exact propext ⟨λh=>h.2.2,λh=>⟨rfl,rfl,h⟩⟩
theorem aGQ {x y u v:Rat}{g:DG}{tb:DS}{E:eF}{ρ:cH}{M:DM}:foZ [PQ x y,PQ u v] g tb E ρ M=dIt none [.tup [FQ x,FQ u],.tup [FQ y,FQ v]] g tb E ρ M:=rfl
noncomputable def FR (px py:Rat)(t h:Int)(s:Rat):D:=.tup [PQ px py,.int t,.int h,FQ s]
theorem aFY (px py s px' py' s':Rat)(t h t' h':Int):eqD (FR px py t h s) (FR px' py' t' h' s')=decide (px=px'/\py=py'/\t=t'/\h=h'/\s=s'):=by show(eqD (PQ px py) (PQ px' py')&&(t==t'&&(h==h'&&(eqD (FQ s) (FQ s')&&true))))=_;rw[aCK,rS];by_cases h1:px=px'<;>by_cases h2:py=py'<;>by_cases h3:t=t'<;>by_cases h4:h=h'<;>by_cases h5:s=s'<;>simp[h1,h2,h3,h4,h5]
theorem aGB {g:Bool->Bool}{px py s px' py' s':Rat}{t h t' h':Int}{M:DM}{Q:DQ}:dEq g (FR px py t h s) (FR px' py' t' h' s') M Q=Q (.bl (g (decide (px=px'/\py=py'/\t=t'/\h=h'/\s=s')))) M:=by show(bH 60 (FR px py t h s)=true/\bH 60 (FR px' py' t' h' s')=true/\Q (.bl (g (eqD (FR px py t h s) (FR px' py' t' h' s')))) M)=_;rw[aFY];exact propext ⟨λz=>z.2.2,λz=>⟨rfl,rfl,z⟩⟩
def aES (n:Nat)(L:List D):Prop:=L.length=n/\∀d∈L,∃z:Int,d=.int z/\0<=z/\z<1000000
theorem aES.at {n:Nat}{L:List D}(h:aES n L){i:Nat}(hi:i<n):∃z:Int,atI L (i:Int)=some (.int z)/\0<=z/\z<1000000:=by
 have hl:i<L.length:=by rw[h.1];exact hi
 obtain⟨z,e,z0,z1⟩:=h.2 L[i] (getElem_mem hl);exact⟨z,mT (by rw[getElem?_eq_getElem hl,e]),z0,z1⟩
theorem aD7 {x y:Rat}{M:DM}{Q:DQ}:qO [PQ x y] M Q=Q (.int 2) M:=rfl
theorem aD9 {q:Rat}{M:DM}{Q:DQ}:qO [FQ q] M Q=Q (.int 2) M:=rfl
theorem aBp {a:Addr}{M:DM}{Q:DQ}:qO [.ref a] M Q=∃xs,M a=some xs/\Q (.int (xs.length:Int)) M:=rfl
section
variable {M:DM}{Q:DQ}{a b c d e f:D}
theorem aHa {i:Int}:aH3 [.int i] M Q=Q (.int (if i<0 then -i else i)) M:=rfl
theorem aEM {xs:List D}:qO [.fz xs] M Q=Q (.int xs.length) M:=rfl
theorem aEJ:qO [.tup []] M Q=Q (.int 0) M:=rfl
theorem aDO:qO [.tup [a]] M Q=Q (.int 1) M:=rfl
theorem aEu:qO [.tup [a,b]] M Q=Q (.int 2) M:=rfl
theorem aDU:qO [.tup [a,b,c]] M Q=Q (.int 3) M:=rfl
theorem aDD:qO [.tup [a,b,c,d]] M Q=Q (.int 4) M:=rfl
theorem aD1:qO [.tup [a,b,c,d,e]] M Q=Q (.int 5) M:=rfl
end
structure Fm where
 (px py:Rat) (t h:Int) (s:Rat)
noncomputable def Fm.one:Fm:=⟨0,0,0,1,1⟩
section
variable {X:Cx}{pins:List (Addr×Obj)}{σ:L2.St}{H:Hp}{s:Shared}{M:DM}
end
section
variable {X:Cx}
end
end Dd
namespace L2
open PySem PySem.Spec PyProof.Rows
section
variable {prog:Program}{w:World}{A:Around}{R:Result->Shared->Prop}{s:Shared}
end
end L2
namespace Dd
open PySem PySem.Spec PyProof.Rows L2
section
variable {X:Cx}{g:DG}{tc:DT}{te:DE}
variable {elt iter tg cnd:Expr}{scope:Scope}{pos:Pos}{N':List Str}{fr:List (Option Nat)}{tl:DE}{ta:DA}{oN:List Str}{osc:Scope}
end
open Mz
section
variable {X:Cx}{o e f:Expr}{to te tf:DE}
end
section
variable {X:Cx}{pins:List (Addr×Obj)}{σ:L2.St}{H:Hp}{s:Shared}
end
section
variable {X:Cx}{o:Expr}{to:DE}
end
section
variable {X:Cx}{g:DG}{tc:DT}{te:DE}
variable {elt iter tg cnd:Expr}{scope:Scope}{pos:Pos}{N':List Str}{fr:List (Option Nat)}{tl:DE}{ta:DA}{oN:List Str}{osc:Scope}
end
section
variable {X:Cx}{o e f:Expr}{to te tf:DE}
end
section
variable {X:Cx}{pins:List (Addr×Obj)}{σ:L2.St}{H:Hp}{s:Shared}
end
section
variable {X:Cx}{o:Expr}{to:DE}
end
section
variable {P:Program}{w:World}{K:Frag}{mg:Str->Option Value}{base:Heap}
end
section
variable {X:Cx}{n x:Str}{C a:Addr}{o:Obj}{p p1 pos:Pos}{j k k':Nat}{sp:Addr->DM->DQ->Prop}
end
section
open PySem.SeqAt
open PySem.AutoSeq1 (wpAny_loadPart')
open PySem.MeetsSeq PySem.MeetsSeq2 PySem.MeetsSeq3
end
section
variable {prog:Program}{w:World}{A:Around}{E:Value->Shared->Prop}{s:Shared}
end
section
variable {X:Cx}{j:Nat}
end
theorem us0 {us:List Value}(h:us.length=0):us=[]:=List.length_eq_zero_iff.mp h
theorem us1 {us:List Value}(h:us.length=1):∃a,us=[a]:=List.length_eq_one_iff.mp h
theorem us2 {us:List Value}(h:us.length=2):∃a b,us=[a,b]:=by
 cases us with
 |nil=>cases h
 |cons a r=>obtain⟨b,rfl⟩:=us1 (us:=r) (Nat.succ.inj h);exact⟨a,b,rfl⟩
theorem us3 {us:List Value}(h:us.length=3):∃a b c,us=[a,b,c]:=by
 cases us with
 |nil=>cases h
 |cons a r=>obtain⟨b,c,rfl⟩:=us2 (us:=r) (Nat.succ.inj h);exact⟨a,b,c,rfl⟩
theorem us4 {us:List Value}(h:us.length=4):∃a b c d,us=[a,b,c,d]:=by
 cases us with
 |nil=>cases h
 |cons a r=>obtain⟨b,c,d,rfl⟩:=us3 (us:=r) (Nat.succ.inj h);exact⟨a,b,c,d,rfl⟩
noncomputable instance aKe:DecidableEq D:=λa b=>Classical.propDecidable (a=b)
noncomputable def dN:Nat->D->Bool
 |_,.int _=>true
 |_,.str _=>true
 |n+1,.tup ds=>ds.all (dN n)
 |_,_=>false
mutual
noncomputable def lP (w:World):D->Int
 |.int i=>aGV w (.inl i)
 |.str x=>aGV w (.inr x)
 |.tup ds=>reduceHash (Builtin.Tuple.tupleHashOf (jU w ds))
 |_=>0
noncomputable def jU (w:World):List D->List Int
 |[]=>[]
 |d::ds=>lP w d::jU w ds
end
mutual
noncomputable def rK:D->Nat
 |.tup ds=>eL ds+1
 |_=>1
noncomputable def eL:List D->Nat
 |[]=>0
 |d::ds=>rK d+eL ds
end
mutual
def IsK (h:Heap):D->Value->Prop
 |.int i,v=>∃t,v=.int i t
 |.str x,v=>∃t,v=.str x t
 |.tup ds,v=>∃a its,v=.ref a/\IsTup h a its/\dP h ds its.toList
 |_,_=>False
def dP (h:Heap):List D->List Value->Prop
 |[],vs=>vs=[]
 |d::ds,vs=>∃v r,vs=v::r/\IsK h d v/\dP h ds r
end
theorem cN {h:Heap}{vs:List Value}(x:dP h [] vs):vs=[]:=by unfold dP at x;exact x
theorem bO {h:Heap}{d:D}{ds:List D}{vs:List Value}(x:dP h (d::ds) vs):∃v r,vs=v::r/\IsK h d v/\dP h ds r:=by unfold dP at x;exact x
theorem cV {h:Heap}{ds:List D}{v:Value}(x:IsK h (.tup ds) v):∃a its,v=.ref a/\IsTup h a its/\dP h ds its.toList:=by unfold IsK at x;exact x
theorem cB {h:Heap}{i:Int}{v:Value}(x:IsK h (.int i) v):∃t,v=.int i t:=by unfold IsK at x;exact x
theorem cA {h:Heap}{i:Str}{v:Value}(x:IsK h (.str i) v):∃t,v=.str i t:=by unfold IsK at x;exact x
theorem eQ {n:Nat}{ds:List D}(h:dN n (.tup ds)=true):∃m,n=m+1/\ds.all (dN m)=true:=by
 cases n with
 |zero=>exact absurd h Bool.false_ne_true
 |succ m=>exact⟨m,rfl,h⟩
theorem lU (w:World):∀ds:List D,jU w ds=ds.map (lP w)
 |[]=>by unfold jU;rfl
 |d::ds=>by unfold jU;rw[lU w ds];rfl
theorem kC (d:D):∀ds:List D,eL (ds++[d])=eL ds+rK d
 |[]=>by show eL [d]=_;unfold eL;unfold eL;omega
 |e::ds=>by show eL (e::(ds++[d]))=_;unfold eL;rw[kC d ds];omega
section
variable {prog:Program}{w:World}
theorem aEf:∀(n:Nat){A:Around} {E:Value->Shared->Prop} {s:Shared} {d:D} {v:Value} {Q:Int->Shared->Prop},dN n d=true->A.units+n<cLine->IsK s.heap d v ->
  Q (lP w d) { s with toks:=s.toks+rK d }->wpAny (model prog w) A (pyHash v) Q E s:=by
 intro n
 induction n with
 |zero =>
  intro A E s d v Q hk hu hi q;cases d with
  |int i=>obtain⟨t,rfl⟩:=cB hi;exact wpAny_pyHash_int q
  |str i=>obtain⟨t,rfl⟩:=cA hi;exact wpAny_pyHash_str q
  |_=>exact absurd hk Bool.false_ne_true
 |succ n ih =>
  intro A E s d v Q hk hu hi q;cases d with
  |int i=>obtain⟨t,rfl⟩:=cB hi;exact wpAny_pyHash_int q
  |str i=>obtain⟨t,rfl⟩:=cA hi;exact wpAny_pyHash_str q
  |tup ds =>
   obtain⟨a,its,rfl,ht,hs⟩:=cV hi;obtain⟨o,ho,hc,m,hd⟩:=ht;have hT:s.TypeIs (.ref a) "tuple":=⟨o,ho,hc⟩;unfold pyHash pyHashByItsType;refine wpAny_bind (wpAny_cRoomFor_or (.inr (by omega)) ?_);refine wpAny_bind (wpAny_specialOf hT F.slot_tuple_hash.lookup ?_);show wpAny _ _ (if (some (Value.builtin "tuple.__hash__")==some Value.none)=true then _ else _) Q E s;rw[if_neg (by rw[beq_builtin_none];exact Bool.false_ne_true)];refine wpAny_bind (wpAny_specialOf hT F.slot_tuple_hash.lookup ?_);show wpAny _ _ (callSpecialIfBoundUnlessNone? (.ref a) "__hash__" _ >>= _) Q E s;refine wpAny_bind (wpAny_callSpecialIfBoundUnlessNone?_slot hT F.slot_tuple_hash (wpAny_call_entry F.slot_tuple_hash hT F.entry_tuple_hash ?_ (F.args_tuple_hash_1 _)));obtain⟨n',en,hk⟩:=eQ hk;cases en;show wpAny _ _ (Builtin.Tuple.tupleItemsOf (.ref a) >>= _) _ _ s;refine wpAny_bind (wpAny_tupleItemsOf ho hd ?_);refine wpAny_bind ?_;rw[<- Array.forIn_toList];refine wpAny_forIn_list _ (λbV (b:Array Int) s'=>∃done left,ds=done++left/\dP s.heap left bV/\b.toList=jU w done/\s' = { s with toks:=s.toks+eL done }) _ ?_ ?_ _ _ ⟨[],ds,rfl,hs,by unfold jU;rfl,by unfold eL;rfl⟩
   ·rintro x bV b s' ⟨done,left,e1,hl,hb,rfl⟩;cases left with
    |nil=>exact nomatch cN hl
    |cons d1 left =>
     obtain⟨x',r',e2,h1,hl⟩:=bO hl;cases e2;have hk1:dN n d1=true:=List.all_eq_true.mp hk d1 (by rw[e1];exact mem_append_right _ mem_cons_self);refine wpAny_bind (ih (s:={ s with toks:=s.toks+eL done }) hk1 (by show A.units+1+n<cLine;omega) h1 ?_);refine wpAny_pure ⟨done++[d1],left,by rw[e1,append_assoc];rfl,hl,?_,?_⟩
     ·rw[lU,map_append,<- lU,<- hb];simp
     ·rw[kC,Nat.add_assoc]
   ·rintro b s' ⟨done,left,e1,hl,hb,rfl⟩;have:left=[]:=by
     cases left with
     |nil=>rfl
     |cons d1 left=>obtain⟨_,_,z,_⟩:=bO hl;exact nomatch z
    subst this;rw[append_nil] at e1;subst e1;show wpAny _ _ (retInt (Builtin.Tuple.tupleHashOf b.toList)) _ _ _;rw[hb];refine wpAny_ret_mkInt ?_;unfold lP rK at q;generalize Builtin.Tuple.tupleHashOf (jU w ds)=z at q ⊢;show wpAny _ _ (if (decide (-(2:Int)^63<=z)&&decide (z<2^63))=true then _ else _) Q E _;unfold reduceHash at q;by_cases hr:(decide (-(2:Int)^63<=z)&&decide (z<2^63))=true
    ·rw[if_pos hr] at q ⊢;exact wpAny_pure (by simpa[Nat.add_assoc] using q)
    ·rw[if_neg hr] at q ⊢;exact wpAny_bind (wpAny_rule (wpAny_pure (by simpa[Nat.add_assoc] using q)))
  |_=>exact absurd hk Bool.false_ne_true
theorem aCe:∀(n m:Nat){A:Around} {E:Value->Shared->Prop} {s:Shared} {d:D} {v:Value} {Q:Bool->Shared->Prop},n<=m->dN n d=true->IsK s.heap d v->Q true s->wpAny (model prog w) A (eqIsQuiet m v) Q E s:=by
 intro n
 induction n with
 |zero =>
  intro m A E s d v Q hm hk hi q;cases d with
  |int i=>obtain⟨t,rfl⟩:=cB hi;rw[eqIsQuiet_byValue m rfl];exact wpAny_pure q
  |str i=>obtain⟨t,rfl⟩:=cA hi;rw[eqIsQuiet_byValue m rfl];exact wpAny_pure q
  |_=>exact absurd hk Bool.false_ne_true
 |succ n ih =>
  intro m A E s d v Q hm hk hi q;cases d with
  |int i=>obtain⟨t,rfl⟩:=cB hi;rw[eqIsQuiet_byValue m rfl];exact wpAny_pure q
  |str i=>obtain⟨t,rfl⟩:=cA hi;rw[eqIsQuiet_byValue m rfl];exact wpAny_pure q
  |tup ds =>
   obtain⟨a,its,rfl,ht,hs⟩:=cV hi;obtain⟨o,ho,hc,k,hd⟩:=ht;have hT:s.TypeIs (.ref a) "tuple":=⟨o,ho,hc⟩;obtain⟨n',en,hk⟩:=eQ hk;cases en;cases m with
   |zero=>omega
   |succ m =>
    unfold eqIsQuiet;refine wpAny_bind (wpAny_specialOf hT F.slot_tuple_eq.lookup ?_);show wpAny _ _ (isInstance (.ref a) (.type "tuple") >>= _) _ _ s;refine wpAny_bind (wpAny_isInstance hT isSubtype_tuple_tuple ?_);simp only[Bool.not_true,Bool.false_eq_true,if_false];refine wpAny_bind (wpAny_seqItems ho hd ?_);refine wpAny_bind ?_;show wpAny _ _ (forIn its _ _) _ _ s;rw[<- Array.forIn_toList];refine wpAny_forIn_list _ (λbV r s'=>r.1=none/\s'=s/\∃left,left.all (dN n)=true/\dP s.heap left bV) _ ?_ ?_ _ _ ⟨rfl,rfl,ds,hk,hs⟩
    ·rintro x bV r s' ⟨hr,rfl,left,hl,hx⟩;cases left with
     |nil=>exact nomatch cN hx
     |cons d1 left =>
      obtain⟨x',r',e2,h1,hx⟩:=bO hx;cases e2;rw[all_cons,Bool.and_eq_true] at hl;refine wpAny_bind (ih m (by omega) hl.1 h1 ?_);simp only[Bool.not_true,Bool.false_eq_true,if_false];exact wpAny_pure ⟨rfl,rfl,left,hl.2,hx⟩
    ·rintro⟨r1,r2⟩ s' ⟨hr,rfl,_⟩;simp only at hr;subst hr;exact wpAny_pure q
  |_=>exact absurd hk Bool.false_ne_true
end
mutual
theorem iV:∀{n:Nat}{x y:D},dN n x=true->dN n y=true->eqD x y=decide (x=y)
 |n,.int i,y,h,h'=>by
  cases y with
  |int j=>simp[eqD];exact Bool.eq_iff_iff.mpr (by rw[beq_iff_eq,decide_eq_true_eq])
  |str j=>simp[eqD]
  |tup j=>simp[eqD]
  |_=>cases n<;>exact absurd h' Bool.false_ne_true
 |n,.str i,y,h,h'=>by
  cases y with
  |int j=>simp[eqD]
  |str j=>simp[eqD];exact Bool.eq_iff_iff.mpr (by rw[beq_iff_eq,decide_eq_true_eq])
  |tup j=>simp[eqD]
  |_=>cases n<;>exact absurd h' Bool.false_ne_true
 |n,.tup ds,y,h,h'=>by
  obtain⟨m,rfl,h⟩:=eQ h;cases y with
  |int j=>simp[eqD]
  |str j=>simp[eqD]
  |tup es =>
   have:=vV h h';show fR ds es=_;rw[this];simp
  |_=>exact absurd h' Bool.false_ne_true
 |n,.non,y,h,h'=>by cases n<;>exact absurd h Bool.false_ne_true
 |n,.bl _,y,h,h'=>by cases n<;>exact absurd h Bool.false_ne_true
 |n,.fz _,y,h,h'=>by cases n<;>exact absurd h Bool.false_ne_true
 |n,.ref _,y,h,h'=>by cases n<;>exact absurd h Bool.false_ne_true
theorem vV:∀{n:Nat}{xs ys:List D},xs.all (dN n)=true->ys.all (dN n)=true->fR xs ys=decide (xs=ys)
 |n,[],ys,h,h'=>by cases ys<;>simp[fR]
 |n,x::xs,ys,h,h'=>by
  cases ys with
  |nil=>simp[fR]
  |cons y ys =>
   rw[all_cons,Bool.and_eq_true] at h h';show(eqD x y&&fR xs ys)=_;rw[iV h.1 h'.1,vV h.2 h'.2];by_cases e1:x=y<;>by_cases e2:xs=ys<;>simp[e1,e2]
end
mutual
theorem IsK.inj {h:Heap}:∀{x y:D}{v:Value},IsK h x v->IsK h y v->x=y
 |.int i,y,v,a,b=>by
  obtain⟨t,rfl⟩:=cB a;cases y with
  |int j=>obtain⟨t,e⟩:=cB b;cases e;rfl
  |str j=>obtain⟨t,e⟩:=cA b;exact nomatch e
  |tup j=>obtain⟨_,_,e,_⟩:=cV b;exact nomatch e
  |_=>unfold IsK at b;exact b.elim
 |.str i,y,v,a,b=>by
  obtain⟨t,rfl⟩:=cA a;cases y with
  |int j=>obtain⟨t,e⟩:=cB b;exact nomatch e
  |str j=>obtain⟨t,e⟩:=cA b;cases e;rfl
  |tup j=>obtain⟨_,_,e,_⟩:=cV b;exact nomatch e
  |_=>unfold IsK at b;exact b.elim
 |.tup ds,y,v,a,b=>by
  obtain⟨p,its,rfl,ht,hs⟩:=cV a;cases y with
  |int j=>obtain⟨t,e⟩:=cB b;exact nomatch e
  |str j=>obtain⟨t,e⟩:=cA b;exact nomatch e
  |tup es =>
   obtain⟨q,its',e,ht',hs'⟩:=cV b;cases e;obtain⟨o,ho,_,_,hd⟩:=ht;obtain⟨o',ho',_,_,hd'⟩:=ht';rw[ho] at ho';cases ho';rw[hd] at hd';cases hd';rw[dP.inj hs hs']
  |_=>unfold IsK at b;exact b.elim
 |.non,y,v,a,b=>by unfold IsK at a;exact a.elim
 |.bl _,y,v,a,b=>by unfold IsK at a;exact a.elim
 |.fz _,y,v,a,b=>by unfold IsK at a;exact a.elim
 |.ref _,y,v,a,b=>by unfold IsK at a;exact a.elim
theorem dP.inj {h:Heap}:∀{xs ys:List D}{vs:List Value},dP h xs vs->dP h ys vs->xs=ys
 |[],ys,vs,a,b=>by
  cases ys with
  |nil=>rfl
  |cons y ys=>obtain⟨_,_,e,_⟩:=bO b;rw[cN a] at e;exact nomatch e
 |x::xs,ys,vs,a,b=>by
  obtain⟨v,r,rfl,a1,a2⟩:=bO a;cases ys with
  |nil=>exact nomatch cN b
  |cons y ys =>
   obtain⟨v',r',e,b1,b2⟩:=bO b;cases e;rw[IsK.inj a1 b1,dP.inj a2 b2]
end
mutual
theorem IsK.keep {h h':Heap}(k:∀a its,IsTup h a its->IsTup h' a its):∀{x:D}{v:Value},IsK h x v->IsK h' x v
 |.int _,_,a=>by unfold IsK at a ⊢;exact a
 |.str _,_,a=>by unfold IsK at a ⊢;exact a
 |.tup ds,_,a=>by obtain⟨p,its,rfl,ht,hs⟩:=cV a;unfold IsK;exact⟨p,its,rfl,k p its ht,dP.keep k hs⟩
 |.non,_,a=>by unfold IsK at a;exact a.elim
 |.bl _,_,a=>by unfold IsK at a;exact a.elim
 |.fz _,_,a=>by unfold IsK at a;exact a.elim
 |.ref _,_,a=>by unfold IsK at a;exact a.elim
theorem dP.keep {h h':Heap}(k:∀a its,IsTup h a its->IsTup h' a its):∀{xs:List D}{vs:List Value},dP h xs vs->dP h' xs vs
 |[],_,a=>by unfold dP at a ⊢;exact a
 |x::xs,_,a=>by obtain⟨v,r,rfl,a1,a2⟩:=bO a;unfold dP;exact⟨v,r,rfl,a1.keep k,dP.keep k a2⟩
end
theorem sO {A:Around}{s:Shared}{n:Nat}(ih:∀{d d':D}{u u':Value},dN n d=true->dN n d'=true->IsK s.heap d u->IsK s.heap d' u'->SeqAt.EqAt A s u u' (eqD d d')) :
  ∀{xs ys:List D}{its its':List Value},xs.all (dN n)=true->ys.all (dN n)=true->dP s.heap xs its->dP s.heap ys its'->∀j (h1:j<its.length) (h2:j<its'.length),SeqAt.EqAt A s its[j] its'[j] (nR xs ys j)
 |[],ys,its,its',_,_,r1,_,j,h1,_=>by rw[cN r1] at h1;exact absurd h1 (Nat.not_lt_zero _)
 |_::_,[],its,its',_,_,_,r2,j,_,h2=>by rw[cN r2] at h2;exact absurd h2 (Nat.not_lt_zero _)
 |x::xs,y::ys,its,its',p1,p2,r1,r2,j,h1,h2=>by
  obtain⟨a,ra,rfl,ha,hra⟩:=bO r1;obtain⟨b,rb,rfl,hb,hrb⟩:=bO r2;rw[all_cons,Bool.and_eq_true] at p1 p2;cases j with
  |zero=>exact ih p1.1 p2.1 ha hb
  |succ j=>exact sO ih p1.2 p2.2 hra hrb j (Nat.lt_of_succ_lt_succ h1) (Nat.lt_of_succ_lt_succ h2)
theorem dP.length {h:Heap}:∀{xs:List D}{vs:List Value},dP h xs vs->xs.length=vs.length
 |[],_,a=>by rw[cN a];rfl
 |x::xs,_,a=>by obtain⟨v,r,rfl,_,a2⟩:=bO a;rw[length_cons,length_cons,dP.length a2]
theorem uT:∀(n:Nat){A:Around} {s:Shared} {d d':D} {u u':Value},A.units+n<cLine->dN n d=true->dN n d'=true->IsK s.heap d u->IsK s.heap d' u'->SeqAt.EqAt A s u u' (eqD d d'):=by
 intro n
 induction n with
 |zero =>
  intro A s d d' u u' hu p p' r r';cases d with
  |int i =>
   obtain⟨t,rfl⟩:=cB r;cases d' with
   |int j=>obtain⟨t',rfl⟩:=cB r';exact SeqAt.EqAt.int_int i t j t'
   |str j=>obtain⟨t',rfl⟩:=cA r';exact SeqAt.EqAt.int_str i t j t'
   |_=>exact absurd p' Bool.false_ne_true
  |str i =>
   obtain⟨t,rfl⟩:=cA r;cases d' with
   |int j=>obtain⟨t',rfl⟩:=cB r';exact SeqAt.EqAt.str_int i t j t'
   |str j=>obtain⟨t',rfl⟩:=cA r';exact SeqAt.EqAt.str_str i t j t'
   |_=>exact absurd p' Bool.false_ne_true
  |_=>exact absurd p Bool.false_ne_true
 |succ n ih =>
  intro A s d d' u u' hu p p' r r';cases d with
  |int i =>
   obtain⟨t,rfl⟩:=cB r;cases d' with
   |int j=>obtain⟨t',rfl⟩:=cB r';exact SeqAt.EqAt.int_int i t j t'
   |str j=>obtain⟨t',rfl⟩:=cA r';exact SeqAt.EqAt.int_str i t j t'
   |tup j=>obtain⟨b,its,rfl,ht,_⟩:=cV r';exact SeqAt.EqAt.int_tuple i t ht (by omega)
   |_=>exact absurd p' Bool.false_ne_true
  |str i =>
   obtain⟨t,rfl⟩:=cA r;cases d' with
   |int j=>obtain⟨t',rfl⟩:=cB r';exact SeqAt.EqAt.str_int i t j t'
   |str j=>obtain⟨t',rfl⟩:=cA r';exact SeqAt.EqAt.str_str i t j t'
   |tup j=>obtain⟨b,its,rfl,ht,_⟩:=cV r';exact SeqAt.EqAt.str_tuple i t ht (by omega)
   |_=>exact absurd p' Bool.false_ne_true
  |tup xs =>
   have r0:=r;obtain⟨a,its,rfl,ht,hs⟩:=cV r;cases d' with
   |int j=>obtain⟨t',rfl⟩:=cB r';exact SeqAt.EqAt.tuple_int j t' ht (by omega)
   |str j=>obtain⟨t',rfl⟩:=cA r';exact SeqAt.EqAt.tuple_str j t' ht (by omega)
   |tup ys =>
    have r0':=r';obtain⟨a',its',rfl,ht',hs'⟩:=cV r';by_cases hll:a=a'
    ·subst hll;rw[iV p p',decide_eq_true (r0.inj r0')];exact SeqAt.EqAt.same _
    ·have e1:=hs.length;have e2:=hs'.length;show SeqAt.EqAt A s (.ref a) (.ref a') (fR xs ys);rw[fE,show xs.length=its.size by simpa using e1,show ys.length=its'.size by simpa using e2];refine SeqAt.EqAt.of_refs hll (SeqAt.RcAt.tuples ht ht' (by omega) λj j1 j2=>?_);have hu':A.in1.units+n<cLine:=by show A.units+1+n<cLine;omega
     have:=sO (A:=A.in1) (s:=s) (λ{d d' u u'} p p' r r'=>ih hu' p p' r r') p p' hs hs' j (by simpa using j1) (by simpa using j2);simpa using this
   |_=>exact absurd p' Bool.false_ne_true
  |_=>exact absurd p Bool.false_ne_true
noncomputable def kW (prog:Program)(w:World):HeapKind prog w D where
 is:=λh k a=>dN 6 k=true/\IsK h k (.ref a)
 hash:=lP w
 draws:=rK
 room:=λA=>A.units+6<cLine
 inj:=λx y=>x.2.inj y.2
 keeps:=λx ho hd hs=>⟨x.1,x.2.keep λa its ⟨o,h1,h2,n,h3⟩=>⟨o,(hs.2 a (λe=>by subst e;rw[h1] at ho;cases ho;rw[h3] at hd;exact nomatch hd)).trans h1,h2,n,h3⟩⟩
 pyHash:=λhu hk h=>aEf 6 hk.1 hu hk.2 h
 eqBool:=λhu hx hy h=>uT 6 hu hx.1 hy.1 hx.2 hy.2 _ _ _ _ (by rw[iV hx.1 hy.1];exact h)
 quiet:=λhk h=>aCe 6 8 (by decide) hk.1 hk.2 h
def xT (h:Heap)(d:Addr)(es:Array DictEntry)(ep:Nat):Prop:=h.get? d = some { cls:=.type "dict",data:=.dict es ep }
section
variable {prog:Program}{w:World}{A:Around}{E:Value->Shared->Prop}{s:Shared}{it d:Addr}{i ep:Nat}{es:Array DictEntry}
theorem xO {Q:Option Value->Shared->Prop}(hi:i<es.size)(ht:s.heap.IsKeyIter it d i es.size ep)(hm:xT s.heap d es ep)(hQ:∀h',h'.IsKeyIter it d (i+1) es.size ep->Heap.SameBut it s.heap h'->Q (some es[i].key) { s with heap:=h' }):wpAny (model prog w) A (pyNext (.ref it)) Q E s:=by
 have hT:=ht.typeIs;obtain⟨⟨c,di,dt,sl⟩,ho,hc,hd⟩:=id ht;cases hc;cases hd;have nm:((Manifest.find? "dict_keyiterator").elim "dict_keyiterator" λx=>x.tpName) = "dict_keyiterator":=by rw[find?_eq_fast];kernel_rfl
 have ow:Builtin.Dict_items.ownsTuple "dict_keyiterator"=false:=by decide
 unfold pyNext;refine wpAny_bind (wpAny_attempt (wpAny_callSpecial?_slot hT F.slot_dict_keyiterator_next (wpAny_call_entry F.slot_dict_keyiterator_next hT F.entry_dict_keyiterator_next ?_ (F.args_dict_keyiterator_next_1 _))))
 wp_walk
 have ei:(if (i:Int)<0 then none else es[(i:Int).toNat]?)=some es[i]:=by rw[if_neg (by omega),Int.toNat_natCast];exact Array.getElem?_eq_getElem hi
 rw[ei];dsimp only
 wp_walk
 refine⟨_,rfl,wpAny_pure (hQ _ ?_ (Heap.SameBut.update ..))⟩;refine⟨_,Heap.get?_update_self _ ho rfl,rfl,?_⟩;rw[nm,ow,if_neg (by decide),if_neg (by decide)];rfl
theorem aAr {Q:Option Value->Shared->Prop}(hh:A.handled=none)(ht:s.heap.IsKeyIter it d es.size es.size ep)(hm:xT s.heap d es ep)(hQ:∀h',Heap.ExtBut it s.heap h'->Q none { s with heap:=h' }):wpAny (model prog w) A (pyNext (.ref it)) Q E s:=by
 have hT:=ht.typeIs;obtain⟨⟨c,di,dt,sl⟩,ho,hc,hd⟩:=id ht;cases hc;cases hd;have nm:((Manifest.find? "dict_keyiterator").elim "dict_keyiterator" λx=>x.tpName) = "dict_keyiterator":=by rw[find?_eq_fast];kernel_rfl
 have ow:Builtin.Dict_items.ownsTuple "dict_keyiterator"=false:=by decide
 unfold pyNext;refine wpAny_bind (wpAny_attempt (wpAny_callSpecial?_slot hT F.slot_dict_keyiterator_next (wpAny_call_entry F.slot_dict_keyiterator_next hT F.entry_dict_keyiterator_next ?_ (F.args_dict_keyiterator_next_1 _))))
 wp_walk
 have ei:(if (es.size:Int)<0 then none else es[(es.size:Int).toNat]?)=none:=by rw[if_neg (by omega),Int.toNat_natCast];exact Array.getElem?_eq_none (Nat.le_refl _)
 rw[ei];dsimp only
 wp_walk
 generalize hu:s.heap.update it _=h1;have k1:Heap.ExtBut it s.heap h1:=by rw[<- hu];exact(Heap.SameBut.update ..).extBut
 unfold raiseNew;refine wpAny_bind (wpAny_handled ?_);rw[show A.in1.handled=none from hh];refine wpAny_bind (wpAny_pure (wpAny_throw ?_));refine wpAny_bind (wpAny_isInstance (T:="StopIteration") (b:=true) ⟨_,Heap.get?_push_size _ rfl,rfl⟩ isSubtype_stop (wpAny_pure ?_));exact hQ _ λb o hb e=>Heap.get?_push_of_some _ (Heap.get?_push_of_some _ (k1 b o hb e))
theorem xN {Q:Value->Shared->Prop}(hs:(d==sysModules)=false)(hm:xT s.heap d es ep)(hQ:Q (.ref s.heap.objs.size) { s with heap:=s.heap.push { cls:=.type "dict_keyiterator",data:=.fields #[.ref d,.int 0 0,.int es.size 0,.int ep 0] } }):wpAny (model prog w) A (pyIter (.ref d)) Q E s:=by have hT:s.TypeIs (.ref d) "dict":=⟨_,hm,rfl⟩;refine wpAny_pyIter_slot hT F.slot_dict_iter (wpAny_call_entry F.slot_dict_iter hT F.entry_dict_iter ?_ (F.args_dict_iter_1 _));unfold Builtin.«dict.__iter__» Builtin.Dict.dictSlotNone;refine wpAny_bind (wpAny_bind (wpAny_notOrdered_dict hT ?_));show wpAny _ _ (pure (Value.ref d)) _ _ s;refine wpAny_pure ?_;show wpAny _ _ (Builtin.Dict.showsAll d >>= _) _ _ s;unfold Builtin.Dict.showsAll;rw[if_neg (by rw[hs];exact Bool.false_ne_true)];refine wpAny_bind (wpAny_pure (wpAny_bind (wpAny_dictEntries hm rfl (wpAny_bind (wpAny_dictEpoch hm rfl ?_)))));exact wpAny_bind (wpAny_newObj_type (wpAny_pure ⟨_,rfl,"dict_keyiterator",_,⟨_,Heap.get?_push_size _ rfl,rfl⟩,F.slot_dict_keyiterator_next.lookup,hQ⟩))
end
noncomputable def dS (w:World)(kvs:List (D×D)):List D:=kvs.map λp=>.tup [.int (lP w p.1),p.1,p.2]
structure TK (kvs:List (D×D)):Prop where
 key:∀p∈kvs,(∃ds,p.1=.tup ds)/\dN 6 p.1=true
 nd:(kvs.map (·.1)).Nodup
noncomputable def uO (kvs:List (D×D))(k v:D):List (D×D):=if k∈kvs.map (·.1) then kvs.map (λp=>if p.1=k then (p.1,v) else p) else kvs++[(k,v)]
noncomputable def rQ (kvs:List (D×D))(k:D):Option D:=(kvs.find? λp=>decide (p.1=k)).map (·.2)
theorem TK.nil:TK []:=⟨(λ_ h=>(nomatch h)),List.nodup_nil⟩
theorem aCA {kvs:List (D×D)}{k v:D}:(uO kvs k v).length<=kvs.length+1:=by
 unfold uO;split
 ·rw[length_map];omega
 ·rw[length_append];exact Nat.le_refl _
def KX (K:Frag)(H:Hp)(p:D×D)(x:D×Addr×Value):Prop:=p.1=x.1/\Rep K H p.1 (.ref x.2.1)/\∃vv,RelV vv x.2.2/\Rep K H p.2 vv
section
variable {X:Cx}{pins:List (Addr×Obj)}{σ:L2.St}{H:Hp}{s:Shared}
mutual
theorem lQ (I:Inv X pins σ H s):∀{n:Nat}{d:D} {v:V} {u:Value},dN n d=true->Rep X.K H d v->RelV v u->IsK s.heap d u
 |n,.int i,v,u,hk,r,q=>by rw[aQ r] at q;unfold IsK;exact q
 |n,.str i,v,u,hk,r,q=>by rw[cW r] at q;unfold IsK;exact q
 |n,.tup ds,v,u,hk,r,q=>by obtain⟨m,rfl,hk⟩:=eQ hk;obtain⟨a,us,rfl,sq,rs⟩:=bI r;obtain⟨its,rv,ht,_⟩:=I.tuple sq;cases q;unfold IsK;exact⟨a,its.toArray,rfl,ht,by rw[List.toList_toArray];exact uF I hk rs rv⟩
 |n,.non,v,u,hk,r,q=>by cases n<;>exact absurd hk Bool.false_ne_true
 |n,.bl _,v,u,hk,r,q=>by cases n<;>exact absurd hk Bool.false_ne_true
 |n,.fz _,v,u,hk,r,q=>by cases n<;>exact absurd hk Bool.false_ne_true
 |n,.ref _,v,u,hk,r,q=>by cases n<;>exact absurd hk Bool.false_ne_true
theorem uF (I:Inv X pins σ H s):∀{n:Nat}{ds:List D} {vs:List V} {us:List Value},ds.all (dN n)=true->aY X.K H ds vs->bJ vs us->dP s.heap ds us
 |n,[],vs,us,hk,r,q=>by rw[bE r] at q;cases q;unfold dP;rfl
 |n,d::ds,vs,us,hk,r,q=>by
  obtain⟨v,rr,rfl,rv,rs⟩:=aN r;rw[all_cons,Bool.and_eq_true] at hk;cases q with
  |cons q1 q2 =>
   unfold dP;exact⟨_,_,rfl,lQ I hk.1 rv q1,uF I hk.2 rs q2⟩
end
theorem yF (I:Inv X pins σ H s):∀{kvs:List (D×D)}{es:List DictEntry},(∀p∈kvs,(∃ds,p.1=.tup ds)/\dN 6 p.1=true)->kU X.K H (dS X.w kvs) es ->
  ∃xs:List (D×Addr×Value),Paired (KX X.K H) kvs xs/\es=xs.map (entryOfKey (kW X.prog X.w))/\∀x∈xs,(kW X.prog X.w).is s.heap x.1 x.2.1
 |[],es,hk,r=>by cases r;exact⟨[],.nil,rfl,(λ_ h=>(nomatch h))⟩
 |p::kvs,es,hk,r=>by
  cases r with
  |@cons _ e _ es' re rr =>
   obtain⟨xs,h1,h2,h3⟩:=yF I (λq hq=>hk q (mem_cons_of_mem _ hq)) rr;obtain⟨k,v,kv,vv,e1,q1,r1,q2,r2⟩:=re;obtain⟨⟨ds,ek⟩,hn⟩:=hk p mem_cons_self;have e0:D.tup [.int (lP X.w p.1),p.1,p.2]=.tup [.int e.hash,k,v]:=e1;clear e1;injection e0 with e0
   injection e0 with e1 e2
   injection e2 with e2 e3
   injection e3 with e3 _
   injection e1 with e1
   subst e2;subst e3;have r1':=r1;rw[ek] at r1';obtain⟨a,us,rfl,_,_⟩:=bI r1';have qk:e.key=.ref a:=q1;obtain⟨eh,ekey,ev⟩:=e;cases qk;have e1:lP X.w p.1=eh:=e1;subst e1;refine⟨(p.1,a,ev)::xs,.cons ⟨rfl,r1,vv,q2,r2⟩ h1,?_,?_⟩
   ·rw[map_cons,<- h2];rfl
   ·intro x hx;rcases List.mem_cons.mp hx with z|z
    ·subst z;exact⟨hn,lQ I hn r1 rfl⟩
    ·exact h3 x z
theorem sK {K:Frag}{H:Hp}(prog:Program)(w:World):∀{kvs:List (D×D)}{xs:List (D×Addr×Value)},Paired (KX K H) kvs xs->kU K H (dS w kvs) (xs.map (entryOfKey (kW prog w)))
 |[],_,.nil=>.nil
 |p::kvs,x::xs,.cons r rr=>by obtain⟨e,r1,vv,q,r2⟩:=r;exact .cons ⟨p.1,p.2,.ref x.2.1,vv,by show D.tup [.int (lP w p.1),p.1,p.2]=.tup [.int (lP w x.1),p.1,p.2];rw[e],rfl,r1,q,r2⟩ (sK prog w rr)
theorem vG {K:Frag}{H:Hp}:∀{kvs:List (D×D)}{xs:List (D×Addr×Value)},Paired (KX K H) kvs xs->kvs.map (·.1)=xs.map (·.1)
 |[],_,.nil=>rfl
 |p::kvs,x::xs,.cons r rr=>by rw[map_cons,map_cons,r.1,vG rr]
theorem aAe {K:Frag}{H:Hp}{k:D}:∀{kvs:List (D×D)}{xs:List (D×Addr×Value)},Paired (KX K H) kvs xs->(atKey xs k).isSome=decide (k∈kvs.map (·.1))
 |[],_,.nil=>by simp[atKey]
 |p::kvs,x::xs,.cons r rr=>by
  have ih:=aAe (k:=k) rr;unfold atKey at ih ⊢;rw[List.find?_cons];by_cases h:x.1=k
  ·have:decide (x.1=k)=true:=decide_eq_true h;rw[this];simp[r.1,h]
  ·have:decide (x.1=k)=false:=decide_eq_false h;rw[this,ih];simp only[map_cons,mem_cons,r.1];by_cases h2:k∈kvs.map (·.1)
   ·simp[h2]
   ·simp[h2,Ne.symm h]
theorem aG2 {K:Frag}{H:Hp}{k v:D}{a:Addr}{u:Value}{vv:V}(rk:Rep K H k (.ref a))(q:RelV vv u)(rv:Rep K H v vv){kvs:List (D×D)}{xs:List (D×Addr×Value)}(r:Paired (KX K H) kvs xs) :
  Paired (KX K H) (uO kvs k v) (storedH xs k a u):=by
 have e:=aAe (k:=k) r;unfold uO storedH;by_cases h:k∈kvs.map (·.1)
 ·rw[decide_eq_true h] at e;rw[if_pos h,if_pos e];clear e h
  induction r with
  |nil=>exact .nil
  |@cons p x ps xs r1 rr ih =>
   refine .cons ?_ ih;unfold putAt;obtain⟨e1,r2,r3⟩:=r1;show KX K H (if p.1=k then (p.1,v) else p) (if x.1=k then (x.1,x.2.1,u) else x);by_cases z:p.1=k
   ·rw[if_pos z,if_pos (by rw[<- e1];exact z)];exact⟨e1,r2,vv,q,rv⟩
   ·rw[if_neg z,if_neg (by rw[<- e1];exact z)];exact⟨e1,r2,r3⟩
 ·rw[decide_eq_false h] at e;rw[if_neg h,if_neg (by rw[e];exact Bool.false_ne_true)];clear e h
  induction r with
  |nil=>exact .cons ⟨rfl,rk,vv,q,rv⟩ .nil
  |cons r1 rr ih=>exact .cons r1 ih
theorem Paired.len {α β:Type}{F:α->β->Prop}:∀{l:List α}{l':List β},Paired F l l'->l.length=l'.length
 |_,_,.nil=>rfl
 |_,_,.cons _ t=>by rw[length_cons,length_cons,Paired.len t]
theorem aCI {o:Obj}{es:Array DictEntry}{ep:Nat}(h:o.ExactDict)(d:o.data = .dict es ep):o = { cls:=.type "dict",data:=.dict es ep }:=by obtain⟨c,di,dt,sl⟩:=o;obtain⟨h1,h2,h3⟩:=h;cases h1;cases h2;cases h3;cases d;rfl
theorem wV {P:Program}{w:World}{H:Hp}{h:Heap}{a:Addr}{es:List DictEntry}(x:cC a es h):dR P w H h a (.ext (cC a es)) :=
 ⟨x,let ⟨_,_,_,e⟩:=x;⟨_,e⟩,λh1 h2 ⟨y1,y2,ep,e⟩ k=>⟨y1,y2,ep,k _ e⟩⟩
theorem pV (I:Inv X pins σ H s){a:Addr}{M:DM}{kvs:List (D×D)}(hm:bF X.K M H)(ha:M (.d a)=some (dS X.w kvs))(tk:TK kvs) :
  ∃xs,H a=some (.ext (cC a (xs.map (entryOfKey (kW X.prog X.w)))))/\Paired (KX X.K H) kvs xs/\s.heap.DictOfH (kW X.prog X.w) a xs/\(a==sysModules)=false/\xs.length<=sizeLine:=by
 obtain⟨es,hH,hr⟩:=hm.d a _ ha;obtain⟨xs,h1,rfl,h3⟩:=yF I tk.key hr;obtain⟨⟨hs,hz,ep,e⟩,_⟩:=I.hok a _ hH;refine⟨xs,hH,h1,⟨_,_,ep,e,⟨rfl,rfl,rfl⟩,rfl,by rw[List.toList_toArray],h3,?_⟩,hs,by simpa using hz⟩;rw[<- vG h1];exact tk.nd
theorem sJ (I:Inv X pins σ H s){a b:Addr}{kvs:List (D×D)}{k v:D}{u:Value}{vv:V}{xs:List (D×Addr×Value)}{h':Heap}{tk:Nat}(hH:H a=some (.ext (cC a (xs.map (entryOfKey (kW X.prog X.w))))))(hp:Paired (KX X.K H) kvs xs)(hs:(a==sysModules)=false)(hz:xs.length<sizeLine)(rk:Rep X.K H k (.ref b))(q:RelV vv u)(rv:Rep X.K H v vv)(hd':h'.DictOfH (kW X.prog X.w) a (storedH xs k b u))(hsb:Heap.SameBut a s.heap h') :
  Inv X pins σ (upd H a (.ext (cC a ((storedH xs k b u).map (entryOfKey (kW X.prog X.w)))))) { s with heap:=h',toks:=tk }/\kU X.K H (dS X.w (uO kvs k v)) ((storedH xs k b u).map (entryOfKey (kW X.prog X.w))):=by
 obtain⟨o,es,ep,ho,hx,hda,he,_,_⟩:=hd';have eo:=aCI hx hda;subst eo;have hp':=aG2 rk q rv hp;have lz:(storedH xs k b u).length<=sizeLine:=by have e1:=Paired.len hp';have e2:=Paired.len hp;have e3:=aCA (kvs:=kvs) (k:=k) (v:=v);omega
 refine⟨I.write (e:=a) (by rw[hH];exact True.intro) (.inl rfl) (λc o hc e=>hsb.extBut c o hc e) ⟨_,ho⟩ (wV ⟨hs,by rw[length_map];exact lz,ep,?_⟩),sK X.prog X.w hp'⟩;rw[ho,<- he]
def xX (k:D):Prop:=(∃ds,k=.tup ds)/\dN 6 k=true
theorem pR {K:Frag}{H:Hp}{k:D}{v:V}(h:xX k)(r:Rep K H k v):∃b,v=.ref b:=by obtain⟨⟨ds,e⟩,_⟩:=h;rw[e] at r;obtain⟨a,_,e,_⟩:=bI r;exact⟨a,e⟩
theorem aAI (hu:X.A.units+7<cLine):aGo X λo i v H Q=>∃p k d M kvs,o=.ref p/\Rep X.K H k i/\Rep X.K H d v/\bF X.K M H/\M (.d p)=some (dS X.w kvs)/\TK kvs/\kvs.length<1000/\xX k /\
  ∀H',bF X.K (oC M p (dS X.w (uO kvs k d))) H'->Ext H H'->Q H':=by
 intro pins s σ H o i v ov iv u Q I ro ri rv ⟨p,k,d,M,kvs,eo,rk,rd,hm,hp,tk,hl,hk,q⟩;subst eo;cases ro;obtain⟨b,rfl⟩:=pR hk rk;cases ri;obtain⟨xs,hH,hx,hd,hs,hz⟩:=pV I hm hp tk;have lx:=Paired.len hx;have hz':xs.length<sizeLine:=by rw[<- lx];exact dE (Nat.le_of_lt hl)
 refine wpAny_setItem_heap (hsz:=Nat.le_of_lt hz') (knd:=kW X.prog X.w) (by show X.A.units+1+6<cLine;omega) ⟨hk.2,lQ I hk.2 rk rfl⟩ hd λh' hd' hsb=>?_;obtain⟨I',en⟩:=sJ (tk:=s.toks+(kW X.prog X.w).draws k) I hH hx hs hz' rk rv rd hd' hsb;exact⟨_,I',q _ (hm.kput hH en) (Ext.putX hH _)⟩
end
section
variable {X:Cx}{pos:Pos}
def zQ (w:World)(to ti:DE):DG:=λd ρ M Q=>to ρ M λo M1=>ti ρ M1 λi M2=>match o with
 |.ref p=>∃kvs,M2 (.d p)=some (dS w kvs)/\TK kvs/\kvs.length<1000/\xX i/\Q ρ (oC M2 p (dS w (uO kvs i d)))
 |_=>False
theorem aDW {o i:Expr}{to ti:DE}(hu:X.A.units+7<cLine)(ho:PDE X o to)(hi:PDE X i ti)(ha:∀v,assign (.Subscript o i pos) X.env v=(do
   let ov <- holding [v] (eval o X.env)
   let iv <- holding [v,ov] (eval i X.env)
   standAt pos
   holding [v,ov,iv] (setItem ov iv v)
   release [v,ov,iv] []):=by intro _;rfl):PDG X (.Subscript o i pos) (zQ X.w to ti) :=
 uG (aB1 ho hi (aAI hu) ha) λv σ H Q ⟨d,ρ,M,Q',rd,re,hm,q,k⟩=>⟨ρ,M,_,re,hm,q,λov H1 ⟨dov,M1,rov,hm1,e1,q1⟩=>⟨ρ,M1,_,re.ext e1,hm1,q1,λiv H2 ⟨div,M2,riv,hm2,e2,q2⟩=>by
  cases dov with
  |ref p =>
   obtain⟨kvs,hp,tk,hl,hk,q2⟩:=q2;exact⟨p,div,d,M2,kvs,aM rov,riv,(rd.ext e1).ext e2,hm2,hp,tk,hl,hk,λH3 hm3 e3=>k _ _ ⟨ρ,_,((re.ext e1).ext e2).ext e3,hm3,(e1.trans e2).trans e3,q2⟩⟩
  |_=>exact q2.elim⟩⟩
noncomputable def aCl:D->D
 |.tup [_,k,_]=>k
 |d=>d
def aCp:DSp:=λds M Q=>match ds with
 |[.ref a]=>∃es,M (.d a)=some es/\∀p:Addr,M p=none->Q (.ref p) (aU M p (es.map aCl))
 |_=>False
theorem sL (w:World)(kvs:List (D×D)):(dS w kvs).map aCl=kvs.map (·.1):=by unfold dS;rw[map_map];rfl
theorem aDA {prog:Program}{w:World}{d:Addr}{es:Array DictEntry}{ep:Nat}(hs:(d==sysModules)=false) :
  PySem.W.KdlSrc prog w "dict" d d es.size (λi v=>es[i]?.map (·.key)=some v) (λh=>xT h d es ep) where
 type:=λ_ hm=>⟨_,hm,rfl⟩
 there:=λ_ hm=>⟨Heap.lt_size hm,Heap.lt_size hm⟩
 keep:=λ_ _ hm hk=>hk d (.inl rfl) _ hm
 notList:=by decide
 notTuple:=by decide
 hint:=λ_ _ _ _ hm hq=>PySem.W.kdl_hint_dict ⟨_,hm,rfl⟩ hq
 iter:=λA s hh hm=>⟨_,λi h=>h.IsKeyIter s.heap.objs.size d i es.size ep/\xT h d es ep,(λ_ _ hq=>xN hs hm hq),
  {
   sub:=λb hb=>(by simp at hb;simp[hb])
   frame:=λ_ _ _ st hk=>⟨let ⟨o,ho,r⟩:=st.1;⟨o,hk s.heap.objs.size (by simp) o ho,r⟩,hk d (by simp) _ st.2⟩
   item:=λi s1 Q E hi st hQ=>xO hi st.1 st.2 λh' ht hb=>hQ _ h' s1.toks (by rw[Array.getElem?_eq_getElem hi];rfl) ⟨ht,hb.extBut d _ (Nat.ne_of_lt (Heap.lt_size hm)) st.2⟩ λb o hb' e=>hb.extBut b o (λz=>hb' (by simp[z])) e
   done:=λs1 Q E st hQ=>aAr hh st.1 st.2 λh' he=>hQ h' s1.toks λb o hb e=>he b o (λz=>hb (by simp[z])) e
   self:=λ_ _ _ _ st hQ=>wpAny_pyIter_keyiter st.1 hQ },
  ⟨_,Heap.get?_push_size _ rfl,rfl,rfl⟩,Heap.get?_push_of_some _ hm⟩
theorem oH {K:Frag}{H:Hp}:∀{ds:List D}{es:List DictEntry},kU K H ds es->∃vs,bJ vs (es.map (·.key))/\aY K H (ds.map aCl) vs
 |[],_,.nil=>⟨[],.nil,cD⟩
 |d::ds,e::es,.cons r rr=>by obtain⟨vs,h1,h2⟩:=oH rr;obtain⟨k,v,kv,vv,rfl,q,r1,_,_⟩:=r;exact⟨kv::vs,.cons q h1,bU r1 h2⟩
theorem aCb (hc:X.calm = true):eB X (.type "list") aCp:=by
 intro pins s σ H xs us Q I r ⟨ds,M,Q',rs,hm,q,k⟩
 match ds,q with
 |[.ref a],q =>
  obtain⟨es,ha,q⟩:=q;obtain⟨v,rfl,rv⟩:=fS rs;obtain rfl:=aM rv;obtain⟨u,rfl,ru⟩:=pA r;cases ru;obtain⟨ens,hH,he⟩:=hm.d a es ha;obtain⟨⟨hs,hz,ep,e⟩,_⟩:=I.hok a _ hH;obtain⟨vs,hv,hr⟩:=oH he;have lv:=hv.length;rw[length_map] at lv;refine PySem.W.kdl_call (aDA (es:=ens.toArray) (ep:=ep) hs) (I.ok.hd hc) e (by rw[size_toArray];exact hz) λh' tk acc c kp hn ia=>?_;have ea:acc.toList=ens.map (·.key):=by
   refine List.ext_getElem? λi=>?_;rw[getElem?_map,Array.getElem?_toList];obtain⟨l1,l2⟩:=ia;cases hq:acc[i]? with
   |some v =>
    have this:Option.map (λx:DictEntry=>x.key) ens.toArray[i]?=some v:=l2 i v hq;rw[List.getElem?_toArray] at this;exact this.symm
   |none =>
    have hi:=Array.getElem?_eq_none_iff.mp hq;rw[l1,size_toArray] at hi;rw[List.getElem?_eq_none hi];rfl
  exact⟨.ref s.heap.objs.size,_,I.laid (t':=tk) kp (Nat.le_refl _) (show dR X.prog X.w _ h' _ (.lst vs) from⟨by omega,acc.toList,c,by rw[ea];exact hv,by rw[hn,Array.toArray_toList]⟩),rfl,
   k _ _ ⟨.ref _,_,cK,hm.lnew I.fresh hr,Ext.new I.fresh _,q _ (hm.fresh I.fresh)⟩⟩
def yP:DE:=λ_ M Q=>∀p:Addr,M (.d p)=none->Q (.ref p) (oC M p [])
theorem aBX:PDE X (.Dict [] [] pos) yP:=by
 intro pins s σ H Q I ⟨ρ,M,Q',re,hm,q,k⟩;have hn:=I.hok.fresh (Nat.le_refl s.heap.objs.size);have big:sysModules<s.heap.objs.size:=Nat.lt_trans (by decide) (I.mod.glob.keeps I.bk).lt;have I1:=I.laid (a:=s.heap.objs.size) (o:=.ext (cC s.heap.objs.size [])) (h':=s.heap.push { cls:=.type "dict",data:=.dict #[] }) (t':=s.toks) (λ_ _ q=>Heap.get?_push_of_some _ q) (Nat.le_refl _)
  (wV ⟨beq_eq_false_iff_ne.mpr (Ne.symm (Nat.ne_of_lt big)),Nat.zero_le _,0,Heap.get?_push_size _ rfl⟩)
 exact wpAny_Dict_empty ⟨.ref s.heap.objs.size,_,I1,rfl,k _ _ ⟨.ref _,_,cK,hm.knew hn .nil,Ext.new hn _,q _ (hm.freshD hn)⟩⟩
theorem aCv {o i:Expr}{to ti:DE}{kr:Nat}(hr:cO kr X.A)(ho:PDE X o to)(hi:PDE X i ti)(ha:∀v,assign (.Subscript o i pos) X.env v=(do
   let ov <- holding [v] (eval o X.env)
   let iv <- holding [v,ov] (eval i X.env)
   standAt pos
   holding [v,ov,iv] (setItem ov iv v)
   release [v,ov,iv] []):=by intro _;rfl):PDG X (.Subscript o i pos) (zQ X.w to ti):=aDW (by have:=hr.un;omega) ho hi ha
end
open PySem.W
noncomputable def dU (lt:Nat->Nat->Bool){α:Type}:KasT α->α
 |.ret a=>a
 |.ask i j k=>dU lt (k (lt i j))
theorem gA (lt:Nat->Nat->Bool){α β:Type}{f:α->KasT β}:∀t:KasT α,dU lt (t.bind f)=dU lt (f (dU lt t))
 |.ret _=>rfl
 |.ask i j k=>gA lt (k (lt i j))
structure PmR (n:Nat)(p:Array Nat):Prop where
 perm:p.toList.Perm (range n)
section
variable {n:Nat}{lt:Nat->Nat->Bool}{p:Array Nat}
theorem PmR.size (h:PmR n p):p.size=n:=by have:=h.perm.length_eq;simpa using this
theorem PmR.ub (h:PmR n p){i:Nat}(hi:i<n):p.getD i 0<n:=by
 have hs:=h.size;have:p.getD i 0=p[i]'(by omega):=by simp[Array.getD,show i<p.size by omega]
 rw[this];exact List.mem_range.mp (h.perm.mem_iff.mp (by simp))
theorem nG {q:Array Nat}{i j:Nat}(h:q[i]?=p[j]?):q.getD i 0=p.getD j 0:=by rw[Array.getD_eq_getD_getElem?,Array.getD_eq_getD_getElem?,h]
end
def dO (n:Nat){α:Type}(R:α->Prop):KasT α->Prop
 |.ret a=>R a
 |.ask i j k=>i<n/\j<n/\∀b,dO n R (k b)
theorem dO.bind {n:Nat}{α β:Type}{R:α->Prop}{R':β->Prop}{f:α->KasT β}(hf:∀a,R a->dO n R' (f a)):∀{t:KasT α},dO n R t->dO n R' (t.bind f)
 |.ret a,h=>hf a h
 |.ask i j k,h=>⟨h.1,h.2.1,λb=>dO.bind hf (h.2.2 b)⟩
theorem dO.ite {n:Nat}{α:Type}{R:α->Prop}{c:Prop}[Decidable c]{t u:KasT α}(h1:dO n R t)(h2:dO n R u):dO n R (if c then t else u):=by split<;>assumption
theorem wP {n:Nat}{lt:Nat->Nat->Bool}{cmp:Nat->Nat->(Bool->Shared->Prop)->Shared->Prop}{s:Shared}(hc:∀i j C,i<n->j<n->C (lt i j) s->cmp i j C s){α:Type}{R:α->Prop}{Q:α->Shared->Prop} :
  ∀(t:KasT α),dO n R t->Q (dU lt t) s->t.kasWp cmp Q s
 |.ret a,_,h=>h
 |.ask i j k,a,h=>hc i j _ a.1 a.2.1 (wP hc (k (lt i j)) (a.2.2 _) h)
def PB (n:Nat)(p:Array Nat):Prop:=∀i:Nat,p.getD i 0<n
theorem nS {n:Nat}{p q:Array Nat}(hn:0<n)(h:q.Perm p)(P:PB n p):PB n q:=λi=>by
 rw[Array.getD_eq_getD_getElem?];cases e:q[i]? with
 |none=>exact hn
 |some x =>
  have hx:x∈p:=h.mem_iff.mp (Array.mem_of_getElem? e);obtain⟨j,hj,rfl⟩:=Array.mem_iff_getElem.mp hx;have:=P j;rw[Array.getD_eq_getD_getElem?,Array.getElem?_eq_getElem hj] at this;exact this
section
variable {n:Nat}{p:Array Nat}
theorem zG (P:PB n p):∀f a,dO n (λ_=>True) (kas_asc p f a)
 |0,_=>True.intro
 |f+1,a=>⟨P _,P _,λc=>dO.ite True.intro (zG P f (a+1))⟩
theorem qA (hn:0<n):∀f (p:Array Nat) a q,PB n p->dO n (λr:Array Nat×Nat×Nat=>PB n r.1) (kas_desc f p a q)
 |0,p,a,q,P=>P
 |f+1,p,a,q,P=>⟨P _,P _,λc=>dO.ite (dO.ite (qA hn f _ _ _ (nS hn (mirror_perm ..) P)) (qA hn f _ _ _ P)) ⟨P _,P _,λd=>dO.ite P (qA hn f _ _ _ P)⟩⟩
theorem wX (hn:0<n)(P:PB n p)(k m:Nat):dO n (λr:Nat×Array Nat=>PB n r.2) (kas_tail3 k m p) :=
 by have P':PB n (kas_rev p 0 k):=nS hn (mirror_perm ..) P;unfold kas_tail3;refine dO.bind (R:=λ_=>True) (λ_ _=>?_) (zG P' _ _);exact P'
theorem oZ (hn:0<n)(P:PB n p)(k m:Nat):dO n (λr:Nat×Array Nat=>PB n r.2) (kas_descPart k m p) :=
 by unfold kas_descPart;exact dO.bind (R:=λr:Array Nat×Nat×Nat=>PB n r.1) (λr hr=>dO.ite (wX hn (nS hn (mirror_perm ..) hr) _ _) (wX hn hr _ _)) (qA hn _ _ _ _ P)
theorem aCM (hn:0<n)(P:PB n p)(m:Nat):dO n (λr:Nat×Array Nat=>PB n r.2) (kas_count m p) :=
 by unfold kas_count;have r0:∀a:Nat,dO n (λr:Nat×Array Nat=>PB n r.2) (.ret (a,p)):=λa=>P;refine dO.bind (R:=λ_=>True) (λa _=>dO.ite (r0 a) (dO.ite ?_ (oZ hn P _ _))) (zG P _ _);exact⟨P _,P _,λc=>dO.ite (r0 a) (oZ hn (nS hn (mirror_perm ..) P) _ _)⟩
theorem qZ (P:PB n p):∀f k l r,dO n (λ_=>True) (kas_place p k f l r)
 |0,_,_,_=>True.intro
 |f+1,k,l,r=>by unfold kas_place;exact dO.ite True.intro ⟨P _,P _,λc=>dO.ite (qZ P f _ _ _) (qZ P f _ _ _)⟩
theorem aDa (hn:0<n):∀f (p:Array Nat) k,PB n p->dO n (PB n) (kas_bin f p k)
 |0,p,k,P=>P
 |f+1,p,k,P=>dO.bind (λl _=>aDa hn f _ _ (nS hn (bubble_perm ..) P)) (qZ P _ _ _ _)
theorem aEC (hn:0<n):dO n (PB n) (kas_sort n):=by
 have P:PB n (toArray (range n)):=λi=>by
  rw[Array.getD_eq_getD_getElem?,List.getElem?_toArray];by_cases h:i<n
  ·rw[List.getElem?_range h];exact h
  ·rw[List.getElem?_eq_none (by simpa using h)];exact hn
 unfold kas_sort;refine dO.bind (R:=λr:Nat×Array Nat=>PB n r.2) (λr hr=>?_) (aCM hn P _);have r0:dO n (PB n) (.ret r.2):=hr;exact dO.ite (aDa hn _ _ _ hr) r0
end
section
variable {prog:Program}{w:World}{A:Around}{E:Value->Shared->Prop}{s:Shared}
end
theorem sZ {K:Frag}{H:Hp}{ds:List D}{us:List V}{its:List Value}(r:aY K H ds us)(v:bJ us its)(d0:D) :
  ∀idx:List Nat,(∀i∈idx,i<ds.length)->aY K H (idx.map λi=>ds.getD i d0) (idx.map λi=>us.getD i .non)/\bJ (idx.map λi=>us.getD i .non) (idx.map λi=>its.getD i Value.none)
 |[],_=>⟨cD,.nil⟩
 |i::idx,h=>by
  obtain⟨h1,h2⟩:=sZ r v d0 idx λj hj=>h j (mem_cons_of_mem _ hj);have hi:=h i mem_cons_self;obtain⟨u,e1,ru⟩:=r.get (i:=i) (d:=ds[i]) (by simp[hi]);obtain⟨x,e2,rx⟩:=v.get e1;refine⟨bU ?_ h1,.cons ?_ h2⟩
  ·show Rep K H (ds.getD i d0) (us.getD i .non);rw[getD_eq_getElem?_getD,getD_eq_getElem?_getD,e1,getElem?_eq_getElem hi];exact ru
  ·show L2.RelV (us.getD i .non) (its.getD i Value.none);rw[getD_eq_getElem?_getD,getD_eq_getElem?_getD,e1,e2];exact rx
section
variable {X:Cx}{pins:List (Addr×Obj)}{σ:L2.St}{H:Hp}{s:Shared}
theorem aDp {P:Program}{w:World}{h:Heap}{a:Addr}{o:HO}(x:dR P w H h a o):∃u,h.get? a=some u:=by
 cases o with
 |lst xs=>obtain⟨_,_,_,_,e⟩:=x;exact⟨_,e⟩
 |tup xs=>obtain⟨_,_,_,o,e,_⟩:=x;exact⟨_,e⟩
 |dK kvs=>obtain⟨_,_,_,_,o,_,_,e,_⟩:=x;exact⟨_,e⟩
 |dT kvs=>obtain⟨_,_,_,_,o,_,_,e,_⟩:=x;exact⟨_,e⟩
 |set S n=>obtain⟨o,_,_,_,e,_⟩:=x;exact⟨_,e⟩
 |ins C dx fs=>obtain⟨_,_,_,e,_⟩:=x;exact⟨_,e⟩
 |own y=>exact x
 |xd fs=>obtain⟨_,⟨_,_,_,e,_⟩,_⟩:=x;exact⟨_,e⟩
 |rng lo hi=>obtain⟨_,_,_,e⟩:=x;exact⟨_,e⟩
 |frz ob u=>obtain⟨e,_⟩:=x;exact⟨_,e⟩
 |tbl ps=>exact⟨_,(show h.get? a=some _ from x)⟩
 |met f y=>exact⟨_,(show h.get? a=some _ from x)⟩
 |ext φ=>obtain⟨_,e,_⟩:=x;exact e
theorem sU (I:Inv X pins σ H s){m:Str->Option Value}(F0:Fr X.base X.env.locals s.heap m){q:Addr}{out:List Value}{c t':Nat}{h':Heap}{zs:List V}(hlt:∀p∈lA X.base s.heap X.env.locals,p.1<q)(F:Fr X.base X.env.locals h' m)(N:News X.base X.env.locals h' ((q,{ cls:=.type "list",data:=.seq out.toArray c })::lA X.base s.heap X.env.locals))(hv:bJ zs out)(hz:zs.length<=sizeLine) :
  H q=none/\Inv X pins σ (upd H q (.lst zs)) { s with heap:=h',toks:=t' }:=by
 obtain⟨gD,nL,nB⟩:=N _ mem_cons_self;have g0:s.heap.get? q=none:=by
  cases e:s.heap.get? q with
  |none=>rfl
  |some o=>exact absurd (hlt _ (kJ nL nB e)) (Nat.lt_irrefl _)
 have hn:H q=none:=by
  cases e:H q with
  |none=>rfl
  |some o =>
   obtain⟨u,e⟩:=aDp (I.hok q o e);rw[g0] at e;cases e
 have kp:∀b o,b≠X.env.locals->s.heap.get? b=some o->h'.get? b=some o:=λb o hb e=>by
  cases z:X.base.get? b with
  |some u =>
   have:=I.bk b u z;rw[e] at this;cases this;exact F.keep b _ z
  |none=>exact(N (b,o) (mem_cons_of_mem _ (kJ hb z e))).1
 have ne:∀b o,s.heap.get? b=some o->b≠q:=λb o e z=>by rw[z,g0] at e;cases e
 have nH:∀b o,H b=some o->b≠q:=λb o e z=>by rw[z,hn] at e;cases e
 have nL':∀b o,H b=some o->b≠X.env.locals:=λb o e z=>by rw[z,I.free] at e;cases e
 refine⟨hn,I.step (g':=s.gens) (d':=s.drawn) (ch:=[]) (λ_ z=>nomatch z) (λb o hb _ _ e _=>kp b o hb e) (λb o hb _ _ e _=>⟨o.slots,kp b o hb e⟩) (λb o _ e n=>by rw[aJ (ne b o e)];exact n) (λb o _ e=>?_)
  (λb xs e=>by rw[aJ (nH b _ e)];exact e) (λb o u e=>by rw[aJ (nH b _ e)];exact e) (λb ps e=>⟨#[],by rw[aJ (nH b _ e),e];simp⟩) (λm' hm'=>?_) (λb o e=>?_) I.bare⟩
 ·by_cases hb:b=X.env.locals
  ·obtain⟨o',_,_,e',_⟩:=F.ns;rw[hb];exact⟨o',e'⟩
  ·exact⟨o,kp b o hb e⟩
 ·rw[hm'.eq_nsMap,<- F0.ns.eq_nsMap];exact F.ns
 ·by_cases hb:b=q
  ·subst hb;rw[bD] at e;cases e;exact⟨hz,out,c,hv,gD⟩
  ·rw[aJ hb] at e;refine(I.hok b o e).stay (λb' u hb' e'=>kp b' u ?_ e') (λb' e'=>by rw[aJ (nH b' _ e')];exact e') λb' xs e'=>by rw[aJ (nH b' _ e')];exact e'
   rcases hb' with z|z
   ·rw[z];exact nL' b o e
   ·exact nL' b' _ z
theorem qL {α:Type}(l:List α)(d:α):(range l.length).map (λi=>l.getD i d)=l:=by refine List.ext_getElem (by simp) λi h1 h2=>?_;simp[h2]
end
end Dd
namespace L2
open PySem PySem.Spec PyProof.Rows Dd
noncomputable def Itd (a:Addr)(o:Obj)(es:List DictEntry)(ks:List V):It :=
 ⟨λi H=>H a=some (.frz o (.ext (cC a es)))/\i<es.length,λi H x H'=>H'=H/\ks[i]?=some x,λi H=>H a=some (.frz o (.ext (cC a es)))/\es.length<=i⟩
theorem aAF {P:Program}{w:World}{K:Frag}{tg:Expr}{a it:Addr}{es:List DictEntry}{ks:List V}{ep:Nat}(hv:bJ ks (es.map (·.key))) :
  aEb P w K tg (Itd a { cls:=.type "dict",data:=.dict es.toArray ep } es ks) [it] it (λi h=>i<=es.length/\h.IsKeyIter it a i es.length ep) where
 mem:=by simp
 obj:=λi h st b hb=>by
  have e:b=it:=by simpa using hb
  subst e;obtain⟨_,o,e,c,d⟩:=st;exact⟨o,e,λv z=>by rw[d] at z;cases z⟩
 keep:=λi h h' st k=>let ⟨hl,o,ho,r⟩:=st;⟨hl,o,k it (by simp) o ho,r⟩
 item:=by
  intro X hP hw hK hc i pins s σ H E I hf st hg;subst hP hw hK;obtain⟨hH,hi⟩:=hg;have hm:xT s.heap a es.toArray ep:=(I.hok a _ hH).1;obtain⟨f0,f1,f2,f3,f4,f5⟩:=hf it (by simp);have hi':i<es.toArray.size:=by simpa using hi
  refine xO (es:=es.toArray) hi' (by simpa using st.2) hm λh' st' sb=>?_;have st2:h'.IsKeyIter it a (i+1) es.length ep:=by simpa using st'
  have I1:Inv X pins σ H { s with heap:=h' }:=I.turned (t':=s.toks) (λb o hb e=>(sb.2 b hb).trans e) f0 f1 f3 f4 f5;obtain⟨o,e,c,d⟩:=id st2;have lk:ks.length=es.length:=by have:=hv.length;simpa using this
  obtain⟨x,hx⟩:∃x,ks[i]?=some x:=⟨_,getElem?_eq_getElem (by omega)⟩;obtain⟨u,hu,ru⟩:=hv.get hx;have eu:u=es.toArray[i].key:=by rw[getElem?_map,getElem?_eq_getElem hi] at hu;simpa using hu.symm
  exact⟨_,rfl,aEQ (s:={ s with heap:=h' }) e c d (by decide) ⟨x,H,I1,by rw[<- eu];exact ru,⟨rfl,hx⟩,⟨hi,st2⟩,λb hb=>(hf b hb).1⟩⟩
 done:=by intro X hP hw hK hc i pins s σ H E I hf st hg;subst hP hw hK;obtain⟨hH,hi⟩:=hg;obtain rfl:i=es.length:=Nat.le_antisymm st.1 hi;have hm:xT s.heap a es.toArray ep:=(I.hok a _ hH).1;obtain⟨f0,f1,f2,f3,f4,f5⟩:=hf it (by simp);exact aAr (es:=es.toArray) (I.ok.hd hc) (by simpa using st.2) hm λh' eb=>⟨rfl,I.turned (t':=s.toks) (λb o hb e=>eb b o hb e) f0 f1 f3 f4 f5⟩
 self:=λ_ _ _ _ _ st h=>wpAny_pyIter_keyiter st.2 h
section
variable {X:Cx}{pins:List (Addr×Obj)}{σ:St}{H:Hp}{s:Shared}{tg:Expr}{a:Addr}{φ:Heap->Prop}{o:Obj}
theorem Inv.freeze (I:Inv X pins σ H s)(hH:H a=some (.ext φ))(ho:s.heap.get? a=some o):Inv X pins σ (upd H a (.frz o (.ext φ))) s:=by have:=I.write (t':=s.toks) (h':=s.heap) (x:=a) (e:=a) (o:=.frz o (.ext φ)) (by rw[hH];exact True.intro) (.inl rfl) (λb u _ e=>e) ⟨_,ho⟩ ⟨ho,I.hok a _ hH⟩;exact this
theorem Inv.unfreeze {σ0:St}{H0:Hp}{s0:Shared}(I:Inv X pins σ0 H0 s0)(h0:H0 a=some (.ext φ))(J:Inv X pins σ H s)(hf:H a=some (.frz o (.ext φ))):Inv X pins σ (upd H a (.ext φ)) s:=by
 have ne:∀{b:Addr},H b=none->upd H a (.ext φ) b=none:=λ{b} e=>by rw[aJ (λz=>by rw[z,hf] at e;cases e)];exact e
 have st:∀{b:Addr}{u:HO},H b=some u->b≠a->upd H a (.ext φ) b=some u:=λe n=>by rw[aJ n];exact e
 refine⟨J.ok,J.os,J.bare,⟨J.base.keep,J.base.slot,λb o q n hx=>ne (J.base.free b o q n hx),J.base.there,λb xs q=>st (J.base.tups b xs q) λz=>?_,λb o' v q=>st (J.base.frzs b o' v q) λz=>?_,λb ps q=>?_⟩,J.loc,J.cell,ne J.free,λx c q=>ne (J.freeC x c q),λp hp=>?_,λb u e=>?_,J.len⟩
 ·have:=J.base.tups b xs q;rw[z,hf] at this;cases this
 ·have:=I.base.frzs b o' v q;rw[z,h0] at this;cases this
 ·obtain⟨m,z⟩:=J.base.tbls b ps q;exact⟨m,st z λy=>by rw[y,hf] at z;cases z⟩
 ·obtain⟨a1,a2,a3,a4,a5⟩:=J.pin p hp;exact⟨a1,ne a2,a3,a4,a5⟩
 ·by_cases z:b=a
  ·rw[z] at e ⊢;rw[bD] at e;cases e;exact(J.hok a _ hf).2
  ·rw[aJ z] at e;exact(J.hok b u e).stay (λ_ _ _ q=>q) (λd q=>st q λy=>by rw[y,hf] at q;cases q) λd xs q=>st q λy=>by rw[y,hf] at q;cases q
noncomputable def aIp (tl:TE)(a:Addr)(es:List DictEntry)(ks:List V):TI:=λσ H R=>tl σ H λx H1=>x=.ref a/\H1 a=some (.ext (cC a es))/\bJ ks (es.map (·.key))/\∀o ep,o.data=.dict es.toArray ep->R (Itd a o es ks) (upd H1 a (.frz o (.ext (cC a es))))
theorem aGC {l:Expr}{tl:TE}{es:List DictEntry}{ks:List V}(hl:PE X l tl):PI X tg l (aIp tl a es ks):=by
 intro pins s σ H R I h;refine thn (hl pins s σ H _ I h) λv s1 ⟨x,H1,I1,r1,e,hH,hv,q⟩=>?_;subst e;cases r1;obtain⟨⟨hs,hz,ep,e⟩,_⟩:=I1.hok a _ hH;have If:=I1.freeze hH e;refine xN hs e ?_;refine⟨s1.heap.objs.size,[s1.heap.objs.size],_,_,upd H1 a (.frz { cls:=.type "dict",data:=.dict es.toArray ep } (.ext (cC a es))),rfl,If.kept (t':=s1.toks) λb o e=>Heap.get?_push_of_some _ e,aAF (es:=es) (ep:=ep) hv,⟨Nat.zero_le _,_,Heap.get?_push_size _ rfl,rfl,by simp⟩,λb hb=>?_,q _ ep rfl⟩;have e:b=s1.heap.objs.size:=by simpa using hb
 subst e;exact If.fpOk (Nat.le_refl _) (If.hok.fresh (Nat.le_refl _))
noncomputable def aCL (D:pO)(a:Addr)(es:List DictEntry):pO where
 nx:=λσ H=>(∃o,H a=some (.frz o (.ext (cC a es))))/\D.nx σ (upd H a (.ext (cC a es)))
 rt:=λv H=>(∃o,H a=some (.frz o (.ext (cC a es))))/\D.rt v (upd H a (.ext (cC a es)))
 bk:=λ_ _=>False
 ct:=λ_ _=>False
def aIS (tl:TE)(g:TG)(tb:TS):TS:=λD σ H=>∃a es ks,H a=some (.ext (cC a es))/\aI6 (aIp tl a es ks) g tb (aCL D a es) σ H
theorem aDX {iter:Expr}{body:List Stmt}{tl:TE}{g:TG}{tb:TS}{pos:Pos}(hp:PassesOwn (model X.prog X.w) X.A X.env X.xe)(hc:X.calm=true)(hi:PE X iter tl)(hg:PG X tg g)(hb:PSs X body tb)(hs:∀x,foldedSetIterable iter X.env x=pure x:=by intro _;rfl):PS X (.For tg iter body [] pos) (aIS tl g tb):=by
 intro pins s σ H D I ⟨a,es,ks,hH,h⟩;refine thn (xZ hp hc (aGC hi) hg hb hs pins s σ H (aCL D a es) I h) λfl s' hs=>?_;cases fl with
 |next =>
  obtain⟨σ',H',J,⟨o,hf⟩,q⟩:=hs;exact⟨σ',_,I.unfreeze hH J hf,q⟩
 |ret u =>
  obtain⟨v,σ',H',J,rv,⟨o,hf⟩,q⟩:=hs;exact⟨v,σ',_,I.unfreeze hH J hf,rv,q⟩
 |brk=>obtain⟨_,_,_,z⟩:=hs;exact z.elim
 |cont=>obtain⟨_,_,_,z⟩:=hs;exact z.elim
end
end L2
namespace Dd
open PySem PySem.Spec PyProof.Rows L2
noncomputable def pP (w:World)(M:DM)(a:Addr)(kvs:List (D×D)):DM:=λb=>if b=.x a then some (.bl true::dS w kvs) else if b=.d a then none else M b
noncomputable def xR (w:World)(M:DM)(a:Addr)(kvs:List (D×D)):DM:=λb=>if b=.d a then some (dS w kvs) else if b=.x a then none else M b
theorem zL {w:World}{M:DM}{a:Addr}{kvs:List (D×D)}:pP w M a kvs (.x a)=some (.bl true::dS w kvs):=if_pos rfl
theorem hG {w:World}{M:DM}{a:Addr}{kvs:List (D×D)}{b:AK}(h1:b ≠ .x a)(h2:b ≠ .d a):pP w M a kvs b=M b:=by unfold pP;rw[if_neg h1,if_neg h2]
theorem aGO {w:World}{M:DM}{a:Addr}{kvs:List (D×D)}:xR w M a kvs (.d a)=some (dS w kvs):=if_pos rfl
theorem jK {w:World}{M:DM}{a:Addr}{kvs:List (D×D)}{b:AK}(h1:b ≠ .x a)(h2:b ≠ .d a):xR w M a kvs b=M b:=by unfold xR;rw[if_neg h2,if_neg h1]
section
variable {K:Frag}{M:DM}{H:Hp}{w:World}{a:Addr}{kvs:List (D×D)}{es:List DictEntry}{o:Obj}{ep:Nat}
theorem aEo (hm:bF K M H)(hH:H a=some (.ext (cC a es)))(hr:kU K H (dS w kvs) es)(ho:o.data=.dict es.toArray ep):bF K (pP w M a kvs) (upd H a (.frz o (.ext (cC a es)))):=by
 have ex:Ext H (upd H a (.frz o (.ext (cC a es)))):=Ext.putX hH _;have st:∀{b:Addr}{u:HO},H b=some u->(∀φ,u ≠ .ext φ)->upd H a (.frz o (.ext (cC a es))) b=some u:=λe n=>by rw[aJ (λz=>by rw[z,hH] at e;exact n _ (Option.some.inj e).symm)];exact e
 refine⟨λb ds q=>?_,λb ds q=>?_,λb ds q=>?_,λb ds q=>?_⟩
 ·rw[hG (by intro z;cases z) (by intro z;cases z)] at q;obtain⟨xs,z,r⟩:=hm.l b ds q;exact⟨xs,st z (by intro φ z;cases z),r.ext ex⟩
 ·by_cases e:b=a
  ·unfold pP at q;rw[if_neg (by intro z;cases z),if_pos (by rw[e])] at q;cases q
  ·rw[hG (by intro z;cases z) (λz=>e (AK.d.inj z))] at q;obtain⟨xs,z,r⟩:=hm.d b ds q;exact⟨xs,by rw[aJ e];exact z,dD r ex⟩
 ·rw[hG (by intro z;cases z) (by intro z;cases z)] at q;obtain⟨C,dx,gs,fs,y,z,r⟩:=hm.o b ds q;exact⟨C,dx,gs,fs,y,st z (by intro φ z;cases z),fF r ex⟩
 ·by_cases e:b=a
  ·rw[e,zL] at q;cases q;rw[e];exact⟨o,es,ep,ho,bD,dD hr ex⟩
  ·rw[hG (λz=>e (AK.x.inj z)) (by intro z;cases z)] at q;exact(hm.x b ds q).wr ex λps z=>by rw[hH] at z;cases z
theorem aAb (hm:bF K M H)(hf:H a=some (.frz o (.ext (cC a es))))(hx:M (.x a)=some (.bl true::dS w kvs)):bF K (xR w M a kvs) (upd H a (.ext (cC a es)))/\yA K H (upd H a (.ext (cC a es))):=by
 obtain⟨o',ens,ep,ho,h1,hr⟩:aFN K H a (dS w kvs):=hm.x a _ hx;rw[hf] at h1;have e1:=HO.frz.inj (Option.some.inj h1);obtain⟨rfl,e2⟩:=e1;rw[e2];rw[e2] at hf;have nc:∀{d:Addr}{q:HO},H d=some q->(∀φ,q ≠ .frz o (.ext φ))->upd H a (.ext (cC a ens)) d=some q:=λe n=>by rw[aJ (λy=>by rw[y,hf] at e;exact n _ (Option.some.inj e).symm)];exact e
 have sx:yA K H (upd H a (.ext (cC a ens))):=by
  refine⟨λh=>?_,λh=>?_⟩
  ·rcases h with(h|⟨o,h⟩)|h
   ·exact .inl (.inl (nc h (by intro φ z;cases z)))
   ·exact .inl (.inr ⟨o,nc h (by intro φ z;cases z)⟩)
   ·exact .inr h
  ·rcases h with⟨o,h⟩|h
   ·exact .inl ⟨o,nc h (by intro φ z;cases z)⟩
   ·exact .inr h
 have er:∀{d:D}{e:DictEntry},aA9 K H d e->aA9 K (upd H a (.ext (cC a ens))) d e:=λr=>let ⟨k,v,kv,vv,a,b,c,f,g⟩:=r;⟨k,v,kv,vv,a,b,c.extS sx,f,g.extS sx⟩
 refine⟨⟨λb ds q=>?_,λb ds q=>?_,λb ds q=>?_,λb ds q=>?_⟩,sx⟩
 ·rw[jK (by intro z;cases z) (by intro z;cases z)] at q;obtain⟨xs,z,r⟩:=hm.l b ds q;exact⟨xs,nc z (by intro φ z;cases z),r.extS sx⟩
 ·by_cases e:b=a
  ·rw[e,aGO] at q;cases q;rw[e];exact⟨ens,bD,Paired.mapP hr λ_ _ r=>er r⟩
  ·rw[jK (by intro z;cases z) (λz=>e (AK.d.inj z))] at q;obtain⟨xs,z,r⟩:=hm.d b ds q;exact⟨xs,nc z (by intro φ z;cases z),Paired.mapP r λ_ _ r=>er r⟩
 ·rw[jK (by intro z;cases z) (by intro z;cases z)] at q;obtain⟨C,dx,gs,fs,y,z,r⟩:=hm.o b ds q;exact⟨C,dx,gs,fs,y,nc z (by intro φ z;cases z),Paired.mapP r λ_ _ r=>⟨r.1,r.2.extS sx⟩⟩
 ·by_cases e:b=a
  ·unfold xR at q;rw[if_neg (by intro z;cases z),if_pos (by rw[e])] at q;cases q
  ·rw[jK (λz=>e (AK.x.inj z)) (by intro z;cases z)] at q;have x:=hm.x b ds q;unfold mZ at x ⊢;split at x
   ·obtain⟨ps,h1,h2,h3⟩:=x;exact⟨ps,nc h1 (by intro φ z;cases z),h2,λpos v z=>let ⟨c,oc,u,vs,t,a,b,e,r⟩:=h3 pos v z;⟨c,oc,u,vs,t,a,nc b (by intro φ z;cases z;rw[ho] at e;cases e),e,r⟩⟩
   ·obtain⟨q,a1,a2,b1,b2,b3,b4,b5,b6,b7,b8,d,d',pm,ct,od,od',v,v',vs,t,h1,h4,h5,h6,h7,h8⟩:=x;exact⟨q,a1,a2,b1,b2,b3,b4,b5,b6,b7,b8,d,d',pm,ct,od,od',v,v',vs,t,nc h1 (by intro φ z;cases z;cases ho),nc h4 (by intro φ z;cases z),h5,nc h6 (by intro φ z;cases z;rw[ho] at h7;cases h7),h7,h8⟩
   ·obtain⟨o',ens',ep',h0,h1,h2⟩:=x;exact⟨o',ens',ep',h0,by rw[aJ e];exact h1,Paired.mapP h2 λ_ _ r=>er r⟩
   ·exact x
end
noncomputable def aGg (w:World)(E:eF)(a:Addr)(kvs:List (D×D)):eF where
 nx:=λρ M=>M (.x a)=some (.bl true::dS w kvs)/\E.nx ρ (xR w M a kvs)
 rt:=λd M=>M (.x a)=some (.bl true::dS w kvs)/\E.rt d (xR w M a kvs)
 bk:=λ_ _=>False
 ct:=λ_ _=>False
def aDg (w:World)(i:Nat)(g:DG)(tb:DS):DS:=λE ρ M=>match ρ[i]? with
 |some (some (.ref a))=>∃kvs,M (.d a)=some (dS w kvs)/\TK kvs/\dIt none (kvs.map (·.1)) g tb (aGg w E a kvs) ρ (pP w M a kvs)
 |_=>False
section
variable {X:Cx}{tg:Expr}{body:List Stmt}{g:DG}{tb:DS}{pos:Pos}
theorem aEI (i:Nat){x:Str}{p:Pos}(hp:PassesOwn (model X.prog X.w) X.A X.env X.xe)(hc:X.calm=true)(hg:PDG X tg g)(hb:jQ X body tb)(hN:X.N[i]?=some x:=by rfl)(hv:Vis X.env.scope x:=by first|exact Or.inl rfl|exact Or.inr (Or.inl rfl)|exact Or.inr (Or.inr rfl))(hd:(x==("__debug__":Str))=false:=by decide)(hcd:(x==("__classdict__":Str))=false:=by decide)(hs:∀y,foldedSetIterable (.Name x p) X.env y=pure y:=by intro _;rfl):PDS X (.For tg (.Name x p) body [] pos) (aDg X.w i g tb) :=
 eU (aDX hp hc (aCw (i:=i) hN hv hd hcd) hg hb hs) λE σ H ⟨ρ,M,Dn,re,hm,q,k⟩=>by
  unfold aDg at q;split at q
  case h_2=>exact q.elim
  rename_i a e1;obtain⟨kvs,ha,tk,q⟩:=q;obtain⟨v,e2,rv⟩:=re.get i _ e1;have ev:=aM rv;subst ev;obtain⟨es,hH,hr⟩:=hm.d a _ ha;obtain⟨ks,hks,rks⟩:=oH hr;rw[sL] at rks;have ls:ks.length=es.length:=by have:=hks.length;simpa using this
  have lk:kvs.length=ks.length:=by have:=rks.length;simpa using this
  refine⟨a,es,ks,hH,⟨_,e2,rfl,hH,hks,λo ep ho=>?_⟩⟩;have exf:Ext H (upd H a (.frz o (.ext (cC a es)))):=Ext.putX hH _;have hmf:=aEo hm hH hr ho;have kf:mB X.K (upd H a (.frz o (.ext (cC a es)))) (aGg X.w Dn a kvs) (aCL E a es):=by
   have cv:∀{H':Hp},Ext (upd H a (.frz o (.ext (cC a es)))) H'->H' a=some (.frz o (.ext (cC a es))):=λe=>e.frz a _ _ bD;have ex2:∀{H':Hp},Ext (upd H a (.frz o (.ext (cC a es)))) H'->Ext H (upd H' a (.ext (cC a es))):=λ{H'} e=>by
    have n:∀{b:Addr}{u:HO},H b=some u->(∀φ,u ≠ .ext φ)->b≠a:=λq n z=>by rw[z,hH] at q;exact n _ (Option.some.inj q).symm
    have all:=exf.trans e;exact⟨λb xs q=>by rw[aJ (n q (by intro φ z;cases z))];exact all.tup b xs q,λb o u q=>by rw[aJ (n q (by intro φ z;cases z))];exact all.frz b o u q⟩
   refine⟨λσ' H' ⟨ρ',M',re',hm',e',hx',q'⟩=>?_,λv' H' ⟨d',M',rd',hm',e',hx',q'⟩=>?_,λσ' H' ⟨_,_,_,_,_,z⟩=>z.elim,λσ' H' ⟨_,_,_,_,_,z⟩=>z.elim⟩
   ·obtain⟨h1,h2⟩:=aAb hm' (cv e') hx';exact⟨⟨o,cv e'⟩,k.nx _ _ ⟨ρ',_,⟨re'.len,λi d z=>let ⟨v,a,b⟩:=re'.get i d z;⟨v,a,b.extS h2⟩⟩,h1,ex2 e',q'⟩⟩
   ·obtain⟨h1,h2⟩:=aAb hm' (cv e') hx';exact⟨⟨o,cv e'⟩,k.rt _ _ ⟨d',_,rd'.extS h2,h1,ex2 e',q'⟩⟩
  exact aB0 (.refl _) (re.ext exf) hmf kf q λH' e' M' hm' _=>⟨ks,rks.ext (exf.trans e'),λi hi=>⟨e'.frz a _ _ bD,by omega⟩,λi hi=>⟨e'.frz a _ _ bD,by omega⟩,λi x H2 ⟨z,hx⟩=>⟨z,hx⟩⟩
end
end Dd
namespace L2
open PySem PySem.Spec PyProof.Rows
section
variable {X:Cx}
theorem qT (hc:X.calm = true):jO X (.builtin "any") (λxs H Q=>∃(p:Addr)(bs:List Bool),xs=[.ref p]/\SqL X.K H p (bs.map V.bl)/\Q (.bl (bs.any id)) H):=by
 intro pins s σ H xs us Q I r h;obtain⟨p,bs,rfl,hq,q⟩:=h;obtain⟨u,rfl,rx⟩:=pA r;cases rx;obtain⟨its,r',pl,hz⟩:=I.list hq;have hl:=pl.isList;have hlt:p<s.heap.objs.size:=by obtain⟨_,e,_⟩:=hl;exact Heap.lt_size e
 have hg:∀(i:Nat)(v:Value),its.toArray[i]?=some v->∃b,bs[i]?=some b/\v=Value.bool b:=λi v e=>by
  obtain⟨x,hx,rv⟩:∃x,(bs.map V.bl)[i]?=some x/\RelV x v:=by
   have:=r'.length;have hi:i<its.length:=by have:=(Array.getElem?_eq_some_iff.mp e).1;simpa using this
   have hi':i<(bs.map V.bl).length:=by omega
   obtain⟨w,hw,rw'⟩:=r'.get (i:=i) (getElem?_eq_getElem hi');have:w=v:=by
    have e':its[i]?=some v:=by simpa using e
    rw[e'] at hw;exact(Option.some.inj hw).symm
   subst this;exact⟨_,getElem?_eq_getElem hi',rw'⟩
  rw[getElem?_map] at hx;cases hb:bs[i]? with
  |none=>rw[hb] at hx;cases hx
  |some b=>rw[hb] at hx;cases hx;cases rv;exact⟨b,rfl,rfl⟩
 refine call_any_walk (wpAny_pyIter_list hl ?_);refine⟨s.heap.objs.size,[s.heap.objs.size,p],[s.heap.objs.size],its.toArray.size,_,_,λi=>(bs[i]?).getD false,rfl,Walks.list (A:=X.A.in1) (I.ok.hd hc) _ p (Nat.ne_of_lt hlt) its.toArray,
  ⟨⟨_,Heap.get?_push_size _ rfl,rfl,rfl⟩,hl.push _⟩,λi v s' Q' E' hP hQ=>?_,λh' tk hk=>?_⟩
 ·obtain⟨b,e,rfl⟩:=hg i v hP;simp only[e,Option.getD_some] at hQ;exact wpAny_truthy_bool hQ
 ·have e:((range its.toArray.size).any λi=>(bs[i]?).getD false)=bs.any id:=by have l1:=r'.length;rw[length_map] at l1;rw[size_toArray,<- l1];exact LSm.range_any bs
  rw[e];exact⟨.bl (bs.any id),H,I.kept (t':=tk) (LSm.kept_iter hk),rfl,q⟩
end
end L2
namespace Dd
open PySem PySem.Spec PyProof.Rows L2
section
variable {X:Cx}
def aI9:DSp:=λds M Q=>match ds with
 |[.ref a]=>∃bs:List Bool,M a=some (bs.map D.bl)/\Q (.bl (bs.any id)) M
 |_=>False
theorem aHo (hc:X.calm = true):eB X (.builtin "any") aI9:=eB.of (qT hc) λvs H M ds Q rs hm q=>by
 rcases ds with _|⟨d,_|⟨d2,r⟩⟩
 ·exact q.elim
 ·cases d with
  |ref a =>
   obtain⟨v,rfl,rv⟩:=fS rs;obtain rfl:=aM rv;obtain⟨bs,ha,q⟩:=q;obtain⟨us,hu,ru⟩:=hm.l a _ ha;obtain rfl:=wO ru;exact⟨a,bs,rfl,.of hu,_,M,dW,hm,.refl H,q⟩
  |_=>exact q.elim
 ·cases d<;>exact q.elim
end
open PySem.W
structure Wk (n:Nat)(lt:Nat->Nat->Bool):Prop where
 asym:∀i j,i<n->j<n->lt i j=true->lt j i=false
 tr:∀i j k,i<n->j<n->k<n->lt j i=false->lt k j=false->lt k i=false
theorem Wk.irr {n:Nat}{lt:Nat->Nat->Bool}(L:Wk n lt){i:Nat}(h:i<n):lt i i=false:=by
 cases e:lt i i with
 |false=>rfl
 |true=>have:=L.asym i i h h e;rw[e] at this;cases this
def pK (lt:Nat->Nat->Bool)(p:Array Nat)(k:Nat):Prop:=∀i j,i<j->j<k->lt (p.getD j 0) (p.getD i 0)=false
def vK (lt:Nat->Nat->Bool)(p:Array Nat)(k:Nat):Prop:=∀i j,i<j->j<k->lt (p.getD i 0) (p.getD j 0)=false
def EqW (lt:Nat->Nat->Bool)(p:Array Nat)(x k:Nat):Prop:=∀i j,x<=i->i<k->x<=j->j<k->lt (p.getD i 0) (p.getD j 0)=false
section
variable {n:Nat}{lt:Nat->Nat->Bool}{p:Array Nat}
theorem aBg (L:Wk n lt)(P:PmR n p){a:Nat}(h1:1<=a)(ha:a<n)(h:pK lt p a)(hl:lt (p.getD a 0) (p.getD (a-1) 0)=false):pK lt p (a+1):=by
 intro i j hij hj;by_cases z:j=a
 ·subst z;by_cases y:i=j-1
  ·rw[y];exact hl
  ·exact L.tr _ _ _ (P.ub (by omega)) (P.ub (by omega)) (P.ub ha) (h i (j-1) (by omega) (by omega)) hl
 ·exact h i j hij (by omega)
theorem sQ (L:Wk n lt)(P:PmR n p){a:Nat}(h1:1<=a)(ha:a<n)(h:vK lt p a)(hl:lt (p.getD (a-1) 0) (p.getD a 0)=false):vK lt p (a+1):=by
 intro i j hij hj;by_cases z:j=a
 ·subst z;by_cases y:i=j-1
  ·rw[y];exact hl
  ·exact L.tr _ _ _ (P.ub ha) (P.ub (by omega)) (P.ub (by omega)) hl (h i (j-1) (by omega) (by omega))
 ·exact h i j hij (by omega)
theorem jY (P:PmR n p){x k:Nat}(hk:k<=n)(hx:x<=k)(i:Nat):(kas_rev p x k).getD i 0=if x<=i/\i<k then p.getD (x+k-1-i) 0 else p.getD i 0:=by
 have hs:=P.size;have:=getElem?_mirror_all (xs:=p) (i:=x) (j:=k) (by omega) i;by_cases c:x<=i/\i<k
 ·rw[if_pos c] at this ⊢;exact nG this
 ·rw[if_neg c] at this ⊢;exact nG this
theorem rB (P:PmR n p)(x k:Nat):PmR n (kas_rev p x k):=⟨(Array.perm_iff_toList_perm.mp (mirror_perm p x k ((k-x)/2))).trans P.perm⟩
theorem aAl (P:PmR n p){x k:Nat}(hk:k<=n)(hx:x<=k)(h:vK lt p k)(e:EqW lt p x k):vK lt (kas_rev p x k) k:=by
 intro i j hij hj;rw[jY P hk hx,jY P hk hx];by_cases c2:x<=j
 ·rw[if_pos (⟨c2,hj⟩:x<=j/\j<k)];by_cases c1:x<=i
  ·rw[if_pos ⟨c1,by omega⟩];exact e _ _ (by omega) (by omega) (by omega) (by omega)
  ·rw[if_neg (by omega)];exact h _ _ (by omega) (by omega)
 ·rw[if_neg (by omega),if_neg (by omega)];exact h i j hij hj
theorem rG (L:Wk n lt)(P:PmR n p):∀(f a:Nat),1<=a->a+f=n->pK lt p a->a<=dU lt (kas_asc p f a)/\dU lt (kas_asc p f a)<=n/\pK lt p (dU lt (kas_asc p f a))/\(dU lt (kas_asc p f a)<n->lt (p.getD (dU lt (kas_asc p f a)) 0) (p.getD (dU lt (kas_asc p f a)-1) 0)=true)
 |0,a,h1,h2,h=>⟨Nat.le_refl _,by show a<=n;omega,h,λz=>by have z:a<n:=z;omega⟩
 |f+1,a,h1,h2,h=>by
  have e:dU lt (kas_asc p (f+1) a)=if lt (p.getD a 0) (p.getD (a-1) 0)=true then a else dU lt (kas_asc p f (a+1)):=by show dU lt (if lt (p.getD a 0) (p.getD (a-1) 0)=true then .ret a else kas_asc p f (a+1))=_;split<;>rfl
  rw[e];by_cases c:lt (p.getD a 0) (p.getD (a-1) 0)=true
  ·rw[if_pos c];exact⟨Nat.le_refl _,by omega,h,λ_=>c⟩
  ·rw[if_neg c];have c':lt (p.getD a 0) (p.getD (a-1) 0)=false:=by simpa using c
   obtain⟨q1,q2,q3,q4⟩:=rG L P f (a+1) (by omega) (by omega) (aBg L P h1 (by omega) h c');exact⟨by omega,q2,q3,q4⟩
theorem kZ (L:Wk n lt):∀(f a q:Nat)(p:Array Nat),PmR n p->q+1<=a->a+f=n->vK lt p a->EqW lt p (a-(q+1)) a ->
  ∃p' m q',dU lt (kas_desc f p a q)=(p',m,q')/\PmR n p'/\a<=m/\m<=n/\q'+1<=m/\vK lt p' m/\EqW lt p' (m-(q'+1)) m
 |0,a,q,p,P,h1,h2,h,e=>⟨p,a,q,rfl,P,Nat.le_refl _,by omega,h1,h,e⟩
 |f+1,a,q,p,P,h1,h2,h,e=>by
  have one:∀{p':Array Nat},PmR n p'->EqW lt p' (a+1-(0+1)) (a+1):=λP' i j i1 i2 j1 j2=>by
   have:i=a:=by omega
   have:j=a:=by omega
   subst_vars
   exact L.irr (P'.ub (by omega))
  by_cases c:lt (p.getD a 0) (p.getD (a-1) 0)=true
  ·have c1:=L.asym _ _ (P.ub (by omega)) (P.ub (by omega)) c;have dn:=sQ L P (by omega) (by omega) h c1;show ∃p' m q',dU lt (if lt (p.getD a 0) (p.getD (a-1) 0)=true then (if q > 0 then kas_desc f (kas_rev p (a-(q+1)) a) (a+1) 0 else kas_desc f p (a+1) 0) else _)=(p',m,q')/\_;rw[if_pos c];by_cases hq:q > 0
   ·rw[if_pos hq];have P1:=rB P (a-(q+1)) a;have d1:=aAl P (by omega) (by omega) h e;obtain⟨p',m,q',e1,P',m1,m2,m3,d,e2⟩:=kZ L f (a+1) 0 _ P1 (by omega) (by omega) (λi j hij hj=>by
     by_cases z:j=a
     ·subst z;rw[jY P (by omega) (by omega) j,if_neg (by omega),jY P (by omega) (by omega) i];by_cases y:j-(q+1)<=i/\i<j
      ·rw[if_pos y];exact dn _ _ (by omega) (by omega)
      ·rw[if_neg y];exact dn _ _ (by omega) (by omega)
     ·exact d1 i j hij (by omega)) (one P1)
    exact⟨p',m,q',e1,P',by omega,m2,m3,d,e2⟩
   ·rw[if_neg hq];obtain⟨p',m,q',e1,P',m1,m2,m3,d,e2⟩:=kZ L f (a+1) 0 p P (by omega) (by omega) dn (one P);exact⟨p',m,q',e1,P',by omega,m2,m3,d,e2⟩
  ·have c':lt (p.getD a 0) (p.getD (a-1) 0)=false:=by simpa using c
   show ∃p' m q',dU lt (if lt (p.getD a 0) (p.getD (a-1) 0)=true then _ else .ask (p.getD (a-1) 0) (p.getD a 0) λd=>if d=true then .ret (p,a,q) else kas_desc f p (a+1) (q+1))=(p',m,q')/\_;rw[if_neg c];show ∃p' m q',dU lt (if lt (p.getD (a-1) 0) (p.getD a 0)=true then .ret (p,a,q) else kas_desc f p (a+1) (q+1))=(p',m,q')/\_;by_cases d:lt (p.getD (a-1) 0) (p.getD a 0)=true
   ·rw[if_pos d];exact⟨p,a,q,rfl,P,Nat.le_refl _,by omega,h1,h,e⟩
   ·rw[if_neg d];have d':lt (p.getD (a-1) 0) (p.getD a 0)=false:=by simpa using d
    have dn:=sQ L P (by omega) (by omega) h d';obtain⟨p',m,q',e1,P',m1,m2,m3,dd,e2⟩:=kZ L f (a+1) (q+1) p P (by omega) (by omega) dn (λi j i1 i2 j1 j2=>by
     by_cases zi:i=a
     ·by_cases zj:j=a
      ·rw[zi,zj];exact L.irr (P.ub (by omega))
      ·rw[zi];by_cases y:j=a-1
       ·rw[y];exact c'
       ·exact L.tr _ _ _ (P.ub (by omega)) (P.ub (by omega)) (P.ub (by omega)) (e (a-1) j (by omega) (by omega) (by omega) (by omega)) c'
     ·by_cases zj:j=a
      ·rw[zj];exact dn i a (by omega) (by omega)
      ·exact e i j (by omega) (by omega) (by omega) (by omega))
    exact⟨p',m,q',e1,P',by omega,m2,m3,dd,e2⟩
theorem aEG (P:PmR n p){k:Nat}(hk:k<=n)(h:vK lt p k):pK lt (kas_rev p 0 k) k:=λi j hij hj=>by rw[jY P hk (Nat.zero_le _),jY P hk (Nat.zero_le _),if_pos ⟨Nat.zero_le _,hj⟩,if_pos ⟨Nat.zero_le _,by omega⟩];exact h _ _ (by omega) (by omega)
theorem mM (L:Wk n lt)(P:PmR n p){a:Nat}(h1:1<=a)(ha:a<n)(h:vK lt p (a+1)):∃m q,dU lt (kas_descPart a n p)=(m,q)/\1<=m/\m<=n/\PmR n q/\pK lt q m:=by
 unfold kas_descPart;rw[gA];obtain⟨p',m,q',e1,P',m1,m2,m3,d,e2⟩:=kZ L (n-(a+1)) (a+1) 0 p P (by omega) (by omega) h (λi j i1 i2 j1 j2=>by
  have:i=a:=by omega
  have:j=a:=by omega
  subst_vars
  exact L.irr (P.ub (by omega)))
 rw[e1];dsimp only;have fin:∀{r:Array Nat},PmR n r->vK lt r m->∃m' q,dU lt (kas_tail3 m n r)=(m',q)/\1<=m'/\m'<=n/\PmR n q/\pK lt q m':=λ{r} R D=>by unfold kas_tail3;rw[gA];obtain⟨b1,b2,b3,_⟩:=rG L (rB R 0 m) (n-m) m (by omega) (by omega) (aEG R m2 D);exact⟨_,_,rfl,by omega,b2,rB R 0 m,b3⟩
 by_cases hq:q' > 0
 ·rw[if_pos hq];exact fin (rB P' _ _) (aAl P' m2 (by omega) d e2)
 ·rw[if_neg hq];exact fin P' d
theorem zA (L:Wk n lt)(P:PmR n p)(hn:1<=n):∃m q,dU lt (kas_count n p)=(m,q)/\1<=m/\m<=n/\PmR n q/\pK lt q m:=by
 obtain⟨a1,a2,a3,a4⟩:=rG L P (n-1) 1 (Nat.le_refl _) (by omega) (λi j h1 h2=>by omega);unfold kas_count;rw[gA];generalize hm:dU lt (kas_asc p (n-1) 1)=m at *;by_cases c:m=n
 ·rw[if_pos (by simp[c])];exact⟨m,p,rfl,a1,a2,P,a3⟩
 ·rw[if_neg (by simp[c])];have c1:=L.asym _ _ (P.ub (by omega)) (P.ub (by omega)) (a4 (by omega));by_cases c2:m > 1
  ·rw[if_pos c2];show ∃m' q,dU lt (if lt (p.getD 0 0) (p.getD (m-1) 0)=true then .ret (m,p) else kas_descPart m n (kas_rev p 0 m))=(m',q)/\_;by_cases d:lt (p.getD 0 0) (p.getD (m-1) 0)=true
   ·rw[if_pos d];exact⟨m,p,rfl,a1,a2,P,a3⟩
   ·rw[if_neg d];have d':lt (p.getD 0 0) (p.getD (m-1) 0)=false:=by simpa using d
    have le0:∀i,i<m->lt (p.getD i 0) (p.getD 0 0)=false:=λi hi=>by
     rcases Nat.eq_zero_or_pos i with z|z
     ·rw[z];exact L.irr (P.ub (by omega))
     ·exact a3 0 i z hi
    have leM:∀i,i<m->lt (p.getD (m-1) 0) (p.getD i 0)=false:=λi hi=>by
     by_cases z:i=m-1
     ·rw[z];exact L.irr (P.ub (by omega))
     ·exact a3 i (m-1) (by omega) (by omega)
    have all:EqW lt p 0 m:=λi j _ hi _ hj=>by have s1:lt (p.getD 0 0) (p.getD j 0)=false:=L.tr _ _ _ (P.ub (by omega)) (P.ub (by omega)) (P.ub (by omega)) (leM j hj) d';exact L.tr _ _ _ (P.ub (by omega)) (P.ub (by omega)) (P.ub (by omega)) s1 (le0 i hi)
    refine mM L (rB P 0 m) a1 (by omega) λi j hij hj=>?_;rw[jY P (by omega) (Nat.zero_le _) i,if_pos ⟨Nat.zero_le _,by omega⟩];rw[jY P (by omega) (Nat.zero_le _) j];by_cases z:j<m
    ·rw[if_pos ⟨Nat.zero_le _,z⟩];exact all _ _ (Nat.zero_le _) (by omega) (Nat.zero_le _) (by omega)
    ·rw[if_neg (by omega),show j=m by omega];exact L.tr _ _ _ (P.ub (by omega)) (P.ub (by omega)) (P.ub (by omega)) c1 (all _ (m-1) (Nat.zero_le _) (by omega) (Nat.zero_le _) (by omega))
  ·rw[if_neg c2];have m1:m=1:=by omega
   subst m1;exact mM L P (Nat.le_refl _) (by omega) λi j h1 h2=>by
    have:i=0:=by omega
    have:j=1:=by omega
    subst_vars
    exact c1
theorem mD (L:Wk n lt)(P:PmR n p){k:Nat}(hk:k<n)(hI:pK lt p k):∀(f l r:Nat),l<=r->r<=k->r-l<=f->(∀i,i<l->lt (p.getD k 0) (p.getD i 0)=false)->(∀i,r<=i->i<k->lt (p.getD i 0) (p.getD k 0)=false) ->
  dU lt (kas_place p k f l r)<=k/\(∀i,i<dU lt (kas_place p k f l r)->lt (p.getD k 0) (p.getD i 0)=false)/\∀i,dU lt (kas_place p k f l r)<=i->i<k->lt (p.getD i 0) (p.getD k 0)=false
 |0,l,r,h1,h2,h3,h4,h5=>⟨by show l<=k;omega,h4,λi hi hk=>h5 i (by have hi:l<=i:=hi;omega) hk⟩
 |f+1,l,r,h1,h2,h3,h4,h5=>by
  unfold kas_place;by_cases c:l ≥ r
  ·rw[if_pos c];exact⟨by show l<=k;omega,h4,λi hi hk=>h5 i (by have hi:l<=i:=hi;omega) hk⟩
  ·rw[if_neg c];show dU lt (if lt (p.getD k 0) (p.getD ((l+r)/2) 0)=true then _ else _)<=k/\(∀i,i<dU lt (if lt (p.getD k 0) (p.getD ((l+r)/2) 0)=true then _ else _)->_)/\∀i,dU lt (if lt (p.getD k 0) (p.getD ((l+r)/2) 0)=true then _ else _)<=i->_;have hm1:l<=(l+r)/2:=by omega
   have hm2:(l+r)/2<r:=by omega
   generalize (l+r)/2=x at *;by_cases d:lt (p.getD k 0) (p.getD x 0)=true
   ·rw[if_pos d];have d2:=L.asym _ _ (P.ub hk) (P.ub (by omega)) d;refine mD L P hk hI f l x hm1 (by omega) (by omega) h4 λi hi hik=>?_;by_cases z:i=x
    ·rw[z];exact d2
    ·have d3:lt (p.getD i 0) (p.getD k 0)=false:=by
      cases y:lt (p.getD i 0) (p.getD k 0) with
      |false=>rfl
      |true =>
       have y2:=L.asym _ _ (P.ub (by omega)) (P.ub hk) y;have:=L.tr _ _ _ (P.ub (by omega:x<n)) (P.ub (by omega:i<n)) (P.ub hk) (hI x i (by omega) hik) y2;rw[d] at this;cases this
     exact d3
   ·rw[if_neg d];have d':lt (p.getD k 0) (p.getD x 0)=false:=by simpa using d
    refine mD L P hk hI f (x+1) r (by omega) h2 (by omega) (λi hi=>?_) h5;by_cases z:i=x
    ·rw[z];exact d'
    ·exact L.tr _ _ _ (P.ub (by omega)) (P.ub (by omega)) (P.ub hk) (hI i x (by omega) (by omega)) d'
theorem wE (L:Wk n lt):∀(f k:Nat)(p:Array Nat),PmR n p->1<=k->k+f=n->pK lt p k->PmR n (dU lt (kas_bin f p k))/\pK lt (dU lt (kas_bin f p k)) n
 |0,k,p,P,h1,h2,hI=>⟨P,by
                   have:k=n:=by omega
                   subst this;exact hI⟩
 |f+1,k,p,P,h1,h2,hI=>by
  unfold kas_bin;rw[gA];have hs:=P.size;obtain⟨q1,q2,q3⟩:=mD L P (k:=k) (by omega) hI k 0 k (Nat.zero_le _) (Nat.le_refl _) (by omega) (λi hi=>by omega) (λi h1 h2=>by omega);generalize dU lt (kas_place p k k 0 k)=l at *;have e:∀x,(bubble p k (k-l)).getD x 0=if x=l then p.getD k 0 else if l<x/\x<=k then p.getD (x-1) 0 else p.getD x 0:=λx=>by
   have:=getElem?_bubble (xs:=p) (src:=k) (by omega) (k-l) (by omega) x;rw[show k-(k-l)=l by omega] at this;by_cases z:x=l
   ·rw[if_pos z] at this ⊢;exact nG this
   ·rw[if_neg z] at this ⊢;by_cases y:l<x/\x<=k
    ·rw[if_pos y] at this ⊢;exact nG this
    ·rw[if_neg y] at this ⊢;exact nG this
  refine wE L f (k+1) _ ⟨(Array.perm_iff_toList_perm.mp (bubble_perm p k (k-l))).trans P.perm⟩ (by omega) (by omega) λi j hij hj=>?_;rw[e i,e j];by_cases i1:i=l
  ·rw[if_pos i1,if_neg (by omega),if_pos ⟨by omega,by omega⟩];exact q3 (j-1) (by omega) (by omega)
  ·rw[if_neg i1];by_cases i2:l<i/\i<=k
   ·rw[if_pos i2,if_neg (by omega),if_pos ⟨by omega,by omega⟩];exact hI (i-1) (j-1) (by omega) (by omega)
   ·rw[if_neg i2];by_cases j1:j=l
    ·rw[if_pos j1];exact q2 i (by omega)
    ·rw[if_neg j1];by_cases j2:l<j/\j<=k
     ·rw[if_pos j2];by_cases z:i=j-1
      ·omega
      ·exact hI i (j-1) (by omega) (by omega)
     ·rw[if_neg j2];exact hI i j hij (by omega)
theorem aAE (L:Wk n lt)(hn:1<=n):PmR n (dU lt (kas_sort n))/\pK lt (dU lt (kas_sort n)) n:=by
 unfold kas_sort;rw[gA];obtain⟨m,q,e,m1,m2,P,I⟩:=zA (p:=toArray (range n)) L ⟨by simp⟩ hn;rw[e];dsimp only;by_cases c:m<n
 ·rw[if_pos c];rw[show max m 1=m by omega];exact wE L (n-m) m q P m1 (by omega) I
 ·rw[if_neg c];have:m=n:=by omega
  subst this;exact⟨P,I⟩
end
mutual
noncomputable def ltD:D->D->Bool
 |.int a,.int b=>decide (a<b)
 |.str a,.str b=>decide (a.cps.toList<b.cps.toList)
 |.tup xs,.tup ys=>eC xs ys
 |_,_=>false
noncomputable def eC:List D->List D->Bool
 |[],[]=>false
 |[],_::_=>true
 |_::_,[]=>false
 |x::xs,y::ys=>if x=y then eC xs ys else ltD x y
end
inductive Sh where
 |i|s|t (ss:List Sh)
mutual
def hs:Sh->D->Prop
 |.i,.int _=>True
 |.s,.str _=>True
 |.t ss,.tup ds=>hss ss ds
 |_,_=>False
def hss:List Sh->List D->Prop
 |_,[]=>True
 |s::ss,d::ds=>hs s d/\hss ss ds
 |[],_::_=>False
end
theorem wY {ss:List Sh}{d:D}{ds:List D}(h:hss ss (d::ds)):∃s r,ss=s::r/\hs s d/\hss r ds:=by
 cases ss with
 |nil=>unfold hss at h;exact h.elim
 |cons s r=>unfold hss at h;exact⟨s,r,rfl,h.1,h.2⟩
theorem aV {s:Sh}{d:D}(h:hs s d):(s=.i/\∃a,d=.int a)∨(s=.s/\∃a,d=.str a) ∨ ∃ss ds,s=.t ss/\d=.tup ds/\hss ss ds:=by
 unfold hs at h;split at h
 ·exact .inl ⟨rfl,_,rfl⟩
 ·exact .inr (.inl ⟨rfl,_,rfl⟩)
 ·exact .inr (.inr ⟨_,_,rfl,rfl,h⟩)
 ·exact h.elim
theorem gX (a b:Int):ltD (.int a) (.int b)=decide (a<b):=by unfold ltD;rfl
theorem jD (a b:Str):ltD (.str a) (.str b)=decide (a.cps.toList<b.cps.toList):=by unfold ltD;rfl
theorem jN (a b:List D):ltD (.tup a) (.tup b)=eC a b:=by rw[ltD]
theorem dZ (x y:D)(xs ys:List D):eC (x::xs) (y::ys)=if x=y then eC xs ys else ltD x y:=by rw[eC]
theorem aEi {a b:Str}(h:a.cps.toList=b.cps.toList):a=b:=by cases a;cases b;congr 1;exact Array.toList_inj.mp h
mutual
theorem lY:∀(s:Sh)(x y:D),hs s x->hs s y->x≠y->ltD x y = !ltD y x
 |.i,x,y,hx,hy,ne=>by
  rcases aV hx with⟨_,a,rfl⟩|⟨e,_⟩|⟨_,_,e,_⟩<;>first|cases e|skip
  rcases aV hy with⟨_,b,rfl⟩|⟨e,_⟩|⟨_,_,e,_⟩<;>first|cases e|skip
  rw[gX,gX];have:a≠b:=λz=>ne (by rw[z]);by_cases c:a<b
  ·rw[decide_eq_true c,decide_eq_false (by omega)];rfl
  ·rw[decide_eq_false c,decide_eq_true (by omega)];rfl
 |.s,x,y,hx,hy,ne=>by
  rcases aV hx with⟨e,_⟩|⟨_,a,rfl⟩|⟨_,_,e,_⟩<;>first|cases e|skip
  rcases aV hy with⟨e,_⟩|⟨_,b,rfl⟩|⟨_,_,e,_⟩<;>first|cases e|skip
  rw[jD,jD];by_cases c:a.cps.toList<b.cps.toList
  ·rw[decide_eq_true c,decide_eq_false (List.lt_asymm c)];rfl
  ·have:b.cps.toList<a.cps.toList:=by refine Classical.byContradiction λd=>ne ?_;rw[aEi (List.le_antisymm (List.not_lt.mp d) (List.not_lt.mp c))]
   rw[decide_eq_false c,decide_eq_true this];rfl
 |.t ss,x,y,hx,hy,ne=>by
  rcases aV hx with⟨e,_⟩|⟨e,_⟩|⟨_,xs,e,rfl,h1⟩<;>first|(cases e;done)|skip
  cases e;rcases aV hy with⟨e,_⟩|⟨e,_⟩|⟨_,ys,e,rfl,h2⟩<;>first|(cases e;done)|skip
  cases e;rw[jN,jN];exact aAw ss xs ys h1 h2 λz=>ne (by rw[z])
theorem aAw:∀(ss:List Sh)(xs ys:List D),hss ss xs->hss ss ys->xs≠ys->eC xs ys = !eC ys xs
 |_,[],[],_,_,ne=>absurd rfl ne
 |_,[],_::_,_,_,_=>by rw[eC,eC];rfl
 |_,_::_,[],_,_,_=>by rw[eC,eC];rfl
 |[],_::_,_::_,h,_,_=>by unfold hss at h;exact h.elim
 |s::ss,x::xs,y::ys,h1,h2,ne=>by
  unfold hss at h1 h2;rw[dZ,dZ];by_cases c:x=y
  ·rw[if_pos c,if_pos c.symm];exact aAw ss xs ys h1.2 h2.2 λz=>ne (by rw[c,z])
  ·rw[if_neg c,if_neg (Ne.symm c)];exact lY s x y h1.1 h2.1 c
end
mutual
theorem aEV:∀(s:Sh)(x y z:D),hs s x->hs s y->hs s z->ltD x y=true->ltD y z=true->ltD x z=true
 |.i,x,y,z,hx,hy,hz,a,b=>by
  rcases aV hx with⟨_,i,rfl⟩|⟨e,_⟩|⟨_,_,e,_⟩<;>first|cases e|skip
  rcases aV hy with⟨_,j,rfl⟩|⟨e,_⟩|⟨_,_,e,_⟩<;>first|cases e|skip
  rcases aV hz with⟨_,k,rfl⟩|⟨e,_⟩|⟨_,_,e,_⟩<;>first|cases e|skip
  rw[gX,decide_eq_true_eq] at a b ⊢;omega
 |.s,x,y,z,hx,hy,hz,a,b=>by
  rcases aV hx with⟨e,_⟩|⟨_,i,rfl⟩|⟨_,_,e,_⟩<;>first|cases e|skip
  rcases aV hy with⟨e,_⟩|⟨_,j,rfl⟩|⟨_,_,e,_⟩<;>first|cases e|skip
  rcases aV hz with⟨e,_⟩|⟨_,k,rfl⟩|⟨_,_,e,_⟩<;>first|cases e|skip
  rw[jD,decide_eq_true_eq] at a b ⊢;exact List.lt_trans a b
 |.t ss,x,y,z,hx,hy,hz,a,b=>by
  rcases aV hx with⟨e,_⟩|⟨e,_⟩|⟨_,xs,e,rfl,h1⟩<;>first|(cases e;done)|skip
  cases e;rcases aV hy with⟨e,_⟩|⟨e,_⟩|⟨_,ys,e,rfl,h2⟩<;>first|(cases e;done)|skip
  cases e;rcases aV hz with⟨e,_⟩|⟨e,_⟩|⟨_,zs,e,rfl,h3⟩<;>first|(cases e;done)|skip
  cases e;rw[jN] at a b ⊢;exact aCT ss xs ys zs h1 h2 h3 a b
theorem aCT:∀(ss:List Sh)(xs ys zs:List D),hss ss xs->hss ss ys->hss ss zs->eC xs ys=true->eC ys zs=true->eC xs zs=true
 |_,[],_,[],_,_,_,a,b=>by
  rename_i ys _ _ _;cases ys with
  |nil=>rw[eC] at a;cases a
  |cons y ys=>rw[eC] at b;cases b
 |_,[],_,_::_,_,_,_,_,_=>by rw[eC]
 |_,_::_,[],_,_,_,_,a,_=>by rw[eC] at a;cases a
 |_,_::_,_::_,[],_,_,_,_,b=>by rw[eC] at b;cases b
 |[],_::_,_::_,_::_,h,_,_,_,_=>by unfold hss at h;exact h.elim
 |s::ss,x::xs,y::ys,z::zs,h1,h2,h3,a,b=>by
  unfold hss at h1 h2 h3;rw[dZ] at a b ⊢;by_cases c:x=y
  ·subst c;rw[if_pos rfl] at a;by_cases d:x=z
   ·rw[if_pos d] at b ⊢;exact aCT ss xs ys zs h1.2 h2.2 h3.2 a b
   ·rw[if_neg d] at b ⊢;exact b
  ·rw[if_neg c] at a;by_cases d:y=z
   ·subst d;rw[if_neg c];exact a
   ·rw[if_neg d] at b;have t:=aEV s x y z h1.1 h2.1 h3.1 a b;by_cases e:x=z
    ·subst e;have:=lY s x y h1.1 h2.1 c;rw[a,b] at this;cases this
    ·rw[if_neg e];exact t
end
mutual
theorem aDh:∀(s:Sh)(x:D),hs s x->ltD x x=false
 |.i,x,hx=>by
  rcases aV hx with⟨_,i,rfl⟩|⟨e,_⟩|⟨_,_,e,_⟩<;>first|cases e|skip
  rw[gX];exact decide_eq_false (by omega)
 |.s,x,hx=>by
  rcases aV hx with⟨e,_⟩|⟨_,i,rfl⟩|⟨_,_,e,_⟩<;>first|cases e|skip
  rw[jD];exact decide_eq_false (List.lt_irrefl _)
 |.t ss,x,hx=>by
  rcases aV hx with⟨e,_⟩|⟨e,_⟩|⟨_,xs,e,rfl,h1⟩<;>first|(cases e;done)|skip
  cases e;rw[jN];exact zP ss xs h1
theorem zP:∀(ss:List Sh)(xs:List D),hss ss xs->eC xs xs=false
 |_,[],_=>by rw[eC]
 |[],_::_,h=>by unfold hss at h;exact h.elim
 |s::ss,x::xs,h=>by unfold hss at h;rw[dZ,if_pos rfl];exact zP ss xs h.2
end
theorem aF8 {s:Sh}{ds:List D}(h:∀d∈ds,hs s d)(d0:D):Wk ds.length λi j=>ltD (ds.getD i d0) (ds.getD j d0):=by
 have g:∀i,i<ds.length->hs s (ds.getD i d0):=λi hi=>by rw[getD_eq_getElem?_getD,getElem?_eq_getElem hi];exact h _ (getElem_mem hi)
 refine⟨λi j hi hj a=>?_,λi j k hi hj hk a b=>?_⟩
 ·by_cases e:ds.getD i d0=ds.getD j d0
  ·rw[e] at a ⊢;exact aDh s _ (g j hj)
  ·have:=lY s _ _ (g i hi) (g j hj) e;rw[a] at this;simpa using this.symm
 ·by_cases e1:ds.getD j d0=ds.getD i d0
  ·rw[<- e1];exact b
  by_cases e2:ds.getD k d0=ds.getD j d0
  ·rw[e2];exact a
  have t1:=lY s _ _ (g j hj) (g i hi) e1;have t2:=lY s _ _ (g k hk) (g j hj) e2;rw[a] at t1;rw[b] at t2;have c:=aEV s _ _ _ (g i hi) (g j hj) (g k hk) (by simpa using t1.symm) (by simpa using t2.symm);by_cases e3:ds.getD k d0=ds.getD i d0
  ·rw[e3];exact aDh s _ (g i hi)
  ·have t3:=lY s _ _ (g k hk) (g i hi) e3;rw[c] at t3;simpa using t3
theorem sD {s:Sh}:∀{xs ys:List D},(∀d∈xs,hs s d)->xs.Perm ys->xs.Pairwise (λa b=>ltD b a=false)->ys.Pairwise (λa b=>ltD b a=false)->xs=ys
 |[],ys,_,p,_,_=>by rw[List.nil_perm.mp p]
 |x::xs,[],_,p,_,_=>by cases (List.perm_nil.mp p)
 |x::xs,y::ys,h,p,s1,s2=>by
  obtain⟨a1,a2⟩:=List.pairwise_cons.mp s1;obtain⟨b1,b2⟩:=List.pairwise_cons.mp s2;have e:x=y:=by
   refine Classical.byContradiction λne=>?_;have mx:x∈ys:=by
    have:=p.mem_iff.mp (mem_cons_self (a:=x) (l:=xs));rcases List.mem_cons.mp this with z|z
    ·exact absurd z ne
    ·exact z
   have my:y∈xs:=by
    have:=p.mem_iff.mpr (mem_cons_self (a:=y) (l:=ys));rcases List.mem_cons.mp this with z|z
    ·exact absurd z.symm ne
    ·exact z
   have t:=lY s x y (h x mem_cons_self) (h y (mem_cons_of_mem _ my)) ne;rw[a1 y my,b1 x mx] at t;cases t
  subst e;rw[sD (λd hd=>h d (mem_cons_of_mem _ hd)) ((List.perm_cons x).mp p) a2 b2]
end Dd
namespace PySem.W
open PySem PySem.Calls PyProof.Rows
section
variable {prog:Program}{w:World}{A:Around}{E:Value->Shared->Prop}{s:Shared}{h₀:Heap}{L a:Addr}{m:Str->Option Value}{news:List (Addr×Obj)}{vs:List Value}
theorem vQ {n:Nat}{P:PySem.Fin->Shared->Prop}(F:Fr h₀ L s.heap m)(N:News h₀ L s.heap news)(ho:s.heap.get? a = some (seqObj "list" vs.toArray n))(haL:a≠L)(ha0:h₀.get? a=none)(hna:∀p∈news,p.1≠a)(h2:vs.length<2)(h:∀c h',Fr h₀ L h' m->News h₀ L h' ((a,seqObj "list" vs.toArray c)::news)->P (.done (.ret .none)) { s with heap:=h' }) :
  wpAny (model prog w) A (Builtin.«list.sort» ⟨[.ref a],[]⟩) P E s:=by
 have s1:=Heap.SameBut.update s.heap a (Obj.mapSeq λ_=>(#[]:Array Value));obtain⟨e1,ho1⟩:∃e1,(s.heap.update a (Obj.mapSeq λ_=>(#[]:Array Value))).get? a = some (seqObj "list" #[] e1):=⟨_,get?_update_seq ho λ_=>#[]⟩;have F3:Fr h₀ L (((s.heap.update a (Obj.mapSeq λ_=>(#[]:Array Value))).push (seqObj "tuple" vs.toArray 0)).push (seqObj "list" #[] 0)) m:=((kas_fr F s1 haL ha0).push _).push _;have N2:News h₀ L (((s.heap.update a (Obj.mapSeq λ_=>(#[]:Array Value))).push (seqObj "tuple" vs.toArray 0)).push (seqObj "list" #[] 0)) news :=
  (kas_news N s1 hna).grown λb x e=>Heap.get?_push_of_some _ (Heap.get?_push_of_some _ e)
 have ho3:(((s.heap.update a (Obj.mapSeq λ_=>(#[]:Array Value))).push (seqObj "tuple" vs.toArray 0)).push (seqObj "list" #[] 0)).get? a = some (seqObj "list" #[] e1):=Heap.get?_push_of_some _ (Heap.get?_push_of_some _ ho1);rw[list_sort_plain];refine wpAny_bind (listItems_at ho rfl ?_);refine wpAny_bind (listUpdate_at ho rfl ?_ (by rw[size_toArray,sizeLine_eq];omega) (Nat.zero_le _));refine wpAny_bind (seqEpoch_at ho1 rfl ?_);refine wpAny_bind (wpAny_newTuple ?_ (by show vs.length<=_;rw[sizeLine_eq];omega));refine wpAny_bind (wpAny_newList ?_ (Nat.zero_le _));refine wpAny_holding ?_;show wpAny (model prog w) A _ P E { s with heap:=((s.heap.update a (Obj.mapSeq λ_=>(#[]:Array Value))).push (seqObj "tuple" vs.toArray 0)).push (seqObj "list" #[] 0) };dsimp only;have hn2:vs.toArray.size<2:=by rw[size_toArray];omega
 rw[if_pos hn2,if_pos hn2];refine wpAny_bind (wpAny_pure ?_);refine wpAny_bind (wpAny_pure ?_);have hout:Array.map (λx=>x.2) (arrOf ((),SortSt.mk' general' (vs.toArray.zip vs.toArray) #[] 7 none).snd)=vs.toArray:=by show Array.map (λx=>x.2) (vs.toArray.zip vs.toArray)=_;apply Array.toList_inj.mp;rw[Array.toList_map,Array.toList_zip];exact List.map_snd_zip (Nat.le_refl _)
 rw[hout];have s2:=Heap.SameBut.update (((s.heap.update a (Obj.mapSeq λ_=>(#[]:Array Value))).push (seqObj "tuple" vs.toArray 0)).push (seqObj "list" #[] 0)) a (Obj.mapSeq λ_=>vs.toArray);obtain⟨c2,hc2⟩:∃c2,((((s.heap.update a (Obj.mapSeq λ_=>(#[]:Array Value))).push (seqObj "tuple" vs.toArray 0)).push (seqObj "list" #[] 0)).update a (Obj.mapSeq λ_=>vs.toArray)).get? a = some (seqObj "list" vs.toArray c2):=⟨_,get?_update_seq ho3 λ_=>vs.toArray⟩;refine wpAny_bind (seqEpoch_at ho3 rfl ?_);refine wpAny_bind (listUpdate_at ho3 rfl ?_ (Nat.zero_le _) (by rw[size_toArray,sizeLine_eq];omega));rw[show failedOf ((),SortSt.mk' general' (vs.toArray.zip vs.toArray) #[] 7 none).snd=none from rfl];simp only[bne_self_eq_false,Bool.false_eq_true,if_false];refine wpAny_pure (h c2 _ (kas_fr F3 s2 haL ha0) λp hp=>?_);rcases List.mem_cons.mp hp with rfl|hp
 ·exact⟨hc2,haL,ha0⟩
 ·exact kas_news N2 s2 hna p hp
theorem ky_sorted {l:Addr}{Q:Value->Shared->Prop}(F:Fr h₀ L s.heap m)(N:News h₀ L s.heap news)(hl:s.heap.IsList l vs.toArray)(h2:vs.length<2)(h:∀D c h',Fr h₀ L h' m->News h₀ L h' ((D,seqObj "list" vs.toArray c)::news)->(∀q∈news,q.1<D)->Q (.ref D) { s with heap:=h' }) :
  wpAny (model prog w) A (call (.builtin "sorted") [.ref l]) Q E s:=by
 refine Calls.call_function_entry kind_sorted plain_sorted entry_sorted (args_sorted1 _) ?_;unfold Builtin.«sorted»;refine wpAny_bind (m:=checkCount "sorted" 1 1 _) (wpAny_pure ?_);refine wpAny_bind (collect_list hl ?_ (by rw[sizeLine_eq];omega));refine wpAny_bind (wpAny_newList ?_ (by rw[sizeLine_eq];omega));have hsz:((s.heap.push (seqObj "list" #[] 0)).update s.heap.objs.size (Obj.mapSeq (·++vs.toArray))).objs.size=s.heap.objs.size+1:=by rw[Heap.size_update,size_push']
 have hoL:(((s.heap.push (seqObj "list" #[] 0)).update s.heap.objs.size (Obj.mapSeq (·++vs.toArray))).push (seqObj "list" vs.toArray 0)).get? (s.heap.objs.size+1) = some (seqObj "list" vs.toArray 0):=by rw[<- hsz];exact Heap.get?_push_size _ rfl
 have keep:∀b o,s.heap.get? b = some o->(((s.heap.push (seqObj "list" #[] 0)).update s.heap.objs.size (Obj.mapSeq (·++vs.toArray))).push (seqObj "list" vs.toArray 0)).get? b=some o:=λb o q=>by have hlt:b<s.heap.objs.size:=Heap.lt_size q;rw[Heap.get?_push_ne _ _ _ (by rw[hsz];exact Nat.ne_of_lt (Nat.lt_succ_of_lt hlt)),Heap.get?_update_ne _ _ _ _ (Nat.ne_of_lt hlt),Heap.get?_push_ne _ _ _ (Nat.ne_of_lt hlt)];exact q
 have hL:L<s.heap.objs.size:=F.ns.lt;show wpAny _ _ _ _ _ { s with heap:=((s.heap.push (seqObj "list" #[] 0)).update s.heap.objs.size (Obj.mapSeq (·++vs.toArray))).push (seqObj "list" vs.toArray 0) };rw[hsz];refine wpAny_bind (wpAny_holding (wpAny_call_entry slot_list_sort ⟨_,hoL,rfl⟩ entry_list_sort ?body (args_list_sort _)))
 case body =>
  refine vQ (s:={ s with heap:=((s.heap.push (seqObj "list" #[] 0)).update s.heap.objs.size (Obj.mapSeq (·++vs.toArray))).push (seqObj "list" vs.toArray 0) })
   (F.kept keep) (N.grown keep) hoL (Nat.ne_of_gt (Nat.lt_succ_of_lt hL)) (Heap.get?_none_of_le (Nat.le_trans F.above (Nat.le_succ_of_le (Nat.le_of_lt hL))))
   (λp hp=>Nat.ne_of_lt (Nat.lt_succ_of_lt (Heap.lt_size (N p hp).1))) h2 λc h' F' N'=>?_
  exact⟨_,rfl,wpAny_pure ⟨_,rfl,h _ c h' F' N' λq hq=>Nat.lt_succ_of_lt (Heap.lt_size (N q hq).1)⟩⟩
end
end PySem.W
namespace Dd
open PySem PySem.W PyProof.Rows L2
section
open PySem.SeqAt
open PySem.AutoSeq1 (wpAny_loadPart')
open PySem.MeetsSeq PySem.MeetsSeq2 PySem.MeetsSeq3
def aCt (A:Around)(s:Shared)(y x:Value)(b:Bool):Prop:=∀(prog:Program)(w:World) (E:Value->Shared->Prop) (Q:Value->Shared->Prop),Q (.bool b) s->wpAny (model prog w) A (richCompare .Lt y x) Q E s
def uP (A:Around)(s:Shared):List Value->List Value->Bool->Prop
 |[],[],r=>r=false
 |[],_::_,r=>r=true
 |_::_,[],r=>r=false
 |v::vs,u::us,r=>∃e,EqAt A s v u e/\(e=true->uP A s vs us r)/\(e=false->aCt A s v u r)
theorem aA3 (l b:Addr)(items items2:Array Value)(n n2:Nat)(dd dd2:Option Addr)(sl sl2:Array (Option Value))(r:Bool) :
  Meets (Builtin.«tuple.__lt__» ⟨[.ref l,.ref b],[]⟩)
   (λA R s=>s.heap.get? l = some { cls:=.type "tuple",dict:=dd,data:=.seq items n,slots:=sl }/\s.heap.get? b = some { cls:=.type "tuple",dict:=dd2,data:=.seq items2 n2,slots:=sl2 } /\
    uP A.in1 s items.toList items2.toList r/\R (.ok (.ret (.bool r))) s) :=
 .of_wp λprog w A R s h=>by
  obtain⟨hp,g,d,tk,os⟩:=s;obtain⟨hl,hb,hx,h⟩:=h;have f2:=AutoSeq1.sub_tuple_tuple
  wp_walk using wpAny_loadPart' hl,wpAny_loadPart' hb,wpAny_forIn_list _ (λbV b s'=>b.1=none/\s'=⟨hp,g,d,tk,os⟩/\∃(vs ws:List Value),bV=vs.zip ws /\
   uP A.in1 ⟨hp,g,d,tk,os⟩ vs ws r/\vs.length+items2.size=ws.length+items.size) _
  case turn =>
   rintro⟨y,x⟩ bV b s' ⟨hb',rfl,vs,ws,hz,hL,hlen⟩;cases vs with
   |nil=>rw[List.zip_nil_left] at hz;cases hz
   |cons v vs =>
    cases ws with
    |nil=>rw[List.zip_nil_right] at hz;cases hz
    |cons u ws =>
     rw[zip_cons_cons] at hz;injection hz with hyx hrest
     injection hyx with hy hx
     subst hy hx;simp only[length_cons] at hlen;unfold uP at hL;obtain⟨e,he,h1,h2⟩:=hL;refine wpAny_bind (he prog w _ _ ?_);cases e with
     |true =>
      wp_walk
      exact⟨rfl,rfl,_,_,hrest,h1 rfl,by omega⟩
     |false =>
      have hri:=h2 rfl prog w
      wp_walk using hri
      exact⟨_,rfl,by simpa using h⟩
  case fin =>
   rintro⟨b1,b2⟩ s' ⟨hb',rfl,vs,ws,hz,hL,hlen⟩;simp only at hb';subst hb';have hv:r=decide (items.size<items2.size):=by
    cases vs with
    |nil =>
     cases ws with
     |nil =>
      simp only[length_nil] at hlen;unfold uP at hL;rw[hL];exact(decide_eq_false (by omega)).symm
     |cons c hw =>
      simp only[length_nil,length_cons] at hlen;unfold uP at hL;rw[hL];exact(decide_eq_true (by omega)).symm
    |cons a hv =>
     cases ws with
     |nil =>
      simp only[length_nil,length_cons] at hlen;unfold uP at hL;rw[hL];exact(decide_eq_false (by omega)).symm
     |cons c hw =>
      rw[zip_cons_cons] at hz;cases hz
   rw[hv] at h
   wp_walk
   exact⟨_,rfl,by simpa[Builtin.Tuple.tupleCompareSizes] using h⟩
  case h =>
   exact⟨rfl,rfl,items.toList,items2.toList,rfl,hx,by simp;omega⟩
end
theorem kG {h:Heap}:∀{ds:List D}{vs:List Value},dP h ds vs->ds.length=vs.length
 |[],vs,x=>by rw[cN x];rfl
 |d::ds,vs,x=>by obtain⟨v,r,rfl,_,y⟩:=bO x;rw[length_cons,length_cons,kG y]
theorem xA (A:Around)(s:Shared)(a b:Int)(t u:Tok):aCt A s (.int a t) (.int b u) (decide (a<b)):=λprog w E Q h=>HT.rcLt_int A s a t b u prog w E Q h
theorem wR (A:Around)(s:Shared)(a b:Str)(t u:Tok):aCt A s (.str a t) (.str b u) (decide (a.cps.toList<b.cps.toList)):=λprog w E Q h=>(PyProof.Rows.lt_str h:wpAny (model prog w) A (compareOp .Lt (.str a t) (.str b u)) Q E s)
theorem aAC {n:Nat}{A:Around}{s:Shared}(hu:A.units+n<cLine)(ih:∀(sh:Sh){d d':D} {u v:Value},dN n d=true->dN n d'=true->hs sh d->hs sh d'->IsK s.heap d u->IsK s.heap d' v->aCt A s u v (ltD d d')) :
  ∀{ss:List Sh}{ds ds':List D} {us vs:List Value},ds.all (dN n)=true->ds'.all (dN n)=true->hss ss ds->hss ss ds'->dP s.heap ds us->dP s.heap ds' vs->uP A s us vs (eC ds ds')
 |ss,[],[],us,vs,_,_,_,_,x,y=>by rw[cN x,cN y,eC];rfl
 |ss,[],d::ds,us,vs,_,_,_,_,x,y=>by obtain⟨v,r,rfl,_⟩:=bO y;rw[cN x,eC];rfl
 |ss,d::ds,[],us,vs,_,_,_,_,x,y=>by obtain⟨v,r,rfl,_⟩:=bO x;rw[cN y,eC];rfl
 |ss,d::ds,d'::ds',us,vs,k1,k2,h1,h2,x,y=>by
  obtain⟨u,r,rfl,x1,x2⟩:=bO x;obtain⟨v,r',rfl,y1,y2⟩:=bO y;obtain⟨sh,ss',rfl,s1,s2⟩:=wY h1;unfold hss at h2;rw[all_cons,Bool.and_eq_true] at k1 k2;unfold uP;refine⟨_,uT n hu k1.1 k2.1 x1 y1,λe=>?_,λe=>?_⟩
  ·rw[iV k1.1 k2.1] at e;rw[dZ,if_pos (of_decide_eq_true e)];exact aAC hu ih k1.2 k2.2 s2 h2.2 x2 y2
  ·rw[iV k1.1 k2.1] at e;rw[dZ,if_neg (of_decide_eq_false e)];exact ih sh k1.1 k2.1 s1 h2.1 x1 y1
theorem aBH:∀(n:Nat)(sh:Sh) {A:Around} {s:Shared} {d d':D} {u v:Value},A.units+n<cLine->dN n d=true->dN n d'=true->hs sh d->hs sh d'->IsK s.heap d u->IsK s.heap d' v->aCt A s u v (ltD d d'):=by
 intro n
 induction n with
 |zero =>
  intro sh A s d d' u v hu k1 k2 h1 h2 x y;rcases aV h1 with⟨rfl,a,rfl⟩|⟨rfl,a,rfl⟩|⟨ss,ds,rfl,rfl,_⟩
  ·rcases aV h2 with⟨_,b,rfl⟩|⟨e,_⟩|⟨_,_,e,_⟩<;>first|cases e|skip
   obtain⟨t,rfl⟩:=cB x;obtain⟨t',rfl⟩:=cB y;rw[gX];exact xA A s a b t t'
  ·rcases aV h2 with⟨e,_⟩|⟨_,b,rfl⟩|⟨_,_,e,_⟩<;>first|cases e|skip
   obtain⟨t,rfl⟩:=cA x;obtain⟨t',rfl⟩:=cA y;rw[jD];exact wR A s a b t t'
  ·obtain⟨m,e,_⟩:=eQ k1;cases e
 |succ n ih =>
  intro sh A s d d' u v hu k1 k2 h1 h2 x y;rcases aV h1 with⟨rfl,a,rfl⟩|⟨rfl,a,rfl⟩|⟨ss,ds,rfl,rfl,g1⟩
  ·rcases aV h2 with⟨_,b,rfl⟩|⟨e,_⟩|⟨_,_,e,_⟩<;>first|cases e|skip
   obtain⟨t,rfl⟩:=cB x;obtain⟨t',rfl⟩:=cB y;rw[gX];exact xA A s a b t t'
  ·rcases aV h2 with⟨e,_⟩|⟨_,b,rfl⟩|⟨_,_,e,_⟩<;>first|cases e|skip
   obtain⟨t,rfl⟩:=cA x;obtain⟨t',rfl⟩:=cA y;rw[jD];exact wR A s a b t t'
  ·rcases aV h2 with⟨e,_⟩|⟨e,_⟩|⟨_,ds',e,rfl,g2⟩<;>first|(cases e;done)|skip
   cases e;obtain⟨m,e,k1⟩:=eQ k1;cases e;obtain⟨m',e,k2⟩:=eQ k2;cases e;obtain⟨l,its,rfl,hl,xs⟩:=cV x;obtain⟨b,its',rfl,hb,ys⟩:=cV y;intro prog w E Q h;obtain⟨⟨cls,dd,data,sl⟩,ho,hc,nn,hd⟩:=id hl;obtain⟨⟨cls2,dd2,data2,sl2⟩,ho2,hc2,nn2,hd2⟩:=id hb;simp only at hc hd hc2 hd2;subst hc hd hc2 hd2;rw[jN] at h;have hu1:A.in1.units+n<cLine:=by show A.units+1+n<cLine;omega
   exact richCompare_meets_room (op:=.Lt) ⟨_,ho,rfl⟩ ⟨_,ho2,rfl⟩ PySem.F.slot_tuple_lt PySem.F.entry_tuple_lt (PySem.F.args_tuple_lt_2 _ _) (aA3 l b its its' nn nn2 dd dd2 sl sl2 (eC ds ds'))
    ⟨ho,ho2,aAC hu1 (λsh {d d' u v}=>ih sh (A:=A.in1) (s:=s) hu1) k1 k2 g1 g2 xs ys,show Value.bool (eC ds ds')≠Value.notImplemented/\Q (.bool (eC ds ds')) s from⟨(λx=>nomatch x),h⟩⟩ (by omega)
section
variable {prog:Program}{w:World}{A:Around}{E:Value->Shared->Prop}{s:Shared}
noncomputable def shB:Sh->Bool
 |.t _=>false
 |_=>true
theorem sE {n:Nat}(hu:A.units+n<cLine){b fin:Bool}{Q:Bool->Shared->Prop}:∀{ss:List Sh}{ds ds':List D} {us vs:List Value} {i:Nat},(b&&i==0)=false->ds.all (dN n)=true->ds'.all (dN n)=true->hss ss ds->hss ss ds'->dP s.heap ds us->dP s.heap ds' vs ->
  fin=decide (ds.length<ds'.length)->Q (eC ds ds') s->PySem.W.KatLex prog w A b fin Q (us.zip vs) i s
 |ss,[],ds',us,vs,i,_,_,_,_,_,x,y,hf,h=>by
  rw[cN x,List.zip_nil_left];refine PySem.W.kat_nil ?_;rw[hf];cases ds' with
  |nil=>rw[eC] at h;exact h
  |cons d ds=>rw[eC] at h;rw[decide_eq_true (by simp)];exact h
 |ss,d::ds,[],us,vs,i,_,_,_,_,_,x,y,hf,h=>by rw[cN y,List.zip_nil_right];refine PySem.W.kat_nil ?_;rw[hf,decide_eq_false (by simp)];rw[eC] at h;exact h
 |ss,d::ds,d'::ds',us,vs,i,hi,k1,k2,h1,h2,x,y,hf,h=>by
  obtain⟨u,r,rfl,x1,x2⟩:=bO x;obtain⟨v,r',rfl,y1,y2⟩:=bO y;obtain⟨sh,ss',rfl,s1,s2⟩:=wY h1;unfold hss at h2;rw[all_cons,Bool.and_eq_true] at k1 k2;rw[zip_cons_cons];refine PySem.W.kat_cons (uT n hu k1.1 k2.1 x1 y1 _ _ _ _ ?_);rw[iV k1.1 k2.1];rw[dZ] at h;by_cases e:d=d'
  ·rw[decide_eq_true e];rw[if_pos e] at h;exact PySem.W.kat_yes (sE hu (by simp) k1.2 k2.2 s2 h2.2 x2 y2 (by rw[hf];simp) h)
  ·rw[decide_eq_false e];rw[if_neg e] at h;refine PySem.W.kat_no ?_;rw[hi];exact PySem.W.kat_one _ _ (aBH n sh hu k1.1 k2.1 s1 h2.1 x1 y1 prog w _ (PySem.W.BoolBack Q) h)
theorem aJF {n:Nat}(hu:A.units+n<cLine){s0:Sh}{ss:List Sh}{d d':D}{u v:Value}{Q:Bool->Shared->Prop}(k1:dN (n+1) d=true)(k2:dN (n+1) d'=true)(h1:hs (.t (s0::ss)) d)(h2:hs (.t (s0::ss)) d')(n1:d ≠ .tup [])(n2:d' ≠ .tup [])(x:IsK s.heap d u)(y:IsK s.heap d' v)(h:Q (ltD d d') s):wpAny (model prog w) A (keyLt' (tuples' (shB s0)) u v) Q E s:=by
 rcases aV h1 with⟨e,_⟩|⟨e,_⟩|⟨_,ds,e,rfl,g1⟩<;>first|(cases e;done)|skip
 cases e;rcases aV h2 with⟨e,_⟩|⟨e,_⟩|⟨_,ds',e,rfl,g2⟩<;>first|(cases e;done)|skip
 cases e;obtain⟨m,e,k1⟩:=eQ k1;cases e;obtain⟨m',e,k2⟩:=eQ k2;cases e;obtain⟨l,its,rfl,⟨o,ho,_,nn,hd⟩,xs⟩:=cV x;obtain⟨b,its',rfl,⟨o',ho',_,nn',hd'⟩,ys⟩:=cV y;have l1:its.size=ds.length:=by have:=kG xs;simpa using this.symm
 have l2:its'.size=ds'.length:=by have:=kG ys;simpa using this.symm
 refine PySem.W.kat_lt ho hd ho' hd' ?_;rw[l1,l2];cases ds with
 |nil=>exact absurd rfl n1
 |cons d ds =>
  cases ds' with
  |nil=>exact absurd rfl n2
  |cons d' ds' =>
   obtain⟨u,r,eu,x1,x2⟩:=bO xs;obtain⟨v,r',ev,y1,y2⟩:=bO ys;rw[eu,ev,zip_cons_cons];unfold hss at g1 g2;rw[all_cons,Bool.and_eq_true] at k1 k2;refine PySem.W.kat_cons (uT n hu k1.1 k2.1 x1 y1 _ _ _ _ ?_);rw[iV k1.1 k2.1];rw[jN,dZ] at h;by_cases e:d=d'
   ·rw[decide_eq_true e];rw[if_pos e] at h;exact PySem.W.kat_yes (sE hu (by simp) k1.2 k2.2 g1.2 g2.2 x2 y2 (by simp) h)
   ·rw[decide_eq_false e];rw[if_neg e] at h;refine PySem.W.kat_no ?_;cases s0 with
    |i =>
     rcases aV g1.1 with⟨_,a,rfl⟩|⟨e,_⟩|⟨_,_,e,_⟩<;>first|cases e|skip
     rcases aV g2.1 with⟨_,c,rfl⟩|⟨e,_⟩|⟨_,_,e,_⟩<;>first|cases e|skip
     obtain⟨t,rfl⟩:=cB x1;obtain⟨t',rfl⟩:=cB y1;rw[gX] at h;exact oneLt_int h
    |s =>
     rcases aV g1.1 with⟨e,_⟩|⟨_,a,rfl⟩|⟨_,_,e,_⟩<;>first|cases e|skip
     rcases aV g2.1 with⟨e,_⟩|⟨_,c,rfl⟩|⟨_,_,e,_⟩<;>first|cases e|skip
     obtain⟨t,rfl⟩:=cA x1;obtain⟨t',rfl⟩:=cA y1;rw[jD] at h;exact oneLt_str h
    |t sx=>exact PySem.W.kat_one _ _ (aBH n _ hu k1.1 k2.1 g1.1 g2.1 x1 y1 prog w _ (PySem.W.BoolBack Q) h)
end
noncomputable def shT:Sh->Value
 |.i=>.type "int"
 |.s=>.type "str"
 |.t _=>.type "tuple"
theorem aE0 {M:Model}{h:Heap}{s0:Sh}{ss:List Sh}:∀{ds:List D}{its:List Value},(∀d∈ds,hs (.t (s0::ss)) d/\d ≠ .tup [])->dP h ds its->∃fs,PySem.W.KatTups h its fs/\fs.length=ds.length/\∀v∈fs,PySem.W.Looks M h (typeOf v) (shT s0)
 |[],its,_,x=>by rw[cN x];exact⟨[],True.intro,rfl,λ_ z=>nomatch z⟩
 |d::ds,its,hd,x=>by
  obtain⟨v,r,rfl,x1,x2⟩:=bO x;obtain⟨fs,t,l,hf⟩:=aE0 (M:=M) (λd h=>hd d (mem_cons_of_mem _ h)) x2;obtain⟨h1,n1⟩:=hd d mem_cons_self;rcases aV h1 with⟨e,_⟩|⟨e,_⟩|⟨_,es,e,rfl,g1⟩<;>first|(cases e;done)|skip
  cases e;obtain⟨a,its',rfl,⟨o,ho,hc,n,hd'⟩,ks⟩:=cV x1;cases es with
  |nil=>exact absurd rfl n1
  |cons e es =>
   obtain⟨f,r',ef,k1,_⟩:=bO ks;unfold hss at g1;refine⟨f::fs,PySem.W.KatTups.cons ho hc hd' (by rw[<- Array.getElem?_toList,ef];rfl) t,by rw[length_cons,length_cons,l],λv hv=>?_⟩;rcases List.mem_cons.mp hv with z|z
   ·subst z;cases s0 with
    |i =>
     rcases aV g1.1 with⟨_,a,rfl⟩|⟨e,_⟩|⟨_,_,e,_⟩<;>first|cases e|skip
     obtain⟨t,rfl⟩:=cB k1;exact .now
    |s =>
     rcases aV g1.1 with⟨e,_⟩|⟨_,a,rfl⟩|⟨_,_,e,_⟩<;>first|cases e|skip
     obtain⟨t,rfl⟩:=cA k1;exact .now
    |t sx =>
     rcases aV g1.1 with⟨e,_⟩|⟨e,_⟩|⟨_,es',e,rfl,_⟩<;>first|(cases e;done)|skip
     obtain⟨b,_,rfl,⟨o2,ho2,hc2,_⟩,_⟩:=cV k1;have this:PySem.W.Looks M h (typeOf (.ref b)) o2.cls:=(PySem.W.Looks.ld ho2).andThen .now;rw[hc2] at this;exact this
   ·exact hf v z
def yC:DSp:=λds M Q=>match ds with
 |[.ref a]=>∃(xs:List D)(s0:Sh) (ss:List Sh),M a=some xs/\(∀d∈xs,hs (.t (s0::ss)) d/\d ≠ .tup [])/\xs.all (dN 6)=true/\xs.length<64/\∀(p:Addr)(zs:List D),M p=none->zs.Perm xs->zs.Pairwise (λa b=>ltD b a=false)->Q (.ref p) (aU M p zs)
 |_=>False
section
variable {X:Cx}
theorem aBE (hu:X.A.units+20<cLine):eB X (.builtin "sorted") yC:=by
 intro pins s σ H xs us Q I r ⟨ds,M,Q',rs,hm,q,k⟩
 match ds,q with
 |[.ref a],q =>
  obtain⟨ps,s0,ss,ha,sh,all6,l64,q⟩:=q;obtain⟨v,rfl,rv⟩:=fS rs;obtain rfl:=aM rv;obtain⟨u,rfl,ru⟩:=pA r;cases ru;obtain⟨vs,hH,hr⟩:=hm.l a _ ha;obtain⟨hz,its,n,hv,hl,e⟩:=I.lstM hH;obtain⟨m,F0⟩:=I.fr;have lp:ps.length=its.length:=by have:=hr.length;omega
  by_cases l2:ps.length<2
  ·refine PySem.W.ky_sorted F0 xH (vs:=its) ⟨_,e,rfl,_,rfl⟩ (by omega) λq1 c h2 F2 N2 lt1=>?_;obtain⟨hq,I2⟩:=sU (t':=s.toks) I F0 (zs:=vs) lt1 F2 N2 hv hz;refine⟨.ref q1,_,I2,rfl,k _ _ ⟨.ref q1,_,cK,hm.lnew hq hr,Ext.new hq _,q q1 _ (hm.fresh hq) (.refl _) ?_⟩⟩
   match ps,l2 with
   |[],_=>exact .nil
   |[_],_=>exact pairwise_singleton _ _
   |_::_::_,c=>exact absurd c (by simp)
  have kp0:∀i,i<ps.length->dN 6 (ps.getD i .non)=true:=λi hi=>by rw[getD_eq_getElem?_getD,getElem?_eq_getElem hi];exact List.all_eq_true.mp all6 _ (getElem_mem hi)
  have sh0:∀i,i<ps.length->hs (.t (s0::ss)) (ps.getD i .non)/\ps.getD i .non ≠ .tup []:=λi hi=>by rw[getD_eq_getElem?_getD,getElem?_eq_getElem hi];exact sh _ (getElem_mem hi)
  have isk:∀(h:Heap),(∀b its,IsTup s.heap b its->IsTup h b its)->∀i,i<ps.length->IsK h (ps.getD i .non) (its.getD i Value.none):=λh kp i hi=>by
   obtain⟨v,e1,rv⟩:=hr.get (i:=i) (d:=ps.getD i .non) (by rw[getElem?_eq_getElem hi,getD_eq_getElem?_getD,getElem?_eq_getElem hi];rfl);obtain⟨x,e2,rx⟩:=hv.get e1;have e3:its.getD i Value.none=x:=by rw[getD_eq_getElem?_getD,e2];rfl
   rw[e3];exact(lQ I (kp0 i hi) rv rx).keep kp
  refine PySem.W.kat_sorted F0 xH (vs:=its) ⟨_,e,rfl,_,rfl⟩ (by omega) (by omega) λq1 e1 h1 F1 N1 lt1=>?_;have kp1:∀b its,IsTup s.heap b its->IsTup h1 b its:=λb its ⟨o,ho,hc,n,hd⟩=>by
   refine⟨o,?_,hc,n,hd⟩;have hb:b≠X.env.locals:=λz=>by obtain⟨o',es,ep,ho',hd',_⟩:=F0.ns;rw[<- z,ho] at ho';cases ho';rw[hd] at hd';cases hd'
   cases z:X.base.get? b with
   |some u =>
    have:=I.bk b u z;rw[ho] at this;cases this;exact F1.keep b _ z
   |none=>exact(N1 (b,o) (mem_cons_of_mem _ (kJ hb z ho))).1
  have isk1:=isk h1 kp1;have hK:dP h1 ps its:=(uF I all6 hr hv).keep kp1;obtain⟨fs,tf,lf,hf⟩:=aE0 (M:=model X.prog X.w) sh hK;refine PySem.W.kat_kind (s:={ s with heap:=h1 }) tf (by omega) hf (by cases s0<;>rfl) ?_;rw[show(shT s0 != Value.type "tuple")=shB s0 by cases s0<;>rfl];have hn:0<ps.length:=by omega
  have S:=aAE (aF8 (λd hd=>(sh d hd).1) .non) hn;generalize hlt:(λi j=>ltD (ps.getD i .non) (ps.getD j .non))=lt at S;rw[<- lp];refine wP (n:=ps.length) (lt:=lt) (s:={ s with heap:=h1 }) (λi j C hi hj hC=>?_) _ (aEC hn) ?_
  ·unfold PySem.W.kas_ask;refine aJF (n:=5) (s:={ s with heap:=h1 }) (by show X.A.units+1+1+5<cLine;omega) (kp0 i hi) (kp0 j hj) (sh0 i hi).1 (sh0 j hj).1 (sh0 i hi).2 (sh0 j hj).2 (isk1 i hi) (isk1 j hj) ?_;rw[<- hlt] at hC;exact hC
  ·generalize dU lt (PySem.W.kas_sort ps.length)=p at S;obtain⟨P,inc⟩:=S;have hp:∀i∈p.toList,i<ps.length:=λi hi=>List.mem_range.mp (P.perm.mem_iff.mp hi);obtain⟨r1,v1⟩:=sZ hr hv .non p.toList hp;refine PySem.W.KasFin.intro F1 N1 (.head λq' hq'=>Nat.ne_of_lt (lt1 q' hq')) λh2 c F2 N2=>?_;obtain⟨hq,I2⟩:=sU (t':=s.toks) I F0 (zs:=p.toList.map λi=>vs.getD i .non) lt1 F2 N2 v1 (by rw[length_map,P.perm.length_eq,List.length_range];omega);refine⟨.ref q1,_,I2,rfl,k _ _ ⟨.ref q1,_,cK,hm.lnew hq r1,Ext.new hq _,q q1 _ (hm.fresh hq) ?_ ?_⟩⟩
   ·have:=P.perm.map λi=>ps.getD i .non
    rwa [qL] at this
   ·rw[pairwise_map,List.pairwise_iff_getElem];intro i j hi hj hij;have hs:=P.size;have:=inc i j hij (by simpa[hs] using hj);rw[<- hlt] at this;have gi:∀x (hx:x<p.toList.length),p.getD x 0=p.toList[x]:=λx hx=>by rw[Array.getD_eq_getD_getElem?,Array.getElem?_eq_getElem (by simpa using hx)];simp
    rw[gi i hi,gi j hj] at this;exact this
theorem oM {kr:Nat}(hr:cO kr X.A):eB X (.builtin "sorted") yC:=aBE (by have:=hr.un;omega)
end
end Dd
namespace L2
open PySem PySem.Spec PyProof.Rows
end L2
namespace Dd
open PySem PySem.Spec PyProof.Rows L2
section
variable {X:Cx}{pos:Pos}{iter tg:Expr}{body:List Stmt}{tl:DE}{g:DG}{tb:DS}{ta:DA}
theorem aJT {CX:CXT}{P:Program}{w:World}{K:Frag}{mg:Str->Option Value}{base:Heap}{N:List Str}{qual:Str}{scope:Scope}{f:Addr}{cd:Value}{A:Around}{outer:List Env}{s:Shared}{H:Hp}{E:XK}:(nZ CX P w K mg base N qual scope f cd A outer s H E).w=w:=rfl
end
end Dd
namespace L2
open PySem PySem.Spec PyProof.Rows
section
variable {prog:Program}{w:World}{A:Around}{E:Value->Shared->Prop}{s:Shared}
end
end L2
namespace Dd
open PySem PySem.Spec PyProof.Rows L2
section
variable {X:Cx}{pos:Pos}{iter tg:Expr}{body:List Stmt}{tl:DE}{g:DG}{tb:DS}{ta:DA}
end
end Dd
namespace L2
open PySem PySem.Spec PyProof.Rows
end L2
namespace Dd
open PySem PySem.Spec PyProof.Rows L2
section
variable {X:Cx}{pos:Pos}{iter tg elt:Expr}{body:List Stmt}{tl te:DE}{g:DG}{tb:DS}{ta:DA}
variable {scope:Scope}{N':List Str}{fr:List (Option Nat)}{oN:List Str}{osc:Scope}
end
section
variable {prog:Program}{w:World}{A:Around}{E:Value->Shared->Prop}{s:Shared}
end
section
variable {X:Cx}{pos:Pos}
theorem wL {K:Frag}{H:Hp}{ds:List D}{vs:List V}(r:aY K H ds vs):∀k:Nat,aY K H (replicate k ds).flatten (replicate k vs).flatten
 |0=>cD
 |k+1=>by rw[replicate_succ,flatten_cons,replicate_succ,flatten_cons];exact r.append (wL r k)
theorem wG {vs:List V}{us:List Value}(r:bJ vs us):∀k:Nat,bJ (replicate k vs).flatten (replicate k us).flatten
 |0=>.nil
 |k+1=>by rw[replicate_succ,flatten_cons,replicate_succ,flatten_cons];exact r.append (wG r k)
theorem aAD (its:List Value)(k:Nat):(replicate k its.toArray).foldl (· ++ ·) #[]=(replicate k its).flatten.toArray:=by
 have g:∀(k:Nat)(acc:List Value),(replicate k its.toArray).foldl (· ++ ·) acc.toArray=(acc++(replicate k its).flatten).toArray:=λk=>by
  induction k with
  |zero=>intro acc;simp
  |succ k ih =>
   intro acc;rw[replicate_succ,foldl_cons,List.append_toArray,ih,replicate_succ,flatten_cons,append_assoc]
 exact g k []
def zN (P:Program)(w:World)(K:Frag)(mg:Str->Option Value)(base:Heap)(j:Nat)(tf:DE)(ta:DA):DE:=λρ M Q=>tf ρ M λd M1=>match d with
 |.ref f=>∃n ps sp,mg n=some (.ref f)/\Has P w K mg base j n ps sp/\ta ρ M1 λds M2=>sp ds M2 Q
 |_=>False
theorem wZ {x:Str}{p:Pos}{e:Expr}{es:List Expr}{tf:DE}{ta:DA}{j k:Nat}(hf:PDE X (.Name x p) tf)(hr:cO k X.A)(hjk:j<=k)(ha:PDA X (e::es) ta)(he:starEach (e::es) X.env=(false,eval e X.env)::starEach es X.env:=by rfl)(hpl:(backTo pos (starEach es X.env)).any (·.1)=false:=by rfl):PDE X (.Call (.Name x p) (e::es) [] pos) (zN X.prog X.w X.K X.mg X.base j tf ta):=by
 intro pins s σ H Q I ⟨ρ,M,Q',re,hm',q,kq⟩;refine wpAny_Call_Name_kw (thn (hf pins s σ H _ I ⟨ρ,M,_,re,hm',q,λ_ _ z=>z⟩) λu s1 ⟨y,H1,I1,ry,d1,M1,r1,hm1,e1,q1⟩=>?_);cases d1 with
 |ref f =>
  obtain⟨n,ps,sp,hm,⟨f',fd,F,hm2,hk,hb⟩,q1⟩:=q1;obtain rfl:f=f':=by rw[hm] at hm2;cases hm2;rfl
  rw[aM r1] at ry;cases ry;refine callWith_K (h₀:=X.base) I1.ok.mod.kin hk (thn (ha pos pins s1 σ H1 _ I1 ⟨ρ,M1,_,re.ext e1,hm1,q1,λ_ _ z=>z⟩) λus s2 ⟨vs,H2,I2,r2,ds,M2,rs,hm2,e2,q2⟩=>⟨I2.kIn,?_⟩) he hpl;exact aBr F (hr.mono hjk) hb .nil aEW I2 r2 ⟨ds,M2,Q',by rw[append_nil];exact rs,hm2,q2,λv H' z=>kq v H' (z.back (e1.trans e2))⟩
 |_=>exact q1.elim
end
section
variable {P:Program}{w:World}{K:Frag}{mg:Str->Option Value}{base:Heap}
end
end Dd
namespace HT
open PySem PyProof.Rows
section
variable {prog:Program}{w:World}{A:Around}{E:Value->Shared->Prop}{s:Shared}
end
end HT
namespace L2
open PySem PySem.Spec PyProof.Rows
variable {X:Cx}
end L2
namespace Dd
open PySem PySem.Spec PyProof.Rows L2
section
variable {X:Cx}{e:Expr}{te:DE}{pos p2:Pos}{lo hi:Option Expr}{tl th:DO}
end
section
variable {X:Cx}{pins:List (Addr×Obj)}{σ:L2.St}{H:Hp}{s:Shared}{M:Model}{A:Around}{E:Value->Shared->Prop}{e T:Addr}{cls:Value}
end
section
variable {X:Cx}{e:Expr}{es:List Expr}{t:DA}{f:Str}{ps:List Str}{cond:List D->DM->Prop}{C:Addr}{k1 k:Nat}{V:DM->Prop}{pf pc:Pos}
end
section
variable {P:Program}{w:World}{K:Frag}{mg:Str->Option Value}{base:Heap}
theorem Has.never {x:Str}{st:Stmt}{N ps:List Str}(h:cQ K mg x st ps)(S:aR N ps (aK st))(k:Nat):Has P w K mg base (k+1) x ps (λ_ _ _=>False) :=
 Has.mk h S (λ_ _ _ z=>z.elim) λ_ _ _ _ _ _ _ _ _ _ _ z=>z.elim
theorem Has.mono {x:Str}{ps:List Str}{k k':Nat}{sp:DSp}(h:Has P w K mg base k x ps sp)(l:k<=k'):Has P w K mg base k' x ps sp:=by obtain⟨f,fd,F,hm,hk,hb⟩:=h;exact⟨f,fd,F.mono l,hm,hk,hb⟩
end
section
variable {X:Cx}{a:Expr}{e tg:Expr}{es:List Expr}{t:DA}{g:DG}{f n cm:Str}{ps:List Str}{sp:DSp}{cond:List D->DM->Prop}{C Cm:Addr}{k1 k2 k j:Nat}{ts:Addr->DS}{b0:Stmt}{suite:List Stmt}{pf pc pa pcm ph pos:Pos}
end
open PySem.AutoSeq1 (wpAny_loadPart')
section
variable {X:Cx}
def aHZ:D2:=λx y M Q=>match x,y with
 |.tup xs,.tup ys=>xs.length+ys.length<=1000/\Q (.tup (xs++ys)) M
 |_,_=>False
end
section
variable {X:Cx}{pins:List (Addr×Obj)}{σ:L2.St}{H:Hp}{s:Shared}
end
section
variable {X:Cx}{pos:Pos}
theorem tE :ZE X (.Dict [] [] pos) yP:=.i (aBX)
theorem aAM {o i:Expr}{to ti:DE}{kr:Nat}(hr:cO kr X.A)(ho:ZE X o to)(hi:ZE X i ti)(ha:∀v,assign (.Subscript o i pos) X.env v=(do
   let ov <- holding [v] (eval o X.env)
   let iv <- holding [v,ov] (eval i X.env)
   standAt pos
   holding [v,ov,iv] (setItem ov iv v)
   release [v,ov,iv] []):=by intro _;rfl):ZG X (.Subscript o i pos) (zQ X.w to ti):=.i (aCv hr ho.o hi.o ha)
end
section
variable {X:Cx}{pos:Pos}{iter tg:Expr}{body:List Stmt}{tl:DE}{g:DG}{tb:DS}{ta:DA}
end
section
variable {X:Cx}{pos:Pos}{iter tg:Expr}{body:List Stmt}{tl:DE}{g:DG}{tb:DS}{ta:DA}
end
section
variable {X:Cx}{pos:Pos}{iter tg elt:Expr}{body:List Stmt}{tl te:DE}{g:DG}{tb:DS}{ta:DA}
variable {scope:Scope}{N':List Str}{fr:List (Option Nat)}{oN:List Str}{osc:Scope}
end
section
variable {prog:Program}{w:World}{A:Around}{E:Value->Shared->Prop}{s:Shared}
end
section
variable {X:Cx}{pos:Pos}
theorem sX {x:Str}{p:Pos}{e:Expr}{es:List Expr}{tf:DE}{ta:DA}{j k:Nat}(hf:ZE X (.Name x p) tf)(hr:cO k X.A)(hjk:j<=k)(ha:ZA X (e::es) ta)(he:starEach (e::es) X.env=(false,eval e X.env)::starEach es X.env:=by rfl)(hpl:(backTo pos (starEach es X.env)).any (·.1)=false:=by rfl):ZE X (.Call (.Name x p) (e::es) [] pos) (zN X.prog X.w X.K X.mg X.base j tf ta):=.i (wZ (j:=j) (k:=k) hf.o hr hjk ha.o he hpl)
end
section
variable {P:Program}{w:World}{K:Frag}{mg:Str->Option Value}{base:Heap}
end
section
variable {X:Cx}{e:Expr}{te:DE}{pos p2:Pos}{lo hi:Option Expr}{tl th:DO}
end
section
variable {X:Cx}{pins:List (Addr×Obj)}{σ:L2.St}{H:Hp}{s:Shared}{M:Model}{A:Around}{E:Value->Shared->Prop}{e T:Addr}{cls:Value}
end
section
variable {X:Cx}{e:Expr}{es:List Expr}{t:DA}{f:Str}{ps:List Str}{cond:List D->DM->Prop}{C:Addr}{k1 k:Nat}{V:DM->Prop}{pf pc:Pos}
end
section
variable {P:Program}{w:World}{K:Frag}{mg:Str->Option Value}{base:Heap}
end
section
variable {X:Cx}{a:Expr}{e tg:Expr}{es:List Expr}{t:DA}{g:DG}{f n cm:Str}{ps:List Str}{sp:DSp}{cond:List D->DM->Prop}{C Cm:Addr}{k1 k2 k j:Nat}{ts:Addr->DS}{b0:Stmt}{suite:List Stmt}{pf pc pa pcm ph pos:Pos}
end
section
variable {X:Cx}
end
section
variable {X:Cx}{pins:List (Addr×Obj)}{σ:L2.St}{H:Hp}{s:Shared}
def aIv:D2:=λx y M Q=>match x,y with
 |.ref a,.ref b=>∃xs,M a=some xs/\M b=some []/\Q (.bl (!xs.isEmpty)) M
 |_,_=>False
theorem aCX {k:Nat}(hr:cO k X.A):OpD X (compareOp .NotEq) aIv:=λpins s σ H x y v u Q I rx ry ⟨dx,dy,M,Q',r1,r2,hm,q,k⟩=>by
 match dx,dy,q with
 |.ref a,.ref b,q =>
  obtain⟨xs,ha,hb,q⟩:=q;obtain rfl:=aM r1;obtain rfl:=aM r2;cases rx;cases ry;have un:=hr.un;obtain⟨us,hua,ru⟩:=hm.l a xs ha;obtain⟨ws,hub,rw'⟩:=hm.l b [] hb;obtain⟨z,its,nn,rr,hl,e⟩:=I.lstM hua;obtain⟨z2,its2,n2,r3,hl2,ee2⟩:=I.lstM hub;have i1:s.heap.IsList a its.toArray:=⟨_,e,rfl,_,rfl⟩;have i2:s.heap.IsList b its2.toArray:=⟨_,ee2,rfl,_,rfl⟩;have l3:=ru.length;have l4:=rw'.length;have l5:=rr.length;have l6:=r3.length;have l7:its2.length=0:=by rw[<- l6,<- l4];rfl
  have fin:Q (.bl (!xs.isEmpty)) H:=k _ H ⟨_,M,dW,hm,.refl H,q⟩;cases xs with
  |nil =>
   have l8:its.length=0:=by rw[<- l5,<- l3];rfl
   have:=SeqAt.RcNeAt.lists (A:=X.A) (e:=λ_=>true) i1 i2 (by rw[size_toArray,size_toArray];omega) (by omega) λj j1 _=>absurd j1 (by rw[size_toArray];omega);rw[show(range its.toArray.size).all (λ_=>true)=true by simp] at this;exact this X.prog X.w X.xe _ ⟨.bl (!true),H,I,rfl,fin⟩
  |cons d ds =>
   have l8:its.length=ds.length+1:=by rw[<- l5,<- l3];rfl
   have:=SeqAt.RcNeAt.lists_lengths (A:=X.A) i1 i2 (by rw[size_toArray,size_toArray];simp;omega) (by omega);exact this X.prog X.w X.xe _ ⟨.bl (!false),H,I,rfl,fin⟩
end
def Cm (M:DM):Nat->D->D->Bool->Prop
 |0,d,d',b=>bH 0 d=true/\bH 0 d'=true/\b=eqD d d'
 |n+1,d,d',b=>match d,d' with
  |.tup xs,.tup ys=>∃e:Nat->Bool,(∀j x y,xs[j]?=some x->ys[j]?=some y->Cm M n x y (e j))/\b=((range (min xs.length ys.length)).all e&&xs.length==ys.length)
  |.ref a,.ref a'=>∃xs ys,M a=some xs/\M a'=some ys/\a≠a'/\(xs.length=ys.length->∃e:Nat->Bool,(∀j x y,xs[j]?=some x->ys[j]?=some y->Cm M n x y (e j))/\b=(range xs.length).all e)/\(xs.length≠ys.length->b=false)
  |d,d'=>bH 0 d=true/\bH 0 d'=true/\b=eqD d d'
section
variable {X:Cx}{pins:List (Addr×Obj)}{σ:L2.St}{H:Hp}{s:Shared}{M:DM}
theorem aIm {n:Nat}{d d':D}{b:Bool}(h:Cm M n d d' b)(h1:∀xs,d ≠ .tup xs)(h2:∀a,d ≠ .ref a):bH 0 d=true/\bH 0 d'=true/\b=eqD d d':=by
 cases n with
 |zero=>exact h
 |succ n =>
  cases d with
  |tup xs=>exact absurd rfl (h1 xs)
  |ref a=>exact absurd rfl (h2 a)
  |_=>exact h
theorem aDy:∀(n:Nat){d d':D} {b:Bool} {v:V},Inv X pins σ H s->Cm M n d d' b->Rep X.K H d v->Rep X.K H d' v->b=true:=by
 intro n
 induction n with
 |zero =>
  intro d d' b v I h r r';rw[h.2.2];exact nQ h.1 h.2.1 r r'
 |succ n ih =>
  intro d d' b v I h r r';cases d with
  |tup xs =>
   cases d' with
   |tup ys =>
    obtain⟨e,he,rfl⟩:=h;obtain⟨a,us,rfl,sq,rs⟩:=bI r;obtain⟨a',us',z,sq',rs'⟩:=bI r';cases z;obtain rfl:=I.tuple_inj sq sq';have l1:=rs.length;have l2:=rs'.length;rw[show(xs.length==ys.length)=true by simp;omega,Bool.and_true,List.all_eq_true];intro j hj;rw[List.mem_range] at hj;have j1:j<xs.length:=by omega
    have j2:j<ys.length:=by omega
    have e1:xs[j]?=some xs[j]:=getElem?_eq_getElem j1;have e2:ys[j]?=some ys[j]:=getElem?_eq_getElem j2;obtain⟨v1,w1,r1⟩:=rs.get e1;obtain⟨v2,w2,r2⟩:=rs'.get e2;rw[w1] at w2;cases w2;exact ih I (he j _ _ e1 e2) r1 r2
   |_=>exact absurd h.1 Bool.false_ne_true
  |ref a =>
   cases d' with
   |ref a' =>
    obtain⟨xs,ys,_,_,ne,_⟩:=h;rw[aM r] at r';have:=aM r';cases this;exact absurd rfl ne
   |_=>exact absurd h.1 Bool.false_ne_true
  |_=>rw[h.2.2];exact nQ h.1 h.2.1 r r'
theorem wI {A:Around}{n:Nat}{e:Nat->Bool}(hm:bF X.K M H)(I:Inv X pins σ H s)(ih:∀{d d':D}{b:Bool} {v v':V} {u u':Value},Cm M n d d' b->Rep X.K H d v->Rep X.K H d' v'->RelV v u->RelV v' u'->SeqAt.EqAt A s u u' b){xs ys:List D}{us us':List V}{its its':List Value}(he:∀j x y,xs[j]?=some x->ys[j]?=some y->Cm M n x y (e j))(r1:aY X.K H xs us)(r2:aY X.K H ys us')(v1:bJ us its)(v2:bJ us' its')(j:Nat)(h1:j<its.length)(h2:j<its'.length):SeqAt.EqAt A s its[j] its'[j] (e j):=by
 have l1:=r1.length;have l2:=r2.length;have l3:=v1.length;have l4:=v2.length;have e1:xs[j]?=some (xs[j]'(by omega)):=getElem?_eq_getElem (by omega);have e2:ys[j]?=some (ys[j]'(by omega)):=getElem?_eq_getElem (by omega);obtain⟨w1,q1,p1⟩:=r1.get e1;obtain⟨w2,q2,p2⟩:=r2.get e2;obtain⟨z1,y1,k1⟩:=v1.get q1;obtain⟨z2,y2,k2⟩:=v2.get q2;have f1:its[j]=z1:=by rw[getElem?_eq_getElem h1] at y1;exact Option.some.inj y1
 have f2:its'[j]=z2:=by rw[getElem?_eq_getElem h2] at y2;exact Option.some.inj y2
 rw[f1,f2];exact ih (he j _ _ e1 e2) p1 p2 k1 k2
theorem aCZ {A:Around}{n:Nat}{d d':D}{b:Bool}{a a':Addr}(hm:bF X.K M H)(I:Inv X pins σ H s)(hu:A.units+n<cLine)(ih:∀{d d':D}{b:Bool} {v v':V} {u u':Value},Cm M n d d' b->Rep X.K H d v->Rep X.K H d' v'->RelV v u->RelV v' u'->SeqAt.EqAt A.in1 s u u' b)(h:Cm M (n+1) d d' b)(r:Rep X.K H d (.ref a))(r':Rep X.K H d' (.ref a')):SeqAt.RcAt A s (.ref a) (.ref a') b/\SeqAt.RcNeAt A s (.ref a) (.ref a') (!b):=by
 cases d with
 |tup xs =>
  cases d' with
  |tup ys =>
   obtain⟨e,he,rfl⟩:=h;obtain⟨_,us,z,sq,rs⟩:=bI r;cases z;obtain⟨_,us',z,sq',rs'⟩:=bI r';cases z;obtain⟨its,rv,ht⟩:=gJ I sq;obtain⟨its',rv',ht'⟩:=gJ I sq';have e1:=rs.length;have e2:=rv.length;have e3:=rs'.length;have e4:=rv'.length;rw[show xs.length=its.toArray.size by rw[size_toArray];omega,show ys.length=its'.toArray.size by rw[size_toArray];omega];have hit:∀j (h1:j<its.toArray.size) (h2:j<its'.toArray.size),SeqAt.EqAt A.in1 s its.toArray[j] its'.toArray[j] (e j):=λj j1 j2=>by have:=wI hm I ih he rs rs' rv rv' j (by simpa using j1) (by simpa using j2);simpa using this
   exact⟨SeqAt.RcAt.tuples ht ht' (by omega) hit,SeqAt.RcNeAt.tuples ht ht' (by omega) hit⟩
  |_=>exact absurd h.1 Bool.false_ne_true
 |ref c =>
  cases d' with
  |ref c' =>
   obtain⟨xs,ys,hx,hy,ne,c1,c2⟩:=h;have:=aM r;cases this;have:=aM r';cases this;obtain⟨us,hus,ru⟩:=hm.l a xs hx;obtain⟨ws,hws,rw'⟩:=hm.l a' ys hy;obtain⟨z,its,n1,r1,hl,e⟩:=I.lstM hus;obtain⟨z2,its2,n2,r3,hl2,e2⟩:=I.lstM hws;have i1:s.heap.IsList a its.toArray:=⟨_,e,rfl,_,rfl⟩;have i2:s.heap.IsList a' its2.toArray:=⟨_,e2,rfl,_,rfl⟩;have l3:=ru.length;have l4:=rw'.length;have l5:=r1.length;have l6:=r3.length;by_cases hz:xs.length=ys.length
   ·obtain⟨e',he,rfl⟩:=c1 hz;have hsz:its.toArray.size=its2.toArray.size:=by rw[size_toArray,size_toArray];omega
    have hit:∀j (h1:j<its.toArray.size) (h2:j<its2.toArray.size),SeqAt.EqAt A.in1 s its.toArray[j] its2.toArray[j] (e' j):=λj j1 j2=>by have:=wI hm I ih he ru rw' r1 r3 j (by simpa using j1) (by simpa using j2);simpa using this
    rw[show xs.length=its.toArray.size by rw[size_toArray];omega];exact⟨SeqAt.RcAt.lists i1 i2 hsz (by omega) hit,SeqAt.RcNeAt.lists i1 i2 hsz (by omega) hit⟩
   ·have hsz:(its.toArray.size != its2.toArray.size)=true:=by rw[size_toArray,size_toArray];simp;omega
    rw[c2 hz];exact⟨SeqAt.RcAt.lists_lengths i1 i2 hsz (by omega),SeqAt.RcNeAt.lists_lengths i1 i2 hsz (by omega)⟩
  |_=>exact absurd h.1 Bool.false_ne_true
 |_=>exact(qY h.1 r).elim
theorem aJd (hm:bF X.K M H)(I:Inv X pins σ H s):∀(n:Nat){A:Around} {d d':D} {b:Bool} {v v':V} {u u':Value},A.units+n<cLine->Cm M n d d' b->Rep X.K H d v->Rep X.K H d' v'->RelV v u->RelV v' u'->SeqAt.EqAt A s u u' b:=by
 intro n
 induction n with
 |zero =>
  intro A d d' b v v' u u' hu h r r' q q';rw[h.2.2];exact aAh I 0 hu h.1 h.2.1 r r' q q'
 |succ n ih =>
  intro A d d' b v v' u u' hu h r r' q q';have hu':A.in1.units+n<cLine:=by show A.units+1+n<cLine;omega
  have sc:(∀xs,d ≠ .tup xs)->(∀a,d ≠ .ref a)->SeqAt.EqAt A s u u' b:=λh1 h2=>by obtain⟨p,p',e⟩:=aIm h h1 h2;rw[e];exact aAh I 0 (by omega) p p' r r' q q'
  have sq:∀{a a':Addr},v=.ref a->v'=.ref a'->SeqAt.EqAt A s u u' b:=λ{a a'} e1 e2=>by
   subst e1 e2;cases q;cases q';by_cases c:a=a'
   ·subst c;rw[aDy (n+1) I h r r'];exact SeqAt.EqAt.same _
   ·exact SeqAt.EqAt.of_refs c (aCZ hm I (by omega) (λ{d d' b v v' u u'} h r r' q q'=>ih hu' h r r' q q') h r r').1
  cases d with
  |tup xs =>
   cases d' with
   |tup ys =>
    obtain⟨a,us,e1,_⟩:=bI r;obtain⟨a',us',e2,_⟩:=bI r';exact sq e1 e2
   |_=>exact absurd h.1 Bool.false_ne_true
  |ref c =>
   cases d' with
   |ref c'=>exact sq (aM r) (aM r')
   |_=>exact absurd h.1 Bool.false_ne_true
  |_=>exact sc (λxs z=>nomatch z) λa z=>nomatch z
end
def aBt (g:Bool->Bool):D2:=λx y M Q=>(((∃xs,x=.tup xs)/\∃ys,y=.tup ys)∨((∃a,x=.ref a)/\∃b,y=.ref b))/\∃b,Cm M 20 x y b/\Q (.bl (g b)) M
section
variable {X:Cx}
theorem aAj (hu:X.A.units+60<cLine):OpD X (compareOp .Eq) (aBt id)/\OpD X (compareOp .NotEq) (aBt not):=by
 have key:∀{pins:List (Addr×Obj)}{s:Shared} {σ:L2.St} {H:Hp} {x y:V} {v u:Value} {dx dy:D} {M:DM} {Q':DQ} {g:Bool->Bool},Inv X pins σ H s->RelV x v->RelV y u->Rep X.K H dx x->Rep X.K H dy y->bF X.K M H->aBt g dx dy M Q' ->
   ∃b,SeqAt.RcAt X.A s v u b/\SeqAt.RcNeAt X.A s v u (!b)/\Q' (.bl (g b)) M:=by
  intro pins s σ H x y v u dx dy M Q' g I rx ry r1 r2 hm ⟨sh,b,h,q⟩;have go:∀{a a':Addr},x=.ref a->y=.ref a'->∃b,SeqAt.RcAt X.A s v u b/\SeqAt.RcNeAt X.A s v u (!b)/\Q' (.bl (g b)) M:=λ{a a'} e1 e2=>by
   subst e1 e2;cases rx;cases ry;have hu':X.A.in1.units+19<cLine:=by show X.A.units+1+19<cLine;omega
   obtain⟨h1,h2⟩:=aCZ hm I (n:=19) (by omega) (λ{d d' b v v' u u'} h r r' q q'=>aJd hm I 19 hu' h r r' q q') h r1 r2;exact⟨b,h1,h2,q⟩
  rcases sh with⟨⟨xs,rfl⟩,ys,rfl⟩|⟨⟨a,rfl⟩,a',rfl⟩
  ·obtain⟨a,us,e1,_⟩:=bI r1;obtain⟨a',us',e2,_⟩:=bI r2;exact go e1 e2
  ·exact go (aM r1) (aM r2)
 refine⟨λpins s σ H x y v u Q I rx ry ⟨dx,dy,M,Q',r1,r2,hm,q,k⟩=>?_,λpins s σ H x y v u Q I rx ry ⟨dx,dy,M,Q',r1,r2,hm,q,k⟩=>?_⟩
 ·obtain⟨b,h1,_,q⟩:=key I rx ry r1 r2 hm q;exact h1 X.prog X.w X.xe _ ⟨.bl b,H,I,rfl,k _ H ⟨.bl b,M,dW,hm,.refl H,q⟩⟩
 ·obtain⟨b,_,h2,q⟩:=key I rx ry r1 r2 hm q;exact h2 X.prog X.w X.xe _ ⟨.bl (!b),H,I,rfl,k _ H ⟨.bl (!b),M,dW,hm,.refl H,q⟩⟩
theorem tV {k:Nat}(hr:cO k X.A):OpD X (compareOp .Eq) (aBt id):=(aAj (by have:=hr.un;omega)).1
theorem aB4 {k:Nat}(hr:cO k X.A):OpD X (compareOp .NotEq) (aBt not):=(aAj (by have:=hr.un;omega)).2
end
mutual
theorem xQ:∀{n:Nat}{d:D},bH n d=true->eqD d d=true
 |_,.non,_=>rfl
 |_,.bl b,_=>by simp[eqD]
 |_,.int b,_=>by simp[eqD]
 |_,.str b,_=>by simp[eqD]
 |n+1,.tup xs,h=>by rw[eqD];exact tF (n:=n) h
 |0,.tup xs,h=>absurd h Bool.false_ne_true
 |n,.ref a,h=>by cases n<;>exact absurd h Bool.false_ne_true
 |n,.fz a,h=>by cases n<;>exact absurd h Bool.false_ne_true
theorem tF:∀{n:Nat}{xs:List D},xs.all (bH n)=true->fR xs xs=true
 |_,[],_=>by simp[fR]
 |n,x::xs,h=>by rw[all_cons,Bool.and_eq_true] at h;show(eqD x x&&fR xs xs)=true;rw[xQ h.1,tF h.2];rfl
end
theorem aAc {M:DM}:∀{n:Nat}{d:D},bH n d=true->Cm M n d d true
 |0,d,h=>⟨h,h,(xQ h).symm⟩
 |n+1,.tup xs,h=>⟨λ_=>true,λj x y e1 e2=>by rw[e1] at e2;cases e2;have hx:bH n x=true:=(List.all_eq_true.mp h) x (mem_of_getElem? e1);exact aAc hx,by simp⟩
 |n+1,.non,h=>⟨rfl,rfl,rfl⟩
 |n+1,.bl b,h=>⟨rfl,rfl,by simp[eqD]⟩
 |n+1,.int b,h=>⟨rfl,rfl,by simp[eqD]⟩
 |n+1,.str b,h=>⟨rfl,rfl,by simp[eqD]⟩
 |n+1,.ref a,h=>absurd h Bool.false_ne_true
 |n+1,.fz a,h=>absurd h Bool.false_ne_true
theorem iK {M:DM}{n:Nat}{a b:Addr}{xs:List D}(ha:M a=some xs)(hb:M b=some xs)(ne:a≠b)(h:∀x∈xs,bH n x=true):Cm M (n+1) (.ref a) (.ref b) true :=
 ⟨xs,xs,ha,hb,ne,λ_=>⟨λ_=>true,λj x y e1 e2=>by rw[e1] at e2;cases e2;exact aAc (h x (mem_of_getElem? e1)),by simp⟩,λz=>absurd rfl z⟩
noncomputable def aIw (w:World)(kvs:List (Str×D)):List D:=kvs.map λp=>.tup [.int (hashStr w p.1),.str p.1,p.2]
section
variable {X:Cx}{pins:List (Addr×Obj)}{σ:L2.St}{H:Hp}{s:Shared}
end
section
variable {X:Cx}{pos:Pos}
end
section
variable {X:Cx}{pins:List (Addr×Obj)}{σ:L2.St}{H:Hp}{s:Shared}
end
section
variable {X:Cx}{pos:Pos}
end
def FK (K:Frag)(x:Str)(f:Addr)(st:Stmt):Prop:=nsIn K mainGlobals x=some (some (.ref f))/\∃fd,L2.Fun K x x st f fd
theorem FK.has {K:Frag}{mg:Str->Option Value}{h:Heap}{x:Str}{f:Addr}{st:Stmt}{ps:List Str}(b:FK K x f st)(X:K.In h)(G:h.Ns mainGlobals mg)(r:∀(kV doc pm:Value)(an:Option Addr) (cdv ct:Value) (us:List Value),us.length=ps.length->bindArgs (fnOf x x (jE st) (dY st) (aK st) .none kV doc pm an cdv ct) ⟨us,[]⟩=pure (ps.zip us)):cQ K mg x st ps :=
 let ⟨a,_,F⟩:=b;⟨_,_,F,mg_of X G a,F.binds r⟩
section
variable {X:Cx}{pos:Pos}{st:Stmt}{t1 t2:DS}{iter tg:Expr}{body:List Stmt}{tl:DE}{g:DG}{tb:DS}
def aH7:D2:=λx y M Q=>match x,y with
 |.ref a,.int n=>∃ds,M a=some ds/\ds≠[]/\-(2^62)<=n/\n<2^62/\ds.length*n.toNat<=1000/\∀p:Addr,M p=none->Q (.ref p) (aU M p (replicate n.toNat ds).flatten)
 |_,_=>False
theorem aEa:OpD X (binaryOp .Mult) aH7:=by
 intro pins s σ H x y v u Q I rx ry ⟨dx,dy,M,Q',r1,r2,hm,q,k⟩
 match dx,dy,q with
 |.ref a,.int n,q =>
  obtain⟨ds,ha,ne,h1,h2,hz,q⟩:=q;obtain⟨vs,hu,rs⟩:=hm.l a ds ha;obtain rfl:=aM r1;obtain rfl:=aQ r2;cases rx;obtain⟨t,rfl⟩:=ry;obtain⟨z,its,m,rv,hl2,ho⟩:=I.lstM hu;have l1:=rs.length;have l2:=rv.length;have hs:=dE hz;have he:its.toArray.isEmpty=false:=by
   cases its with
   |nil=>exact absurd (List.length_eq_zero_iff.mp (by rw[l1,l2];rfl)) ne
   |cons a b=>rfl
  have hz':its.toArray.size*n.toNat<=sizeLine:=by rw[size_toArray,<- l2,<- l1];exact Nat.le_of_lt hs
  refine wpAny_binaryOp_repeat_ref (T:="list") (U:="int") (by decide) ⟨_,ho,rfl⟩ (λs'=>typeIs_int s' n t) noFill_list_mul F.fills_int_mul F.slot_int_rmul repeat_list F.slot_int_index.lookup
   (call_meets F.slot_int_rmul (typeIs_int s n t) F.entry_int_rmul (F.args_int_rmul_2 _ _) (int___rmul___int_list n t a its.toArray m) ⟨ho,rfl,⟨_,ho,rfl⟩,?_⟩)
  refine call_meets F.slot_list_mul ⟨_,ho,rfl⟩ F.entry_list_mul (F.args_list_mul_2 _ _) (AutoListH.list___mul___list_int_3 a its.toArray m n t (by simp[Builtin.List.listFitsIndex];omega) (by simp[sizeLine] at hz';simp;omega) (by simp[Builtin.List.listTooLong];exact by simpa using hz')) ⟨ho,?_⟩;rw[he];simp only[Bool.false_eq_true,if_false];have ef:=aAD its n.toNat;rw[show(List.foldl (λx1 x2=>x1++x2) #[] (replicate n.toNat its.toArray))=(replicate n.toNat its).flatten.toArray from ef];have hl:(replicate n.toNat its).flatten.length<=sizeLine:=by rw[L2.len_rep];rw[size_toArray,Nat.mul_comm] at hz';exact hz'
  exact⟨.ref _,_,I.lnew (t':=s.toks) (wG rv n.toNat) (by rw[L2.len_rep,l2,<- L2.len_rep];exact hl),rfl,k _ _ ⟨.ref _,_,cK,hm.lnew I.fresh (wL rs n.toNat),Ext.new I.fresh _,q _ (hm.fresh I.fresh)⟩⟩
end
section
variable {X:Cx}{pos:Pos}{st:Stmt}{t1 t2:DS}{iter tg:Expr}{body:List Stmt}{tl:DE}{g:DG}{tb:DS}
end
open Mz
section
variable {prog:Program}{w:World}{A:Around}{I S:Addr}{fp wr:List Addr}{n:Nat}{P:Nat->Value->Prop}{St:Nat->Heap->Prop}{R:Result->Shared->Prop}{dv:Value}
end
section
variable {prog:Program}{w:World}{A:Around}{E:Value->Shared->Prop}{s:Shared}{l:Addr}{xs:Array (Int×Tok)}{dv:Value}
end
section
variable {X:Cx}{pos p kp:Pos}{e d:Expr}{te td:DE}
end
section
variable {X:Cx}{pos:Pos}{iter tg:Expr}{body:List Stmt}{te:DE}
end
section
variable {prog:Program}{w:World}{A:Around}{I S:Addr}{fp wr:List Addr}{n:Nat}{P:Nat->Value->Prop}{St:Nat->Heap->Prop}{R:Result->Shared->Prop}{dv:Value}
end
section
variable {prog:Program}{w:World}{A:Around}{E:Value->Shared->Prop}{s:Shared}{l:Addr}{xs:Array (Int×Tok)}{dv:Value}
end
section
variable {X:Cx}{pos p kp:Pos}{e d:Expr}{te td:DE}
end
section
variable {X:Cx}{pos:Pos}{iter tg:Expr}{body:List Stmt}{te:DE}
end
section
variable {X:Cx}{pos:Pos}{elt iter tg cnd:Expr}{scope:Scope}{N':List Str}{fr:List (Option Nat)}{tl:DE}{oN:List Str}{osc:Scope}{g:DG}{tc:DT}{te:DE}{e:Expr}{t1 t2:DE}
end
section
variable {X:Cx}{pos:Pos}{elt iter tg cnd:Expr}{scope:Scope}{N':List Str}{fr:List (Option Nat)}{tl:DE}{oN:List Str}{osc:Scope}{g:DG}{tc:DT}{te:DE}{e:Expr}{t1 t2:DE}
end
section
variable {X:Cx}{a:Expr}{e:Expr}{es:List Expr}{t:DA}{f n cm:Str}{ps:List Str}{sp:DSp}{cond:List D->DM->Prop}{C Cm:Addr}{k1 k2 k j:Nat}{ts:Addr->DS}{b0:Stmt}{suite:List Stmt}{pf pc pa pcm ph pos:Pos}
end
def aHY (b:Bool)(j:Nat)(a:Addr):DE:=λρ M Q=>ρ[j]?=some (some (.ref a))/\Q (.bl b) M
section
variable {X:Cx}{n c:Str}{C Cc a:Addr}{o:Obj}{p p1 p2 pos:Pos}{j:Nat}
end
def aJ3 (t1 t2:DS):DS:=λE ρ M=>t1 E ρ M∨t2 E ρ M
section
variable {X:Cx}{st:Stmt}{t1 t2:DS}
end
section
variable {prog:Program}{w:World}{A:Around}{E:Value->Shared->Prop}{s:Shared}
end
section
variable {X:Cx}
end
def aIt (i:Nat)(te:DE):DS:=λE ρ M=>match ρ[i]? with
 |some (some d)=>te ρ M λy M1=>aHZ d y M1 λr M2=>E.nx (ρ.set i (some r)) M2
 |_=>False
section
variable {X:Cx}{e:Expr}{te:DE}{x:Str}{pos:Pos}
end
section
variable {X:Cx}{a:Expr}{e:Expr}{es:List Expr}{t:DA}{f n cm:Str}{ps:List Str}{sp:DSp}{cond:List D->DM->Prop}{C Cm:Addr}{k1 k2 k j:Nat}{ts:Addr->DS}{b0:Stmt}{suite:List Stmt}{pf pc pa pcm ph pos:Pos}
end
section
variable {X:Cx}{n c:Str}{C Cc a:Addr}{o:Obj}{p p1 p2 pos:Pos}{j:Nat}
end
section
variable {X:Cx}{st:Stmt}{t1 t2:DS}
end
section
variable {prog:Program}{w:World}{A:Around}{E:Value->Shared->Prop}{s:Shared}
end
section
variable {X:Cx}
end
section
variable {X:Cx}{e:Expr}{te:DE}{x:Str}{pos:Pos}
end
section
variable {prog:Program}{w:World}{A:Around}{E:Value->Shared->Prop}{s:Shared}
end
def aJf:DSp:=λds M Q=>match ds with
 |[.tup [.int a,.int b]]=>Q (.int (if b > a then b else a)) M
 |_=>False
section
variable {X:Cx}
end
section
variable {X:Cx}{o e:Expr}{to te:DE}{pos:Pos}
def aCR (to te:DE):DE:=λρ M Q=>to ρ M λx M1=>match x with
 |.ref p=>(∃ds,M1 p=some ds)/\eR te lH ρ M1 λys M2=>∃ds y,ys=[y]/\M2 p=some ds/\ds.length<10000000/\Q .non (aU M2 p (ds++[y]))
 |_=>False
def aCF (to te:DE):DE:=λρ M Q=>to ρ M λx M1=>match x with
 |.ref p=>(∃ds,M1 p=some ds)/\eR te lH ρ M1 λys M2=>∃ds q es,ys=[.ref q]/\M2 p=some ds/\M2 q=some es/\ds.length+es.length<=10000000/\Q .non (aU M2 p (ds++es))
 |_=>False
end
section
variable {X:Cx}{pos:Pos}
def aFC:D2:=λx y M Q=>match x,y with
 |.tup ds,.int k=>-(2^62)<=k/\k<2^62/\ds.length*k.toNat<=10000000/\Q (.tup (replicate k.toNat ds).flatten) M
 |_,_=>False
def aCy:D2:=λx y M Q=>match x,y with
 |.tup xs,.tup ys=>xs.length+ys.length<=10000000/\Q (.tup (xs++ys)) M
 |_,_=>False
end
section
variable {X:Cx}
end
def aFB (i:Nat)(te:DE):DS:=λE ρ M=>match ρ[i]? with
 |some (some d)=>te ρ M λy M1=>aCy d y M1 λr M2=>E.nx (ρ.set i (some r)) M2
 |_=>False
section
variable {X:Cx}{e:Expr}{te:DE}{x:Str}{pos:Pos}
end
section
variable {X:Cx}{o e:Expr}{to te:DE}{pos:Pos}
end
section
variable {X:Cx}{pos:Pos}
end
section
variable {X:Cx}
end
section
variable {X:Cx}{e:Expr}{te:DE}{x:Str}{pos:Pos}
end
open PySem.W (InstAt findIn clsIn takerIn mroIn looks_findIn looks_clsIn looks_mroIn)
open PySem.Builtin PySem.Builtin.ObjectAttr
section
variable {K:Frag}{prog:Program}{w:World}{A:Around}{E:Value->Shared->Prop}{s:Shared}{x C:Addr}{ox:Obj}{name:Str}{v:Value}
end
section
variable {X:Cx}{pins:List (Addr×Obj)}{σ:L2.St}{H:Hp}{s:Shared}{e C:Addr}{f:Str}{y:V}{u:Value}
noncomputable def gQ (H:Hp)(e:Addr):Hp:=λb=>if b=e then none else H b
theorem lC:gQ H e e=none:=if_pos rfl
theorem dH {b:Addr}(h:b≠e):gQ H e b=H b:=if_neg h
end
open PySem.W (InstAt findIn clsIn takerIn mroIn looks_findIn looks_clsIn looks_mroIn)
section
variable {X:Cx}{o value:Expr}{f:Str}{pos pos':Pos}{ta tv:TE}
end
section
variable {P:Program}{w:World}{K:Frag}{mg:Str->Option Value}{base:Heap}
end
section
variable {prog:Program}{w:World}{A:Around}{E:Value->Shared->Prop}{s:Shared}{K:Frag}
variable {nm qn:Str}{C N fI:Addr}{bs bm:List Value}{hdct:Bool}{sn:List Str}{sub:List Value}{ab:Bool}{col:Option Bool}{dd:Option Addr}{k0 k1 k2 k3 k5:Option Value}
end
open PySem.W (InstAt findIn clsIn takerIn mroIn looks_findIn looks_clsIn looks_mroIn)
def TrY (od:Option Addr)(h:Heap)(e:Addr)(cls:Value)(T:Addr)(fl:Value):Prop :=
 ∃oe vs oT ts,h.get? e=some oe/\(oe.cls=cls/\oe.dict=od)/\oe.data=.fields vs/\vs[1]?=some (.ref T)/\T≠e/\h.get? T=some oT/\oT.data=.fields ts/\ts[3]?=some fl
section
variable {X:Cx}{pins:List (Addr×Obj)}{σ:L2.St}{H:Hp}{s:Shared}{M:Model}{A:Around}{E:Value->Shared->Prop}{e T:Addr}{cls:Value}{od:Option Addr}
end
noncomputable def CXy (P:Program)(w:World):CXT:=λouter H s E e s'=>∃(a:Addr)(cls:Value) (T:Addr) (H':Hp) (od:Option Addr),e=Value.ref a/\s'.os=s.os/\AllBare s'.gens/\Un (frs outer) [] H H' s.heap s'.heap/\HOk P w H' s'.heap /\
 TrY od s'.heap a cls T .none/\s.heap.get? a=none/\s.heap.get? T=none/\H' a=none/\H' T=none/\E cls od H'
def aJc (V:Int->DM->Prop)(ds:List D)(M:DM):Prop:=match ds with
 |[.int i]=>V i M
 |_=>False
def aEq (V:Int->DM->Prop)(te:DE):DS:=λ_ ρ M=>eR te lH ρ M (aJc V)
section
variable {X:Cx}{pins:List (Addr×Obj)}{σ:L2.St}{H:Hp}{s:Shared}{x f:Str}{C:Addr}{k:Nat}{i:Int}
end
section
variable {X:Cx}{x:Str}{V:Int->DM->Prop}{e:Expr}{te:DE}{np cpos pos:Pos}{k:Nat}
end
open PySem.W (InstAt findIn clsIn takerIn mroIn looks_findIn looks_clsIn looks_mroIn)
def aFP (V:Int->DM->Prop)(cond:List D->DM->Int->Prop)(t:DA):DE:=λρ M _=>t ρ M λds M1=>∃i,cond ds M1 i/\∀M',bG M1 M'->V i M'
noncomputable def XW (K:Frag)(C:Addr)(f:Str)(M1:DM)(i:Int):XK:=λc od H'=>c=.ref C/\∃dx M',od=some dx/\bF K M' H'/\bG M1 M'/\H' dx=some (.xd [(f,.int i)])
section
variable {X:Cx}{e:Expr}{es:List Expr}{t:DA}{fn f:Str}{ps:List Str}{cond:List D->DM->Int->Prop}{C:Addr}{k1 k:Nat}{V:Int->DM->Prop}{pf pc:Pos}
end
section
variable {P:Program}{w:World}{K:Frag}{mg:Str->Option Value}{base:Heap}
end
section
variable {X:Cx}{pins:List (Addr×Obj)}{σ:L2.St}{H:Hp}{s:Shared}{a e:Addr}{o:Obj}{fs:List (Str×V)}
end
def aIz (sp:DSp)(cond:List D->DM->Int->Prop)(j:Nat)(t:DA)(nx:eF->D->cH->DM->Prop)(ts:Addr->Int->DS):DS:=λD ρ M=>t ρ M λds M1 =>
 (∃i,cond ds M1 i/\∀a,ts a i (D.un j) (ρ.set j (some (.ref a))) M1)∨sp ds M1 λd M2=>nx D d ρ M2
section
variable {X:Cx}{a:Expr}{e:Expr}{es:List Expr}{t:DA}{x f n cm fl:Str}{ps:List Str}{sp:DSp}{cond:List D->DM->Int->Prop}{C Cm:Addr}{k1 k2 k i j:Nat}{ts:Addr->Int->DS}{b0:Stmt}{suite:List Stmt}{px pf pc pa pcm ph pos:Pos}
end
def aJR (j:Nat)(a:Addr)(i:Int):DE:=λρ M Q=>ρ[j]?=some (some (.ref a))/\Q (.int i) M
section
variable {X:Cx}{n f:Str}{C a dx:Addr}{o oD:Obj}{p pos:Pos}{j:Nat}{i:Int}{tk:Tok}
end
def aID (tab:List (Str×Int))(non:List Str)(Q:DQ)(ds:List D)(M1:DM):Prop:=match ds with
 |[.str k]=>(∃n,tab.lookup k=some n/\Q (.int n) M1)∨(k∈non/\Q .non M1)
 |_=>False
def aIO (tab:List (Str×Int))(non:List Str)(te:DE):DE:=λρ M Q=>eR te lH ρ M (aID tab non Q)
section
variable {X:Cx}{x:Str}{tab:List (Str×Int)}{non:List Str}{p apos cpos:Pos}{e:Expr}{te:DE}
end
section
variable {X:Cx}{pins:List (Addr×Obj)}{σ:L2.St}{H:Hp}{s:Shared}{M:Model}{A:Around}{E:Value->Shared->Prop}{e T:Addr}{cls:Value}{od:Option Addr}
end
section
variable {X:Cx}{pins:List (Addr×Obj)}{σ:L2.St}{H:Hp}{s:Shared}{x f:Str}{C:Addr}{k:Nat}{i:Int}
end
section
variable {X:Cx}{x:Str}{V:Int->DM->Prop}{e:Expr}{te:DE}{np cpos pos:Pos}{k:Nat}
end
section
variable {X:Cx}{e:Expr}{es:List Expr}{t:DA}{fn f:Str}{ps:List Str}{cond:List D->DM->Int->Prop}{C:Addr}{k1 k:Nat}{V:Int->DM->Prop}{pf pc:Pos}
end
section
variable {P:Program}{w:World}{K:Frag}{mg:Str->Option Value}{base:Heap}
end
section
variable {X:Cx}{pins:List (Addr×Obj)}{σ:L2.St}{H:Hp}{s:Shared}{a e:Addr}{o:Obj}{fs:List (Str×V)}
end
section
variable {X:Cx}{a:Expr}{e:Expr}{es:List Expr}{t:DA}{x f n cm fl:Str}{ps:List Str}{sp:DSp}{cond:List D->DM->Int->Prop}{C Cm:Addr}{k1 k2 k i j:Nat}{ts:Addr->Int->DS}{b0:Stmt}{suite:List Stmt}{px pf pc pa pcm ph pos:Pos}
end
section
variable {X:Cx}{n f:Str}{C a dx:Addr}{o oD:Obj}{p pos:Pos}{j:Nat}{i:Int}{tk:Tok}
end
section
variable {X:Cx}{x:Str}{tab:List (Str×Int)}{non:List Str}{p apos cpos:Pos}{e:Expr}{te:DE}
end
def aI7 (w:World)(a:Addr)(Q:DQ)(ds:List D)(M2:DM):Prop:=match ds with
 |[.str k,dv]=>∃kvs,M2 (.d a)=some (aIw w kvs)/\(kvs.map (·.1)).Nodup/\Q (((kvs.find? λp=>decide (p.1=k)).map (·.2)).getD dv) M2
 |_=>False
def aHQ (w:World)(to te ti:DE):DE:=λρ M Q=>to ρ M λx M1=>match x with
 |.ref a=>(∃kvs,M1 (.d a)=some (aIw w kvs)/\(kvs.map (·.1)).Nodup)/\eR te (eR ti lH) ρ M1 (aI7 w a Q)
 |_=>False
section
variable {X:Cx}{o e e2:Expr}{to te ti:DE}{apos cpos pos:Pos}
end
section
open PySem.W PySem.Calls
variable {prog:Program}{w:World}{A:Around}{E:Value->Shared->Prop}{s:Shared}{K:Frag}{x C D:Addr}{ox:Obj}{od:Option Obj}
end
section
variable {X:Cx}{n c:Str}{C Cc a dx:Addr}{o oD:Obj}{p p1 p2 pos:Pos}{j:Nat}
end
def aEF (g:Bool->Bool)(ta:DE)(tn:DA):DE:=λρ M Q=>ta ρ M λx M1=>tn ρ M1 λds M2=>match x,ds with
 |.int k,[.int i,.int j]=>Q (.bl (g (decide (i<=k/\k<j)))) M2
 |_,_=>False
section
variable {X:Cx}{a n m:Expr}{ta:DE}{tn:DA}{pos p pos':Pos}
end
section
variable {X:Cx}{o e e2:Expr}{to te ti:DE}{apos cpos pos:Pos}
end
section
variable {prog:Program}{w:World}{A:Around}{E:Value->Shared->Prop}{s:Shared}{K:Frag}{x C D:Addr}{ox:Obj}{od:Option Obj}
end
section
variable {X:Cx}{n c:Str}{C Cc a dx:Addr}{o oD:Obj}{p p1 p2 pos:Pos}{j:Nat}
end
section
variable {X:Cx}{a n m:Expr}{ta:DE}{tn:DA}{pos p pos':Pos}
end
end Dd
namespace Ty
open PySem PySem.Builtin PySem.Builtin.Str PySem.StrLaws
noncomputable abbrev cl (x:Str):List Nat:=x.cps.toList
noncomputable abbrev one (c:Nat):Str:=⟨#[c]⟩
theorem ext {x y:Str}(h:cl x=cl y):x=y:=Str.ext' (Array.toList_inj.mp h)
noncomputable def jl (c:Nat):List (List Nat)->List Nat
 |[]=>[]
 |[x]=>x
 |x::y::r=>x++c::jl c (y::r)
end Ty
namespace Dd
open PySem PySem.Spec PyProof.Rows L2 Mz
open PySem.Builtin.Str (glued occurrences partsBetween strSub subAt)
def aIX:D2:=λx y M Q=>match x,y with
 |.str i,.str j=>i.length+j.length<=1000000/\Q (.str (i++j)) M
 |_,_=>False
def aId:D2:=λx y M Q=>match x,y with
 |.str i,.int n=>(n=0∨n=1)/\Q (.str (if n=1 then i else Str.empty)) M
 |_,_=>False
def aJC:DSp:=λds M Q=>match ds with
 |[.int i]=>i.natAbs.log2<1920/\Q (.str (toString i)) M
 |_=>False
def aIx:DSp:=λds M Q=>match ds with
 |[.str x]=>∃n,PySem.intText? x=some n/\x.length<=640/\Q (.int n) M
 |_=>False
section
variable {X:Cx}
noncomputable def aHb (x y:Str):Bool:=decide (0+y.length<=x.length)&&subAt x y 0
noncomputable def aKc (x:Str):Bool:=x.cps.all (·<128)
noncomputable def aKa (x:Str):Bool:=x.length > 0&&x.cps.all Unicode.isDigit
end
open PySem.Builtin.Str (glued)
section
variable {prog:Program}{w:World}{A:Around}{E:Value->Shared->Prop}{s:Shared}
end
section
variable {X:Cx}{pos:Pos}{e a b o e1 e2 e3:Expr}{es:List Expr}{te ta tb to t1 t2 t3:DE}{apos cpos:Pos}
def aJh (t:DGs):DG:=λd ρ M Q=>match d with
 |.ref a=>∃d0 ds,M a=some (d0::ds)/\∀p:Addr,M p=none->t [d0,.ref p] ρ (aU M p ds) Q
 |_=>False
def aE2 (sep:Str)(Q:DQ)(ds:List D)(M2:DM):Prop:=match ds with
 |[.ref a]=>∃ss:List Str,M2 a=some (ss.map D.str)/\(ss.map (·.length)).sum+ss.length*sep.length<=1000000/\Q (.str (glued sep ss)) M2
 |_=>False
def aIa (to te:DE):DE:=λρ M Q=>to ρ M λx M1=>match x with
 |.str sep=>eR te lH ρ M1 (aE2 sep Q)
 |_=>False
def aBz (y:Str)(Q:DQ)(ds:List D)(M2:DM):Prop:=match ds with
 |[.str z]=>∃c ss,z=Ty.one c/\y=glued (Ty.one c) ss/\ss≠[]/\(∀s∈ss,c∉Ty.cl s)/\c<256/\y.length<=900000/\∀p:Addr,M2 p=none->Q (.ref p) (aU M2 p (ss.map D.str))
 |_=>False
def aGv (to te:DE):DE:=λρ M Q=>to ρ M λx M1=>match x with
 |.str y=>eR te lH ρ M1 (aBz y Q)
 |_=>False
def aET (y:Str)(Q:DQ)(ds:List D)(M2:DM):Prop:=match ds with
 |[.str z]=>∃c,z=Ty.one c/\y.length<=900000/\((c∉Ty.cl y/\Q (.tup [.str y,.str Str.empty,.str Str.empty]) M2)∨(∃a b:Str,Ty.cl y=Ty.cl a++c::Ty.cl b/\c∉Ty.cl a/\Q (.tup [.str a,.str (Ty.one c),.str b]) M2))
 |_=>False
def aJn (to te:DE):DE:=λρ M Q=>to ρ M λx M1=>match x with
 |.str y=>eR te lH ρ M1 (aET y Q)
 |_=>False
def aDe (y:Str)(Q:DQ)(ds:List D)(M2:DM):Prop:=match ds with
 |[.str z]=>Q (.bl (aHb y z)) M2
 |_=>False
def aF0 (to te:DE):DE:=λρ M Q=>to ρ M λx M1=>match x with
 |.str y=>eR te lH ρ M1 (aDe y Q)
 |_=>False
def aJJ (to:DE):DE:=λρ M Q=>to ρ M λx M1=>match x with
 |.str y=>Q (.bl (aKc y)) M1
 |_=>False
def aJU (to:DE):DE:=λρ M Q=>to ρ M λx M1=>match x with
 |.str y=>Q (.bl (aKa y)) M1
 |_=>False
end
section
variable {X:Cx}{pos p0 p1 p2 p3 p4:Pos}{e e1 e2:Expr}{te t1 t2:DE}{lo hi:Option Expr}{tl th:DO}{c:Str}
def aEY (x:D)(lo hi:Option Int)(M:DM)(Q:DQ):Prop:=match x,lo,hi with
 |.str y,some i,none=>y.length<=1000000/\Q (.str (Txt.slice y (some i) none)) M
 |_,_,_=>False
def aJG (te:DE)(tl th:DO):DE:=λρ M Q=>te ρ M λx M1=>tl ρ M1 λl M2=>th ρ M2 λh M3=>aEY x l h M3 Q
def aJ7 (te:DE):DE:=λρ M Q=>te ρ M λx M1=>match x with
 |.int i=>i.natAbs.log2<1920/\Q (.str (toString i)) M1
 |_=>False
def aJ8 (c:Str)(te:DE):DE:=λρ M Q=>te ρ M λx M1=>match x with
 |.int i=>i.natAbs.log2<1920/\(c++Str.ofString (toString i)).length<=1000000/\Q (.str (c++Str.ofString (toString i))) M1
 |_=>False
def aJA (c:Str)(t1 t2:DE):DE:=λρ M Q=>t1 ρ M λx M1=>match x with
 |.int i=>i.natAbs.log2<1920/\(Str.ofString (toString i)++c).length<=1000000/\t2 ρ M1 λy M2=>match y with
  |.int n=>n.natAbs.log2<1920/\(Str.ofString (toString i)++c++Str.ofString (toString n)).length<=1000000/\Q (.str (Str.ofString (toString i)++c++Str.ofString (toString n))) M2
  |_=>False
 |_=>False
noncomputable def aGL:D->Bool
 |.non=>true
 |_=>false
def aJt (g:Bool->Bool):D2:=λx y M Q=>match x,y with
 |.non,.ref a=>∃ds,M a=some ds/\ds.all (bH 60)=true/\Q (.bl (g (ds.any aGL))) M
 |_,_=>False
def aJs (K:Frag)(T1 T2:String)(te:DE):DE:=λρ M Q=>te ρ M λd M1=>∃T k,tyD d=some T/\PySem.W.kitAny K (.type T) [.type T1,.type T2]=some k/\Q (.bl k) M1
end
section
variable {prog:Program}{w:World}{A:Around}{E:Value->Shared->Prop}{s:Shared}
end
section
variable {X:Cx}{pos:Pos}{e a b o e1 e2 e3:Expr}{es:List Expr}{te ta tb to t1 t2 t3:DE}{apos cpos:Pos}
end
section
variable {X:Cx}{pos p0 p1 p2 p3 p4:Pos}{e e1 e2:Expr}{te t1 t2:DE}{lo hi:Option Expr}{tl th:DO}{c:Str}
end
end Dd
namespace Ty
open PySem PySem.Builtin.Str PySem.NumText PyProof.Rows
end Ty
namespace Dd
open PySem PySem.Spec PyProof.Rows L2 Mz
section
variable {prog:Program}{w:World}{A:Around}{E:Value->Shared->Prop}{s:Shared}
theorem aAL {l b:Addr}{Q:Value->Shared->Prop}(ha:s.TypeIs (.ref l) "list")(hb:s.TypeIs (.ref b) "list")(hc:wpAny (model prog w) A (call (.builtin "list.__iadd__") [.ref l,.ref b]) Q E s):wpAny (model prog w) A (inplaceOp .Add (.ref l) (.ref b)) Q E s:=by
 unfold inplaceOp;refine wpAny_holding ?_;have hlk:typeLookup (.type "list") (dunderI "add") = pure (some (.builtin "list.__iadd__")):=PySem.F.slot_list_iadd.lookup;have hq:isSeqSlot (some (.builtin "list.__iadd__"))=true:=by decide +kernel
 have hfi:fillsInplaceSlot (.type "list") "add" (Operator.Add == .Add)=pure false:=by unfold fillsInplaceSlot;show(typeLookup (.type "list") (dunderI "add") >>= λfi=>pure (fi.isSome && !isSeqSlot fi))=pure false;rw[hlk,pure_bind,hq];rfl
 refine wpAny_bind (wpAny_typeOf ha (wpAny_bind (wpAny_of_eq hfi ?_)));show wpAny _ A (if false=true then _ else _) Q E s;rw[if_neg Bool.false_ne_true];refine wpAny_bind (wpAny_binaryOp1_none (nm:="add") ha hb noFill_list_add ?_);refine wpAny_bind (wpAny_of_eq (PySem.seqSlot_of hlk hq) ?_);exact wpAny_bind (wpAny_rule hc)
end
section
variable {X:Cx}{x:Str}{e:Expr}{te:DE}{pos:Pos}
def yL:D2:=λx y M Q=>match x,y with
 |.ref l,.ref b=>∃xs zs,M l=some xs/\M b=some zs/\xs.length+zs.length<=1000/\Q (.ref l) (aU M l (xs++zs))
 |_,_=>False
theorem aDz:OpD X (inplaceOp .Add) yL:=λpins s σ H x y v u Q I rx ry ⟨dx,dy,M,Q',r1,r2,hm,q,k⟩=>by
 match dx,dy,q with
 |.ref l,.ref b,q =>
  obtain⟨xs,zs,hx,hz,hl,q⟩:=q;obtain rfl:=aM r1;obtain rfl:=aM r2;cases rx;cases ry;obtain⟨us,hu,ru⟩:=hm.l l _ hx;obtain⟨ws,hw,rw'⟩:=hm.l b _ hz;obtain⟨z,its,n,r,hl1,e⟩:=I.lstM hu;obtain⟨z2,its2,n2,r3,hl2,e2⟩:=I.lstM hw;have lx:=ru.length;have lz:=rw'.length;have hs1:=dE hl;have hsz:its.toArray.size+its2.toArray.size<=sizeLine:=by rw[size_toArray,size_toArray];omega
  have hlong:¬(!its.toArray.isEmpty&&Builtin.List.listTooLong (its.toArray.size+its2.toArray.size))=true:=by rw[aCD hsz,Bool.and_false];exact Bool.false_ne_true
  refine aAL ⟨_,e,rfl⟩ ⟨_,e2,rfl⟩ (call_meets PySem.F.slot_list_iadd ⟨_,e,rfl⟩ PySem.F.entry_list_iadd (PySem.F.args_list_iadd_2 _ _)
   (AutoSeq1.list___iadd___list_list_0 l its.toArray n b its2.toArray n2 hlong (by rw[size_toArray];omega) (by omega)) ⟨e,e2,?_⟩)
  refine⟨.ref l,_,I.lset (its':=its++its2) hu e (by simp) (r.append r3) ?_,rfl,k _ _ ⟨.ref l,_,cK,hm.put hu (ru.append rw'),Ext.put hu _,q⟩⟩;rw[length_append];omega
def aAa (i:Nat)(te:DE):DS:=λE ρ M=>match ρ[i]? with
 |some (some z)=>te ρ M λd M1=>yL z d M1 λr M2=>E.nx (ρ.set i (some r)) M2
 |_=>False
theorem aDq {i:Nat}{pos':Pos}(hN:X.N.Nodup)(he:PDE X e te)(hi:X.N[i]?=some x:=by rfl)(hx:Loc X.env.scope x:=by first|exact Or.inl rfl|exact Or.inr rfl)(hf:X.fn x=true∨X.env.scope.names.lookup x=some .local:=by first|exact .inl rfl|exact .inr rfl|assumption) :
  PDS X (.AugAssign (.Name x pos') .Add e pos) (aAa i te) :=
 eU (aBF (i:=i) hN hi hx he (aDz (X:=X)) hf) λE σ H ⟨ρ,M,Dn,re,hm,q,k⟩=>by
  unfold aAa at q;split at q
  ·rename_i z e1;obtain⟨v,e2,rv⟩:=re.get i _ e1;refine⟨_,e2,ρ,M,_,re,hm,q,λw H1 ⟨d,M1,rd,hm1,ex,q1⟩=>?_⟩;exact⟨z,d,M1,_,rv.ext ex,rd,hm1,q1,λu H2 ⟨r,M2,rr,hm2,ex2,q2⟩=>k.nx _ H2 ⟨_,M2,(re.ext (ex.trans ex2)).set rr i,hm2,ex.trans ex2,q2⟩⟩
  ·exact q.elim
end
section
variable {prog:Program}{w:World}{A:Around}{E:Value->Shared->Prop}{s:Shared}
end
section
variable {X:Cx}{x:Str}{e:Expr}{te:DE}{pos:Pos}
theorem aCa {i:Nat}{pos':Pos}(hN:X.N.Nodup)(he:ZE X e te)(hi:X.N[i]?=some x:=by rfl)(hx:Loc X.env.scope x:=by first|exact Or.inl rfl|exact Or.inr rfl)(hf:X.fn x=true∨X.env.scope.names.lookup x=some .local:=by first|exact .inl rfl|exact .inr rfl|assumption):ZS X (.AugAssign (.Name x pos') .Add e pos) (aAa i te):=.i (aDq (i:=i) hN he.o hi hx hf)
end
inductive XC where
 |x (C:Addr)
 |y (C:Addr) (f:Str) (i:Int)
abbrev XV:=XC->cH->DM->Prop
def aJB (X:Cx)(H1:Hp)(s1:Shared)(M1:DM)(ev:Value)(s':Shared):XC->Prop
 |.x C=>CXr X.prog X.w X.stack H1 s1 (λc _ H'=>c=.ref C/\∃M',bF X.K M' H'/\bG M1 M') ev s'
 |.y C f i=>CXy X.prog X.w X.stack H1 s1 (XW X.K C f M1 i) ev s'
def XOk (X:Cx)(pins:List (Addr×Obj))(H:Hp)(V:XV)(E':Value->Shared->Prop):Prop :=
 ∀xc σ H1 s1 M1 ρ ev s',Inv X pins σ H1 s1->eV X.K H1 ρ σ->Ext H H1->V xc ρ M1->aJB X H1 s1 M1 ev s' xc->E' ev s'
theorem XOk.at {X:Cx}{pins:List (Addr×Obj)}{H H':Hp}{V:XV}{E':Value->Shared->Prop}(h:XOk X pins H V E')(e:Ext H H'):XOk X pins H' V E' :=
 λxc σ H1 s1 M1 ρ ev s' I re ex v y=>h xc σ H1 s1 M1 ρ ev s' I re (e.trans ex) v y
def aJK (t:DS):XV->DS:=λ_=>t
def aHO (t u:XV->DS):XV->DS:=λV E ρ M=>t V { E with nx:=u V E } ρ M
def aKd (tc:DT)(t u:XV->DS):XV->DS:=λV E ρ M=>tc ρ M λc M1=>if c=true then t V E ρ M1 else u V E ρ M1
def aFR (R:List D->DM->XC->Prop)(sp:DSp)(t:DA)(nx:eF->D->cH->DM->Prop):XV->DS:=λV D ρ M=>t ρ M λds M1=>(∃xc,R ds M1 xc/\V xc ρ M1)∨sp ds M1 λd M2=>nx D d ρ M2
def aIe (i:Nat):eF->D->cH->DM->Prop:=λD d ρ M=>D.nx (ρ.set i (some d)) M
def aI2:eF->D->cH->DM->Prop:=λD d _ M=>D.rt d M
section
variable {X:Cx}{st:Stmt}{bV a b:List Stmt}{t:DS}{tb ub:XV->DS}{c:Expr}{tc:DT}{pos:Pos}
end
section
variable {X:Cx}{e:Expr}{es:List Expr}{t:DA}{x f:Str}{ps:List Str}{sp:DSp}{R:List D->DM->XC->Prop}{k2 k i:Nat}{px pf pc pa:Pos}
end
def aHU (tb:XV->DS)(v:eF->XV):DS:=λDe ρ M=>tb (v De) De ρ M
section
variable {X:Cx}{n cm f1 f2:Str}{CX C1 C2 Cm:Addr}{j:Nat}{tX:Addr->DS}{t1 t2:Addr->Int->DS}{body suite:List Stmt}{b0:Stmt}{tb:XV->DS}{pcm ph pos:Pos}
end
section
variable {X:Cx}{o e:Expr}{to te:DE}
def aC3 (p:Addr)(Q:DQ)(ys:List D)(M2:DM):Prop:=match ys with
 |[.bl k]=>∃bs:List Bool,M2 p=some (bs.map D.bl)/\Q (.int ((bs.countP (·==k):Nat):Int)) M2
 |_=>False
def aGh (to te:DE):DE:=λρ M Q=>to ρ M λx M1=>match x with
 |.ref p=>(∃ds,M1 p=some ds)/\eR te lH ρ M1 (aC3 p Q)
 |_=>False
end
section
variable {X:Cx}{n cm f1:Str}{CX C1 Cm:Addr}{j:Nat}{tX:Addr->DS}{t1:Addr->Int->DS}{body suite:List Stmt}{b0:Stmt}{tb:XV->DS}{pcm ph pos:Pos}
end
section
variable {X:Cx}{f fl:Str}{ps:List Str}{C:Addr}{k k1:Nat}{R1 R2:List D->DM->XC->Prop}
end
section
variable {X:Cx}{n c:Str}{C Cc a:Addr}{o:Obj}{p p1 p2 pos:Pos}{j:Nat}
end
section
variable {X:Cx}{st:Stmt}{bV a b:List Stmt}{t:DS}{tb ub:XV->DS}{c:Expr}{tc:DT}{pos:Pos}
end
section
variable {X:Cx}{e:Expr}{es:List Expr}{t:DA}{x f:Str}{ps:List Str}{sp:DSp}{R:List D->DM->XC->Prop}{k2 k i:Nat}{px pf pc pa:Pos}
end
section
variable {X:Cx}{n cm f1 f2:Str}{CX C1 C2 Cm:Addr}{j:Nat}{tX:Addr->DS}{t1 t2:Addr->Int->DS}{body suite:List Stmt}{b0:Stmt}{tb:XV->DS}{pcm ph pos:Pos}
end
section
variable {X:Cx}{o e:Expr}{to te:DE}
end
section
variable {X:Cx}{n cm f1:Str}{CX C1 Cm:Addr}{j:Nat}{tX:Addr->DS}{t1:Addr->Int->DS}{body suite:List Stmt}{b0:Stmt}{tb:XV->DS}{pcm ph pos:Pos}
end
section
variable {X:Cx}{f fl:Str}{ps:List Str}{C:Addr}{k k1:Nat}{R1 R2:List D->DM->XC->Prop}
end
section
variable {X:Cx}{n c:Str}{C Cc a:Addr}{o:Obj}{p p1 p2 pos:Pos}{j:Nat}
end
section
variable {prog:Program}{w:World}{A:Around}{I S:Addr}{fp wr:List Addr}{n:Nat}{P:Nat->Value->Prop}{St:Nat->Heap->Prop}{R:Result->Shared->Prop}{dv:Value}
end
section
variable {prog:Program}{w:World}{A:Around}{E:Value->Shared->Prop}{s:Shared}{l:Addr}{xs:Array (Int×Tok)}{dv:Value}
end
section
variable {X:Cx}{pos p kp:Pos}{e d:Expr}{te td:DE}
def aIq (te td:DE):DE:=λρ M Q=>te ρ M λx M1=>td ρ M1 λy M2=>match x,y with
 |.ref a,.int k=>∃ns:List Int,M2 a=some (ns.map D.int)/\∀m:Int,(ns=[]->m=k)->(∀n∈ns,n<=m)->Q (.int m) M2
 |_,_=>False
end
section
variable {prog:Program}{w:World}{A:Around}{I S:Addr}{fp wr:List Addr}{n:Nat}{P:Nat->Value->Prop}{St:Nat->Heap->Prop}{R:Result->Shared->Prop}{dv:Value}
end
section
variable {prog:Program}{w:World}{A:Around}{E:Value->Shared->Prop}{s:Shared}{l:Addr}{xs:Array (Int×Tok)}{dv:Value}
end
section
variable {X:Cx}{pos p kp:Pos}{e d:Expr}{te td:DE}
end
def aIn:DSp:=λds M Q=>match ds with
 |[.int i]=>i.natAbs.log2<1920/\Q (.str (toString i)) M
 |[.str x]=>Q (.str x) M
 |_=>False
section
variable {X:Cx}
end
section
variable {X:Cx}{n cm fl:Str}{C Cm:Addr}{j:Nat}{ts:Addr->Int->DS}{b0:Stmt}{suite:List Stmt}{pcm ph pos:Pos}
end
section
variable {X:Cx}{n c1 c2 f1 f2:Str}{C1 C2 D1 D2:Addr}{j:Nat}{t1 t2:Addr->Int->DS}{body s1 s2:List Stmt}{b1 b2:Stmt}{h3:ExceptHandler}{tb:XV->DS}{p1 p2 ph1 ph2 pos:Pos}
end
section
variable {X:Cx}{n cm fl:Str}{C Cm:Addr}{j:Nat}{ts:Addr->Int->DS}{b0:Stmt}{suite:List Stmt}{pcm ph pos:Pos}
end
section
variable {X:Cx}{n c1 c2 f1 f2:Str}{C1 C2 D1 D2:Addr}{j:Nat}{t1 t2:Addr->Int->DS}{body s1 s2:List Stmt}{b1 b2:Stmt}{h3:ExceptHandler}{tb:XV->DS}{p1 p2 ph1 ph2 pos:Pos}
end
end Dd
namespace L2
open PySem PySem.Spec PyProof.Rows
section
variable {prog:Program}{w:World}{A:Around}{E:Value->Shared->Prop}{s:Shared}
end
end L2
namespace Dd
open PySem PySem.Spec PyProof.Rows L2
section
variable {X:Cx}{pos:Pos}{body:List Stmt}{g:DG}{tb:DS}{ta:DA}
def aHJ (ds:List D)(g:DG)(tb:DS):DS:=λE ρ M=>∃Pv:Nat->cH->DM->Prop,Pv 0 ρ M /\
 (∀i d ρ M,ds[i]?=some d->Pv i ρ M->g (.tup [.int i,d]) ρ M λρ2 M2=>tb { E with nx:=Pv (i+1),ct:=Pv (i+1),bk:=E.nx } ρ2 M2)/\∀ρ M,Pv ds.length ρ M->E.nx ρ M
def aFH (ta:DA)(g:DG)(tb:DS):DS:=λE ρ M=>ta ρ M λds M1=>match ds with
 |[.tup xs]=>aHJ xs g tb E ρ M1
 |_=>False
end
section
variable {X:Cx}{pos:Pos}{body:List Stmt}{g:DG}{tb:DS}{ta:DA}
end
section
variable {P:Program}{w:World}{K:Frag}{mg:Str->Option Value}{base:Heap}
end
noncomputable def aJb (f:Str)(v:D):List (Str×D)->List (Str×D)
 |[]=>[(f,v)]
 |(g,x)::r=>if g=f then (g,v)::r else (g,x)::aJb f v r
def aJ0 (C:Addr)(f:Str)(te:DE):DE:=λρ M Q=>te ρ M λx M1=>∃a gs d,x=.ref a/\M1 (.o a)=some (aBk C gs)/\gs.lookup f=some d/\Q d M1
def aH4 (C:Addr)(f:Str)(te tv:DE):DS:=λE ρ M=>tv ρ M λy M1=>te ρ M1 λx M2=>∃a gs,x=.ref a/\M2 (.o a)=some (aBk C gs)/\gs.length<1000/\E.nx ρ (aH6 M2 a (aBk C (aJb f y gs)))
def aHN (C:Addr)(m:Str)(sp:DSp)(te:DE)(t:DA):DE:=λρ M Q=>te ρ M λx M1=>∃a gs,x=.ref a/\M1 (.o a)=some (aBk C gs)/\gs.lookup m=none/\t ρ M1 λds M2=>sp (x::ds) M2 Q
def aIN (C:Addr)(sp:DSp)(t:DA):DE:=λρ M Q=>t ρ M λds M1=>∀x:Addr,M1 (.l x)=none->M1 (.d x)=none->M1 (.o x)=none->sp (.ref x::ds) (aH6 M1 x (aBk C [])) λv M2=>v=.non/\Q (.ref x) M2
section
variable {X:Cx}{o e value:Expr}{es:List Expr}{f m x:Str}{pos pos' apos p:Pos}{te tv:DE}{t:DA}{C:Addr}{fs ps:List Str}{sp:DSp}{k j:Nat}
end
section
variable {X:Cx}{pins:List (Addr×Obj)}{σ:L2.St}{H:Hp}{s:Shared}{pos:Pos}{kr:Nat}
def aH2 (w:World)(g:Bool->Bool):D2:=λx y M Q=>match y with
 |.ref a=>∃kvs,M (.d a)=some (dS w kvs)/\TK kvs/\xX x/\Q (.bl (g (decide (x∈kvs.map (·.1))))) M
 |_=>False
theorem aBy (hr:cO kr X.A):X.A.units+7<cLine:=Nat.lt_of_le_of_lt (Nat.add_le_add_left (by decide:7<=64) _) hr.units
theorem aAY (hr:cO kr X.A):OpD X (compareOp .NotIn) (aH2 X.w not):=λpins s σ H x y v u Q I rx ry ⟨dx,dy,M,Q',r1,r2,hm,q,k⟩=>by
 match dy,q with
 |.ref a,q =>
  obtain⟨kvs,ha,tk,hk,q⟩:=q;obtain⟨b,rfl⟩:=pR hk r1;obtain rfl:=aM r2;cases rx;cases ry;obtain⟨xs,hH,hx,hd,hs,hz⟩:=pV I hm ha tk;refine wpAny_notIn_heap (knd:=kW X.prog X.w) (by have:=aBy hr;show X.A.units+1+6<cLine;omega) ⟨hk.2,lQ I hk.2 r1 rfl⟩ hs hd ?_;rw[aAe hx];exact⟨.bl _,H,I.tok _,rfl,k _ H ⟨_,M,dW,hm,.refl H,q⟩⟩
theorem tQ {K:Frag}{H:Hp}{k d:D}:∀{kvs:List (D×D)}{xs:List (D×Addr×Value)},Paired (KX K H) kvs xs->rQ kvs k=some d->∃p vv,atKey xs k=some p/\RelV vv p.2/\Rep K H d vv
 |[],_,.nil,h=>by cases h
 |p::kvs,x::xs,.cons r rr,h=>by
  unfold rQ at h;unfold atKey;rw[List.find?_cons] at h ⊢;obtain⟨e1,r2,vv,q1,q2⟩:=r;by_cases z:p.1=k
  ·rw[decide_eq_true z] at h;rw[decide_eq_true (show x.1=k by rw[<- e1];exact z)];cases h;exact⟨_,vv,rfl,q1,q2⟩
  ·rw[decide_eq_false z] at h;rw[decide_eq_false (show ¬x.1=k by rw[<- e1];exact z)];exact tQ rr h
def aJS (w:World)(te ti:DE):DE:=λρ M Q=>te ρ M λx M1=>ti ρ M1 λi M2=>match x with
 |.ref a=>∃kvs d,M2 (.d a)=some (dS w kvs)/\TK kvs/\xX i/\rQ kvs i=some d/\Q d M2
 |_=>False
end
section
variable {prog:Program}{w:World}
noncomputable def prN (i j:Nat):D:=.tup [.int i,.int j]
noncomputable def wN (es:Array (Int×Value))(ep:Nat)(t:SetTable):Obj:={ cls:=.type "set",dict:=none,data:=.set es ep t }
noncomputable def aHV (h:Int)(led:Bool):SetTable:=((SetTable.fresh 0 0 led).put (SetTable.bits h % 8)).1
noncomputable def hp2 (i j:Nat):Int:=reduceHash (Builtin.Tuple.tupleHashOf [hashInt i,hashInt j])
theorem aE7 (m:Nat)(led:Bool):((SetTable.fresh 0 0 led).put m).1.fits 1=true:=by cases led<;>rfl
def xI (S:Addr)(h:Heap):List (Nat×Nat)->Prop
 |[]=>∃led,h.get? S=some (wN #[] 0 (.fresh 0 0 led))
 |[p]=>∃led x ep,h.get? S=some (wN #[(hp2 p.1 p.2,x)] ep (aHV (hp2 p.1 p.2) led))
 |[_,_]=>∃es ep t,h.get? S=some (wN es ep t)/\es.size=2/\t.fits 2=true
 |_=>False
def uZ (p:Nat×Nat):Prop:=p.1<6/\p.2<4
def OkP:List (Nat×Nat)->Prop
 |[_]=>True
 |[p,q]=>uZ p/\uZ q/\p≠q
 |_=>False
theorem xI.at {S:Addr}{h h':Heap}{ps:List (Nat×Nat)}(x:xI S h ps)(k:∀o,h.get? S=some o->h'.get? S=some o):xI S h' ps:=by
 match ps,x with
 |[],⟨led,e⟩=>exact⟨led,k _ e⟩
 |[p],⟨led,x,ep,e⟩=>exact⟨led,x,ep,k _ e⟩
 |[p,q],⟨es,ep,t,e,r⟩=>exact⟨es,ep,t,k _ e,r⟩
theorem xI.len {S:Addr}{h:Heap}{ps:List (Nat×Nat)}(x:xI S h ps)(ok:OkP ps):∃es ep t,h.get? S=some (wN es ep t)/\es.size=ps.length/\t.fits es.size=true:=by
 match ps,x,ok with
 |[p],⟨led,x,ep,e⟩,_=>exact⟨_,_,_,e,rfl,aE7 _ led⟩
 |[p,q],⟨es,ep,t,e,r,f⟩,_=>exact⟨es,ep,t,e,r,by rw[r];exact f⟩
theorem OkP.at {ps:List (Nat×Nat)}(ok:OkP ps){i:Nat}{p:Nat×Nat}(h:ps[i]?=some p):∃bV,ps=ps.take i++p::bV:=by obtain⟨hl,e⟩:=List.getElem?_eq_some_iff.mp h;exact⟨ps.drop (i+1),by rw[<- e,<- List.drop_eq_getElem_cons hl,List.take_append_drop]⟩
end
noncomputable def prs (ps:List (Nat×Nat)):List D:=ps.map λp=>prN p.1 p.2
section
variable {X:Cx}{e:Expr}{te:DE}{k:Nat}
def aEj (te:DE):DE:=λρ M Q=>te ρ M λx M1=>∃a ps,x=.ref a/\M1 (.l a)=some (prs ps)/\OkP ps/\Q (.int ps.length) M1
end
section
variable {P:Program}{w:World}{K:Frag}{mg:Str->Option Value}{base:Heap}
end
section
variable {X:Cx}{o e value:Expr}{es:List Expr}{f m x:Str}{pos pos' apos p:Pos}{te tv:DE}{t:DA}{C:Addr}{fs ps:List Str}{sp:DSp}{k j:Nat}
end
section
variable {X:Cx}{pins:List (Addr×Obj)}{σ:L2.St}{H:Hp}{s:Shared}{pos:Pos}{kr:Nat}
end
section
variable {prog:Program}{w:World}
end
section
variable {X:Cx}{e:Expr}{te:DE}{k:Nat}
end
section
variable {prog:Program}{w:World}
def aCB (S:Addr)(h:Heap):List (Nat×Nat)->Prop
 |[]=>∃led,h.get? S=some (wN #[] 0 (.fresh 0 0 led))
 |[p]=>∃led x ep,h.get? S=some (wN #[(hp2 p.1 p.2,x)] ep (aHV (hp2 p.1 p.2) led))/\IsK h (prN p.1 p.2) x
 |[p,q]=>∃es ep t,h.get? S=some (wN es ep t)/\es.size=(if p=q then 1 else 2)/\t.fits es.size=true
 |_=>False
def OkQ:List (Nat×Nat)->Prop
 |[_]=>True
 |[p,q]=>uZ p/\uZ q
 |_=>False
noncomputable def dlP:List (Nat×Nat)->Nat
 |[_]=>1
 |[p,q]=>if p=q then 1 else 2
 |_=>0
theorem aCB.at {S:Addr}{h h':Heap}{ps:List (Nat×Nat)}(x:aCB S h ps)(k:∀o,h.get? S=some o->h'.get? S=some o)(kk:∀(p:Nat×Nat) v,IsK h (prN p.1 p.2) v->IsK h' (prN p.1 p.2) v):aCB S h' ps:=by
 match ps,x with
 |[],⟨led,e⟩=>exact⟨led,k _ e⟩
 |[p],⟨led,x,ep,e,i⟩=>exact⟨led,x,ep,k _ e,kk _ _ i⟩
 |[p,q],⟨es,ep,t,e,r⟩=>exact⟨es,ep,t,k _ e,r⟩
theorem aCB.len {S:Addr}{h:Heap}{ps:List (Nat×Nat)}(x:aCB S h ps)(ok:OkQ ps):∃es ep t,h.get? S=some (wN es ep t)/\es.size=dlP ps/\t.fits es.size=true:=by
 match ps,x,ok with
 |[p],⟨led,x,ep,e,_⟩,_=>exact⟨_,_,_,e,rfl,aE7 _ led⟩
 |[p,q],⟨es,ep,t,e,r,f⟩,_=>exact⟨es,ep,t,e,r,f⟩
theorem OkQ.at {ps:List (Nat×Nat)}(ok:OkQ ps){i:Nat}{p:Nat×Nat}(h:ps[i]?=some p):∃bV,ps=ps.take i++p::bV:=by obtain⟨hl,e⟩:=List.getElem?_eq_some_iff.mp h;exact⟨ps.drop (i+1),by rw[<- e,<- List.drop_eq_getElem_cons hl,List.take_append_drop]⟩
end
section
variable {X:Cx}{e:Expr}{te:DE}{k:Nat}
def aCS (te:DE):DE:=λρ M Q=>te ρ M λx M1=>∃a ps,x=.ref a/\M1 (.l a)=some (prs ps)/\OkQ ps/\Q (.int (dlP ps:Nat)) M1
end
def aIQ (g:Bool->Bool):D2:=λx y M Q=>match y with
 |.tup ys=>∃(pts:List (Rat×Rat)) (u v:Rat),x=PQ u v/\ys=(pts.map λp=>PQ p.1 p.2)/\Q (.bl (g (pts.any λp=>decide (p.1=u/\p.2=v)))) M
 |_=>False
section
variable {X:Cx}
end
section
variable {prog:Program}{w:World}
end
section
variable {X:Cx}{e:Expr}{te:DE}{k:Nat}
end
section
variable {X:Cx}
end
theorem qQ {pos p:Pos}{c v:Value}:∀{l:List Value},TriplesOk l->codeAmong pos (l++[rawInt p.line,rawInt p.col,c])=some v->codeAmong pos l=some v∨v=c
 |[],_,h=>by
  simp only[List.nil_append,rawInt,codeAmong] at h;split at h
  ·exact .inr (Option.some.inj h).symm
  ·cases h
 |.int a t::.int b u::x::r,h0,h=>by
  simp only[List.cons_append,codeAmong] at h ⊢;split at h
  ·rename_i hc;rw[if_pos hc];exact .inl h
  ·rename_i hc;rw[if_neg hc];exact qQ (l:=r) h0 h
def aC7 (H H':Hp)(P f:Addr)(q:Str)(prm:Arguments)(b:Expr)(sc:Scope)(cl:List (Str×Addr)):Prop :=
 H f = none/\(∀a o,a≠P->H a = some o->H' a = some o)/\aAS H' P q/\∃pm c' ctv oc u u' vs t,H' f = some (.frz (PySem.W.kla_obj "<lambda>" q prm b sc cl pm c' ctv) u)/\H' c'=some (.frz oc u')/\oc.data=.fields vs/\vs[1]?=some (.str q t)
section
variable {X:Cx}{pins:List (Addr×Obj)}{σ:L2.St}{H:Hp}{s:Shared}
theorem aBZ {q:Str}{P cd:Addr}{prm:Arguments}{b:Expr}{sc:Scope}{pos:Pos}{cl:List (Str×Addr)}{Q:Value->Shared->Prop}{E:Value->Shared->Prop}{A:Around}(I:Inv X pins σ H s)(hcd:X.env.code = .ref cd)(C:CodeHd X.base cd P)(hb:X.base.BuiltinsAt X.mg P)(T:aAS H P q)(hcl:closureFor sc X.env = pure cl)(hq:X.env.qual ++ "<lambda>"=q)(hdef:defaultsOf prm X.env=([],[]))(h:∀f H' s',Inv X pins σ H' s'->aC7 H H' P f q prm b sc cl->Q (.ref f) s'):wpAny (model X.prog X.w) A (eval (.Lambda prm b sc pos) X.env) Q E s:=by
 obtain⟨ps,hP,ht,hall⟩:=T;have oP:s.heap.get? P=some (tabObj ps):=I.hok P _ hP;have hg:s.heap.Ns mainGlobals X.mg:=I.ok.mod.glob.keeps I.bk;have hb':s.heap.BuiltinsAt X.mg P:=let ⟨bm,o,a1,a2,a3,a4,a5,r⟩:=hb;⟨bm,o,a1,a2,a3,a4,I.bk _ _ a5,r⟩
 have hgP:mainGlobals≠P:=λz=>by obtain⟨o,es,ep,e,hd,_⟩:=hg;rw[z,oP] at e;cases e;cases hd
 have fresh:∀{a:Addr},s.heap.objs.size<=a->H a=none:=λl=>I.hok.fresh l;refine PySem.W.kla_eval hdef ?_;rw[hq];cases hc:codeAmong pos ps.toList with
 |some v =>
  obtain⟨c,oc,u,vs,t,rfl,hcz,hd,hv⟩:=hall pos v hc;refine PySem.W.kla_makeFunctionHit (mg:=X.mg) hcl I.ok.glob hg hcd (C.keeps I.bk) oP ht hc hb' λctv h' tk hk hsz=>?_;have n:H h'.objs.size=none:=fresh hsz;refine h _ (upd H h'.objs.size (.frz _ (.own 0))) _ (I.laid (λb o e=>Heap.get?_push_of_some _ (hk b o e)) hsz ⟨Heap.get?_push_size _ rfl,_,Heap.get?_push_size _ rfl⟩) ⟨n,λa o _ e=>by rw[aJ (aO e n)];exact e,⟨ps,by rw[aJ (aO hP n)];exact hP,ht,λp v e=>?_⟩,_,c,ctv,oc,_,u,vs,t,bD,by rw[aJ (aO hcz n)];exact hcz,hd,hv⟩;obtain⟨c,oc,u,vs,t,a1,a2,r⟩:=hall p v e;exact⟨c,oc,u,vs,t,a1,by rw[aJ (aO a2 n)];exact a2,r⟩
 |none =>
  refine PySem.W.kla_makeFunction (mg:=X.mg) hcl I.ok.glob hg hcd (C.keeps I.bk) oP ht hc hgP hb' λc' ctv h' tk hx hge hlt hrec htb=>?_;obtain⟨c₂,oc,vs,t,e2,hoc,hd,hv⟩:=hrec;cases e2;have sz:s.heap.objs.size<=h'.objs.size:=Nat.le_of_lt (Nat.lt_of_le_of_lt hge hlt);have nc:H c'=none:=fresh hge;have nf:H h'.objs.size=none:=fresh sz;have pc:P≠c':=aO hP nc;have pf:P≠h'.objs.size:=aO hP nf;have cf:c'≠h'.objs.size:=Nat.ne_of_lt hlt;generalize hfo:(PySem.W.kla_obj "<lambda>" q prm b sc cl ((X.mg "__name__").getD .none) c' ctv)=fo;have ff:fo.isFreed=false:=by rw[<- hfo];rfl
  have at_P:∀{a:Addr}{o:HO},a≠P->H a=some o->upd (upd (upd H P (.tbl (ps++#[rawInt pos.line,rawInt pos.col,.ref c']))) c' (.frz oc (.own 0))) h'.objs.size (.frz fo (.own 0)) a=some o:=λn e=>by rw[aJ (aO e nf),aJ (aO e nc),aJ n];exact e
  have at1:upd (upd (upd H P (.tbl (ps++#[rawInt pos.line,rawInt pos.col,.ref c']))) c' (.frz oc (.own 0))) h'.objs.size (.frz fo (.own 0)) P=some (.tbl (ps++#[rawInt pos.line,rawInt pos.col,.ref c'])):=by rw[aJ pf,aJ pc,bD]
  have at2:upd (upd (upd H P (.tbl (ps++#[rawInt pos.line,rawInt pos.col,.ref c']))) c' (.frz oc (.own 0))) h'.objs.size (.frz fo (.own 0)) c'=some (.frz oc (.own 0)):=by rw[aJ cf,bD]
  have at3:upd (upd (upd H P (.tbl (ps++#[rawInt pos.line,rawInt pos.col,.ref c']))) c' (.frz oc (.own 0))) h'.objs.size (.frz fo (.own 0)) h'.objs.size=some (.frz fo (.own 0)):=bD;have at0:∀{a:Addr},a≠P->a≠c'->a≠h'.objs.size->upd (upd (upd H P (.tbl (ps++#[rawInt pos.line,rawInt pos.col,.ref c']))) c' (.frz oc (.own 0))) h'.objs.size (.frz fo (.own 0)) a=H a:=λn1 n2 n3=>by rw[aJ n3,aJ n2,aJ n1]
  generalize upd (upd (upd H P (.tbl (ps++#[rawInt pos.line,rawInt pos.col,.ref c']))) c' (.frz oc (.own 0))) h'.objs.size (.frz fo (.own 0))=H' at at_P at1 at2 at3 at0;have keep:∀b o,b≠P->s.heap.get? b=some o->(h'.push fo).get? b=some o:=λb o n e=>Heap.get?_push_of_some _ (hx b o n e);have kP:(h'.push fo).get? P=some (tabObj (ps++#[rawInt pos.line,rawInt pos.col,.ref c'])):=Heap.get?_push_of_some _ htb;have ntP:∀{b:Addr}{o:HO},H b=some o->(∀p,o ≠ .tbl p)->b≠P:=λe n z=>by rw[z,hP] at e;exact n ps (Option.some.inj e).symm
  have old:∀{b:Addr}{o:Obj},s.heap.get? b=some o->b≠c'/\b≠h'.objs.size:=λe=>⟨Nat.ne_of_lt (Nat.lt_of_lt_of_le (Heap.lt_size e) hge),Nat.ne_of_lt (Nat.lt_of_lt_of_le (Heap.lt_size e) sz)⟩;have un:Un X.fs [] H H' s.heap (h'.push fo):=by
   have nP:∀{b:Addr},H b=none->b≠P:=λe z=>by rw[z,hP] at e;cases e
   refine⟨λb o e n _ _=>keep b o (nP n) e,λb o e n _ _=>⟨o.slots,keep b o (nP n) e⟩,λb o e n _=>by rw[at0 (nP n) (old e).1 (old e).2];exact n,λb o e _=>?_,λb xs e=>at_P (ntP e (by intro p z;cases z)) e,λb o u e=>at_P (ntP e (by intro p z;cases z)) e,λb qs e=>?_⟩
   ·by_cases z:b=P
    ·rw[z];exact⟨_,kP⟩
    ·exact⟨o,keep b o z e⟩
   ·by_cases z:b=P
    ·rw[z] at e ⊢;rw[hP] at e;cases e;exact⟨_,at1⟩
    ·exact⟨#[],by rw[at_P z e];simp⟩
  have hok:HOk X.prog X.w H' (h'.push fo):=λb u e=>by
   by_cases z1:b=P
   ·rw[z1] at e ⊢;rw[at1] at e;cases e;exact kP
   by_cases z2:b=c'
   ·rw[z2] at e ⊢;rw[at2] at e;cases e;exact⟨Heap.get?_push_of_some _ hoc,_,Heap.get?_push_of_some _ hoc⟩
   by_cases z3:b=h'.objs.size
   ·rw[z3] at e ⊢;rw[at3] at e;cases e;exact⟨Heap.get?_push_size _ ff,_,Heap.get?_push_size _ ff⟩
   rw[at0 z1 z2 z3] at e;refine(I.hok b u e).stay (λc v hc q=>keep c v ?_ q) (λc q=>at_P (ntP q (by intro p z;cases z)) q) λc xs q=>at_P (ntP q (by intro p z;cases z)) q;rcases hc with z|z
   ·rw[z];exact z1
   ·exact ntP z (by intro p z;cases z)
  refine h _ H' _ (I.un un hok) ⟨nf,λa o n e=>at_P n e,⟨_,at1,?_,λp v e=>?_⟩,_,c',ctv,oc,_,_,vs,t,by rw[hfo];exact at3,at2,hd,hv⟩
  ·rw[Array.toList_append];exact TriplesOk_snoc _ _ _ _ ht
  ·rw[Array.toList_append] at e;rcases qQ ht e with e|e
   ·obtain⟨c,oc',u,vs',t',a1,a2,r⟩:=hall p v e;exact⟨c,oc',u,vs',t',a1,at_P (ntP a2 (by intro p z;cases z)) a2,r⟩
   ·exact⟨c',oc,_,vs,t,e,at2,hd,hv⟩
variable {P:Program}{w:World}{H2:Hp}{h h':Heap}{c f:Addr}{oc:Obj}{K:Frag}{M:DM}{fs:List Addr}{u:HO}
theorem xF (ok:HOk P w H2 h)(f2:H2 c=some (.frz oc u)):HOk P w (gQ H2 c) h:=λb o e=>by
 by_cases z:b=c
 ·rw[z,lC] at e;cases e
 ·rw[dH z] at e;have nc:∀{d:Addr}{q:HO},H2 d=some q->(∀o v,q ≠ .frz o v)->gQ H2 c d=some q:=λe n=>by rw[dH (λy=>by rw[y,f2] at e;exact n _ _ (Option.some.inj e).symm)];exact e
  exact(ok b o e).stay (λ_ _ _ q=>q) (λd q=>nc q (by intro _ _ z;cases z)) λd xs q=>nc q (by intro _ _ z;cases z)
theorem aD2 (hc:h.get? c=some oc)(hn:H c=none)(v:Un fs [] (upd H c (.frz oc u)) H2 h h')(ok:HOk P w H2 h'):Un fs [] H (gQ H2 c) h h':=by
 have f2:H2 c=some (.frz oc u):=v.frzs c oc u bD;have o2:h'.get? c=some oc:=(ok c _ f2).1;have nc:∀{b:Addr}{o:HO},H b=some o->b≠c:=λe=>aO e hn;refine⟨λb o e n hb hx=>?_,λb o e n hb hx=>?_,λb o e n hx=>?_,v.there,λb xs e=>?_,λb o y e=>?_,λb ps e=>?_⟩
 ·by_cases z:b=c
  ·rw[z] at e ⊢;rw[hc] at e;cases e;exact o2
  ·exact v.keep b o e (by rw[aJ z];exact n) hb hx
 ·by_cases z:b=c
  ·rw[z] at e ⊢;rw[hc] at e;cases e;exact⟨oc.slots,o2⟩
  ·exact v.slot b o e (by rw[aJ z];exact n) hb hx
 ·by_cases z:b=c
  ·rw[z];exact lC
  ·rw[dH z];exact v.free b o e (by rw[aJ z];exact n) hx
 ·rw[dH (nc e)];exact v.tups b xs (by rw[aJ (nc e)];exact e)
 ·rw[dH (nc e)];exact v.frzs b o y (by rw[aJ (nc e)];exact e)
 ·rw[dH (nc e)];exact v.tbls b ps (by rw[aJ (nc e)];exact e)
theorem yY (f2:H2 c=some (.frz oc (.own f))):yA K H2 (gQ H2 c):=by
 have nc:∀{d:Addr}{q:HO},H2 d=some q->q ≠ .frz oc (.own f)->gQ H2 c d=some q:=λe n=>by rw[dH (λy=>by rw[y,f2] at e;exact n (Option.some.inj e).symm)];exact e
 refine⟨λh=>?_,λh=>?_⟩
 ·rcases h with(h|⟨o,h⟩)|h
  ·exact .inl (.inl (nc h (by intro z;cases z)))
  ·exact .inl (.inr ⟨o,nc h (by intro z;cases z)⟩)
  ·exact .inr h
 ·rcases h with⟨o,h⟩|h
  ·exact .inl ⟨o,nc h (by intro z;cases z)⟩
  ·exact .inr h
noncomputable def lZ (M:DM)(f:Addr):DM:=λb=>if b=AK.x f then none else M b
theorem jL {b:AK}(h:b ≠ .x f):lZ M f b=M b:=if_neg h
theorem aA7:lZ M f (.x f)=none:=if_pos rfl
theorem aBO {ds:List D}(h:M (.x f)=some ds):putX (lZ M f) f ds=M:=by
 funext b;by_cases z:b=.x f
 ·rw[z,lD,h]
 ·rw[eJ z,jL z]
theorem wJ (hm:bF K M H2)(f2:H2 c=some (.frz oc (.own f))){v:Option Value}(hd:oc.data=.cell v):bF K (lZ M f) (gQ H2 c):=by
 have es:yA K H2 (gQ H2 c):=yY f2;have nc:∀{d:Addr}{q:HO},H2 d=some q->q ≠ .frz oc (.own f)->gQ H2 c d=some q:=λe n=>by rw[dH (λy=>by rw[y,f2] at e;exact n (Option.some.inj e).symm)];exact e
 refine⟨λa ds q=>?_,λa ds q=>?_,λa ds q=>?_,λa ds q=>?_⟩
 ·rw[jL (by intro z;cases z)] at q;obtain⟨xs,z,r⟩:=hm.l a ds q;exact⟨xs,nc z (by intro z;cases z),r.extS es⟩
 ·rw[jL (by intro z;cases z)] at q;obtain⟨xs,z,r⟩:=hm.d a ds q;exact⟨xs,nc z (by intro z;cases z),Paired.mapP r λ_ _ r=>let ⟨k,v,kv,vv,a,b,c,f,g⟩:=r;⟨k,v,kv,vv,a,b,c.extS es,f,g.extS es⟩⟩
 ·rw[jL (by intro z;cases z)] at q;obtain⟨C,dx,gs,fs,y,z,r⟩:=hm.o a ds q;exact⟨C,dx,gs,fs,y,nc z (by intro z;cases z),Paired.mapP r λ_ _ r=>⟨r.1,r.2.extS es⟩⟩
 ·by_cases na:a=f
  ·rw[na,aA7] at q;cases q
  rw[jL (λz=>na (AK.x.inj z))] at q;have x:=hm.x a ds q;unfold mZ at x ⊢;split at x
  ·obtain⟨ps,h1,h2,h3⟩:=x;exact⟨ps,nc h1 (by intro z;cases z),h2,λpos v z=>let ⟨c,oc,u,vs,t,a,b,e,r⟩:=h3 pos v z;⟨c,oc,u,vs,t,a,nc b (by intro z;cases z;rw[hd] at e;cases e),e,r⟩⟩
  ·obtain⟨q,a1,a2,b1,b2,b3,b4,b5,b6,b7,b8,d,d',pm,ct,od,od',v,v',vs,t,h1,h4,h5,h6,h7,h8⟩:=x;exact⟨q,a1,a2,b1,b2,b3,b4,b5,b6,b7,b8,d,d',pm,ct,od,od',v,v',vs,t,nc h1 (by intro z;cases z;cases hd),nc h4 (by intro z;cases z;exact na rfl),h5,nc h6 (by intro z;cases z;rw[hd] at h7;cases h7),h7,h8⟩
  ·obtain⟨o',ens,ep,h0,h1,h2⟩:=x;exact⟨o',ens,ep,h0,nc h1 (by intro z;cases z),Paired.mapP h2 λ_ _ r=>let ⟨k,v,kv,vv,a,b,c,f,g⟩:=r;⟨k,v,kv,vv,a,b,c.extS es,f,g.extS es⟩⟩
  ·exact x
theorem aDd {H':Hp}{q:Str}{p:Addr}(hm:bF K M H)(hP:M (.x p)=some [.str q])(g:∀a o,a≠p->H a=some o->H' a=some o)(T:aAS H' p q):bF K M H'/\Ext H H':=by
 obtain⟨ps,hp,_⟩:aAS H p q:=hm.x p _ hP;have g':∀{a:Addr}{o:HO},H a=some o->(∀ps,o ≠ .tbl ps)->H' a=some o:=λe n=>g _ _ (λz=>by rw[z,hp] at e;exact n _ (Option.some.inj e).symm) e;have ex:Ext H H':=⟨λa ys e=>g' e (by intro _ z;cases z),λa ob u e=>g' e (by intro _ z;cases z)⟩;refine⟨⟨λa ds q=>let ⟨xs,z,r⟩:=hm.l a ds q;⟨xs,g' z (by intro _ z;cases z),r.ext ex⟩,λa ds q=>let ⟨xs,z,r⟩:=hm.d a ds q;⟨xs,g' z (by intro _ z;cases z),dD r ex⟩,λa ds q=>let ⟨C,dx,gs,fs,y,z,r⟩:=hm.o a ds q;⟨C,dx,gs,fs,y,g' z (by intro _ z;cases z),fF r ex⟩,λa ds q=>?_⟩,ex⟩;by_cases z:a=p
 ·rw[z] at q ⊢;rw[hP] at q;cases q;exact T
 ·exact(hm.x a ds q).ext ex λps e=>g a _ z e
end
def aJQ (p:Addr)(q:Str)(prm:Arguments)(b:Expr)(sc:Scope)(cl:List (Str×Addr)):TE:=λ_ H Q=>aAS H p q/\∀f H',aC7 H H' p f q prm b sc cl->Q (.ref f) H'
def aAo (X:Cx)(p:Addr):Prop:=∃cd,X.env.code=.ref cd/\CodeHd X.base cd p/\X.base.BuiltinsAt X.mg p
def mP (sp:DSp)(i j:Nat)(p:Addr)(q:Str):DE:=λρ M Q=>match ρ[i]?,ρ[j]? with
 |some (some dx),some (some (.ref g))=>M (.x p)=some [.str q]/\∀f:Addr,M (.x f)=none->sp [dx,.ref f] (putX M f [.ref g]) λd M'=>Q d (lZ M' f)
 |_,_=>False
noncomputable abbrev eaS:Str:="earlier"
theorem xC {env:Env}{c:Addr}(e:env.cells.lookup eaS=some c):closureFor lI env=pure [(eaS,c)]:=by simp[closureFor,lI,cellOf,e]
section
variable {X:Cx}
theorem aGU {p:Addr}{q:Str}{prm:Arguments}{b:Expr}{sc:Scope}{pos:Pos}{cl:List (Str×Addr)}(ht:aAo X p)(hcl:closureFor sc X.env = pure cl)(hq:X.env.qual ++ "<lambda>"=q)(hdef:defaultsOf prm X.env=([],[])):PE X (.Lambda prm b sc pos) (aJQ p q prm b sc cl):=by obtain⟨cd,hcd,C,hb⟩:=ht;intro pins s σ H Q I ⟨T,h⟩;exact aBZ I hcd C hb T hcl hq hdef λf H' s' I' m=>⟨.ref f,H',I',rfl,h f H' m⟩
theorem zI {fn xs:Str}{pf px pos pl a1 a2 b1 b2 b3 b4 b5 b6 b7 b8:Pos}{i j jj k:Nat}{ps:List Str}{sp:DSp}{p:Addr}{q:Str}(h:Has X.prog X.w X.K X.mg X.base jj fn ps sp)(hr:cO k X.A)(hjk:jj<=k)(ht:aAo X p)(hx:PDE X (.Name xs px) (yX i))(hNj:X.N[j]? = some eaS:=by rfl)(hkc:X.env.kindOf eaS = some .cell:=by rfl)(hfn:X.fn eaS = true:=by rfl)(hq:X.env.qual ++ "<lambda>"=q:=by rfl)(hg:Gl X fn:=by rfl)(hdb:(fn==("__debug__":Str))=false:=by decide) :
  PDE X (.Call (.Name fn pf) [.Name xs px,.Lambda (aBQ a1 a2) (aAG b1 b2 b3 b4 b5 b6 b7 b8) lI pl] [] pos) (mP sp i j p q):=by
 obtain⟨F0,fd,F,hmF,hkF,hb⟩:=h;intro pins s σ H Q I ⟨ρ,M,Q',re,hm,q0,kq⟩;unfold mP at q0;split at q0
 case h_2=>exact q0.elim
 rename_i dx g e1 e2;obtain⟨hP,q0⟩:=q0;obtain⟨c,hc⟩:=I.ok.has eaS (.inl hkc);refine wpAny_Call_Name_kw (vC I hg hmF ?_ hdb);have pa:=nT hx (nT (aGU (b:=aAG b1 b2 b3 b4 b5 b6 b7 b8) (prm:=aBQ a1 a2) (sc:=lI) (pos:=pl) ht (xC hc) hq rfl) yH);refine callWith_K (h₀:=X.base) I.ok.mod.kin hkF (thn (pa pos pins s σ H (λvs H2=>∃v f H1,vs=[v,.ref f]/\Rep X.K H1 dx v/\bF X.K M H1/\Ext H H1/\aC7 H1 H2 p f q (aBQ a1 a2) (aAG b1 b2 b3 b4 b5 b6 b7 b8) lI [(eaS,c)]) I ?_) λus s2 ⟨vs,H2,I2,rv,v,f,H1,ev,rd,hm1,ex1,md⟩=>⟨I2.kIn,?_⟩) rfl rfl
 ·refine⟨ρ,M,λd M'=>d=dx/\M'=M,re,hm,by unfold yX;rw[e1];exact⟨rfl,rfl⟩,λv H1 ⟨d,M1,r1,hm1,ex1,z1,z2⟩=>?_⟩;subst z1 z2;exact⟨hm1.x p _ hP,λf H2 md=>⟨v,f,H1,rfl,r1,hm1,ex1,md⟩⟩
 subst ev;obtain⟨nf,g1,T2,pm,c',ctv,oc',u1,u2,vs',t',o1,o2,o3,o4⟩:=md;obtain⟨hm2,ex2⟩:=aDd hm1 hP g1 T2;have hc2:H2 c=none:=I2.freeC _ c hc;obtain⟨m,_,hl⟩:=I2.loc;obtain⟨vg,eg,rg⟩:=re.get j _ e2;have egr:=aM rg;subst egr;obtain⟨ug,rug,lk⟩:=hl j eaS _ hNj eg (.inr (.inl hkc));have rug':ug=.ref g:=rug;subst rug';obtain⟨oc,hoc,hod⟩:s2.heap.IsCell c (some (.ref g)):=by
  rcases lk with⟨k1,_⟩|⟨_,c2,e,z⟩
  ·rw[hkc] at k1;cases k1
  ·rw[hc] at e;cases e;exact z
 have abv:X.s₀.heap.objs.size<=c:=I2.ok.cab _ c hfn hc;have nfs:∀b∈frs X.stack,b≠c:=λb hb z=>by
  rcases List.mem_cons.mp (I2.stkSub b hb) with e|hb
  ·exact I2.cne _ c hc (by rw[<- z];exact e)
  ·obtain⟨_,o,ho,_⟩:=I2.ok.funs.mem hb;rw[z] at ho;exact absurd (Nat.lt_of_lt_of_le (Heap.lt_size ho) abv) (Nat.lt_irrefl _)
 have e0:=I2.env0;have hok3:HOk X.prog X.w (upd H2 c (.frz oc (.own f))) s2.heap:=λb u e=>by
  by_cases z:b=c
  ·rw[z] at e ⊢;rw[bD] at e;cases e;exact⟨hoc,_,hoc⟩
  ·rw[aJ z] at e;exact(I2.hok b u e).stay (λ_ _ _ q=>q) (λd q=>by rw[aJ (aO q hc2)];exact q) λd xs q=>by rw[aJ (aO q hc2)];exact q
 have e3:aBf X.prog X.w X.K X.mg X.base X.A X.stack s2 (upd H2 c (.frz oc (.own f))):=⟨e0.frames,e0.mod,λb o e=>⟨(e0.bs b o e).1,by
  rw[aJ (λz=>by rw[z] at e;exact absurd (Nat.lt_of_lt_of_le (Heap.lt_size e) (Nat.le_trans I2.ok.bsz abv)) (Nat.lt_irrefl _))]
  exact(e0.bs b o e).2⟩,e0.bsz,e0.funs,λb hb=>by rw[aJ (nfs b hb)];exact e0.frf b hb,hok3,e0.bare⟩
 have ex3:Ext H2 (upd H2 c (.frz oc (.own f))):=Ext.new hc2 _;have fc:f≠c:=aO o1 hc2;have hm3:bF X.K (putX M f [.ref g]) (upd H2 c (.frz oc (.own f))):=by
  have hn:=hm2.new hc2 (.frz oc (.own f));refine⟨λa ds q=>hn.l a ds (by rw[eJ (by intro z;cases z)] at q;exact q),λa ds q=>hn.d a ds (by rw[eJ (by intro z;cases z)] at q;exact q),λa ds q=>hn.o a ds (by rw[eJ (by intro z;cases z)] at q;exact q),λa ds q=>?_⟩;by_cases z:a=f
  ·rw[z,lD] at q;cases q;rw[z];exact⟨q,a1,a2,b1,b2,b3,b4,b5,b6,b7,b8,c,c',pm,ctv,oc,oc',u1,u2,vs',t',by rw[aJ fc];exact o1,bD,hod,by rw[aJ (aO o2 hc2)];exact o2,o3,o4⟩
  ·rw[eJ (λw=>z (AK.x.inj w))] at q;exact hn.x a ds q
 have rs3:aY X.K (upd H2 c (.frz oc (.own f))) [dx,.ref f] [v,.ref f]:=bU ((rd.ext ex2).ext ex3) (bU cK cD);have hMf:M (.x f)=none:=hm1.freshX nf;have hsp:mL X.K sp [v,.ref f] (upd H2 c (.frz oc (.own f))) (LQ X.K (upd H2 c (.frz oc (.own f))) λd M'=>Q' d (lZ M' f)) E0:=⟨[dx,.ref f],putX M f [.ref g],_,rs3,hm3,q0 f hMf,λ_ _ z=>z⟩;have hlen:us.length=ps.length:=by rw[<- rv.length];exact F.len _ _ _ _ hsp
 have bnd:=hb s2 us I2.kIn (by rw[append_nil];exact hlen);rw[append_nil] at bnd;refine wpAny_call (codeAny_mono (F.run X.A X.stack s2 _ ⟨us,[]⟩ us [v,.ref f] _ E0 (hr.mono hjk) e3 bnd rv hsp) λr s' hq=>?_);cases r with
 |error e=>exact False.elim hq
 |ok fl =>
  cases fl with
  |ret u =>
   obtain⟨v',H4,os,bare,un,hok4,rv',d,M4,rd4,hm4,ex4,q4⟩:=hq;have f4:H4 c=some (.frz oc (.own f)):=ex4.frz c _ _ bD;refine I2.after ⟨v',gQ H4 c,os,bare,aD2 hoc hc2 un hok4,xF hok4 f4,rv',kq _ _ ⟨d,lZ M4 f,rd4.extS (yY f4),wJ hm4 f4 hod,?_,q4⟩⟩;have all:=((ex1.trans ex2).trans ex3).trans ex4;have nc:∀{a:Addr}{o:HO},H a=some o->a≠c:=λe=>aO e (I.freeC _ c hc);exact⟨λa xs e=>by rw[dH (nc e)];exact all.tup a xs e,λa o y e=>by rw[dH (nc e)];exact all.frz a o y e⟩
  |next=>exact False.elim hq
  |brk=>exact False.elim hq
  |cont=>exact False.elim hq
end
section
variable {P:Program}{w:World}{K:Frag}{mg:Str->Option Value}{base:Heap}
noncomputable def cxL (P:Program)(w:World)(K:Frag)(mg:Str->Option Value)(base:Heap)(q:Str)(f c c':Addr)(A:Around)(outer:List Env)(s:Shared)(H:Hp):Cx where
 prog:=P
 w:=w
 K:=K
 mg:=mg
 base:=base
 A:=A.deeper (envX q lI s.heap.objs.size f (.ref c') [(eaS,c)])
 N:=["one","other",eaS]
 s₀:=s
 H₀:=H
 env:=envX q lI s.heap.objs.size f (.ref c') [(eaS,c)]
 outer:=outer
 stack:=envX q lI s.heap.objs.size f (.ref c') [(eaS,c)]::outer
 ex:=[]
 calm:=true
 fn:=λ_=>false
 pn:=[]
 xe:=λ_ _=>False
theorem lk1 {x:Str}{c d:Addr}(h:List.lookup x [(eaS,c)]=some d):x=eaS/\d=c:=by
 rw[lookup_cons] at h;cases e:x==eaS with
 |true=>rw[e] at h;exact⟨eq_of_beq e,(Option.some.inj h).symm⟩
 |false=>rw[e] at h;cases h
theorem aCj {x:Str}(h:lI.names.lookup x=some .cell∨lI.names.lookup x=some .free):x=eaS:=by
 have:lI.names.lookup x=if x==("one":Str) then some .local else if x==("other":Str) then some .local else if x==eaS then some .free else none:=by unfold lI;rw[lookup_cons,lookup_cons,lookup_cons];cases x==("one":Str)<;>cases x==("other":Str)<;>cases x==eaS<;>rfl
 rw[this] at h;cases e:x==eaS with
 |true=>exact eq_of_beq e
 |false =>
  rw[e] at h;rcases h with h|h;all_goals (split at h;cases h;split at h;cases h;cases h)
theorem aEv {A:Around}{outer:List Env}{s:Shared}{H:Hp}{M:DM}{f g:Addr}{u1 u2:Value}{v1 v2:V}{d1 d2:D}{n:Str}{ps:List Str}{sp:DSp}{Q:DQ}{E:XK}{j k:Nat}(hr:cO (k+1) A)(hjk:j<=k)(e0:aBf P w K mg base A outer s H)(hm:bF K M H)(hx:M (.x f)=some [.ref g])(hmg:mg n=some (.ref g))(hh:Has P w K mg base j n ps sp)(r:bJ [v1,v2] [u1,u2])(rd:aY K H [d1,d2] [v1,v2])(q:mG d1 (.int 0) (lZ M f) λx M3=>mG d2 (.int 0) M3 λy M4=>sp [x,y] M4 λd M'=>Q d (putX M' f [.ref g])) :
  codeAny (model P w) A (.call (.ref f) ⟨[u1,u2],[]⟩) (CR CX0 outer P w H s (LQ K H Q) E) s:=by
 obtain⟨qn,a1,a2,b1,b2,b3,b4,b5,b6,b7,b8,c,c',pm,ct,oc,oc',u,u',vs,t,h1,h4,h5,h6,h7,h8⟩:aF1 H f g:=hm.x f _ hx;have hf:=(e0.hok f _ h1).1;have hc:s.heap.get? c=some oc:=(e0.hok c _ h4).1;have fc:f≠c:=λz=>by rw[z,hc] at hf;have:=congrArg Obj.data (Option.some.inj hf);rw[h5] at this;cases this
 have cc:c'≠c:=λz=>by rw[z,h4] at h6;cases h6;rw[h5] at h7;cases h7
 have nfs:∀b∈frs outer,b≠c:=λb hb z=>by have:=e0.frf b hb;rw[z,h4] at this;cases this
 have lim:s.heap.NoLimit:=e0.mod.nolimit.keeps λb o e=>(e0.bs b o e).1;refine PySem.W.kla_callFunE hr.depth hf rfl rfl rfl rfl ⟨c',oc',vs,t,rfl,(e0.hok c' _ h6).1,h7,h8⟩ ?_;rw[show bindArgs _ ⟨[u1,u2],[]⟩=pure [(("one":Str),u1),(("other":Str),u2)] from rfl];refine wpAny_pure (wpAny_newFunctionEnv (show ∀x∈lI.names,x.2 ≠ .cell by decide) (λx hx=>?_) (λh₁ hns hsb=>⟨lim.fresh _ hsb,?_⟩) rfl)
 ·simp only[mem_cons,not_mem_nil,or_false] at hx;rcases hx with rfl|rfl<;>rfl
 show codeAny _ _ (.expr (aAG b1 b2 b3 b4 b5 b6 b7 b8) (envX qn lI s.heap.objs.size f (.ref c') [(eaS,c)])) _ _;have hk₁:∀b o,s.heap.get? b=some o->h₁.get? b=some o:=λb o e=>hsb.extBut b o (Nat.ne_of_lt (Heap.lt_size e)) (Heap.get?_push_of_some _ e);have del0:∀{b:Addr},H b=none->gQ H c b=none:=λe=>by
  unfold gQ;split
  ·rfl
  ·exact e
 have hokc:HOk P w (gQ H c) s.heap:=xF e0.hok h4;have I:Inv (cxL P w K mg base qn f c c' A outer s (gQ H c)) [] [some v1,some v2,some (.ref g)] (gQ H c) { s with heap:=h₁,toks:=s.toks+2 }:=by
  refine⟨⟨e0.mod,rfl,rfl,rfl,Nat.le_refl _,λx y d z1 z2=>?_,λx hx=>?_,λx d z=>(nomatch z),λ_=>hr.hd,Around.frames_deeper e0.frames,.inr ⟨rfl,rfl⟩,λb z=>(nomatch z),λb o e=>⟨(e0.bs b o e).1,del0 (e0.bs b o e).2⟩,e0.bsz,λb o _ z=>(nomatch z),λb z=>(nomatch z),e0.funs,λb hb=>del0 (e0.frf b hb)⟩,
   rfl,e0.bare,Un.kept hk₁,⟨_,hns,λi x v z1 z2 z3=>?_⟩,λx d z=>?_,del0 (e0.hok.fresh (Nat.le_refl _)),λx d z=>?_,λp hp=>absurd (show p∈([]:List (Addr×Obj)) from hp) (by simp),hokc.kept hk₁,rfl⟩
  ·exact(lk1 z1).1.trans (lk1 z2).1.symm
  ·exact⟨c,by rw[aCj hx];rfl⟩
  ·have cl:h₁.IsCell c (some (.ref g)):=⟨oc,hk₁ c oc hc,h5⟩;cases r with
   |cons r1 r =>
    cases r with
    |cons r2 _ =>
     match i,z1,z2 with
     |0,z1,z2=>cases z1;cases z2;exact⟨u1,r1,.inl ⟨rfl,rfl⟩⟩
     |1,z1,z2=>cases z1;cases z2;exact⟨u2,r2,.inl ⟨rfl,rfl⟩⟩
     |2,z1,z2=>cases z1;cases z2;exact⟨.ref g,rfl,.inr ⟨.inr rfl,c,rfl,cl⟩⟩
     |i+3,z1,z2=>cases z1
  ·rw[(lk1 z).2];exact⟨_,oc,hk₁ c oc hc,h5⟩
  ·rw[(lk1 z).2];exact lC
 have body:=wZ (X:=cxL P w K mg base qn f c c' A outer s (gQ H c)) (p:=b1) (pos:=b8) (j:=j) (k:=k) (tN 2) (hr.deeper _) hjk (lB (aCs (pos:=b4) (tN (pos:=b2) 0) (yO (i:=0) (j:=0) (pos:=b3))) (lB (aCs (pos:=b7) (tN (pos:=b5) 1) (yO (i:=0) (j:=0) (pos:=b6))) uK));have hmc:bF K (lZ M f) (gQ H c):=wJ hm h4 h5;have rdc:=rd.extS (yY (K:=K) h4);obtain⟨_,r',e',rv1,bV⟩:=aN rdc;cases e';obtain⟨_,r',e',rv2,_⟩:=aN bV;cases e';have re:eV K (gQ H c) [some d1,some d2,some (.ref g)] [some v1,some v2,some (.ref g)]:=⟨rfl,λi d z=>by
  match i,z with
  |0,z=>cases z;exact⟨v1,rfl,rv1⟩
  |1,z=>cases z;exact⟨v2,rfl,rv2⟩
  |2,z=>cases z;exact⟨_,rfl,cK⟩
  |i+3,z=>cases z⟩
 refine PySem.W.kla_codeExpr (wpAny_mono (body [] _ _ (gQ H c) (LQ K (gQ H c) λd M'=>Q d (putX M' f [.ref g])) I ⟨[some d1,some d2,some (.ref g)],lZ M f,_,re,hmc,⟨n,ps,sp,hmg,hh,q⟩,λ_ _ z=>z⟩) (λv s' hs=>?_) (λe s' hs=>hs.elim));obtain⟨v',H',J,rv,d,M',rd',hm',ex,qq⟩:=hs;have nc:H' c=none:=J.freeC eaS c rfl;have fz:∀{a:Addr}{o:Obj} {y:HO},a≠c->H a=some (.frz o y)->H' a=some (.frz o y):=λn e=>ex.frz _ _ _ (by rw[dH n];exact e);have un:Un (frs outer) [] (gQ H c) H' s.heap s'.heap:=J.base;have kc:s'.heap.get? c=some oc:=un.keep c oc hc lC (λz=>nfs c z rfl) (λz=>nomatch z);have ne:∀{a:Addr}{o:HO},H' a=some o->a≠c:=λe=>aO e nc;refine⟨v',upd H' c (.frz oc (.own f)),J.os,J.bare,⟨λb o e n hb hx=>un.keep b o e (del0 n) hb hx,λb o e n hb hx=>un.slot b o e (del0 n) hb hx,λb o e n hx=>?_,un.there,λb xs e=>?_,λb o y e=>?_,λb ps e=>?_⟩,λb o e=>?_,rv,d,putX M' f [.ref g],rd'.ext (Ext.new nc _),?_,⟨λa xs e=>?_,λa o y e=>?_⟩,qq⟩
 ·have bc:b≠c:=λz=>by rw[z,h4] at n;cases n
  rw[aJ bc];exact un.free b o e (del0 n) hx
 ·have bc:b≠c:=λz=>by rw[z,h4] at e;cases e
  rw[aJ bc];exact un.tups b xs (by rw[dH bc];exact e)
 ·by_cases bc:b=c
  ·rw[bc] at e ⊢;rw[h4] at e;cases e;exact bD
  ·rw[aJ bc];exact un.frzs b o y (by rw[dH bc];exact e)
 ·have bc:b≠c:=λz=>by rw[z,h4] at e;cases e
  rw[aJ bc];exact un.tbls b ps (by rw[dH bc];exact e)
 ·by_cases bc:b=c
  ·rw[bc] at e ⊢;rw[bD] at e;cases e;exact⟨kc,_,kc⟩
  ·rw[aJ bc] at e;exact(J.hok b o e).stay (λ_ _ _ q=>q) (λd q=>by rw[aJ (ne q)];exact q) λd xs q=>by rw[aJ (ne q)];exact q
 ·have hn:=hm'.new nc (.frz oc (.own f));refine⟨λa ds q=>hn.l a ds (by rw[eJ (by intro z;cases z)] at q;exact q),λa ds q=>hn.d a ds (by rw[eJ (by intro z;cases z)] at q;exact q),λa ds q=>hn.o a ds (by rw[eJ (by intro z;cases z)] at q;exact q),λa ds q=>?_⟩;by_cases z:a=f
  ·rw[z,lD] at q;cases q;rw[z];exact⟨qn,a1,a2,b1,b2,b3,b4,b5,b6,b7,b8,c,c',pm,ct,oc,oc',u,u',vs,t,by rw[aJ fc];exact fz fc h1,bD,h5,by rw[aJ cc];exact fz cc h6,h7,h8⟩
  ·rw[eJ (λw=>z (AK.x.inj w))] at q;exact hn.x a ds q
 ·have bc:a≠c:=λz=>by rw[z,h4] at e;cases e
  rw[aJ bc];exact ex.tup a xs (by rw[dH bc];exact e)
 ·by_cases bc:a=c
  ·rw[bc] at e ⊢;rw[h4] at e;cases e;exact bD
  ·rw[aJ bc];exact fz bc e
end
def vI (f g:Addr)(sp:DSp)(ds:List D)(M2:DM)(Q:DQ):Prop:=match ds with
 |[a,b]=>mG a (.int 0) (lZ M2 f) λx M3=>mG b (.int 0) M3 λy M4=>sp [x,y] M4 λd M'=>Q d (putX M' f [.ref g])
 |_=>False
def zM (P:Program)(w:World)(K:Frag)(mg:Str->Option Value)(base:Heap)(j:Nat)(tf:DE)(ta:DA):DE:=λρ M Q=>tf ρ M λd M1=>match d with
 |.ref f=>∃g n ps sp,mg n=some (.ref g)/\Has P w K mg base j n ps sp/\M1 (.x f)=some [.ref g]/\ta ρ M1 λds M2=>M2 (.x f)=some [.ref g]/\vI f g sp ds M2 Q
 |_=>False
section
variable {X:Cx}
theorem aEP {pins:List (Addr×Obj)}{σ:L2.St}{H:Hp}{s:Shared}{M:DM}{f g:Addr}(I:Inv X pins σ H s)(hm:bF X.K M H)(hx:M (.x f)=some [.ref g]):PySem.W.FnAt f s.heap:=by obtain⟨qn,a1,a2,b1,b2,b3,b4,b5,b6,b7,b8,c,c',pm,ct,oc,oc',u,u',vs,t,h1,_⟩:aF1 H f g:=hm.x f _ hx;exact⟨_,_,_,_,(I.hok f _ h1).1⟩
theorem aBs {x:Str}{p pos:Pos}{e:Expr}{es:List Expr}{tf:DE}{ta:DA}{j k:Nat}(hf:PDE X (.Name x p) tf)(hr:cO k X.A)(hjk:j+1<=k)(ha:PDA X (e::es) ta)(he:starEach (e::es) X.env=(false,eval e X.env)::starEach es X.env:=by rfl)(hpl:(backTo pos (starEach es X.env)).any (·.1)=false:=by rfl):PDE X (.Call (.Name x p) (e::es) [] pos) (zM X.prog X.w X.K X.mg X.base j tf ta):=by
 intro pins s σ H Q I ⟨ρ,M,Q',re,hm',q,kq⟩;refine wpAny_Call_Name_kw (thn (hf pins s σ H _ I ⟨ρ,M,_,re,hm',q,λ_ _ z=>z⟩) λu s1 ⟨y,H1,I1,ry,d1,M1,r1,hm1,e1,q1⟩=>?_);cases d1 with
 |ref f =>
  obtain⟨g,n,ps,sp,hmg,hh,hx1,q1⟩:=q1;rw[aM r1] at ry;cases ry;refine PySem.W.callWith_F (aEP I1 hm1 hx1) (thn (ha pos pins s1 σ H1 _ I1 ⟨ρ,M1,_,re.ext e1,hm1,q1,λ_ _ z=>z⟩) λus s2 ⟨vs,H2,I2,r2,ds,M2,rs,hm2,e2,hx2,q2⟩=>⟨aEP I2 hm2 hx2,?_⟩) he hpl;unfold vI at q2;split at q2
  case h_2=>exact q2.elim
  rename_i a b;obtain⟨v1,r',e',rv1,bV⟩:=aN rs;subst e';obtain⟨v2,r'',e',rv2,rest2⟩:=aN bV;subst e';have e':=bE rest2;subst e';cases r2 with
  |cons q1' r2 =>
   cases r2 with
   |cons q2' r2 =>
    cases r2;obtain⟨k,rfl⟩:∃k',k=k'+1:=⟨k-1,by omega⟩;refine wpAny_call (codeAny_mono (aEv (E:=E0) hr (by omega) I2.env0 hm2 hx2 hmg hh (.cons q1' (.cons q2' .nil)) (bU rv1 (bU rv2 cD)) q2) λr s' hq=>?_);cases r with
    |error e=>exact False.elim hq
    |ok fl =>
     cases fl with
     |ret u =>
      obtain⟨v,H',J,rv,z⟩:=I2.after hq;exact⟨v,H',J,rv,kq v H' (z.back (e1.trans e2))⟩
     |next=>exact False.elim hq
     |brk=>exact False.elim hq
     |cont=>exact False.elim hq
 |_=>exact q1.elim
end
section
variable {P:Program}{w:World}{K:Frag}{mg:Str->Option Value}{base:Heap}
def aBY (K:Frag)(mg:Str->Option Value)(base:Heap)(x:Str)(p:Addr):Prop:=∀f oc od fd osl,mg x=some (.ref f)->K.lookup f=some ⟨oc,od,.func fd,osl⟩->∃cd,fd.code=.ref cd/\CodeHd base cd p/\base.BuiltinsAt mg p
theorem Has.mkL {x:Str}{st:Stmt}{N ps:List Str}{k:Nat}{sp:DSp}{p:Addr}(h:cQ K mg x st ps)(T:aBY K mg base x p)(S:aR N ps (aK st))(len:∀ds M Q,sp ds M Q->ds.length=ps.length)(hbody:∀(f:Addr)(cdv:Value) (A:Around) (outer:List Env) (s:Shared) (H:Hp) (ds:List D) (M:DM) (Q:DQ) (E:XK),cO k (A.deeper (envOfC x (aK st) s.heap.objs.size f cdv))->aAo (nZ CX0 P w K mg base N x (aK st) f cdv A outer s H E).nox p->sp ds M Q ->
   ∃t,ZSs (nZ CX0 P w K mg base N x (aK st) f cdv A outer s H E).nox (dY st) t/\t { nx:=λ_ M'=>Dn Q .non M',rt:=Dn Q } (gF N ds) M):Has P w K mg base (k+1) x ps sp:=by
 obtain⟨f,fd,F,hm,hb⟩:=h;have kp:=F.kp;obtain⟨oc,od,kV,doc,pm,an,cdv,ct,osl,rfl,lk,hcd⟩:=F.ex;have tb:=T f _ _ _ _ hm lk;refine⟨f,_,aE1 lk hcd S (λvs H Q E ⟨ds,M,Q',rs,_,q,_⟩=>by rw[<- rs.length];exact len ds M Q' q) λA outer s H vs Q E hr ⟨ds,M,Q',rs,hm',q,k'⟩=>?_,hm,kp,hb⟩;obtain⟨t,h1,h2⟩:=hbody f cdv A outer s H ds M Q' E hr tb q;have fin:∀v H',LQ K H (Dn Q') v H'->Q v H':=λv H' ⟨d,M1,rd,hm1,ex,M2,sub,q2⟩=>k' v H' ⟨d,M2,rd,hm1.sub sub,ex,q2⟩;exact⟨_,h1.o.nox,gF N ds,M,_,qW rs N,hm',h2,⟨λσ' H' ⟨ρ',M',_,hm',ex,q'⟩=>fin _ H' ⟨.non,M',pY,hm',ex,q'⟩,fin,λσ' H' ⟨_,_,_,_,_,z⟩=>z.elim,λσ' H' ⟨_,_,_,_,_,z⟩=>z.elim⟩⟩
end
theorem aA1 {P:Program}{w:World}{K:Frag}{mg mb:Str->Option Value}{k:Nat}{fa a:Addr}{fd:FuncData}{x:Str}{sp:DSp}{s₁:Shared}{vs:List Value}{ns:List Int}{tabs:List (Addr×Addr×Str)}(KX:K.In s₁.heap)(hns:s₁.heap.Ns mainGlobals mg)(hb:s₁.heap.Ns builtinsNs mb)(hbb:∀x:Str,x ≠ "__name__"->mb x=bootBuiltins x)(hlim:s₁.heap.NoLimit)(hg:s₁.gens=#[])(ha:s₁.heap.get? a = some { cls:=.type "list",data:=.seq vs.toArray })(hi:IntsAre vs ns)(hl:ns.length<=sizeLine)(hr:cO k callerA)(hK:PySem.W.noTabs K=true)(hT:∀t∈tabs,CodeHd s₁.heap t.1 t.2.1/\s₁.heap.get? t.2.1=some (tabObj #[]))(nd:(tabs.map (·.2.1)).Nodup)(hB:∃bm o,mg "__builtins__" = some (.ref bm)/\bm≠builtinsNs/\s₁.heap.get? bm = some o/\o.cls = .type "module"/\o.dict=some builtinsNs/\o.data=.plain)(F:∀base:Heap,K.In base->base.Ns mainGlobals mg->(∀t∈tabs,CodeHd base t.1 t.2.1/\base.BuiltinsAt mg t.2.1)->jP P w K mg base CX0 k fa fd [x] (mL K sp))(hbind:∀(s:Shared)(u:Value),BindsTo s fd ⟨[u],[]⟩ [(x,u)])(hsp:∀M:DM,(∀t∈tabs,M (.x t.2.1)=some [.str t.2.2])->sp [.fz (ns.map D.int)] M λd _=>d=.bl true) :
  codeAny (model P w) callerA (.call (.ref fa) ⟨[.ref a],[]⟩) (λr s'=>r=.ok (.ret (.bool true))/\OldK s₁.heap s'.heap/\s'.os=s₁.os/\AllBare s'.gens) s₁:=by
 have rv:=sT hi;have lenV:=hi.length;have aT:∀{t},t∈tabs->t.2.1≠a:=λ{t} ht z=>by have:=(hT t ht).2;rw[z,ha] at this;cases this
 have core:∀(S:Option HO)(H:Hp),(∀b,H b = if b = a then S else if b∈tabs.map (·.2.1) then some (.tbl #[]) else none)->(S = none∨S = some (.frz { cls:=.type "list",data:=.seq vs.toArray } (.lst (ns.map V.int))))->SqX K H a (ns.map V.int)->(S≠none->K.lookup a=none) ->
   codeAny (model P w) callerA (.call (.ref fa) ⟨[.ref a],[]⟩) (λr s'=>r=.ok (.ret (.bool true))/\OldK s₁.heap s'.heap/\s'.os=s₁.os/\AllBare s'.gens) s₁:=by
  intro S H hH hS hsq hKa;have Ha:H a=S:=by rw[hH,if_pos rfl]
  have Ht:∀{t},t∈tabs->H t.2.1=some (.tbl #[]):=λ{t} ht=>by rw[hH,if_neg (aT ht),if_pos (List.mem_map_of_mem ht)]
  have cas:∀b u,H b=some u->(b=a/\S=some u) ∨ ∃t∈tabs,t.2.1=b/\u=.tbl #[]:=λb u e=>by
   rw[hH] at e;split at e
   ·rename_i z;exact .inl ⟨z,e⟩
   ·split at e
    ·rename_i z;obtain⟨t,ht,z⟩:=List.mem_map.mp z;exact .inr ⟨t,ht,z,(Option.some.inj e).symm⟩
    ·cases e
  have non:∀{b:Addr}{o:Obj},s₁.heap.get? b=some o->(∀q,o.data ≠ .seq vs.toArray q)->o≠tabObj #[]->H b=none:=λ{b o} e n1 n2=>by
   cases q:H b with
   |none=>rfl
   |some u =>
    rcases cas b u q with⟨z,_⟩|⟨t,ht,z,_⟩
    ·rw[z,ha] at e;cases e;exact absurd rfl (n1 _)
    ·rw[<- z,(hT t ht).2] at e;cases e;exact absurd rfl n2
  have hok:HOk P w H s₁.heap:=λb u e=>by
   rcases cas b u e with⟨z,zs⟩|⟨t,ht,z,zu⟩
   ·rcases hS with y|y
    ·rw[y] at zs;cases zs
    ·rw[y] at zs;cases zs;rw[z];exact⟨ha,by rw[length_map];exact hl,vs,_,rv,ha⟩
   ·rw[zu,<- z];exact(hT t ht).2
  have base_of:∀{b:Addr}{o:Obj},s₁.heap.get? b=some o->H b=none->(rL s₁.heap H).get? b=some o:=λe n=>aC1 e n;have nsK:∀{b:Addr}{m:Str->Option Value},s₁.heap.Ns b m->(rL s₁.heap H).Ns b m:=λ{b m} ⟨o,es,ep,e,d,r⟩=>⟨o,es,ep,base_of e (non e (λq z=>by rw[d] at z;cases z) (λz=>by rw[z] at d;cases d)),d,r⟩;have hKb:K.In (rL s₁.heap H):=λb o e=>base_of (KX b o e) (by
   cases q:H b with
   |none=>rfl
   |some u =>
    rcases cas b u q with⟨z,zs⟩|⟨t,ht,z,_⟩
    ·rw[z,hKa (by rw[zs];simp)] at e;cases e
    ·have e2:=KX b o e;rw[<- z,(hT t ht).2] at e2;cases e2;have h2:=List.all_eq_true.mp hK (b,tabObj #[]) (PySem.W.mem_of_lookupK e);exact absurd (show false=true from h2) Bool.false_ne_true)
  have hM:Mod K mg (rL s₁.heap H):=⟨hKb,nsK hns,⟨mb,nsK hb,hbb⟩,let ⟨mc,h1,h2⟩:=hlim;⟨mc,nsK h1,h2⟩⟩;have e0:aBf P w K mg (rL s₁.heap H) callerA [] s₁ H:=⟨rfl,hM,λb o e=>aDS e,Nat.le_of_eq (aA4 _ _),trivial,λb hb=>absurd (show b∈([]:List Addr) from hb) (by simp),hok,.of_eq hg⟩;have hCB:∀t∈tabs,CodeHd (rL s₁.heap H) t.1 t.2.1/\(rL s₁.heap H).BuiltinsAt mg t.2.1:=λt ht=>by
   obtain⟨o,ws,file,tf,flags,tg,inF,text,tt,e1,r1,r2,r⟩:=(hT t ht).1;refine⟨⟨o,ws,file,tf,flags,tg,inF,text,tt,base_of e1 (non e1 (λq z=>by rw[r2] at z;cases z) (λz=>by rw[z] at r1;cases r1)),r1,r2,r⟩,?_⟩;obtain⟨bm,ob,c1,c2,c3,c4,c5,c6⟩:=hB;refine⟨bm,ob,c1,c2,λz=>?_,λz=>?_,base_of c3 (non c3 (λq z=>by rw[c6] at z;cases z) (λz=>by rw[z] at c4;cases c4)),c4,c5,c6⟩
   ·obtain⟨o',es,ep,e,d,_⟩:=hns;rw[z,e] at c3;cases c3;rw[d] at c6;cases c6
   ·rw[z,(hT t ht).2] at c3;cases c3;cases c4
  have fnd:∀{l:List (Addr×Addr×Str)},(l.map (·.2.1)).Nodup->∀t∈l,l.find? (λy=>y.2.1==t.2.1)=some t:=λ{l}=>by
   induction l with
   |nil=>intro _ t h;cases h
   |cons y l ih =>
    intro n t ht;rw[map_cons,List.nodup_cons] at n;rcases List.mem_cons.mp ht with z|z
    ·rw[z,List.find?_cons_of_pos (by simp)]
    ·rw[List.find?_cons_of_neg (by intro w;exact n.1 (by rw[eq_of_beq w];exact List.mem_map_of_mem z))]
     exact ih n.2 t z
  have hrep:bF K (λb=>match b with|.x p=>(tabs.find? λy=>y.2.1==p).map λt=>[.str t.2.2]|_=>none) H:=by
   refine⟨λ_ _ z=>(by cases z),λ_ _ z=>(by cases z),λ_ _ z=>(by cases z),λp ds z=>?_⟩;obtain⟨t,ht,rfl⟩:=Option.map_eq_some_iff.mp z;have m:=List.mem_of_find?_eq_some ht;have e:t.2.1=p:=by have:=List.find?_some ht;exact eq_of_beq this
   exact⟨#[],by rw[<- e];exact Ht m,trivial,λpos v z=>by cases z⟩
  refine codeAny_mono ((F _ hKb (nsK hns) hCB).run callerA [] s₁ H ⟨[.ref a],[]⟩ [.ref a] [.ref a] _ E0 hr e0 (hbind s₁ (.ref a)) (.cons rfl .nil) ⟨[.fz (ns.map D.int)],_,_,bU (by unfold Rep;exact⟨a,_,rfl,hsq,sW ns⟩) cD,hrep,hsp _ λt ht=>by show(tabs.find? λy=>y.2.1==t.2.1).map _=_;rw[fnd nd t ht];rfl,λ_ _ z=>z⟩) λr s' h=>?_
  cases r with
  |error e=>exact False.elim h
  |ok fl =>
   cases fl with
   |next=>exact False.elim h
   |brk=>exact False.elim h
   |cont=>exact False.elim h
   |ret u =>
    obtain⟨v,H',os,bare,un,hok',r',d,M',rd,_,_,q⟩:=h;have q':d=.bl true:=q;subst q';have e':=bZ rd;subst e';obtain rfl:u=Value.bool true:=r';have got:∀b o,s₁.heap.get? b=some o->s'.heap.get? b=some o ∨ ∃t∈tabs,t.2.1=b/\o=tabObj #[]/\∃more,s'.heap.get? b=some (tabObj (#[]++more)):=λb o e=>by
     cases q:H b with
     |none=>exact .inl (un.keep b o e q (by intro z;exact absurd (show b∈([]:List Addr) from z) (by simp)) (by simp))
     |some u =>
      rcases cas b u q with⟨z,zs⟩|⟨t,ht,z,zu⟩
      ·rcases hS with y|y
       ·rw[y] at zs;cases zs
       ·rw[y] at zs;cases zs;obtain⟨e1,_⟩:=hok b _ q;obtain⟨e2,_⟩:=hok' b _ (un.frzs b _ _ q);rw[e] at e1;cases e1;exact .inl e2
      ·rw[zu] at q;obtain⟨more,z2⟩:=un.tbls b _ q;refine .inr ⟨t,ht,z,?_,more,hok' b _ z2⟩;rw[<- z,(hT t ht).2] at e;cases e;rfl
    refine⟨rfl,⟨λb o e=>?_,λb o e=>?_⟩,os,bare⟩
    ·rcases got b o e with z|⟨t,ht,rfl,rfl,more,z⟩
     ·exact .inl z
     ·exact .inr (.inl ⟨((hT t ht).1.tab (hT t ht).2).isCodeTable,rfl,#[],more,rfl,z⟩)
    ·rcases got b o e with z|⟨t,ht,rfl,rfl,more,z⟩
     ·exact⟨_,z⟩
     ·exact⟨_,z⟩
 cases hk:K.lookup a with
 |some o =>
  have e:=KX a o hk;rw[ha] at e;cases e;exact core none _ (λb=>rfl) (.inl rfl) (.inr ⟨_,_,hk,by rw[size_toArray,lenV];exact hl,by simpa using rv⟩) λz=>absurd rfl z
 |none=>exact core _ _ (λb=>rfl) (.inr rfl) (.inl ⟨{ cls:=.type "list",data:=.seq vs.toArray },if_pos rfl⟩) λ_=>hk
theorem walk_ofL {l:PySem.W.OpenLaw}{n k:Nat}{q:Program}{loose:List Str}{XP:(Str->Option Value)->Heap->Prop}{YP:World->Heap->Prop}{d:DefRec}{K:Params->Frag}{sp:DSp}{x:Str}{tabs:List (Addr×Addr×Str)}(hn:l.most=some n)(hn2:n<=sizeLine)(hdf:d.params.defaults=[])(hr:cO k callerA)(hY:∀(w:World)(h:Heap),YP w h->(K w.params).In h)(hK:∀w:World,PySem.W.noTabs (K w.params)=true)(nd:(tabs.map (·.2.1)).Nodup)(hT:∀(w:World)(h:Heap),YP w h->∀t∈tabs,CodeHd h t.1 t.2.1/\h.get? t.2.1=some (tabObj #[]))(F:∀(w:World)(mg:Str->Option Value) (fa:Addr) (h:Heap),(K w.params).In h->h.Ns mainGlobals mg->mg d.name=some (.ref fa) ->
   ∃fd:FuncData,(∀(s:Shared)(u:Value),BindsTo s fd ⟨[u],[]⟩ [(x,u)]) /\
    ∀base:Heap,(K w.params).In base->base.Ns mainGlobals mg->(∀t∈tabs,CodeHd base t.1 t.2.1/\base.BuiltinsAt mg t.2.1)->jP l.prog w (K w.params) mg base CX0 k fa fd [x] (mL (K w.params) sp))(hsp:∀(ns:List Int),ns.length<=n->∀M:DM,(∀t∈tabs,M (.x t.2.1)=some [.str t.2.2])->sp [.fz (ns.map D.int)] M λd _=>d=.bl true) :
  PySem.W.WalkO q loose XP YP l.row.toRowW d [] (λf vs=>PySem.call f vs):=by
 refine Att.attach_call hn hdf λw s₀ s₁ mg mb fa o pm cd doc a vs ns G Y ho hd hcd hmg hobj hints hlen hg=>?_;have KX:=hY w _ Y;obtain⟨fd,hb,hF⟩:=F w mg fa _ KX G.T.g hmg;exact aA1 KX G.T.g G.T.b G.T.builtins G.T.nolimit hg hobj hints (Nat.le_trans hlen hn2) hr (hK w) (hT w _ Y) nd (let ⟨bm,ob,b1,b2,b3,b4,b5,b6⟩:=G.T.bmain;⟨bm,ob,b1,b2,b3,b4,b5,b6⟩) hF hb (hsp ns hlen)
section
variable {X:Cx}{pins:List (Addr×Obj)}{σ:L2.St}{H:Hp}{s:Shared}
variable {P:Program}{w:World}{H2:Hp}{h h':Heap}{c f:Addr}{oc:Obj}{K:Frag}{M:DM}{fs:List Addr}{u:HO}
end
section
variable {X:Cx}
theorem xL {fn xs:Str}{pf px pos pl a1 a2 b1 b2 b3 b4 b5 b6 b7 b8:Pos}{i j jj k:Nat}{ps:List Str}{sp:DSp}{p:Addr}{q:Str}(h:Has X.prog X.w X.K X.mg X.base jj fn ps sp)(hr:cO k X.A)(hjk:jj<=k)(ht:aAo X p)(hx:ZE X (.Name xs px) (yX i))(hNj:X.N[j]? = some eaS:=by rfl)(hkc:X.env.kindOf eaS = some .cell:=by rfl)(hfn:X.fn eaS = true:=by rfl)(hq:X.env.qual ++ "<lambda>"=q:=by rfl)(hg:Gl X fn:=by rfl)(hdb:(fn==("__debug__":Str))=false:=by decide):ZE X (.Call (.Name fn pf) [.Name xs px,.Lambda (aBQ a1 a2) (aAG b1 b2 b3 b4 b5 b6 b7 b8) lI pl] [] pos) (mP sp i j p q):=.i (zI (i:=i) (j:=j) (jj:=jj) (k:=k) h hr hjk ht hx.o hNj hkc hfn hq hg hdb)
end
section
variable {P:Program}{w:World}{K:Frag}{mg:Str->Option Value}{base:Heap}
end
section
variable {X:Cx}
theorem aBe {x:Str}{p pos:Pos}{e:Expr}{es:List Expr}{tf:DE}{ta:DA}{j k:Nat}(hf:ZE X (.Name x p) tf)(hr:cO k X.A)(hjk:j+1<=k)(ha:ZA X (e::es) ta)(he:starEach (e::es) X.env=(false,eval e X.env)::starEach es X.env:=by rfl)(hpl:(backTo pos (starEach es X.env)).any (·.1)=false:=by rfl):ZE X (.Call (.Name x p) (e::es) [] pos) (zM X.prog X.w X.K X.mg X.base j tf ta):=.i (aBs (j:=j) (k:=k) hf.o hr hjk ha.o he hpl)
end
section
variable {P:Program}{w:World}{K:Frag}{mg:Str->Option Value}{base:Heap}
end
end Dd
namespace PySem
section
variable {prog:Program}{w:World}{K:Type}[DecidableEq K]{knd:HeapKind prog w K}{A:Around}{E:Value->Shared->Prop}{s:Shared}
theorem gP {d a:Addr}{xs:List (K×Addr×Value)}{k:K}{v:Value}{Q:Value->Shared->Prop}(hu:knd.room A)(hkey:knd.is s.heap k a)(hm:s.heap.DictOfH knd d xs)(h1:∀p,atKey xs k=some p->Q p.2 { s with toks:=s.toks+knd.draws k })(h2:atKey xs k=none->∀h',h'.DictOfH knd d (storedH xs k a v)->Heap.SameBut d s.heap h'->Q v { s with heap:=h',toks:=s.toks+knd.draws k })(hsz:xs.length<=sizeLine):wpAny (model prog w) A (dictSetDefault d (.ref a) v) Q E s:=by
 obtain⟨o,es,ep,ho,hc,hd,he,his,hn⟩:=hm;unfold dictSetDefault;try with_reducible refine wpAny_holding ?_
 refine wpAny_bind (knd.pyHash hu hkey ?_);refine wpAny_bind (wpAny_dictFind_heap (s:={ s with toks:=s.toks+knd.draws k }) hu hkey ho hd he his hn ?_ ?_)
 ·intro hno;have hnot:k∉xs.map (·.1):=not_mem_keys_of_get hno;refine wpAny_bind (wpAny_rule (wpAny_bind (wpAny_updateDictKeys (hz:=by have e:=size_of_entries he;omega) (s:={ s with toks:=s.toks+knd.draws k }) ho hd (wpAny_pure (h2 (atKey_none_of_get hno) _ ⟨_,_,ep+1,Heap.get?_update_self _ ho (Obj.isFreed_of_dict (Obj.data_mapDictKeys hd _)),
   hc.mapDictKeys _,Obj.data_mapDictKeys hd _,?_,?_,?_⟩ (Heap.SameBut.update ..))))))
  ·rw[storedH_new (atKey_none_of_get hno)];simp[he,entryOfKey]
  ·rw[storedH_new (atKey_none_of_get hno)];intro x hx;rcases List.mem_append.mp hx with hx|hx
   ·exact knd.keeps (his x hx) ho hd (Heap.SameBut.update ..)
   ·simp only[mem_singleton] at hx;subst hx;exact knd.keeps hkey ho hd (Heap.SameBut.update ..)
  ·rw[storedH_new (atKey_none_of_get hno)];rw[map_append,List.nodup_append];refine⟨hn,by simp,?_⟩;intro x hx y hy;simp only[map_cons,List.map_nil,mem_singleton] at hy;subst hy;exact λe=>hnot (e ▸ hx)
 ·intro j p hj;refine wpAny_bind (wpAny_dictEntries (s:={ s with toks:=s.toks+knd.draws k }) ho hd ?_);rw[entry_at he j,hj];exact wpAny_bind (wpAny_rule (wpAny_pure (h1 p (atKey_of_get hn hj))))
end
section
variable {prog:Program}{w:World}{K:Type}[DecidableEq K](knd:HeapKind prog w K)(d a:Addr)
theorem jJ (hd:(d==sysModules)=false)(dflt:Value) :
  MeetsIn prog w (Builtin.«dict.setdefault» ⟨[.ref d,.ref a,dflt],[]⟩) (λA R s=>knd.room A.in1/\∃k xs,knd.is s.heap k a/\s.heap.DictOfH knd d xs/\xs.length<=sizeLine /\
   (∀p,atKey xs k=some p->R (.ok (.ret p.2)) { s with toks:=s.toks+knd.draws k }) /\
   (atKey xs k=none->∀h',h'.DictOfH knd d (storedH xs k a dflt)->Heap.SameBut d s.heap h'->R (.ok (.ret dflt)) { s with heap:=h',toks:=s.toks+knd.draws k })) :=
 .of_wp λA R s ⟨hu,k,xs,hkey,hm,hz,h1,h2⟩=>by unfold Builtin.«dict.setdefault»;refine wpAny_bind ?_;unfold Builtin.Dict.keyAndDefault;refine wpAny_bind (wpAny_notOrdered_dict hm.typeIs ?_);show wpAny _ _ (pure (d,Value.ref a,some dflt)) _ _ s;refine wpAny_pure ?_;show wpAny _ _ (if (d==sysModules)=true then _ else (dictSetDefault d (.ref a) dflt >>= _)) _ _ s;rw[if_neg (by rw[hd];exact Bool.false_ne_true)];exact wpAny_bind (gP hu hkey hm (λp hp=>wpAny_pure ⟨_,rfl,h1 p hp⟩) (λhn h' hm' hs'=>wpAny_pure ⟨dflt,rfl,h2 hn h' hm' hs'⟩) hz)
end
end PySem
namespace Dd
open PySem PySem.Spec PyProof.Rows L2
def aGS (w:World)(a:Addr)(Q:DQ):List D->DM->Prop:=λds M=>match ds with
 |[k,dv]=>∃kvs,M (.d a)=some (dS w kvs)/\TK kvs/\kvs.length<1000/\xX k/\((∃d,rQ kvs k=some d/\Q d M)∨(k∉kvs.map (·.1)/\Q dv (oC M a (dS w (uO kvs k dv)))))
 |_=>False
def zE (w:World)(to te ti:DE):DE:=λρ M Q=>to ρ M λx M1=>match x with
 |.ref a=>(∃kvs,M1 (.d a)=some (dS w kvs)/\TK kvs)/\eR te (eR ti lH) ρ M1 (aGS w a Q)
 |_=>False
section
variable {X:Cx}{o e e2:Expr}{to te ti:DE}{apos cpos:Pos}{kr:Nat}
theorem aDl (hr:cO kr X.A)(ho:PDE X o to)(he:PDE X e te)(hi:PDE X e2 ti)(hbase:attributeBase o "setdefault" X.env (eval o X.env)=eval o X.env:=by rfl)(hfew:((backTo cpos (starEach [e,e2] X.env)).all (λx=>!x.1)&&(backToKw cpos (keywordEach [] X.env)).all (λx=>x.1.isSome)
  &&decide ([e,e2].length+([]:List Keyword).length+(if ([]:List Keyword).isEmpty then 0 else 1)<30))=true:=by rfl)(hline:(apos.endLine==cpos.line)=true:=by rfl)(hs:starEach [e,e2] X.env=(false,eval e X.env)::starEach [e2] X.env:=by rfl)(hs2:starEach [e2] X.env=(false,eval e2 X.env)::starEach [] X.env:=by rfl)(hplain:(backTo cpos (starEach [e2] X.env)).any (·.1)=false:=by rfl) :
  PDE X (.Call (.Attribute o "setdefault" apos) [e,e2] [] cpos) (zE X.w to te ti):=by
 intro pins s σ H Q I ⟨ρ,M,Q',re,hm',q,kq⟩;refine wpAny_Call_method_late hbase hfew hline rfl (thn (ho pins s σ H (LQ X.K H _) I ⟨ρ,M,_,re,hm',q,λ_ _ z=>z⟩) λu0 s0 ⟨y0,H0,I0,ry0,d0,M0,r0,hm0,e0,q0⟩=>?_)
 match d0,q0 with
 |.ref a,q0 =>
  obtain⟨⟨kvs0,ha0,tk0⟩,q0⟩:=q0;rw[aM r0] at ry0;cases ry0;obtain⟨xs0,hH0,hx0,hd0,hsy0,lx0⟩:=pV I0 hm0 ha0 tk0;have nod:∀b,Value.ref a=.ref b->∃o,s0.heap.get? b=some o/\o.dict=none:=λb z=>by cases z;obtain⟨o,_,_,ho,hc,_⟩:=hd0;exact⟨o,ho,hc.2.1⟩
  refine⟨"dict","dict.setdefault",PySem.F.plainAttrs_dict,PySem.F.slot_dict_setdefault,PySem.F.type_dict_setdefault,hd0.typeIs,nod,?_⟩;have hA:=(lB he (lB hi uK hs2) hs:PDA X [e,e2] (eR te (eR ti lH))) cpos pins s0 σ H0 (LA X.K H0 (aGS X.w a Q')) I0 ⟨ρ,M0,_,re.ext e0,hm0,q0,λvs H' z=>z⟩;rw[hs] at hA ⊢;refine Calls.callWith_builtin (by show(false||(backTo cpos (starEach [e2] X.env)).any (·.1))=false;rw[hplain]<;>rfl) (Calls.evalArgs_plain (thn hA λus s1 ⟨vs,H1,I1,rv,ds,M1,rs,hm1,ex,q1⟩=>?_))
  match ds,q1 with
  |[k,dv],q1 =>
   obtain⟨kvs,ha,tk,hl,hk,q1⟩:=q1;obtain⟨v1,r2,rfl,hv1,r3⟩:=aN rs;obtain⟨v2,r4,rfl,hv2,r5⟩:=aN r3;obtain rfl:=bE r5;obtain⟨u1,u2,rfl,ru1,ru2⟩:=rv.two;obtain⟨b,rfl⟩:=pR hk hv1;cases ru1;obtain⟨xs,hH,hx,hd,hsy,lx⟩:=pV I1 hm1 ha tk;have lx':=Paired.len hx;have hz':xs.length<sizeLine:=by rw[<- lx'];exact dE (Nat.le_of_lt hl)
   refine call_meetsIn PySem.F.slot_dict_setdefault hd.typeIs PySem.F.entry_dict_setdefault (PySem.F.args_dict_setdefault_3 _ _ _) (jJ (kW X.prog X.w) a b hsy u2) ⟨by have:=aBy hr;show X.A.units+1+6<cLine;omega,k,xs,⟨hk.2,lQ I1 hk.2 hv1 rfl⟩,hd,lx,λp hp=>?_,λhn h' hd' hsb=>?_⟩
   ·rcases q1 with⟨d,hg,q1⟩|⟨nk,_⟩
    ·obtain⟨p',vv,e1,qv,rv'⟩:=tQ hx hg;rw[hp] at e1;cases e1;exact⟨vv,H1,I1.tok _,qv,kq _ _ ⟨d,M1,rv',hm1,e0.trans ex,q1⟩⟩
    ·have:=aAe (k:=k) hx;rw[hp,decide_eq_false nk] at this;cases this
   ·rcases q1 with⟨d,hg,_⟩|⟨nk,q1⟩
    ·obtain⟨p',vv,e1,_⟩:=tQ hx hg;rw[hn] at e1;cases e1
    ·obtain⟨I',en⟩:=sJ (tk:=s1.toks+(kW X.prog X.w).draws k) I1 hH hx hsy hz' hv1 ru2 hv2 hd' hsb;have exP:=Ext.putX hH (.ext (cC a ((storedH xs k b u2).map (entryOfKey (kW X.prog X.w)))));exact⟨v2,_,I',ru2,kq _ _ ⟨dv,_,hv2.ext exP,hm1.kput hH en,(e0.trans ex).trans exP,q1⟩⟩
theorem aBG (I:Inv X pins σ H s){a:Addr}{M:DM}{kvs:List (D×D)}(hm:bF X.K M H)(ha:M (.x a)=some (.bl true::dS X.w kvs))(tk:TK kvs) :
  ∃xs,Paired (KX X.K H) kvs xs/\s.heap.DictOfH (kW X.prog X.w) a xs:=by
 obtain⟨o,es,ep,ho,hH,hr⟩:aFN X.K H a (dS X.w kvs):=hm.x a _ ha;obtain⟨xs,h1,rfl,h3⟩:=yF I tk.key hr;obtain⟨_,⟨hs,hz,ep,e⟩,_⟩:=I.hok a _ hH;refine⟨xs,h1,⟨_,_,ep,e,⟨rfl,rfl,rfl⟩,rfl,by rw[List.toList_toArray],h3,?_⟩⟩;rw[<- vG h1];exact tk.nd
def aFk (w:World)(te ti:DE):DE:=λρ M Q=>te ρ M λx M1=>ti ρ M1 λi M2=>match x with
 |.ref a=>∃kvs d,M2 (.x a)=some (.bl true::dS w kvs)/\TK kvs/\xX i/\rQ kvs i=some d/\Q d M2
 |_=>False
theorem aFi {e i:Expr}{te ti:DE}(hr:cO kr X.A)(he:PDE X e te)(hi:PDE X i ti)(hs:mS i:=by intro _ _;rfl):PDE X (.Subscript e i pos) (aFk X.w te ti):=by
 intro pins s σ H Q I ⟨ρ,M,Q',re,hm',q,kq⟩;refine Subscript_ (thn (he pins s σ H (LQ X.K H _) I ⟨ρ,M,_,re,hm',q,λ_ _ z=>z⟩) λu0 s0 ⟨y0,H0,I0,ry0,d0,M0,r0,hm0,e0,q0⟩=>?_);refine thn (hi pins s0 σ H0 (LQ X.K H0 _) I0 ⟨ρ,M0,_,re.ext e0,hm0,q0,λ_ _ z=>z⟩) λu s1 ⟨y,H1,I1,ry,d1,M1,r1,hm1,e1,q1⟩=>?_
 match d0,q1 with
 |.ref a,q1 =>
  obtain⟨kvs,d,ha,tk,hk,hf,q1⟩:=q1;rw[aM r0] at ry0;cases ry0;obtain⟨b,rfl⟩:=pR hk r1;cases ry;obtain⟨xs,hx,hd⟩:=aBG I1 hm1 ha tk;obtain⟨v,vv,hv,qv,rv⟩:=tQ hx hf;refine subscriptTail_builtinR (x:=v.2) (T:="dict") hd.typeIs PySem.F.slot_dict_getitem.lookup (wpAny_getItem_heap (knd:=kW X.prog X.w) (by have:=aBy hr;show X.A.units+1+6<cLine;omega) ⟨hk.2,lQ I1 hk.2 r1 rfl⟩ hd hv ⟨rfl,?_⟩) (hs _ _);exact⟨vv,H1,I1.tok _,qv,kq _ _ ⟨d,M1,rv,hm1,e0.trans e1,q1⟩⟩
end
theorem aF9 {K:Frag}{M:DM}{H:Hp}{a:Addr}{es:List D}(hm:bF K M H)(h:M (.d a)=some es):M (.x a)=none:=by
 cases e:M (.x a) with
 |none=>rfl
 |some ds =>
  obtain⟨ens,hH,_⟩:=hm.d a _ h;have x:=hm.x a _ e;unfold mZ at x;split at x
  ·obtain⟨ps,z,_⟩:=x;rw[hH] at z;cases z
  ·obtain⟨q,a1,a2,b1,b2,b3,b4,b5,b6,b7,b8,c,c',pm,ct,oc,oc',u,u',vs,t,z,_⟩:=x;rw[hH] at z;cases z
  ·obtain⟨o,ens,ep,_,z,_⟩:=x;rw[hH] at z;cases z
  ·exact x.elim
def uQ (w:World)(i:Nat)(g:DG)(tb:DS):DS:=λE ρ M=>match ρ[i]? with
 |some (some (.ref a))=>∃kvs,M (.d a)=some (dS w kvs)/\TK kvs/\(M (.x a)=none->dIt none (kvs.map (·.1)) g tb (aGg w E a kvs) ρ (pP w M a kvs))
 |_=>False
section
variable {X:Cx}{tg:Expr}{body:List Stmt}{g:DG}{tb:DS}{pos:Pos}
theorem aCk (i:Nat){x:Str}{p:Pos}(hp:PassesOwn (model X.prog X.w) X.A X.env X.xe)(hc:X.calm=true)(hg:PDG X tg g)(hb:jQ X body tb)(hN:X.N[i]?=some x:=by rfl)(hv:Vis X.env.scope x:=by first|exact Or.inl rfl|exact Or.inr (Or.inl rfl)|exact Or.inr (Or.inr rfl))(hd:(x==("__debug__":Str))=false:=by decide)(hcd:(x==("__classdict__":Str))=false:=by decide)(hs:∀y,foldedSetIterable (.Name x p) X.env y=pure y:=by intro _;rfl):PDS X (.For tg (.Name x p) body [] pos) (uQ X.w i g tb) :=
 eU (aEI i hp hc hg hb hN hv hd hcd hs) λE σ H ⟨ρ,M,Dn,re,hm,q,k⟩=>⟨ρ,M,Dn,re,hm,by
  unfold uQ at q;unfold aDg;split at q
  case h_2=>exact q.elim
  rename_i a e1;obtain⟨kvs,ha,tk,q⟩:=q;try rw[e1]
  exact⟨kvs,ha,tk,q (aF9 hm ha)⟩,k⟩
end
def aJv:D2:=λx y M Q=>∃sh,dN 6 x=true/\dN 6 y=true/\hs sh x/\hs sh y/\Q (.bl (ltD x y)) M
section
variable {X:Cx}{kr:Nat}
end
section
variable {K:Frag}{M:DM}{H:Hp}{w:World}{a:Addr}{kvs:List (D×D)}{es:List DictEntry}{o:Obj}{ep:Nat}
end
section
variable {X:Cx}{tg:Expr}{body:List Stmt}{g:DG}{tb:DS}{pos:Pos}
end
section
variable {X:Cx}
end
section
variable {X:Cx}{o e e2:Expr}{to te ti:DE}{apos cpos:Pos}{kr:Nat}
theorem aA5 (hr:cO kr X.A)(ho:ZE X o to)(he:ZE X e te)(hi:ZE X e2 ti)(hbase:attributeBase o "setdefault" X.env (eval o X.env)=eval o X.env:=by rfl)(hfew:((backTo cpos (starEach [e,e2] X.env)).all (λx=>!x.1)&&(backToKw cpos (keywordEach [] X.env)).all (λx=>x.1.isSome)
  &&decide ([e,e2].length+([]:List Keyword).length+(if ([]:List Keyword).isEmpty then 0 else 1)<30)) = true:=by rfl)(hline:(apos.endLine==cpos.line) = true:=by rfl)(hs:starEach [e,e2] X.env = (false,eval e X.env) :: starEach [e2] X.env:=by rfl)(hs2:starEach [e2] X.env = (false,eval e2 X.env) :: starEach [] X.env:=by rfl)(hplain:(backTo cpos (starEach [e2] X.env)).any (·.1) = false:=by rfl):ZE X (.Call (.Attribute o "setdefault" apos) [e,e2] [] cpos) (zE X.w to te ti):=.i (aDl hr ho.o he.o hi.o hbase hfew hline hs hs2 hplain)
theorem zS {e i:Expr}{te ti:DE}(hr:cO kr X.A)(he:ZE X e te)(hi:ZE X i ti)(hs:mS i:=by intro _ _;rfl):ZE X (.Subscript e i pos) (aFk X.w te ti):=.i (aFi hr he.o hi.o hs)
end
section
variable {X:Cx}{tg:Expr}{body:List Stmt}{g:DG}{tb:DS}{pos:Pos}
theorem aAU (i:Nat){x:Str}{p:Pos}(hp:PassesOwn (model X.prog X.w) X.A X.env X.xe)(hc:X.calm=true)(hg:ZG X tg g)(hb:ZSs X body tb)(hN:X.N[i]?=some x:=by rfl)(hv:Vis X.env.scope x:=by first|exact Or.inl rfl|exact Or.inr (Or.inl rfl)|exact Or.inr (Or.inr rfl))(hd:(x==("__debug__":Str))=false:=by decide)(hcd:(x==("__classdict__":Str))=false:=by decide)(hs:∀y,foldedSetIterable (.Name x p) X.env y=pure y:=by intro _;rfl):ZS X (.For tg (.Name x p) body [] pos) (uQ X.w i g tb):=.i (aCk i hp hc hg.o hb.o hN hv hd hcd hs)
end
section
variable {X:Cx}{kr:Nat}
end
end Dd
namespace Lw
open PySem PySem.Spec PyProof.Rows L2 Dd Mz
local macro_rules | `(tactic|ac_rfl) => `(tactic|exact ⟨rfl,rfl,rfl,by decide +kernel,rfl,by decide +kernel,by decide +kernel⟩)
local macro_rules|`(tactic|ac_nf)=>do
 let l←("uQ aJv aFk zE aGS aI9 yC mP zM vI aCS aIQ aJ0 aH4 aHN aIN aH2 aJS aEj aFH aIn aIq aHU aJK aHO aKd aFR aIe aI2 aGh aC3 aAa yL aIX aId aJC aIx aE2 aIa aBz aGv aET aJn aDe aF0 aJJ aJU aJh aJG aEY aJ7 aJ8 aJA aJt aJs aHQ aI7 aEF aEq aJc aFP aIz aJR aIO aID aJ3 aCR aCF aFC aCy aFB aJf aHY aIt gF aGM List.map List.length_cons List.length_nil Nat.reduceAdd Nat.reduceSub List.reduceReplicate List.cons_append List.nil_append List.set_cons_zero List.set_cons_succ List.getElem?_cons_zero List.getElem?_cons_succ gCn gN gNl aFq aGY aIh aIY aD7 aD9 aBp aHa aEM aEJ aDO aEu aDU aDD aD1 ixT ixF aJ5 aI3 aI5 aJl aJe aGl mR eR lH dOp yX dC d2I d2J aIT sY aHB dOr aFF aBu aGZ aCY aGj aF3 aFT aBL aFr aCi aHf zF aAQ aHw aC9 aBI aGQ aCg yN aC8 goF aIv vZ Option.join_some aGG aGX dPt aIF dSl zN vN aFl aIB aC6 aIG aER yP zQ aCp aJT aFe aEy aGN aGt aF6 aGW aFt aFd aGH aFM aFz aGE aF7 aHz aHj aGA aHk aGT aFZ aHd aFV aFg aFx aGs aGz aFW aG5 aFU aFX".splitOn " ").toArray.mapM λx=>`(Lean.Parser.Tactic.simpLemma|$(Lean.mkIdent x.toName):term)
 `(tactic|try dsimp only[$l,*])
local macro_rules|`(tactic|simp_arith)=>do
 let l←("aHG yG aGB gY fN id decide_eq_true_eq Bool.not_eq_true' decide_eq_false_iff_not".splitOn " ").toArray.mapM λx=>`(Lean.Parser.Tactic.simpLemma|$(Lean.mkIdent x.toName):term)
 `(tactic|try simp only[$l,*])
noncomputable def top (i:Nat):Stmt:=PySem.Challenge.pw_arcmill_k41_joined_on_a_line.main.body.getD i (.Pass ⟨0,0,0,0⟩)
section
variable {P:Program}{w:World}{K:Frag}{mg:Str->Option Value}{base:Heap}
def aAy (P:Program)(w:World)(K:Frag)(mg:Str->Option Value)(base:Heap)(j:Nat)(g:Addr)(T:D->Prop)(lt:D->D->Bool):Prop:=∃n ps sp,mg n=some (.ref g)/\Has P w K mg base j n ps sp/\∀x y M Q,T x->T y->Q (.bl (lt x y)) M->sp [x,y] M Q
def Spn (T:D->Prop)(d:D):Prop:=∃a r,d=.tup (a::r)/\T a
noncomputable def hd0:D->D
 |.tup (a::_)=>a
 |d=>d
noncomputable def klt (lt:D->D->Bool)(x y:D):Bool:=lt (hd0 x) (hd0 y)
noncomputable def mrg (lt:D->D->Bool):List D->List D->List D
 |xs,[]=>xs
 |xs,y::ys=>xs.takeWhile (λx=>!klt lt y x)++y::mrg lt (xs.dropWhile λx=>!klt lt y x) ys
theorem aAd {lt:D->D->Bool}{xs:List D}:mrg lt xs []=xs:=by cases xs<;>rfl
theorem aC5 {lt:D->D->Bool}{x y:D}{xs ys:List D}(h:klt lt y x=false):mrg lt (x::xs) (y::ys)=x::mrg lt xs (y::ys):=by unfold mrg;rw[List.takeWhile_cons,List.dropWhile_cons,h];rfl
theorem wA {lt:D->D->Bool}{x y:D}{xs ys:List D}(h:klt lt y x=true):mrg lt (x::xs) (y::ys)=y::mrg lt (x::xs) ys:=by
 conv=>lhs;unfold mrg
 rw[List.takeWhile_cons,List.dropWhile_cons,h];rfl
theorem aAf {lt:D->D->Bool}{y:D}{ys:List D}:mrg lt [] (y::ys)=y::mrg lt [] ys:=rfl
theorem uW {α:Type}{xs:List α}{i:Nat}{x:α}(h:xs[i]?=some x):xs.drop i=x::xs.drop (i+1):=by obtain⟨hi,e⟩:=List.getElem?_eq_some_iff.mp h;rw[List.drop_eq_getElem_cons hi,e]
theorem fO {α:Type}{xs:List α}{i:Nat}{x:α}(h:xs[i]?=some x):xs.take (i+1)=xs.take i++[x]:=by rw[List.take_add_one,h];rfl
theorem aCQ (xs:List D)(k:Nat):Dd.cutD xs none (some (k:Int))=xs.take k:=by
 unfold Dd.cutD;rw[HT.sIx_nat,HT.sIx_none,List.drop_zero,Nat.sub_zero];rcases Nat.le_total k xs.length with c|c
 ·rw[Nat.min_eq_left c]
 ·rw[Nat.min_eq_right c,List.take_of_length_le (Nat.le_refl _),List.take_of_length_le c]
theorem qN (xs:List D)(k:Nat):Dd.cutD xs (some (k:Int)) none=xs.drop k:=by
 unfold Dd.cutD;rw[HT.sIx_nat,HT.sIx_none];rcases Nat.le_total k xs.length with c|c
 ·rw[Nat.min_eq_left c,List.take_of_length_le (by rw[length_drop];omega)]
 ·rw[Nat.min_eq_right c,List.drop_of_length_le (Nat.le_refl _),List.drop_of_length_le c,List.take_nil]
theorem lM {Q:DQ}{d:D}{M:DM}(h:Q d M):Dn Q d M:=⟨M,.refl M,h⟩
theorem at0 {a:D}{r:List D}:atI (a::r) 0=some a:=mT (j:=0) rfl
def tL (P:Program)(w:World)(K:Frag)(mg:Str->Option Value)(base:Heap):DSp:=λds M Q=>∃l1 l2 f g xs ys T lt,ds=[.ref l1,.ref l2,.ref f]/\M (.l l1)=some xs/\M (.l l2)=some ys/\(∀x∈xs++ys,Spn T x)/\xs.length+ys.length<=500/\M (.x f)=some [.ref g]/\aAy P w K mg base 106 g T lt /\
 ∀p M',bG M M'->M (.l p)=none->M' (.l p)=some (mrg lt xs ys)->Q (.ref p) M'
noncomputable abbrev qR:Stmt:=top 35
theorem iS:aR ["ones","others","earlier","whole","at","other"] ["ones","others","earlier"] (aK qR):=by ac_rfl
theorem yZ (hF:cQ K mg "merged" qR ["ones","others","earlier"])(iN:mg "len" = none):Has P w K mg base 108 "merged" ["ones","others","earlier"] (tL P w K mg base):=by
 refine Has.mkZ hF iS (λds M Q ⟨_,_,_,_,_,_,_,_,z,_⟩=>by rw[z];rfl) λf cdv A outer s H ds M Q E hr h=>?_;obtain⟨l1,l2,f,g,xs,ys,T,lt,rfl,h1,h2,hT,hl,hf,⟨n,ps,sp,hn,hh,hsp⟩,q⟩:=h;refine⟨_,(aE (aS (i:=3) iS.nd (cX aD))
  (aE (aS (i:=4) iS.nd aC)
  (aE (gE PassesOwn.never rfl (aA 1) (aZ (i:=5) iS.nd) (aE (nX PassesOwn.never (lN (jC (aX nO (aA 4) (cL rN iN (aB (aA 0) aD))) (iP (tO (kY (aBe (j:=106) (aA 2) hr (by decide) (aB (aA 5) (aB (aG (aA 0) (aA 4)) aD)))))))) (aE (eT (dL (aA 3) (aG (aA 0) (aA 4))))
  (aH (aDi (i:=4) aHF iS.nd aC))))
  (aH (eT (dL (aA 3) (aA 5))))))
  (aH (aP (aL eD (aA 3) (lE (aA 0) (kS (aA 4)) rD))))))),?_⟩
 ac_nf;refine⟨by decide,λp hp=>?_⟩;have n1:l1≠p:=bP h1 hp;have n2:l2≠p:=bP h2 hp;have g1:∀W,aU M p W (.l l1)=some xs:=λW=>by rw[cT n1];exact h1
 have g2:∀W,aU M p W (.l l2)=some ys:=λW=>by rw[cT n2];exact h2
 have gf:∀W,aU M p W (.x f)=some [.ref g]:=λW=>by rw[kQ];exact hf
 refine⟨ys,g2 _,λi ρ M'=>∃(k:Nat)(W:List D) (o:Option D),M'=aU M p W/\k<=xs.length/\W.length=k+i/\mrg lt xs ys=W++mrg lt (xs.drop k) (ys.drop i)/\ρ=[some (.ref l1),some (.ref l2),some (.ref f),some (.ref p),some (.int k),o],⟨0,[],none,rfl,Nat.zero_le _,rfl,rfl,rfl⟩,?_,?_,?_⟩
 ·rintro i ρ M' _ ⟨k,W,o,rfl,_⟩ a' e;cases e;exact g2 W
 ·rintro i y ρ M' hd ⟨k,W,o,rfl,hk,hW,em,rfl⟩;have hi:=(List.getElem?_eq_some_iff.mp hd).1;rw[uW hd] at em;obtain⟨ya,yr,ey,Ty⟩:=hT y (mem_append_right _ (mem_of_getElem? hd));subst ey;ac_nf;refine⟨λm ρ M'=>∃(k:Nat)(W:List D),m=xs.length-k/\M'=aU M p W/\k<=xs.length/\W.length=k+i/\mrg lt xs ys=W++mrg lt (xs.drop k) (.tup (ya::yr)::ys.drop (i+1))/\ρ=[some (.ref l1),some (.ref l2),some (.ref f),some (.ref p),some (.int k),some (.tup (ya::yr))],⟨_,k,W,rfl,rfl,hk,hW,em,rfl⟩,?_⟩;rintro m ρ M' ⟨k,W,rfl,rfl,hk,hW,em,rfl⟩;ac_nf;have brk:(∃d,xs[k]?=some d/\klt lt (.tup (ya::yr)) d=true)∨xs.length<=k->mrg lt xs ys=(W++[.tup (ya::yr)])++mrg lt (xs.drop k) (ys.drop (i+1)):=λh=>by
   rw[em,append_assoc];congr 1;rcases h with⟨d,e,z⟩|z
   ·rw[uW e,wA z];rfl
   ·rw[List.drop_of_length_le z,aAf];rfl
  refine⟨xs,g1 W,?_⟩;by_cases hkx:k<xs.length
  ·refine ifT (decide_eq_true (by omega)) ?_;obtain⟨x,hx⟩:∃x,xs[k]?=some x:=⟨_,getElem?_eq_getElem hkx⟩;obtain⟨xa,xr,ex,Tx⟩:=hT x (mem_append_left _ (mem_of_getElem? hx));subst ex;refine⟨g,n,ps,sp,hn,hh,gf W,xs,.tup (xa::xr),g1 W,mT hx,gf W,?_⟩;ac_nf;rw[at0,at0];refine hsp _ _ _ _ Ty Tx ?_;rw[aBO (gf W)];ac_nf;cases z:lt ya xa with
   |false =>
    refine ifT rfl ⟨⟨_,aI⟩,xs,_,g1 W,mT hx,_,_,rfl,aI,by omega,xs.length-(k+1),by omega,k+1,W++[.tup (xa::xr)],rfl,iQ,by omega,by rw[length_append,hW];show _+1=_;omega,?_,rfl⟩;rw[em,append_assoc,uW hx,aC5 (lt:=lt) (x:=.tup (xa::xr)) (y:=.tup (ya::yr)) z];rfl
   |true=>exact ifF (by decide) ⟨⟨_,aI⟩,_,_,rfl,aI,by omega,k,W++[.tup (ya::yr)],_,iQ,by omega,by rw[length_append,hW];show _+1=_;omega,brk (.inl ⟨_,hx,z⟩),rfl⟩
  ·rw[decide_eq_false (by omega)];exact ifF (by decide) ⟨⟨_,aI⟩,_,_,rfl,aI,by omega,k,W++[.tup (ya::yr)],_,iQ,by omega,by rw[length_append,hW];show _+1=_;omega,brk (.inr (by omega)),rfl⟩
 ·rintro ρ M' ⟨k,W,o,rfl,hk,hW,em,rfl⟩;rw[List.drop_length,aAd] at em;ac_nf;refine⟨xs,g1 W,λp1 hp1=>?_⟩;have s1:bG (aU M p W) (aU (aU M p W) p1 (Dd.cutD xs (some (k:Int)) none)):=bG.new hp1 _;refine⟨_,_,s1 _ _ aI,aI,by rw[qN,length_drop];omega,λp2 hp2=>?_⟩;have s2:=s1.trans (bG.new hp2 (W++Dd.cutD xs (some (k:Int)) none));have sM:bG M (aU M p W):=bG.new hp _;refine lM (q p2 _ (sM.trans s2) ?_ (by rw[aI,qN,em]));cases e:M (.l p2) with
  |none=>rfl
  |some o=>rw[(sM.trans s1) _ _ e] at hp2;cases hp2
structure aEc (T:D->Prop)(lt:D->D->Bool):Prop where
 asym:∀x y,T x->T y->lt x y=true->lt y x=false
 tr:∀x y z,T x->T y->T z->lt y x=false->lt z y=false->lt z x=false
def yW (lt:D->D->Bool)(xs:List D):Prop:=xs.Pairwise λa b=>klt lt b a=false
theorem aI8 {T:D->Prop}{x:D}(h:Spn T x):T (hd0 x):=by obtain⟨a,r,rfl,h⟩:=h;exact h
theorem mN {T:D->Prop}{lt:D->D->Bool}(o:aEc T lt):∀(n:Nat)(xs ys:List D),xs.length+ys.length<=n->(∀x∈xs++ys,Spn T x)->yW lt xs->yW lt ys->yW lt (mrg lt xs ys)/\(mrg lt xs ys).Perm (xs++ys)
 |n,xs,[],_,_,h1,_=>by rw[aAd,append_nil];exact⟨h1,.refl _⟩
 |n,[],y::ys,hn,hT,h1,h2=>by
  have hn':ys.length+1<=n:=by simpa using hn
  match n,hn' with
  |n+1,hn' =>
   obtain⟨a,b⟩:=mN o n [] ys (by simp;omega) (λx hx=>hT x (mem_cons_of_mem _ hx)) h1 (List.pairwise_cons.mp h2).2;rw[aAf];refine⟨List.pairwise_cons.mpr ⟨λz hz=>(List.pairwise_cons.mp h2).1 z (by simpa using b.mem_iff.mp hz),a⟩,?_⟩;exact List.Perm.cons y b
 |n,x::xs,y::ys,hn,hT,h1,h2=>by
  have hn':xs.length+ys.length+2<=n:=by simp at hn;omega
  have Tm:∀z∈(x::xs)++(y::ys),T (hd0 z):=λz hz=>aI8 (hT z hz);have mx:x∈(x::xs)++(y::ys):=mem_append_left _ mem_cons_self;have my:y∈(x::xs)++(y::ys):=mem_append_right _ mem_cons_self;obtain⟨px,p1⟩:=List.pairwise_cons.mp h1;obtain⟨py,p2⟩:=List.pairwise_cons.mp h2
  match n,hn' with
  |n+1,hn' =>
   cases z:klt lt y x with
   |false =>
    rw[aC5 z];obtain⟨a,b⟩:=mN o n xs (y::ys) (by simp;omega) (λw hw=>hT w (mem_cons_of_mem _ hw)) p1 h2;refine⟨List.pairwise_cons.mpr ⟨λw hw=>?_,a⟩,List.Perm.cons x b⟩;have hw:=b.mem_iff.mp hw;have mw:w∈(x::xs)++(y::ys):=mem_cons_of_mem _ hw;rcases List.mem_append.mp hw with hw|hw
    ·exact px w hw
    ·rcases List.mem_cons.mp hw with hw|hw
     ·rw[hw];exact z
     ·exact o.tr _ _ _ (Tm x mx) (Tm y my) (Tm w mw) z (py w hw)
   |true =>
    rw[wA z];obtain⟨a,b⟩:=mN o n (x::xs) ys (by simp;omega) (λw hw=>hT w ((List.mem_append.mp hw).elim (λh=>mem_append_left _ h) λh=>mem_append_right _ (mem_cons_of_mem _ h))) h1 p2;have z':klt lt x y=false:=o.asym _ _ (Tm y my) (Tm x mx) z;refine⟨List.pairwise_cons.mpr ⟨λw hw=>?_,a⟩,(List.Perm.cons y b).trans (List.perm_middle.symm)⟩;have hw:=b.mem_iff.mp hw;rcases List.mem_append.mp hw with hw|hw
    ·rcases List.mem_cons.mp hw with hw|hw
     ·rw[hw];exact z'
     ·exact o.tr _ _ _ (Tm y my) (Tm x mx) (Tm w (mem_append_left _ (mem_cons_of_mem _ hw))) z' (px w hw)
    ·exact py w hw
def aBn (P:Program)(w:World)(K:Frag)(mg:Str->Option Value)(base:Heap)(n:Nat):DSp:=λds M Q=>∃m l f g xs T lt,n=m+1/\ds=[.ref l,.ref f]/\M (.l l)=some xs/\(∀x∈xs,Spn T x)/\xs.length<=2^m/\xs.length<=128/\M (.x f)=some [.ref g]/\aAy P w K mg base 106 g T lt/\aEc T lt /\
 ∀p M' zs,bG M M'->M (.l p)=none->M' (.l p)=some zs->zs.Perm xs->yW lt zs->Q (.ref p) M'
noncomputable abbrev mI:Stmt:=top 34
theorem jR:aR ["things","earlier","half"] ["things","earlier"] (aK mI):=by ac_rfl
theorem uN (hF:cQ K mg "in_order" mI ["things","earlier"])(iN:mg "len" = none)(iB:mg "list" = none)(qX:Has P w K mg base 108 "merged" ["ones","others","earlier"] (tL P w K mg base)):Has P w K mg base 118 "in_order" ["things","earlier"] (aBn P w K mg base 8):=by
 have all:∀d,Has P w K mg base (110+d) "in_order" ["things","earlier"] (aBn P w K mg base d):=λd=>by
  induction d with
  |zero=>exact(Has.never hF jR 109).imp λds M Q ⟨m,_,_,_,_,_,_,z,_⟩=>by omega
  |succ d eZ =>
   refine Has.mkZ (k:=110+d) hF jR (λds M Q ⟨_,_,_,_,_,_,_,_,z,_⟩=>by rw[z];rfl) λf cdv A outer s H ds M Q E hr h=>?_;obtain⟨m,l,f,g,xs,T,lt,hm,rfl,h1,hT,hl,hl',hf,ear,ok,q⟩:=h;obtain rfl:m=d:=by omega
   refine⟨_,(aE (cE (aX nO (cL rN iN (aB (aA 0) aD)) aC) (aH (aP (gH aAk iB (aB (aA 0) aD)))) bQ)
  (aE (aS (i:=2) jR.nd (aL cY (cL rN iN (aB (aA 0) aD)) aC))
  (aH (aP (aF qX hr (by omega) (aB (aF eZ hr (by omega) (aB (lE (aA 0) rD (kS (aA 2))) (aB (aA 1) aD))) (aB (aF eZ hr (by omega) (aB (lE (aA 0) (kS (aA 2)) rD) (aB (aA 1) aD))) (aB (aA 1) aD)))))))),?_⟩
   ac_nf;refine⟨xs,h1,?_⟩;by_cases c:xs.length<2
   ·refine ifT (decide_eq_true (by omega)) ⟨xs,h1,λp hp=>lM (q p _ xs (bG.new hp _) hp aI (.refl _) ?_)⟩
    match xs,c with
    |[],_=>exact .nil
    |[_],_=>exact pairwise_singleton _ _
    |_::_::_,c=>exact absurd c (by simp)
   obtain⟨k,rfl⟩:∃k,m=k+1:=⟨m-1,by
    rcases Nat.eq_zero_or_pos m with z|z
    ·rw[z] at hl;simp at hl;omega
    ·omega⟩
   rw[Nat.pow_succ] at hl;have hd:((xs.length:Int)).fdiv 2=((xs.length/2:Nat):Int):=by rw[Int.fdiv_eq_ediv_of_nonneg _ (by decide)];rfl
   refine ifF (decide_eq_false (by omega)) ⟨xs,h1,⟨by decide,by decide⟩,xs,h1,λp1 hp1=>?_⟩;rw[hd,aCQ];refine⟨k,p1,f,g,xs.take (xs.length/2),T,lt,rfl,rfl,aI,λx hx=>hT x (List.mem_of_mem_take hx),by rw[length_take];omega,by rw[length_take];omega,(bG.new hp1 _) _ _ hf,ear,ok,λa M1 as s1 na e1 pm1 so1=>?_⟩;have s01:bG M M1:=(bG.new hp1 _).trans s1;refine⟨xs,s01 _ _ h1,λp2 hp2=>?_⟩;rw[qN];refine⟨k,p2,f,g,xs.drop (xs.length/2),T,lt,rfl,rfl,aI,λx hx=>hT x (List.mem_of_mem_drop hx),by rw[length_drop];omega,by rw[length_drop];omega,(bG.new hp2 _) _ _ (s01 _ _ hf),ear,ok,λb M2 bs s2 nb e2 pm2 so2=>?_⟩;have s12:bG M1 M2:=(bG.new hp2 _).trans s2;have la:=pm1.length_eq;have lb:=pm2.length_eq;rw[length_take] at la;rw[length_drop] at lb;have hT2:∀x∈as++bs,Spn T x:=λx hx=>(List.mem_append.mp hx).elim (λh=>hT x (List.mem_of_mem_take (pm1.mem_iff.mp h))) λh=>hT x (List.mem_of_mem_drop (pm2.mem_iff.mp h));refine⟨a,b,f,g,as,bs,T,lt,rfl,s12 _ _ e1,e2,hT2,by omega,s12 _ _ (s01 _ _ hf),ear,λp M3 s3 np e3=>?_⟩;obtain⟨so,pm⟩:=mN ok _ as bs (Nat.le_refl _) hT2 so1 so2;have s02:=s01.trans s12;refine lM (q p M3 _ (s02.trans s3) ?_ e3 (pm.trans ((pm1.append pm2).trans (by rw[List.take_append_drop]))) so);cases e:M (.l p) with
   |none=>rfl
   |some o=>rw[s02 _ _ e] at np;cases np
 exact all 8
structure S3 where
 a:D
 b:D
 n:D
noncomputable def s3D (s:S3):D:=.tup [s.a,s.b,s.n]
noncomputable def jst (lt:D->D->Bool)(W:List S3)(s:S3):List S3:=match W.getLast? with
 |none=>W++[s]
 |some l=>if lt l.b s.a=true then W++[s] else if lt l.b s.b=true then W.dropLast++[⟨l.a,s.b,l.n⟩] else W
noncomputable def jsp (lt:D->D->Bool)(zs:List S3):List S3:=zs.foldl (jst lt) []
theorem fP {α β:Type}{f:α->β}:∀{as bs:List β},as.Perm bs->∀xs:List α,as=xs.map f->∃zs,bs=zs.map f/\xs.Perm zs:=by
 intro as bs h
 induction h with
 |nil=>intro xs e;exact⟨[],rfl,by rw[List.map_eq_nil_iff.mp e.symm]⟩
 |cons x _ ih =>
  intro xs e;cases xs with
  |nil=>cases e
  |cons y ys =>
   obtain⟨e1,e2⟩:=List.cons.inj e;obtain⟨zs,h1,h2⟩:=ih ys e2;exact⟨y::zs,by rw[h1,e1];rfl,.cons y h2⟩
 |swap x y l =>
  intro xs e
  match xs,e with
  |[],e=>cases e
  |[_],e=>cases (List.cons.inj e).2
  |a::b::ys,e =>
   obtain⟨e1,e2⟩:=List.cons.inj e;obtain⟨e2,e3⟩:=List.cons.inj e2;exact⟨b::a::ys,by rw[e1,e2,e3];rfl,.swap _ _ _⟩
 |trans _ _ ih1 ih2 =>
  intro xs e;obtain⟨ys,h1,h2⟩:=ih1 xs e;obtain⟨zs,h3,h4⟩:=ih2 ys h1;exact⟨zs,h3,h2.trans h4⟩
def gM (M M':DM)(p:Addr):Prop:=∀b:AK,b ≠ .l p->∀o,M b=some o->M' b=some o
theorem gM.of {M M':DM}(s:bG M M')(p:Addr):gM M M' p:=λb _ o e=>s b o e
theorem gM.trans {M M1 M2:DM}{p:Addr}(h:gM M M1 p)(h':gM M1 M2 p):gM M M2 p:=λb n o e=>h' b n o (h b n o e)
theorem gM.put {M:DM}{p:Addr}{ds:List D}:gM M (aU M p ds) p:=λb n o e=>by rw[iL n];exact e
theorem gM.l {M M':DM}{p a:Addr}(h:gM M M' p)(n:a≠p){o:List D}(e:M (.l a)=some o):M' (.l a)=some o:=h (.l a) (λz=>n (AK.l.inj z)) _ e
theorem aGI {M:DM}{n:Nat}{a b:Addr}{xs ys:List D}(ha:M a=some xs)(hb:M b=some ys)(ne:a≠b)(h:xs.length≠ys.length):Cm M (n+1) (.ref a) (.ref b) false :=
 ⟨xs,ys,ha,hb,ne,λe=>absurd e h,λ_=>rfl⟩
theorem aAx {n:Nat}:ixN (n+1) (-1)=some n:=by unfold ixN;rw[if_neg (by decide),if_pos (by omega)];show some (-1+((n+1:Nat):Int)).toNat=_;rw[show(-1+((n+1:Nat):Int)).toNat=n by omega]
theorem vE (xs:List D)(x:D):atI (xs++[x]) (-1)=some x:=by unfold atI ixN;rw[if_neg (by decide),if_pos (by rw[length_append];show -((_+1:Nat):Int)<=-1;omega),length_append];show(xs++[x])[(-1+((xs.length+1:Nat):Int)).toNat]?=_;rw[show(-1+((xs.length+1:Nat):Int)).toNat=xs.length by omega,List.getElem?_append_right (Nat.le_refl _),Nat.sub_self];rfl
def aE6 (P:Program)(w:World)(K:Frag)(mg:Str->Option Value)(base:Heap)(pt:Addr):DSp:=λds M Q=>∃l g xs T lt,ds = [.ref l,.ref g]/\M (.l l) = some (xs.map s3D)/\(∀x∈xs,T x.a/\T x.b)/\xs.length<=128/\M (.x pt) = some [.str "joined_spans.<locals>.<lambda>"]/\aAy P w K mg base 106 g T lt/\aEc T lt /\
 ∀p M' zs,bG M M'->M (.l p)=none->M' (.l p)=some ((jsp lt zs).map s3D)->zs.Perm xs->yW lt (zs.map s3D)->Q (.ref p) M'
noncomputable abbrev gL:Stmt:=top 42
theorem fV:aR ["spans","earlier","whole","span"] ["spans","earlier"] (aK gL):=by ac_rfl
theorem nY {pt:Addr}(hF:cQ K mg "joined_spans" gL ["spans","earlier"])(tb_joined_spans:aBY K mg base "joined_spans" pt)(eZ:Has P w K mg base 118 "in_order" ["things","earlier"] (aBn P w K mg base 8)):Has P w K mg base 120 "joined_spans" ["spans","earlier"] (aE6 P w K mg base pt):=by
 refine Has.mkL hF tb_joined_spans fV (λds M Q ⟨_,_,_,_,_,z,_⟩=>by rw[z];rfl) λf cdv A outer s H ds M Q E hr ht h=>?_;obtain⟨l,g,xs,T,lt,rfl,h1,hT,hl,hP,ear,ok,q⟩:=h;refine⟨_,(aE (aS (i:=2) fV.nd (cX aD))
  (aE (gE PassesOwn.never rfl (xL (i:=0) (j:=1) (q:="joined_spans.<locals>.<lambda>") eZ hr (by decide) ht (aA 0)) (aZ (i:=3) fV.nd) (aH (cE (lN (qE (aX (tV hr) (aA 2) (cX aD)) (pU (kY (sX (j:=106) (aA 1) hr (by decide) (aB (aG (aG (aA 2) (dG aC)) aC) (aB (aG (aA 3) aC) aD))))))) (aH (eT (dL (aA 2) (aA 3)))) (aH (cE (kY (sX (j:=106) (aA 1) hr (by decide) (aB (aG (aG (aA 2) (dG aC)) aC) (aB (aG (aA 3) aC) aD)))) (aH (fM (bW (aB (aG (aG (aA 2) (dG aC)) aC) (aB (aG (aA 3) aC) (aB (aG (aG (aA 2) (dG aC)) aC) aD)))) (qB (aA 2) (dG aC)))) bQ)))))
  (aH (aP (aA 2))))),?_⟩
 ac_nf;refine⟨by decide,λp hp=>⟨by rw[kQ];exact hP,λfl hfl=>?_⟩⟩;have sp0:bG (aU M p []) (putX (aU M p []) fl [.ref g]):=λb o e=>by rw[eJ (bK e hfl)];exact e
 have nl:l≠p:=bP h1 hp;refine⟨7,l,fl,g,xs.map s3D,T,lt,rfl,rfl,sp0 _ _ (by rw[cT nl];exact h1),λx hx=>?_,by rw[length_map];omega,by rw[length_map];exact hl,lD,ear,ok,λp1 M1 zs' s1 n1 e1 pm so=>?_⟩
 ·obtain⟨s,hs,rfl⟩:=List.mem_map.mp hx;exact⟨_,_,rfl,(hT s hs).1⟩
 obtain⟨zs,rfl,pz⟩:=fP pm.symm xs rfl;have sN:bG (aU M p []) (lZ M1 fl):=λb o e=>by rw[jL (bK e hfl)];exact s1 _ _ (sp0 _ _ e)
 have eN:lZ M1 fl (.l p1)=some (zs.map s3D):=by rw[jL (by intro z;cases z)];exact e1
 have eW:lZ M1 fl (.l p)=some (([]:List S3).map s3D):=sN _ _ aI;have np:p1≠p:=λz=>by rw[z,sp0 _ _ aI] at n1;cases n1
 generalize lZ M1 fl=N at sN eN eW ⊢;have Tz:∀x∈zs,T x.a/\T x.b:=λx hx=>hT x (pz.symm.mem_iff.mp hx);have lz:=pz.length_eq;ac_nf;refine⟨_,eN,λi ρ M'=>gM N M' p/\(∃W,W=(zs.take i).foldl (jst lt) []/\W.length<=i/\(∀x∈W,T x.a/\T x.b)/\M' (.l p)=some (W.map s3D))/\∃o,ρ=[some (.ref l),some (.ref g),some (.ref p),o],⟨.of (.refl _) p,⟨[],rfl,Nat.le_refl _,λx hx=>(by cases hx),eW⟩,none,rfl⟩,?_,?_,?_⟩
 ·rintro i ρ M' _ ⟨A',_⟩ a' e;cases e;exact A'.l np eN
 ·rintro i d1 ρ M' hd ⟨A',⟨W,eW,lW,TW,hW⟩,o,rfl⟩;rw[getElem?_map] at hd;obtain⟨s,hs,rfl⟩:=Option.map_eq_some_iff.mp hd;have Ts:=Tz s (mem_of_getElem? hs);have hi:=(List.getElem?_eq_some_iff.mp hs).1;have stp:(zs.take (i+1)).foldl (jst lt) []=jst lt W s:=by rw[fO hs,List.foldl_append,<- eW];rfl
  dsimp only[s3D];ac_nf;refine⟨by decide,λp0 hp0=>?_⟩;have A0:gM N (aU M' p0 []) p:=A'.trans (.of (bG.new hp0 _) p);have hW0:=(bG.new hp0 []) _ _ hW;have e0:aU M' p0 [] (.l p0)=some []:=aI;have n0:p≠p0:=bP hW hp0;generalize aU M' p0 []=M2 at A0 hW0 e0 ⊢;have add:∀{V:List S3},V=jst lt W s->V=W++[s]->(∃ds,M2 (.l p)=some ds)/\∃ds y,[D.tup [s.a,s.b,s.n]]=[y]/\M2 (.l p)=some ds/\ds.length<1000/\gM N (aU M2 p (ds++[y])) p/\(∃W,W=(zs.take (i+1)).foldl (jst lt) []/\W.length<=i+1/\(∀x∈W,T x.a/\T x.b)/\aU M2 p (ds++[y]) (.l p)=some (W.map s3D))/\∃o,[some (D.ref l),some (D.ref g),some (D.ref p),some (D.tup [s.a,s.b,s.n])]=[some (D.ref l),some (D.ref g),some (D.ref p),o]:=λ{V} e1 e2 =>
   ⟨⟨
    _,hW0⟩,_,_,rfl,hW0,by rw[length_map];omega,A0.trans .put,⟨V,by rw[stp];exact e1,by rw[e2,length_append];show _+1<=_;omega,by
    rw[e2];intro x hx;rcases List.mem_append.mp hx with h|h
    ·exact TW x h
    ·rw[List.mem_singleton.mp h];exact Ts,by rw[aI,e2,map_append];rfl⟩,_,rfl⟩
  rcases List.eq_nil_or_concat W with z|⟨W0,lst,z⟩
  ·subst z;exact⟨.inr ⟨⟨_,rfl⟩,_,rfl⟩,true,iK (n:=19) hW0 e0 n0 (λx hx=>by cases hx),ifT rfl (ifT rfl (add rfl rfl))⟩
  ·rw[List.concat_eq_append] at z;have gl:W.getLast?=some lst:=by rw[z,List.getLast?_concat]
   have Tl:=TW lst (by rw[z];exact mem_append_right _ mem_cons_self);have hat:atI (W.map s3D) (-1)=some (s3D lst):=by rw[z,map_append];exact vE _ _
   have js:jst lt W s=if lt lst.b s.a=true then W++[s] else if lt lst.b s.b=true then W.dropLast++[⟨lst.a,s.b,lst.n⟩] else W:=by unfold jst;rw[gl]
   obtain⟨n,ps,sp,hn,hh,hsp⟩:=id ear;refine⟨.inr ⟨⟨_,rfl⟩,_,rfl⟩,false,aGI (n:=19) hW0 e0 n0 (by rw[length_map,z,length_append];show ¬(_+1=0);omega),ifF (by decide) ⟨n,ps,sp,hn,hh,_,_,hW0,hat,?_⟩⟩;dsimp only[s3D];ac_nf;refine hsp _ _ _ _ Tl.2 Ts.1 ?_;ac_nf;cases y1:lt lst.b s.a with
   |true=>exact ifT rfl (add rfl (by rw[js,if_pos y1]))
   |false =>
    refine ifF (by decide) ⟨n,ps,sp,hn,hh,_,_,hW0,hat,?_⟩;dsimp only[s3D];ac_nf;refine hsp _ _ _ _ Tl.2 Ts.2 ?_;ac_nf;cases y2:lt lst.b s.b with
    |false=>exact ifF (by decide) ⟨A0,⟨W,by rw[stp,js,if_neg (by rw[y1];decide),if_neg (by rw[y2];decide)],by omega,TW,hW0⟩,_,rfl⟩
    |true =>
     refine ifT rfl ⟨_,_,hW0,hat,?_⟩;dsimp only[s3D];ac_nf;refine⟨_,_,hW0,hat,?_⟩;dsimp only[s3D];ac_nf;have lw:W.length=W0.length+1:=by rw[z,length_append];rfl
     refine⟨by decide,_,W0.length,hW0,by rw[length_map,lw];exact aAx,A0.trans .put,⟨W0++[⟨lst.a,s.b,lst.n⟩],?_,by rw[length_append];show _+1<=_;omega,λx hx=>?_,?_⟩,_,rfl⟩
     ·rw[stp,js,if_neg (by rw[y1];decide),if_pos y2,z,List.dropLast_concat]
     ·rcases List.mem_append.mp hx with h|h
      ·exact TW x (by rw[z];exact mem_append_left _ h)
      ·rw[List.mem_singleton.mp h];exact⟨Tl.1,Ts.2⟩
     ·rw[aI,z,map_append,map_append,List.set_append_right _ _ (by rw[length_map];exact Nat.le_refl _),length_map,Nat.sub_self];rfl
 ·rintro ρ M' ⟨A',⟨W,eW,lW,TW,hW⟩,o,rfl⟩;rw[length_map,take_length] at eW;ac_nf;refine lM (q p M' zs (λb o e=>A' b (bK e hp) o (sN b o ?_)) hp (by rw[hW,eW];rfl) pz.symm so);rw[iL (bK e hp)];exact e
noncomputable abbrev eO:Stmt:=top 6
theorem fW:aR ["one","other"] ["one","other"] (aK eO):=by ac_rfl
theorem jV (hF:cQ K mg "greatest_divisor" eO ["one","other"])(rP:mg "abs" = none):Has P w K mg base 101 "greatest_divisor" ["one","other"] cZ:=by
 refine Has.mkZ hF fW (λds M Q ⟨a,b,e,_⟩=>by rw[e];rfl) λf cdv A outer s H ds M Q E hr h=>?_;obtain⟨a,b,rfl,q⟩:=h;refine⟨_,(aE (nX PassesOwn.never (aX (zX hr) (aA 1) aC) (aH (zW (i:=0) (j:=1) rfl fW.nd (aB (aA 1) (aB (aL lR (aA 0) (aA 1)) aD)))))
  (aH (aP (cL yK rP (aB (aA 0) aD))))),?_⟩
 refine sS (λm ρ M'=>M'=M/\∃x y:Int,ρ=[some (.int x),some (.int y)]/\m=y.natAbs/\Int.gcd x y=Int.gcd a b) _ ⟨rfl,a,b,rfl,rfl,rfl⟩ ?_;rintro m ρ M' ⟨rfl,x,y,rfl,rfl,g⟩;refine⟨rfl,rfl,aEX (λc=>?_) (λc=>?_)⟩
 ·have c:y≠0:=by simpa[eqD] using c
  exact⟨c,_,zZ c,rfl,y,x.fmod y,rfl,rfl,(vU x y).trans g⟩
 ·have c:y=0:=by simpa[eqD] using c
  subst c;refine⟨M',.refl _,?_⟩;have e:(if x<0 then -x else x)=(Int.gcd a b:Int):=by rw[<- g,Int.gcd_zero_right];split<;>omega
  rw[e];exact q
noncomputable abbrev xW:Stmt:=top 7
theorem mY:aR ["one","other","shared","part","top","left"] ["one","other"] (aK xW):=by ac_rfl
theorem aC0 (hF:cQ K mg "plus" xW ["one","other"])(aW:Has P w K mg base 101 "greatest_divisor" ["one","other"] cZ):Has P w K mg base 102 "plus" ["one","other"] pS:=by
 refine Has.mkZ hF mY mQ λf cdv A outer s H ds M Q E hr h=>?_;obtain⟨p,r,m,n,rfl,_,h1,h2,l,q⟩:=h;refine⟨_,(aE (aS (i:=2) mY.nd (aF aW hr (by decide) (aB (aG (aA 0) aC) (aB (aG (aA 1) aC) aD))))
  (aE (aS (i:=3) mY.nd (aL cY (aG (aA 0) aC) (aA 2)))
  (aE (aS (i:=4) mY.nd (aL eD (aL bN (aG (aA 0) aC) (aL cY (aG (aA 1) aC) (aA 2))) (aL bN (aG (aA 1) aC) (aA 3))))
  (aE (aS (i:=5) mY.nd (aF aW hr (by decide) (aB (aA 4) (aB (aA 2) aD))))
  (aH (aP (bW (aB (aL cY (aA 4) (aA 5)) (aB (aL bN (aA 3) (aL cY (aG (aA 1) aC) (aA 5))) aD))))))))),?_⟩
 obtain⟨g0,l0,gd,ld,e1,e2⟩:=aJV p r _ _ _ _ rfl rfl rfl rfl;have gr:(Int.gcd p.den r.den:Int)∣(r.den:Int):=Int.gcd_dvd_right _ _;have bg:Bd m (Int.gcd p.den r.den:Int):=h1.2.dvd gd (bT p);refine⟨_,_,rfl,xP h1.2 (by omega) gd (bT p) g0,xP h1.2 (by omega) gd (bT p) g0,cF h1.1 (h2.2.fdiv gr) (by omega),cF h2.1 (h1.2.fdiv gd) (by omega),_,_,rfl,?_⟩;refine⟨xP bg (by omega) ld g0 l0,xP bg (by omega) ld g0 l0,cF (h1.2.fdiv gd) (h2.2.fdiv (Int.dvd_trans ld gr)) (by omega),by show(2:Nat)<=1000;decide,M,.refl _,?_⟩;have q':Q (.tup [.int (p+r).num,.int ((p+r).den:Int)]) M:=q;rw[<- e1,<- e2] at q';exact q'
noncomputable abbrev vR:Stmt:=top 8
theorem aCO:aR ["one","other"] ["one","other"] (aK vR):=by ac_rfl
theorem aBb (hF:cQ K mg "minus" vR ["one","other"])(oG:Has P w K mg base 102 "plus" ["one","other"] pS):Has P w K mg base 103 "minus" ["one","other"] rE:=by refine Has.mkZ hF aCO mQ λf cdv A outer s H ds M Q E hr h=>?_;obtain⟨p,r,m,n,rfl,_,h1,h2,l,q⟩:=h;refine⟨_,(aH (aP (aF oG hr (by decide) (aB (aA 0) (aB (bW (aB (dG (aG (aA 1) aC)) (aB (aG (aA 1) aC) aD))) aD))))),?_⟩;refine⟨by show(2:Nat)<=1000;decide,p,-r,m,n,by rw[aEd],trivial,h1,h2.neg,l,M,.refl _,?_⟩;show Q (FQ (p + -r)) M;rw[<- Rat.sub_eq_add_neg];exact q
noncomputable abbrev uU:Stmt:=top 9
theorem qI:aR ["one","other","falling","rising"] ["one","other"] (aK uU):=by ac_rfl
theorem aAK (hF:cQ K mg "times" uU ["one","other"])(aW:Has P w K mg base 101 "greatest_divisor" ["one","other"] cZ):Has P w K mg base 102 "times" ["one","other"] nK:=by
 refine Has.mkZ hF qI mQ λf cdv A outer s H ds M Q E hr h=>?_;obtain⟨p,r,m,n,rfl,_,h1,h2,l,q⟩:=h;refine⟨_,(aE (aS (i:=2) qI.nd (aF aW hr (by decide) (aB (aG (aA 0) aC) (aB (aG (aA 1) aC) aD))))
  (aE (aS (i:=3) qI.nd (aF aW hr (by decide) (aB (aG (aA 1) aC) (aB (aG (aA 0) aC) aD))))
  (aH (aP (bW (aB (aL bN (aL cY (aG (aA 0) aC) (aA 2)) (aL cY (aG (aA 1) aC) (aA 3))) (aB (aL bN (aL cY (aG (aA 0) aC) (aA 3)) (aL cY (aG (aA 1) aC) (aA 2))) aD))))))),?_⟩
 obtain⟨f0,r0,fd,rd,e1,e2⟩:=aJy p r _ _ rfl rfl;have fl:(Int.gcd p.num r.den:Int)∣p.num:=Int.gcd_dvd_left _ _;have rl:(Int.gcd r.num p.den:Int)∣r.num:=Int.gcd_dvd_left _ _;refine⟨_,_,rfl,_,_,rfl,xP h2.2 (by omega) fd (bT r) f0,xP h1.2 (by omega) rd (bT p) r0,cF (h1.1.fdiv fl) (h2.1.fdiv rl) (by omega),xP h1.2 (by omega) rd (bT p) r0,xP h2.2 (by omega) fd (bT r) f0,cF (h1.2.fdiv rd) (h2.2.fdiv fd) (by omega),by show(2:Nat)<=1000;decide,M,.refl _,?_⟩;have q':Q (.tup [.int (p*r).num,.int ((p*r).den:Int)]) M:=q;rw[<- e1,<- e2] at q';exact q'
noncomputable abbrev vL:Stmt:=top 11
theorem aDb:aR ["one","other"] ["one","other"] (aK vL):=by ac_rfl
theorem aBa (hF:cQ K mg "below" vL ["one","other"]):Has P w K mg base 101 "below" ["one","other"] xJ:=by refine Has.mkZ hF aDb mQ λf cdv A outer s H ds M Q E hr h=>?_;obtain⟨p,r,m,n,rfl,_,h1,h2,l,q⟩:=h;refine⟨_,(aH (aP (fK nO (aL bN (aG (aA 0) aC) (aG (aA 1) aC)) (aL bN (aG (aA 1) aC) (aG (aA 0) aC))))),?_⟩;refine⟨cF h1.1 h2.2 (by omega),cF h2.1 h1.2 (by omega),M,.refl _,?_⟩;have e:decide (p.num*(r.den:Int)<r.num*(p.den:Int))=decide (p<r):=decide_eq_decide.mpr (ltQ p r);show Q (.bl (decide (p.num*(r.den:Int)<r.num*(p.den:Int)))) M;rw[e];exact q
noncomputable abbrev qM:Stmt:=top 23
theorem aBh:aR ["p","q"] ["p","q"] (aK qM):=by ac_rfl
theorem yE (hF:cQ K mg "before" qM ["p","q"])(pZ:Has P w K mg base 101 "below" ["one","other"] xJ):Has P w K mg base 102 "before" ["p","q"] iM:=by
 refine Has.mkZ hF aBh (λds M Q ⟨x,y,u,v,e,_⟩=>by rw[e];rfl) λf cdv A outer s H ds M Q E hr h=>?_;obtain⟨x,y,u,v,rfl,h1,h2,h3,h4,q⟩:=h;refine⟨_,(aE (cE (aX (eI hr) (aG (aA 0) aC) (aG (aA 1) aC)) (aH (aP (aF pZ hr (by decide) (aB (aG (aA 0) aC) (aB (aG (aA 1) aC) aD))))) bQ)
  (aH (aP (aF pZ hr (by decide) (aB (aG (aA 0) aC) (aB (aG (aA 1) aC) aD)))))),?_⟩
 unfold bef at q;refine⟨rfl,rfl,?_⟩;rw[show(id (eqD (FQ x) (FQ u)))=decide (x=u) from rS x u];refine dif (λc=>?_) (λc=>?_)
 ·rw[if_pos c] at q;exact⟨y,v,_,_,rfl,trivial,h2,h4,by decide,M,.refl _,q⟩
 ·rw[if_neg c] at q;exact⟨x,u,_,_,rfl,trivial,h1,h3,by decide,M,.refl _,q⟩
inductive Pc where
 |dot (x y:Rat)|str (x y u v:Rat)|arc (cx cy ax ay bx by':Rat)|ring (cx cy ax ay:Rat)
noncomputable def pcD:Pc->D
 |.dot x y=>.tup [.str "dot",PQ x y]
 |.str x y u v=>.tup [.str "stretch",PQ x y,PQ u v]
 |.arc a b c d e f=>.tup [.str "arc",PQ a b,PQ c d,PQ e f]
 |.ring a b c d=>.tup [.str "ring",PQ a b,PQ c d]
theorem mV {x y u v:Rat}(h:¬(x=u/\y=v)):bef u v x y = !bef x y u v:=by
 unfold bef;by_cases c:x=u
 ·subst c;rw[if_pos rfl,if_pos rfl];have hy:y≠v:=λe=>h ⟨rfl,e⟩;by_cases d:y<v
  ·rw[decide_eq_true d,decide_eq_false (by grind)];rfl
  ·rw[decide_eq_false d,decide_eq_true (by grind)];rfl
 ·rw[if_neg (λe=>c e.symm),if_neg c];by_cases d:x<u
  ·rw[decide_eq_true d,decide_eq_false (by grind)];rfl
  ·rw[decide_eq_false d,decide_eq_true (by grind)];rfl
theorem jT (x y:Rat):bef x y x y=false:=by unfold bef;rw[if_pos rfl,decide_eq_false (by grind)]
noncomputable abbrev mK:Stmt:=top 51
theorem xK:aR ["_law_cell"] ["_law_cell"] (aK mK):=by ac_rfl
theorem vJ (hF:cQ K mg "_law_feed" mK ["_law_cell"])(tG:mg "int" = none):Has P w K mg base 101 "_law_feed" ["_law_cell"] kI:=by refine Has.mkZ hF xK (λds M Q ⟨c,e,_⟩=>by rw[e];rfl) λf cdv A outer s H ds M Q E hr h=>?_;obtain⟨c,rfl,q⟩:=h;refine⟨_,(aH (aP (cX (aB (aA 0) (aB aC (aB (gH aBD tG (aB (fK aIK (aA 0) (aL oI aC aC)) aD)) aD)))))),?_⟩;refine⟨⟨by decide,by decide,by decide⟩,by show(3:Nat)<=1000;decide,λp hp=>⟨_,.refl _,?_⟩⟩;exact q p _ hp ⟨c,0,_,aI,by decide,by decide⟩ Adv.put
noncomputable abbrev mE:Stmt:=top 52
theorem fQ:aR ["_law_from","_law_many","_law_k","_law_found","_law_number"] ["_law_from","_law_many"] (aK mE):=by ac_rfl
theorem uY (hF:cQ K mg "_law_draw" mE ["_law_from","_law_many"]):Has P w K mg base 101 "_law_draw" ["_law_from","_law_many"] gW:=by
 refine Has.mkZ hF fQ (λds M Q ⟨a,m,n,e,_⟩=>by rw[e];rfl) λf cdv A outer s H ds M Q E hr h=>?_;obtain⟨a,many,n,rfl,⟨c,k,fl,ha,k0,k1⟩,hn,hm,hB,q⟩:=h;refine⟨_,(aE (aS (i:=2) fQ.nd (aG (aA 0) aC))
  (aE (fM (aL eD (aA 2) aC) (qB (aA 0) aC))
  (aE (cE (lN (jC (aX (eI hr) (aG (aA 0) aC) aC) (iP (aX aBN (aG (aA 0) aC) aC)))) (aE (aS (i:=3) fQ.nd (aL lR (aG (aA 0) aC) (aA 1)))
  (aE (fM (aL cY (aG (aA 0) aC) (aA 1)) (qB (aA 0) aC))
  (aH (aP (aA 3))))) bQ)
  (aE (aS (i:=4) fQ.nd (aL lR (aL bN (aL eD (aL eD (aL lR (aG (aA 0) aC) (aL oI aC aC)) (aL bN (aL bN aC (aA 2)) (aA 2))) (aA 2)) aC) aC))
  (aE (aS (i:=4) fQ.nd (aL lR (aL eD (aL bN (aA 4) aC) aC) aC))
  (aH (aP (aL lR (aL cY (aA 4) aC) (aA 1))))))))),?_⟩
 have hm0:many≠0:=by omega
 have hk:Bd 63 k:=Bd.of (by omega) (by omega);refine⟨_,_,ha,rfl,_,1,ha,rfl,?_⟩;have h1:aU M a [.int c,.int (k+1),.int fl] a=some [.int c,.int (k+1),.int fl]:=aI;have av:Adv M (aU M a [.int c,.int (k+1),.int fl]) a:=Adv.put;have fd1:FdN (aU M a [.int c,.int (k+1),.int fl]) a (n+1):=⟨c,k+1,fl,h1,by omega,by omega⟩;have slow:∀x:Int,Q (.int ((x.fdiv 16).fmod many)) (aU M a [.int c,.int (k+1),.int fl]):=λx=>q _ _ (Int.fmod_nonneg_of_pos _ hm) (Int.fmod_lt_of_pos _ hm) fd1 av;refine⟨_,_,h1,rfl,rfl,rfl,?_⟩;have bV:∀(u v:Int),∃ds d,aU M a [.int c,.int (k+1),.int fl] a=some ds/\atI ds 0=some d/\True:=λ_ _=>⟨_,_,h1,rfl,trivial⟩;refine aEX (λ_=>?_) (λ_=>?_)
 ·refine⟨_,_,h1,rfl,?_⟩;refine dif (λ_=>?_) (λ_=>?_)
  ·refine⟨_,_,h1,rfl,hm0,_,_,h1,rfl,⟨hm0,Nat.lt_succ_of_lt (hB.log (by decide))⟩,_,0,h1,rfl,_,.refl _,?_⟩;refine q _ _ (Int.fmod_nonneg_of_pos _ hm) (Int.fmod_lt_of_pos _ hm) ⟨_,k+1,fl,aI,by omega,by omega⟩ (Adv.put.trans Adv.put)
  ·refine⟨_,_,h1,rfl,⟨by decide,by decide,by decide⟩,(by dsimp only;decide),zK (by unfold Bd;decide),oA hk,oA (by unfold Bd;decide),(by dsimp only;decide),oA (by unfold Bd;decide),(by dsimp only;decide),⟨by decide,by decide +kernel⟩,hm0,_,.refl _,?_⟩;exact slow _
 ·refine⟨_,_,h1,rfl,⟨by decide,by decide,by decide⟩,(by dsimp only;decide),zK (by unfold Bd;decide),oA hk,oA (by unfold Bd;decide),(by dsimp only;decide),oA (by unfold Bd;decide),(by dsimp only;decide),⟨by decide,by decide +kernel⟩,hm0,_,.refl _,?_⟩;exact slow _
noncomputable abbrev iZ:Stmt:=top 53
theorem eE:aR ["_law_top","_law_bottom","_law_one","_law_other"] ["_law_top","_law_bottom"] (aK iZ):=by ac_rfl
theorem qP (hF:cQ K mg "_law_lowest" iZ ["_law_top","_law_bottom"])(rP:mg "abs" = none):Has P w K mg base 101 "_law_lowest" ["_law_top","_law_bottom"] eH:=by
 refine Has.mkZ hF eE (λds M Q ⟨a,b,e,_⟩=>by rw[e];rfl) λf cdv A outer s H ds M Q E hr h=>?_;obtain⟨t,b,rfl,hb,hB,q⟩:=h;refine⟨_,(aE (aS (i:=2) eE.nd (cL yK rP (aB (aA 0) aD)))
  (aE (aS (i:=3) eE.nd (cL yK rP (aB (aA 1) aD)))
  (aE (nX PassesOwn.never (aX aBN (aA 3) aC) (aH (zW (i:=2) (j:=3) rfl eE.nd (aB (aA 3) (aB (aL lR (aA 2) (aA 3)) aD)))))
  (aE (cE (aX nO (aA 1) aC) (aH (aS (i:=2) eE.nd (aL kN aC (aA 2)))) bQ)
  (aH (aP (bW (aB (aL cY (aA 0) (aA 2)) (aB (aL cY (aA 1) (aA 2)) aD))))))))),?_⟩
 refine sS (λm ρ M'=>M'=M/\∃x y:Int,ρ=[some (.int t),some (.int b),some (.int x),some (.int y)]/\m=y.natAbs/\0<=x/\0<=y/\Int.gcd x y=Int.gcd t b) _ ⟨rfl,_,_,rfl,rfl,by split<;>omega,by split<;>omega,by split<;>split<;>simp[Int.gcd_neg,Int.neg_gcd]⟩ ?_
 rintro m ρ M' ⟨rfl,x,y,rfl,rfl,hx,hy,g⟩;refine dif (λc=>?_) (λc=>?_)
 ·have hy':y≠0:=by omega
  exact⟨hy',_,zZ hy',rfl,y,x.fmod y,rfl,rfl,hy,Int.fmod_nonneg_of_pos _ (by omega),(vU x y).trans g⟩
 ·have hy':y=0:=by omega
  subst hy';have e:x=(Int.gcd t b:Int):=by rw[<- g,Int.gcd_zero_right];omega
  have fin:Q (.tup [.int (fT t b),.int (fB t b)]) M':=by rw[aDE hb];exact q
  unfold fT fB at fin;have s1:=aH1 (t:=t) hb;have s2:=(hB.sg (t:=t) hb).log (by decide);unfold sg at fin s1 s2;refine dif (λc=>?_) (λc=>?_)
  ·rw[if_pos c,<- e,<- Int.zero_sub] at fin s1 s2;exact⟨⟨s1,Nat.lt_succ_of_lt s2⟩,⟨s1,Nat.lt_succ_of_lt s2⟩,by show(2:Nat)<=1000;decide,M',.refl _,fin⟩
  ·rw[if_neg c,<- e] at fin s1 s2;exact⟨⟨s1,Nat.lt_succ_of_lt s2⟩,⟨s1,Nat.lt_succ_of_lt s2⟩,by show(2:Nat)<=1000;decide,M',.refl _,fin⟩
def nJ:DSp:=rF 40000 3 (IsF 24)
theorem aHn {x:Int}(h1:-10000000<=x)(h2:x<=10000000):Bd 24 x:=by unfold Bd;omega
theorem aA0 {z:Int}(h1:-10000000<=z)(h2:z<=10000000):IsF 24 (.tup [.int z,.int 1]):=⟨z,(aGK z).symm,.int (aHn h1 h2) (by decide)⟩
theorem tH {t b:Int}(h0:0<b)(h1:-10000000<=t)(h2:t<=10000000)(h3:b<=10000000):IsF 24 (FQ ((t:Rat)/(b:Rat))):=⟨_,rfl,.make (by omega) (aHn h1 h2) (aHn (by omega) h3)⟩
noncomputable abbrev jZ:Stmt:=top 54
theorem nN:aR ["_law_from","_law_way"] ["_law_from"] (aK jZ):=by ac_rfl
theorem sA (hF:cQ K mg "_law_small" jZ ["_law_from"])(bM:Has P w K mg base 101 "_law_draw" ["_law_from","_law_many"] gW)(bR:Has P w K mg base 101 "_law_lowest" ["_law_top","_law_bottom"] eH):Has P w K mg base 102 "_law_small" ["_law_from"] nJ:=by
 refine Has.mkZ hF nN sH λf cdv A outer s H ds M Q E hr h=>?_;obtain⟨a,n,rfl,fd,hn,q⟩:=h;refine⟨_,(aE (aS (i:=1) nN.nd (aF bM hr (by decide) (aB (aA 0) (aB aC aD))))
  (aE (cE (aX (eI hr) (aA 1) aC) (aH (aP (bW (aB (aL kN (aF bM hr (by decide) (aB (aA 0) (aB aC aD))) aC) (aB aC aD))))) bQ)
  (aE (cE (aX (eI hr) (aA 1) aC) (aH (aP (aF bR hr (by decide) (aB (aL kN (aF bM hr (by decide) (aB (aA 0) (aB aC aD))) aC) (aB (aL eD aC (aF bM hr (by decide) (aB (aA 0) (aB aC aD)))) aD))))) bQ)
  (aH (aP (aF bR hr (by decide) (aB (aL kN (aF bM hr (by decide) (aB (aA 0) (aB (aL bN aC (aL oI aC aC)) aD))) (aL oI aC aC)) (aB (aL eD aC (aF bM hr (by decide) (aB (aA 0) (aB (aL oI aC aC) aD)))) aD)))))))),?_⟩
 refine⟨a,3,n,rfl,fd,by omega,by decide,bdk (by decide),λway M1 w0 w1 fd1 av1=>?_⟩;ac_nf;rw[gY];refine dif (λ_=>?_) (λ_=>?_)
 ·refine⟨a,9,_,rfl,fd1,by omega,by decide,bdk (by decide),λr M2 r0 r1 fd2 av2=>?_⟩;exact⟨by show(2:Nat)<=1000;decide,M2,.refl _,q _ M2 (aA0 (by omega) (by omega)) (fd2.mono (by omega)) (av1.trans av2)⟩
 rw[gY];refine dif (λ_=>?_) (λ_=>?_)
 ·refine⟨a,41,_,rfl,fd1,by omega,by decide,bdk (by decide),λr M2 r0 r1 fd2 av2=>?_⟩;refine⟨a,12,_,rfl,fd2,by omega,by decide,bdk (by decide),λr' M3 s0 s1 fd3 av3=>?_⟩;exact⟨_,_,rfl,by omega,(aE5 (by omega) (by omega)).mono (by decide),M3,.refl _,q _ M3 (tH (by omega) (by omega) (by omega) (by omega)) (fd3.mono (by omega)) ((av1.trans av2).trans av3)⟩
 refine⟨⟨by decide,by decide,by decide⟩,zK (by unfold Bd;decide),a,_,_,rfl,fd1,by omega,by decide,bdk (by decide),λr M2 r0 r1 fd2 av2=>?_⟩;have r1:r<2000000:=r1;refine⟨⟨by decide,by decide,by decide⟩,⟨by decide,by decide,by decide⟩,a,_,_,rfl,fd2,by omega,by decide,bdk (by decide),λr' M3 s0 s1 fd3 av3=>?_⟩;have s1:r'<10000:=s1;have e:((10:Int)^Int.toNat 6)=1000000:=by decide
 exact⟨_,_,rfl,by omega,(aE5 (by omega) (by omega)).mono (by decide),M3,.refl _,q _ M3 (tH (by omega) (by rw[e];omega) (by rw[e];omega) (by omega)) (fd3.mono (by omega)) ((av1.trans av2).trans av3)⟩
def oW:DSp:=rF 30000 6 (IsP 24)
noncomputable abbrev lV:Stmt:=top 55
theorem oU:aR ["_law_from","_law_x"] ["_law_from"] (aK lV):=by ac_rfl
theorem uV (hF:cQ K mg "_law_spot" lV ["_law_from"])(gS:Has P w K mg base 102 "_law_small" ["_law_from"] nJ):Has P w K mg base 103 "_law_spot" ["_law_from"] oW:=by
 refine Has.mkZ hF oU sH λf cdv A outer s H ds M Q E hr h=>?_;obtain⟨a,n,rfl,fd,hn,q⟩:=h;refine⟨_,(aE (aS (i:=1) oU.nd (aF gS hr (by decide) (aB (aA 0) aD)))
  (aH (aP (bW (aB (aA 1) (aB (aF gS hr (by decide) (aB (aA 0) aD)) aD)))))),?_⟩
 refine⟨a,_,rfl,fd,by omega,λd M2 ⟨x,ex,hx⟩ fd2 av2=>⟨a,_,rfl,fd2,by omega,λd' M3 ⟨y,ey,hy⟩ fd3 av3=>?_⟩⟩;subst ex ey;exact⟨by show(2:Nat)<=1000;decide,M3,.refl _,q _ M3 ⟨x,y,rfl,hx,hy⟩ (fd3.mono (by omega)) (av2.trans av3)⟩
noncomputable def zs (z:Int)(p r:Rat):Rat:=if z=1 then p+r else p-r
theorem uD (p r:Rat):zs 1 p r=p+r:=rfl
theorem yI (p r:Rat):zs (-1) p r=p-r:=rfl
def gI:DSp:=λds M Q=>∃p r z m n,ds=[FQ p,FQ r,.int z]/\(z=1∨z = -1)/\BQ m p/\BQ n r/\m+n<=8998/\Q (FQ (zs z p r)) M
noncomputable abbrev nW:Stmt:=top 56
theorem yU:aR ["_law_one","_law_other","_law_by"] ["_law_one","_law_other","_law_by"] (aK nW):=by ac_rfl
theorem wB (hF:cQ K mg "_law_sum" nW ["_law_one","_law_other","_law_by"])(bR:Has P w K mg base 101 "_law_lowest" ["_law_top","_law_bottom"] eH):Has P w K mg base 102 "_law_sum" ["_law_one","_law_other","_law_by"] gI:=by
 refine Has.mkZ hF yU (λds M Q ⟨x,y,z,m,n,e,_⟩=>by rw[e];rfl) λf cdv A outer s H ds M Q E hr h=>?_;obtain⟨p,r,z,m,n,rfl,hz,h1,h2,l,q⟩:=h;refine⟨_,(aH (aP (aF bR hr (by decide) (aB (aL eD (aL bN (aG (aA 0) aC) (aG (aA 1) aC)) (aL bN (aL bN (aA 2) (aG (aA 1) aC)) (aG (aA 0) aC))) (aB (aL bN (aG (aA 0) aC) (aG (aA 1) aC)) aD))))),?_⟩;have hz':Bd 1 z:=by unfold Bd;rcases hz with rfl|rfl<;>decide
 refine⟨cF h1.1 h2.2 (by omega),cF hz' h2.1 (by omega),cF (hz'.mul h2.1) h1.2 (by omega),cF h1.2 h2.2 (by omega),_,_,rfl,Int.mul_ne_zero (bT p) (bT r),(h1.2.mul h2.2).mono (by omega),M,.refl _,?_⟩;have e:(((p.num*r.den+z*r.num*p.den:Int)):Rat)/((p.den*r.den:Int):Rat)=zs z p r:=by
  rcases hz with rfl|rfl
  ·rw[uD,<- aJk,Int.one_mul]
  ·rw[yI,<- aIE,show p.num*(r.den:Int) + -1*r.num*p.den=p.num*r.den-r.num*p.den by grind]
 rw[e];exact q
def kL:DSp:=λds M Q=>∃x y u v z m n,ds=[PQ x y,PQ u v,.int z]/\(z=1∨z = -1)/\BQ m x/\BQ m y/\BQ n u/\BQ n v/\m+n<=8998/\Q (PQ (zs z x u) (zs z y v)) M
noncomputable abbrev mJ:Stmt:=top 58
theorem wM:aR ["_law_p","_law_q","_law_by"] ["_law_p","_law_q","_law_by"] (aK mJ):=by ac_rfl
theorem uL (hF:cQ K mg "_law_both" mJ ["_law_p","_law_q","_law_by"])(dF:Has P w K mg base 102 "_law_sum" ["_law_one","_law_other","_law_by"] gI):Has P w K mg base 103 "_law_both" ["_law_p","_law_q","_law_by"] kL:=by refine Has.mkZ hF wM (λds M Q ⟨x,y,u,v,z,m,n,e,_⟩=>by rw[e];rfl) λf cdv A outer s H ds M Q E hr h=>?_;obtain⟨x,y,u,v,z,m,n,rfl,hz,h1,h2,h3,h4,l,q⟩:=h;refine⟨_,(aH (aP (bW (aB (aF dF hr (by decide) (aB (aG (aA 0) aC) (aB (aG (aA 1) aC) (aB (aA 2) aD)))) (aB (aF dF hr (by decide) (aB (aG (aA 0) aC) (aB (aG (aA 1) aC) (aB (aA 2) aD)))) aD))))),?_⟩;exact⟨x,u,z,_,_,rfl,hz,h1,h3,l,y,v,z,_,_,rfl,hz,h2,h4,l,by show(2:Nat)<=1000;decide,M,.refl _,q⟩
def gK:DSp:=nK
noncomputable abbrev iE:Stmt:=top 57
theorem qV:aR ["_law_one","_law_other"] ["_law_one","_law_other"] (aK iE):=by ac_rfl
theorem pL (hF:cQ K mg "_law_product" iE ["_law_one","_law_other"])(bR:Has P w K mg base 101 "_law_lowest" ["_law_top","_law_bottom"] eH):Has P w K mg base 102 "_law_product" ["_law_one","_law_other"] gK:=by refine Has.mkZ hF qV mQ λf cdv A outer s H ds M Q E hr h=>?_;obtain⟨p,r,m,n,rfl,_,h1,h2,l,q⟩:=h;refine⟨_,(aH (aP (aF bR hr (by decide) (aB (aL bN (aG (aA 0) aC) (aG (aA 1) aC)) (aB (aL bN (aG (aA 0) aC) (aG (aA 1) aC)) aD))))),?_⟩;exact⟨cF h1.1 h2.1 (by omega),cF h1.2 h2.2 (by omega),_,_,rfl,Int.mul_ne_zero (bT p) (bT r),(h1.2.mul h2.2).mono (by omega),M,.refl _,by rw[aIM];exact q⟩
def nI:DSp:=iM
noncomputable abbrev kD:Stmt:=top 62
theorem jM:aR ["_law_p","_law_q","_law_one","_law_other"] ["_law_p","_law_q"] (aK kD):=by ac_rfl
theorem rV (hF:cQ K mg "_law_first" kD ["_law_p","_law_q"])(aCU:mg "zip" = none):Has P w K mg base 101 "_law_first" ["_law_p","_law_q"] nI:=by
 refine Has.mkZ hF jM (λds M Q ⟨x,y,u,v,e,_⟩=>by rw[e];rfl) λf cdv A outer s H ds M Q E hr h=>?_;obtain⟨x,y,u,v,rfl,h1,h2,h3,h4,q⟩:=h;refine⟨_,(aE (aCN PassesOwn.never rfl aCU (aB (aA 0) (aB (aA 1) aD)) (fY (n:=2) rfl (bL (aZ (i:=2) jM.nd) (bL (aZ (i:=3) jM.nd) eP))) (aH (cE (aX (zX hr) (aA 2) (aA 3)) (aH (aP (fK nO (aL bN (aG (aA 2) aC) (aG (aA 3) aC)) (aL bN (aG (aA 3) aC) (aG (aA 2) aC))))) bQ)))
  (aH (aP uI))),?_⟩
 ac_nf;refine aCn ?_;unfold bef at q;ac_nf;refine⟨rfl,?_⟩;simp_arith;by_cases c:x=u
 ·rw[if_neg (λz=>z c)];rw[if_pos c] at q;refine⟨trivial,?_⟩;simp_arith;by_cases d:y=v
  ·rw[if_neg (λz=>z d)];rw[decide_eq_false (by rw[d];exact Rat.lt_irrefl)] at q;exact⟨M,.refl _,q⟩
  ·rw[if_pos d];refine⟨cF h2.1 h4.2,cF h4.1 h2.2,M,.refl _,?_⟩;rw[show decide (y.num*(v.den:Int)<v.num*(y.den:Int))=decide (y<v) from decide_eq_decide.mpr (ltQ y v)];exact q
 ·rw[if_pos c];rw[if_neg c] at q;refine⟨cF h1.1 h3.2,cF h3.1 h1.2,M,.refl _,?_⟩;rw[show decide (x.num*(u.den:Int)<u.num*(x.den:Int))=decide (x<u) from decide_eq_decide.mpr (ltQ x u)];exact q
def kM:DSp:=λds M Q=>∃(ns:List Int)(k:Nat),ds=[.fz (ns.map D.int),.int (k:Int)]/\∀c:Int,Q (.int c) M
noncomputable abbrev iA:Stmt:=top 50
theorem qH:aR ["_law_script","_law_k"] ["_law_script","_law_k"] (aK iA):=by ac_rfl
theorem pE (hF:cQ K mg "_law_cell_at" iA ["_law_script","_law_k"])(iN:mg "len" = none):Has P w K mg base 101 "_law_cell_at" ["_law_script","_law_k"] kM:=by
 refine Has.mkZ hF qH (λds M Q ⟨a,n,z,_⟩=>by rw[z];rfl) λf cdv A outer s H ds M Q E hr h=>?_;obtain⟨ns,k,rfl,q⟩:=h;refine⟨_,(aE (cE (aX nO (aA 1) (cL rN iN (aB (aA 0) aD))) (aH (aP (aG (aA 0) (aA 1)))) bQ)
  (aH (aP aC))),?_⟩
 ac_nf;show(λx M1=>_) _ _;refine dif (λc=>?_) (λc=>⟨M,.refl _,q 0⟩);have hk:k<(ns.map D.int).length:=by have:(k:Int)<((ns.map D.int).length:Int):=c;omega
 have hat:atI (ns.map D.int) (k:Int)=some (.int (ns[k]'(by simpa using hk))):=mT (by rw[getElem?_eq_getElem hk];simp);try dsimp only[mG]
 rw[hat];exact⟨M,.refl _,q _⟩
noncomputable def g3 (a b d:Int):Int:=(Int.gcd (Int.gcd a b:Int) d:Int)
noncomputable def sg3 (a b d:Int):Int:=if a<0∨(a=0/\b<0) then -g3 a b d else g3 a b d
noncomputable def nlD (a b d:Int):D:=.tup [.str "line",.int (a.fdiv (sg3 a b d)),.int (b.fdiv (sg3 a b d)),.int (d.fdiv (sg3 a b d))]
noncomputable def lnD (A B C:Rat):D:=nlD (A.num*(B.den:Int)*(C.den:Int)) (B.num*(A.den:Int)*(C.den:Int)) (C.num*(A.den:Int)*(B.den:Int))
theorem aHr (a b d:Int):g3 a b d∣a/\g3 a b d∣b/\g3 a b d∣d:=by unfold g3;have h1:=Int.gcd_dvd_left (Int.gcd a b:Int) d;exact⟨Int.dvd_trans h1 (Int.gcd_dvd_left a b),Int.dvd_trans h1 (Int.gcd_dvd_right a b),Int.gcd_dvd_right _ d⟩
theorem aFQ {a b d:Int}(h:¬(a=0/\b=0)):0<g3 a b d:=by unfold g3;have:Int.gcd (Int.gcd a b:Int) d≠0:=λz=>h (Int.gcd_eq_zero_iff.mp (by have:=(Int.gcd_eq_zero_iff.mp z).1;omega));omega
theorem xS {a b d:Int}(h:¬(a=0/\b=0)):sg3 a b d≠0:=by have:=aFQ (d:=d) h;unfold sg3;split<;>omega
theorem vA (a b d:Int):sg3 a b d∣a/\sg3 a b d∣b/\sg3 a b d∣d:=by
 obtain⟨h1,h2,h3⟩:=aHr a b d;unfold sg3;split
 ·exact⟨Int.neg_dvd.mpr h1,Int.neg_dvd.mpr h2,Int.neg_dvd.mpr h3⟩
 ·exact⟨h1,h2,h3⟩
theorem aF2 {a b d:Int}{n:Nat}(h:¬(a=0/\b=0))(ha:Bd n a)(hb:Bd n b):Bd n (sg3 a b d):=by
 obtain⟨h1,h2,_⟩:=vA a b d;by_cases z:a=0
 ·exact Bd.dvd hb h2 (λy=>h ⟨z,y⟩)
 ·exact Bd.dvd ha h1 z
theorem aHi (k a b d:Int):g3 (k*a) (k*b) (k*d)=k.natAbs*g3 a b d:=by
 unfold g3;rw[Int.gcd_mul_left];have e:((k.natAbs*Int.gcd a b:Nat):Int)=(k.natAbs:Int)*(Int.gcd a b:Int):=by simp
 rw[e];have e2:Int.gcd ((k.natAbs:Int)*(Int.gcd a b:Int)) (k*d)=Int.gcd ((k.natAbs:Int)*(Int.gcd a b:Int)) ((k.natAbs:Int)*d):=by
  rcases Int.natAbs_eq k with z|z
  ·rw[<- z]
  ·have:k*d = -((k.natAbs:Int)*d):=by rw[<- Int.neg_mul,<- z]
   rw[this,Int.gcd_neg]
 rw[e2,Int.gcd_mul_left];simp
theorem aDs {k a b d:Int}(hk:k≠0)(h:¬(a=0/\b=0)):sg3 (k*a) (k*b) (k*d)=k*sg3 a b d:=by
 unfold sg3;rw[aHi];have za:k*a=0↔a=0:=by
  constructor
  ·intro z;exact(Int.mul_eq_zero.mp z).resolve_left hk
  ·rintro rfl;simp
 rcases Int.lt_or_lt_of_ne hk with neg|pos
 ·have e:(k.natAbs:Int) = -k:=by omega
  have na:∀z:Int,k*z<0↔0<z:=λz=>by
   constructor
   ·intro q;rcases Int.lt_trichotomy z 0 with c|c|c
    ·have:=Int.mul_pos_of_neg_of_neg neg c;omega
    ·subst c;omega
    ·exact c
   ·intro q;exact Int.mul_neg_of_neg_of_pos neg q
  rw[e];by_cases c:a<0∨(a=0/\b<0)
  ·rw[if_pos c,if_neg]
   ·grind
   ·rw[na,na,za];omega
  ·rw[if_neg c,if_pos]
   ·grind
   ·rw[na,na,za];omega
 ·have e:(k.natAbs:Int)=k:=by omega
  have na:∀z:Int,k*z<0↔z<0:=λz=>by
   constructor
   ·intro q;rcases Int.lt_trichotomy z 0 with c|c|c
    ·exact c
    ·subst c;omega
    ·have:=Int.mul_pos pos c;omega
   ·intro q;exact Int.mul_neg_of_pos_of_neg pos q
  rw[e];by_cases c:a<0∨(a=0/\b<0)
  ·rw[if_pos c,if_pos]
   ·grind
   ·rw[na,na,za];exact c
  ·rw[if_neg c,if_neg];rw[na,na,za];exact c
theorem aAq {k a b d:Int}(hk:k≠0)(h:¬(a=0/\b=0)):nlD (k*a) (k*b) (k*d)=nlD a b d:=by
 have c:∀{z:Int},sg3 a b d∣z->(k*z).fdiv (k*sg3 a b d)=z.fdiv (sg3 a b d):=λ{z} hz=>by rw[Int.fdiv_eq_ediv_of_dvd (Int.mul_dvd_mul_left k hz),Int.fdiv_eq_ediv_of_dvd hz];obtain⟨q,rfl⟩:=hz;have s0:=xS (d:=d) h;rw[<- Int.mul_assoc,Int.mul_ediv_cancel_left _ (Int.mul_ne_zero hk s0),Int.mul_ediv_cancel_left _ s0]
 obtain⟨h1,h2,h3⟩:=vA a b d;unfold nlD;rw[aDs hk h,c h1,c h2,c h3]
theorem sP {A B C l:Rat}(hl:l≠0)(h:¬(A=0/\B=0)):lnD (l*A) (l*B) (l*C)=lnD A B C:=by
 unfold lnD;generalize ha:A.num*(B.den:Int)*(C.den:Int)=a;generalize hb:B.num*(A.den:Int)*(C.den:Int)=b;generalize hd:C.num*(A.den:Int)*(B.den:Int)=d;generalize ha':(l*A).num*((l*B).den:Int)*((l*C).den:Int)=a';generalize hb':(l*B).num*((l*A).den:Int)*((l*C).den:Int)=b';generalize hd':(l*C).num*((l*A).den:Int)*((l*B).den:Int)=d';have dA:=kR A;have dB:=kR B;have dC:=kR C;have eA:∀X Y Z:Rat,((X.num*(Y.den:Int)*(Z.den:Int):Int):Rat)=X*(((X.den:Int):Rat)*((Y.den:Int):Rat)*((Z.den:Int):Rat)):=λX Y Z=>by rw[Rat.intCast_mul,Rat.intCast_mul,dJ X];grind
 have a1:(a:Rat)=A*(((A.den:Int):Rat)*((B.den:Int):Rat)*((C.den:Int):Rat)):=by rw[<- ha];exact eA A B C
 have b1:(b:Rat)=B*(((A.den:Int):Rat)*((B.den:Int):Rat)*((C.den:Int):Rat)):=by rw[<- hb,eA B A C];grind
 have d1:(d:Rat)=C*(((A.den:Int):Rat)*((B.den:Int):Rat)*((C.den:Int):Rat)):=by rw[<- hd,eA C A B];grind
 have a2:(a':Rat)=l*A*((((l*A).den:Int):Rat)*(((l*B).den:Int):Rat)*(((l*C).den:Int):Rat)):=by rw[<- ha'];exact eA _ _ _
 have b2:(b':Rat)=l*B*((((l*A).den:Int):Rat)*(((l*B).den:Int):Rat)*(((l*C).den:Int):Rat)):=by rw[<- hb',eA];grind
 have d2:(d':Rat)=l*C*((((l*A).den:Int):Rat)*(((l*B).den:Int):Rat)*(((l*C).den:Int):Rat)):=by rw[<- hd',eA];grind
 have q0:((A.den:Int)*(B.den:Int)*(C.den:Int))≠0:=Int.mul_ne_zero (Int.mul_ne_zero (bT A) (bT B)) (bT C);have q1:(((l*A).den:Int)*((l*B).den:Int)*((l*C).den:Int))≠0:=Int.mul_ne_zero (Int.mul_ne_zero (bT _) (bT _)) (bT _);have ln:l.num≠0:=λz=>hl (qJ.mp z);have cross:∀{p p':Int}{X:Rat},(p:Rat)=X*(((A.den:Int):Rat)*((B.den:Int):Rat)*((C.den:Int):Rat))->(p':Rat)=l*X*((((l*A).den:Int):Rat)*(((l*B).den:Int):Rat)*(((l*C).den:Int):Rat)) ->
   ((l.den:Int)*((A.den:Int)*(B.den:Int)*(C.den:Int)))*p'=(l.num*(((l*A).den:Int)*((l*B).den:Int)*((l*C).den:Int)))*p:=λ{p p' X} e1 e2=>by
  rw[<- Rat.intCast_inj];simp only[Rat.intCast_mul];rw[e1,e2,dJ l];grind
 have nz:¬(a=0/\b=0):=by
  rintro⟨z1,z2⟩;have zz:(((A.den:Int):Rat)*((B.den:Int):Rat)*((C.den:Int):Rat))≠0:=by have m:∀{p q:Rat},p≠0->q≠0->p*q≠0:=λhp hq z=>(Rat.mul_eq_zero.mp z).elim hp hq;exact m (m dA dB) dC
  rw[z1] at a1;rw[z2] at b1;exact h ⟨(Rat.mul_eq_zero.mp a1.symm).resolve_right zz,(Rat.mul_eq_zero.mp b1.symm).resolve_right zz⟩
 have k1:((l.den:Int)*((A.den:Int)*(B.den:Int)*(C.den:Int)))≠0:=Int.mul_ne_zero (bT l) q0;have k2:(l.num*(((l*A).den:Int)*((l*B).den:Int)*((l*C).den:Int)))≠0:=Int.mul_ne_zero ln q1;have nz':¬(a'=0/\b'=0):=by rintro⟨z1,z2⟩;have e1:=cross a1 a2;have e2:=cross b1 b2;rw[z1,Int.mul_zero] at e1;rw[z2,Int.mul_zero] at e2;exact nz ⟨(Int.mul_eq_zero.mp e1.symm).resolve_left k2,(Int.mul_eq_zero.mp e2.symm).resolve_left k2⟩
 rw[<- aAq k1 nz',cross a1 a2,cross b1 b2,cross d1 d2,aAq k2 nz]
def iH:DSp:=λds M Q=>∃a b d,ds=[.int a,.int b,.int d]/\¬(a=0/\b=0)/\Bd 8999 a/\Bd 8999 b/\Q (nlD a b d) M
noncomputable abbrev iW:Stmt:=top 26
theorem iF:aR ["a","b","d","shared"] ["a","b","d"] (aK iW):=by ac_rfl
theorem rC (hF:cQ K mg "plain_line" iW ["a","b","d"])(aW:Has P w K mg base 101 "greatest_divisor" ["one","other"] cZ):Has P w K mg base 102 "plain_line" ["a","b","d"] iH:=by
 refine Has.mkZ hF iF (λds M Q ⟨a,b,d,e,_⟩=>by rw[e];rfl) λf cdv A outer s H ds M Q E hr h=>?_;obtain⟨a,b,d,rfl,nz,ba,bb,q⟩:=h;refine⟨_,(aE (aS (i:=3) iF.nd (aF aW hr (by decide) (aB (aF aW hr (by decide) (aB (aA 0) (aB (aA 1) aD))) (aB (aA 2) aD))))
  (aE (cE (lN (qE (aX nO (aA 0) aC) (pU (lN (jC (aX (eI hr) (aA 0) aC) (iP (aX nO (aA 1) aC))))))) (aH (aS (i:=3) iF.nd (dG (aA 3)))) bQ)
  (aH (aP (bW (aB dQ (aB (aL cY (aA 0) (aA 3)) (aB (aL cY (aA 1) (aA 3)) (aB (aL cY (aA 2) (aA 3)) aD))))))))),?_⟩
 have s0:=xS (d:=d) nz;have sb:=(aF2 (d:=d) nz ba bb).log (by decide);have ok:∀z:Int,CFd z (sg3 a b d):=λz=>⟨s0,Nat.lt_succ_of_lt sb⟩;unfold nlD at q;ac_nf;refine⟨_,_,rfl,_,_,rfl,?_⟩;unfold sg3 g3 at q ok;ac_nf;refine dif (λc=>?_) (λc=>?_)
 ·refine ifT rfl ?_;rw[if_pos (.inl c)] at q ok;exact⟨ok _,ok _,ok _,by decide,M,.refl _,q⟩
 ·rw[gY];by_cases e:a=0
  ·refine ifT (decide_eq_true e) ?_;ac_nf;refine dif (λc2=>?_) (λc2=>?_)
   ·rw[if_pos (.inr ⟨e,c2⟩)] at q ok;exact⟨ok _,ok _,ok _,by decide,M,.refl _,q⟩
   ·rw[if_neg (λz=>z.elim c λz=>c2 z.2)] at q ok;exact⟨ok _,ok _,ok _,by decide,M,.refl _,q⟩
  ·refine ifF (decide_eq_false e) ?_;refine ifF rfl ?_;rw[if_neg (λz=>z.elim c λz=>e z.1)] at q ok;exact⟨ok _,ok _,ok _,by decide,M,.refl _,q⟩
noncomputable def nM (x y u v:Rat):D:=lnD (v-y) (x-u) ((v-y)*x+(x-u)*y)
def vP:DSp:=λds M Q=>∃x y u v,ds=[PQ x y,PQ u v]/\¬(x=u/\y=v)/\BQ 400 x/\BQ 400 y/\BQ 400 u/\BQ 400 v/\Q (nM x y u v) M
theorem aIl {p r:Rat}{m n:Nat}{M:DM}{Q:DQ}(h1:BQ m p)(h2:BQ n r)(l:m+n<=8998)(q:Q (FQ (p-r)) M):rE [FQ p,FQ r] M Q:=⟨_,_,_,_,rfl,trivial,h1,h2,l,q⟩
theorem aIi {p r:Rat}{m n:Nat}{M:DM}{Q:DQ}(h1:BQ m p)(h2:BQ n r)(l:m+n<=8998)(q:Q (FQ (p*r)) M):nK [FQ p,FQ r] M Q:=⟨_,_,_,_,rfl,trivial,h1,h2,l,q⟩
theorem aJ2 {p r:Rat}{m n:Nat}{M:DM}{Q:DQ}(h1:BQ m p)(h2:BQ n r)(l:m+n<=8998)(q:Q (FQ (p+r)) M):pS [FQ p,FQ r] M Q:=⟨_,_,_,_,rfl,trivial,h1,h2,l,q⟩
theorem aJP {a b d:Int}{M:DM}{Q:DQ}(nz:¬(a=0/\b=0))(ba:Bd 8999 a)(bb:Bd 8999 b)(q:Q (nlD a b d) M):iH [.int a,.int b,.int d] M Q:=⟨_,_,_,rfl,nz,ba,bb,q⟩
noncomputable abbrev yD:Stmt:=top 25
theorem pW:aR ["p","q","a","b","d"] ["p","q"] (aK yD):=by ac_rfl
theorem aDk (hF:cQ K mg "line" yD ["p","q"])(pX:Has P w K mg base 103 "minus" ["one","other"] rE)(oG:Has P w K mg base 102 "plus" ["one","other"] pS)(pQ:Has P w K mg base 102 "times" ["one","other"] nK)(jG:Has P w K mg base 102 "plain_line" ["a","b","d"] iH):Has P w K mg base 104 "line" ["p","q"] vP:=by
 refine Has.mkZ hF pW (λds M Q ⟨x,y,u,v,e,_⟩=>by rw[e];rfl) λf cdv A outer s H ds M Q E hr h=>?_;obtain⟨x,y,u,v,rfl,ne,h1,h2,h3,h4,q⟩:=h;refine⟨_,(aE (cE (aX (eI hr) (aA 0) (aA 1)) (aH aAN) bQ)
  (aE (aS (i:=2) pW.nd (aF pX hr (by decide) (aB (aG (aA 1) aC) (aB (aG (aA 0) aC) aD))))
  (aE (aS (i:=3) pW.nd (aF pX hr (by decide) (aB (aG (aA 0) aC) (aB (aG (aA 1) aC) aD))))
  (aE (aS (i:=4) pW.nd (aF oG hr (by decide) (aB (aF pQ hr (by decide) (aB (aA 2) (aB (aG (aA 0) aC) aD))) (aB (aF pQ hr (by decide) (aB (aA 3) (aB (aG (aA 0) aC) aD))) aD))))
  (aH (aP (aF jG hr (by decide) (aB (aL bN (aL bN (aG (aA 2) aC) (aG (aA 3) aC)) (aG (aA 4) aC)) (aB (aL bN (aL bN (aG (aA 3) aC) (aG (aA 2) aC)) (aG (aA 4) aC)) (aB (aL bN (aL bN (aG (aA 4) aC) (aG (aA 2) aC)) (aG (aA 3) aC)) aD)))))))))),?_⟩
 ac_nf;rw[yG];refine ifF (decide_eq_false ne) ?_;have bA:=h4.sub h2;have bB:=h1.sub h3;have bC:=(bA.mul h1).add (bB.mul h2);refine aIl h4 h2 (by decide) ?_;ac_nf;refine aIl h1 h3 (by decide) ?_;ac_nf;refine aIi bA h1 (by decide) (aIi bB h2 (by decide) (aJ2 (bA.mul h1) (bB.mul h2) (by decide) ?_));ac_nf;have nz:¬((v-y).num*((x-u).den:Int)*(((v-y)*x+(x-u)*y).den:Int)=0/\(x-u).num*((v-y).den:Int)*(((v-y)*x+(x-u)*y).den:Int)=0):=by rintro⟨z1,z2⟩;have e1:=qJ.mp (((Int.mul_eq_zero.mp ((Int.mul_eq_zero.mp z1).resolve_right (bT _))).resolve_right (bT _)));have e2:=qJ.mp (((Int.mul_eq_zero.mp ((Int.mul_eq_zero.mp z2).resolve_right (bT _))).resolve_right (bT _)));exact ne ⟨by grind,by grind⟩
 refine⟨cF bA.1 bB.2,cF (bA.1.mul bB.2) bC.2,cF bB.1 bA.2,cF (bB.1.mul bA.2) bC.2,cF bC.1 bA.2,cF (bC.1.mul bA.2) bB.2,aJP nz (((bA.1.mul bB.2).mul bC.2).mono (by decide)) (((bB.1.mul bA.2).mul bC.2).mono (by decide)) ⟨M,.refl _,q⟩⟩
theorem mU {s z:Int}(h:s∣z):s*z.fdiv s=z:=by rw[Int.fdiv_eq_ediv_of_dvd h];exact Int.mul_ediv_cancel' h
theorem uM {n:Nat}{s z:Int}(h:Bd n z)(d:s∣z)(hs:s≠0):Bd n (z.fdiv s):=by
 have e:=congrArg Int.natAbs (mU d);rw[Int.natAbs_mul] at e;have:0<s.natAbs:=Int.natAbs_pos.mpr hs;have:(z.fdiv s).natAbs<=z.natAbs:=by rw[<- e];exact Nat.le_mul_of_pos_left _ this
 exact Nat.lt_of_le_of_lt this h
theorem aCu {A B C:Rat}(nz:¬(A = 0/\B = 0)):∃(a b d:Int)(k:Rat),lnD A B C = .tup [.str "line",.int a,.int b,.int d]/\k≠0/\(a:Rat)=k*A/\(b:Rat)=k*B/\(d:Rat)=k*C /\
  (∀n,Bd n (A.num*(B.den:Int)*(C.den:Int))->Bd n (B.num*(A.den:Int)*(C.den:Int))->Bd n (C.num*(A.den:Int)*(B.den:Int))->Bd n a/\Bd n b/\Bd n d):=by
 have dA:=kR A;have dB:=kR B;have dC:=kR C;have nA:=dJ A;have nB:=dJ B;have nC:=dJ C;have h0:¬(A.num*(B.den:Int)*(C.den:Int)=0/\B.num*(A.den:Int)*(C.den:Int)=0):=λ⟨z1,z2⟩=>by
  have y1:(A.num:Rat)*((B.den:Int):Rat)*((C.den:Int):Rat)=0:=by have:=congrArg (λz:Int=>(z:Rat)) z1;simpa only[Rat.intCast_mul,Rat.intCast_zero] using this
  have y2:(B.num:Rat)*((A.den:Int):Rat)*((C.den:Int):Rat)=0:=by have:=congrArg (λz:Int=>(z:Rat)) z2;simpa only[Rat.intCast_mul,Rat.intCast_zero] using this
  exact nz ⟨by grind,by grind⟩
 have s0:=xS (d:=C.num*(A.den:Int)*(B.den:Int)) h0;obtain⟨d1,d2,d3⟩:=vA (A.num*(B.den:Int)*(C.den:Int)) (B.num*(A.den:Int)*(C.den:Int)) (C.num*(A.den:Int)*(B.den:Int));have m1:=mU d1;have m2:=mU d2;have m3:=mU d3;have bd:∀n,Bd n (A.num*(B.den:Int)*(C.den:Int))->Bd n (B.num*(A.den:Int)*(C.den:Int))->Bd n (C.num*(A.den:Int)*(B.den:Int))->Bd n ((A.num*(B.den:Int)*(C.den:Int)).fdiv (sg3 (A.num*(B.den:Int)*(C.den:Int)) (B.num*(A.den:Int)*(C.den:Int)) (C.num*(A.den:Int)*(B.den:Int))))/\Bd n ((B.num*(A.den:Int)*(C.den:Int)).fdiv (sg3 (A.num*(B.den:Int)*(C.den:Int)) (B.num*(A.den:Int)*(C.den:Int)) (C.num*(A.den:Int)*(B.den:Int))))/\Bd n ((C.num*(A.den:Int)*(B.den:Int)).fdiv (sg3 (A.num*(B.den:Int)*(C.den:Int)) (B.num*(A.den:Int)*(C.den:Int)) (C.num*(A.den:Int)*(B.den:Int)))):=λn b1 b2 b3=>⟨uM b1 d1 s0,uM b2 d2 s0,uM b3 d3 s0⟩;have e:lnD A B C = .tup [.str "line",.int ((A.num*(B.den:Int)*(C.den:Int)).fdiv (sg3 (A.num*(B.den:Int)*(C.den:Int)) (B.num*(A.den:Int)*(C.den:Int)) (C.num*(A.den:Int)*(B.den:Int)))),.int ((B.num*(A.den:Int)*(C.den:Int)).fdiv (sg3 (A.num*(B.den:Int)*(C.den:Int)) (B.num*(A.den:Int)*(C.den:Int)) (C.num*(A.den:Int)*(B.den:Int)))),.int ((C.num*(A.den:Int)*(B.den:Int)).fdiv (sg3 (A.num*(B.den:Int)*(C.den:Int)) (B.num*(A.den:Int)*(C.den:Int)) (C.num*(A.den:Int)*(B.den:Int))))]:=rfl;generalize sg3 (A.num*(B.den:Int)*(C.den:Int)) (B.num*(A.den:Int)*(C.den:Int)) (C.num*(A.den:Int)*(B.den:Int))=s at s0 m1 m2 m3 bd e;generalize (A.num*(B.den:Int)*(C.den:Int)).fdiv s=a at m1 bd e;generalize (B.num*(A.den:Int)*(C.den:Int)).fdiv s=b at m2 bd e;generalize (C.num*(A.den:Int)*(B.den:Int)).fdiv s=d at m3 bd e;have sr:(s:Rat)≠0:=λz=>s0 (Rat.intCast_inj.mp (by rw[z];rfl));have r1:(s:Rat)*(a:Rat)=(A.num:Rat)*((B.den:Int):Rat)*((C.den:Int):Rat):=by have:=congrArg (λz:Int=>(z:Rat)) m1;simpa only[Rat.intCast_mul] using this
 have r2:(s:Rat)*(b:Rat)=(B.num:Rat)*((A.den:Int):Rat)*((C.den:Int):Rat):=by have:=congrArg (λz:Int=>(z:Rat)) m2;simpa only[Rat.intCast_mul] using this
 have r3:(s:Rat)*(d:Rat)=(C.num:Rat)*((A.den:Int):Rat)*((B.den:Int):Rat):=by have:=congrArg (λz:Int=>(z:Rat)) m3;simpa only[Rat.intCast_mul] using this
 refine⟨a,b,d,((A.den:Int):Rat)*((B.den:Int):Rat)*((C.den:Int):Rat)/s,e,?_,?_,?_,?_,bd⟩
 ·intro z;have:((A.den:Int):Rat)*((B.den:Int):Rat)*((C.den:Int):Rat)=0:=by grind
  grind
 ·grind
 ·grind
 ·grind
theorem aEh {ax ay bx by' cx cy dx dy:Rat}(h1:¬(ax=bx/\ay=by'))(h2:¬(cx=dx/\cy=dy)):nM ax ay bx by'=nM cx cy dx dy↔fC ax ay bx by' cx cy=0/\fC ax ay bx by' dx dy=0:=by
 constructor
 ·intro e;unfold nM at e;obtain⟨a,b,d,k,e1,hk,ea,eb,ed,_⟩:=aCu (A:=by'-ay) (B:=ax-bx) (C:=(by'-ay)*ax+(ax-bx)*ay) (λz=>h1 ⟨by grind,by grind⟩);obtain⟨a2,b2,d2,k2,e2,hk2,ea2,eb2,ed2,_⟩:=aCu (A:=dy-cy) (B:=cx-dx) (C:=(dy-cy)*cx+(cx-dx)*cy) (λz=>h2 ⟨by grind,by grind⟩);rw[e1,e2] at e;injection e with e
  injection e with _ e
  injection e with y1 e
  injection e with y2 e
  injection e with y3 _
  injection y1 with y1
  injection y2 with y2
  injection y3 with y3
  subst y1 y2 y3;unfold fC;have f1:k*((bx-ax)*(cy-ay)-(by'-ay)*(cx-ax))=0:=by grind
  have f2:k*((bx-ax)*(dy-ay)-(by'-ay)*(dx-ax))=0:=by grind
  exact⟨(Rat.mul_eq_zero.mp f1).resolve_left hk,(Rat.mul_eq_zero.mp f2).resolve_left hk⟩
 ·rintro⟨z1,z2⟩;unfold fC at z1 z2;unfold nM;by_cases c:bx=ax
  ·have hb:by'-ay≠0:=λz=>h1 ⟨c.symm,by grind⟩;have ec:cx=ax:=by
    have:(by'-ay)*(cx-ax)=0:=by grind
    have:=(Rat.mul_eq_zero.mp this).resolve_left hb;grind
   have ed:dx=ax:=by
    have:(by'-ay)*(dx-ax)=0:=by grind
    have:=(Rat.mul_eq_zero.mp this).resolve_left hb;grind
   have hl:(dy-cy)/(by'-ay)≠0:=λz=>h2 ⟨by grind,by grind⟩;have:=sP (A:=by'-ay) (B:=ax-bx) (C:=(by'-ay)*ax+(ax-bx)*ay) hl (λz=>h1 ⟨by grind,by grind⟩);rw[<- this];congr 1<;>grind
  ·have hb:bx-ax≠0:=λz=>c (by grind);have hl:(dx-cx)/(bx-ax)≠0:=λz=>by
    have e1:dx=cx:=by grind
    subst e1;have:(bx-ax)*(dy-cy)=0:=by grind
    have:=(Rat.mul_eq_zero.mp this).resolve_left hb;exact h2 ⟨rfl,by grind⟩
   have:=sP (A:=by'-ay) (B:=ax-bx) (C:=(by'-ay)*ax+(ax-bx)*ay) hl (λz=>h1 ⟨by grind,by grind⟩);rw[<- this];have g1:dy-cy=(dx-cx)/(bx-ax)*(by'-ay):=by grind
   have g2:cx-dx=(dx-cx)/(bx-ax)*(ax-bx):=by grind
   have g3:(dy-cy)*cx+(cx-dx)*cy=(dx-cx)/(bx-ax)*((by'-ay)*ax+(ax-bx)*ay):=by grind
   rw[g3,g1,g2]
noncomputable def oD (x y:Rat):Int:=if (x.den:Int)=(y.den:Int) then (x.den:Int) else (x.den:Int)*(y.den:Int)
noncomputable def oX (x y:Rat):Int:=if (x.den:Int)=(y.den:Int) then x.num else x.num*(y.den:Int)
noncomputable def oY (x y:Rat):Int:=if (x.den:Int)=(y.den:Int) then y.num else y.num*(x.den:Int)
theorem zJ (x y:Rat):0<oD x y:=by
 have h1:(0:Int)<x.den:=by have:=x.den_pos;omega
 have h2:(0:Int)<y.den:=by have:=y.den_pos;omega
 unfold oD;split
 ·exact h1
 ·exact Int.mul_pos h1 h2
theorem aBP (x y:Rat):((oX x y:Int):Rat)=x*(oD x y:Int):=by
 have e:=dJ x;unfold oX oD;split
 ·rw[e]
 ·rw[Rat.intCast_mul,Rat.intCast_mul,e];grind
theorem aCx (x y:Rat):((oY x y:Int):Rat)=y*(oD x y:Int):=by
 have e:=dJ y;unfold oY oD;split
 ·rename_i h;rw[e,h]
 ·rw[Rat.intCast_mul,Rat.intCast_mul,e];grind
theorem aG1 {x y:Rat}{n:Nat}(hx:BQ n x)(hy:BQ n y):Bd (n+n) (oX x y)/\Bd (n+n) (oY x y)/\Bd (n+n) (oD x y):=by
 unfold oX oY oD;refine⟨?_,?_,?_⟩
 ·split
  ·exact hx.1.mono (by omega)
  ·exact hx.1.mul hy.2
 ·split
  ·exact hy.1.mono (by omega)
  ·exact hy.1.mul hx.2
 ·split
  ·exact hx.2.mono (by omega)
  ·exact hx.2.mul hy.2
def fA:DSp:=λds M Q=>∃x y n,ds=[PQ x y]/\BQ n x/\BQ n y/\n<=8998/\Q (.tup [.int (oX x y),.int (oY x y),.int (oD x y)]) M
noncomputable abbrev fU:Stmt:=top 18
theorem eY:aR ["p","x","y"] ["p"] (aK fU):=by ac_rfl
theorem mW (hF:cQ K mg "on_one_bottom" fU ["p"]):Has P w K mg base 101 "on_one_bottom" ["p"] fA:=by
 refine Has.mkZ hF eY (λds M Q ⟨x,y,n,e,_⟩=>by rw[e];rfl) λf cdv A outer s H ds M Q E hr h=>?_;obtain⟨x,y,n,rfl,hx,hy,hn,q⟩:=h;refine⟨_,(aE (fM (aA 0) (fY (n:=2) rfl (bL (aZ (i:=1) eY.nd) (bL (aZ (i:=2) eY.nd) eP))))
  (aE (cE (aX (eI hr) (aG (aA 1) aC) (aG (aA 2) aC)) (aH (aP (bW (aB (aG (aA 1) aC) (aB (aG (aA 2) aC) (aB (aG (aA 1) aC) aD)))))) bQ)
  (aH (aP (bW (aB (aL bN (aG (aA 1) aC) (aG (aA 2) aC)) (aB (aL bN (aG (aA 2) aC) (aG (aA 1) aC)) (aB (aL bN (aG (aA 1) aC) (aG (aA 2) aC)) aD)))))))),?_⟩
 unfold oX oY oD at q;ac_nf;rw[gY];refine⟨rfl,dif (λc=>?_) (λc=>?_)⟩
 ·rw[if_pos c,if_pos c,if_pos c] at q;exact⟨by decide,M,.refl _,q⟩
 ·rw[if_neg c,if_neg c,if_neg c] at q;exact⟨cF hx.1 hy.2 (by omega),cF hy.1 hx.2 (by omega),cF hx.2 hy.2 (by omega),by decide,M,.refl _,q⟩
def vO:DSp:=λds M Q=>∃i,ds=[.int i]/\Q (.int (if 0<i then 1 else if i=0 then 0 else -1)) M
noncomputable abbrev zH:Stmt:=top 20
theorem aEg:aR ["number"] ["number"] (aK zH):=by ac_rfl
theorem aCm (hF:cQ K mg "sign" zH ["number"]):Has P w K mg base 101 "sign" ["number"] vO:=by
 refine Has.mkZ hF aEg (λds M Q ⟨x,e,_⟩=>by rw[e];rfl) λf cdv A outer s H ds M Q E hr h=>?_;obtain⟨i,rfl,q⟩:=h;refine⟨_,(aE (cE (aX aBN (aA 0) aC) (aH (aP aC)) bQ)
  (aH (aP (tK (aX (eI hr) (aA 0) aC) aC (dG aC))))),?_⟩
 ac_nf;refine dif (λc=>?_) (λc=>?_)
 ·rw[if_pos c] at q;exact⟨M,.refl _,q⟩
 ·rw[if_neg c] at q;rw[gY];refine dif (λd=>?_) (λd=>?_)
  ·rw[if_pos d] at q;exact⟨M,.refl _,q⟩
  ·rw[if_neg d] at q;exact⟨M,.refl _,q⟩
theorem aEx (z:Int):(if 0<z then 1 else if z=0 then 0 else -1:Int)=sgn (z:Rat):=by
 unfold sgn;by_cases c:0<z
 ·rw[if_pos c,if_pos (show(0:Rat)<(z:Rat) by exact_mod_cast c)]
 ·rw[if_neg c,if_neg (show ¬(0:Rat)<(z:Rat) from λh=>c (by exact_mod_cast h))];by_cases d:z=0
  ·rw[if_pos d,if_neg (show ¬(z:Rat)<0 by rw[d];decide)]
  ·have h1:z<0:=by omega
   rw[if_neg d,if_pos (show(z:Rat)<0 by exact_mod_cast h1)]
noncomputable abbrev yT:Stmt:=top 19
theorem fG:aR ["a","b","p","ax","ay","ad","bx","by","bd","px","py","pd"] ["a","b","p"] (aK yT):=by ac_rfl
theorem aBU (hF:cQ K mg "side" yT ["a","b","p"])(dM:Has P w K mg base 101 "on_one_bottom" ["p"] fA)(yV:Has P w K mg base 101 "sign" ["number"] vO):Has P w K mg base 102 "side" ["a","b","p"] aAg:=by
 refine Has.mkZ hF fG (λds M Q ⟨x,y,u,v,x2,y2,e,_⟩=>by rw[e];rfl) λf cdv A outer s H ds M Q E hr h=>?_;obtain⟨ax,ay,bx,by',px,py,rfl,h1,h2,h3,h4,h5,h6,q⟩:=h;refine⟨_,(aE (fM (aF dM hr (by decide) (aB (aA 0) aD)) (fY (n:=3) rfl (bL (aZ (i:=3) fG.nd) (bL (aZ (i:=4) fG.nd) (bL (aZ (i:=5) fG.nd) eP)))))
  (aE (fM (aF dM hr (by decide) (aB (aA 1) aD)) (fY (n:=3) rfl (bL (aZ (i:=6) fG.nd) (bL (aZ (i:=7) fG.nd) (bL (aZ (i:=8) fG.nd) eP)))))
  (aE (fM (aF dM hr (by decide) (aB (aA 2) aD)) (fY (n:=3) rfl (bL (aZ (i:=9) fG.nd) (bL (aZ (i:=10) fG.nd) (bL (aZ (i:=11) fG.nd) eP)))))
  (aH (aP (aF yV hr (by decide) (aB (aL eD (aL kN (aL bN (aA 9) (aL kN (aL bN (aA 4) (aA 8)) (aL bN (aA 7) (aA 5)))) (aL bN (aA 10) (aL kN (aL bN (aA 3) (aA 8)) (aL bN (aA 6) (aA 5))))) (aL bN (aA 11) (aL kN (aL bN (aA 3) (aA 7)) (aL bN (aA 6) (aA 4))))) aD))))))),?_⟩
 ac_nf;obtain⟨bX1,bY1,bd1⟩:=aG1 h1 h2;obtain⟨bX2,bY2,bd2⟩:=aG1 h3 h4;obtain⟨bX3,bY3,bd3⟩:=aG1 h5 h6;have ex1:=aBP ax ay;have ey1:=aCx ax ay;have ex2:=aBP bx by';have ey2:=aCx bx by';have ex3:=aBP px py;have ey3:=aCx px py;have p1:=zJ ax ay;have p2:=zJ bx by';have p3:=zJ px py;refine⟨ax,ay,900,rfl,h1,h2,by decide,?_⟩;ac_nf;refine⟨rfl,bx,by',900,rfl,h3,h4,by decide,?_⟩;ac_nf;refine⟨rfl,px,py,900,rfl,h5,h6,by decide,?_⟩;ac_nf;generalize oX ax ay=X1 at *;generalize oY ax ay=Y1 at *;generalize oD ax ay=d1 at *;generalize oX bx by'=X2 at *;generalize oY bx by'=Y2 at *;generalize oD bx by'=d2 at *;generalize oX px py=X3 at *;generalize oY px py=Y3 at *;generalize oD px py=d3 at *;have k1:IntMulOk Y1 d2:=cF bY1 bd2;have k2:IntMulOk Y2 d1:=cF bY2 bd1;have k3:IntMulOk X3 (Y1*d2-Y2*d1):=cF bX3 ((bY1.mul bd2).sub (bY2.mul bd1));have k4:IntMulOk X1 d2:=cF bX1 bd2;have k5:IntMulOk X2 d1:=cF bX2 bd1;have k6:IntMulOk Y3 (X1*d2-X2*d1):=cF bY3 ((bX1.mul bd2).sub (bX2.mul bd1));have k7:IntMulOk X1 Y2:=cF bX1 bY2;have k8:IntMulOk X2 Y1:=cF bX2 bY1;have k9:IntMulOk d3 (X1*Y2-X2*Y1):=cF bd3 ((bX1.mul bY2).sub (bX2.mul bY1));refine⟨rfl,k1,k2,k3,k4,k5,k6,k7,k8,k9,_,rfl,M,.refl _,?_⟩;have e:((X3*(Y1*d2-Y2*d1)-Y3*(X1*d2-X2*d1)+d3*(X1*Y2-X2*Y1):Int):Rat)=fC ax ay bx by' px py*((d1:Rat)*d2*d3):=by simp only[Rat.intCast_add,Rat.intCast_sub,Rat.intCast_mul];rw[ex1,ey1,ex2,ey2,ex3,ey3];unfold fC;grind
 rw[aEx,e,aEA (Rat.mul_pos (Rat.mul_pos (aEk p1) (aEk p2)) (aEk p3))];exact q
noncomputable def onS (x y u v a b:Rat):Bool:=decide (fC x y u v a b=0)&&(!bef a b x y && !bef u v a b)
theorem wU {z:Rat}:sgn z=0↔z=0:=by
 unfold sgn;by_cases h:0<z
 ·rw[if_pos h];constructor
  ·intro e;exact absurd e (by decide)
  ·rintro rfl;exact absurd h (by decide)
 rw[if_neg h];by_cases h2:z<0
 ·rw[if_pos h2];constructor
  ·intro e;exact absurd e (by decide)
  ·rintro rfl;exact absurd h2 (by decide)
 rw[if_neg h2];exact⟨λ_=>by grind,λ_=>rfl⟩
def kX:DSp:=λds M Q=>(∃x y u v a b,ds=[pcD (.str x y u v),PQ a b]/\BQ 900 x/\BQ 900 y/\BQ 900 u/\BQ 900 v/\BQ 900 a/\BQ 900 b/\Q (.bl (onS x y u v a b)) M) ∨
 (∃x y a b,ds=[pcD (.dot x y),PQ a b]/\Q (.bl (decide (a=x/\b=y))) M)
noncomputable abbrev iI:Stmt:=top 27
theorem qU:aR ["piece","p"] ["piece","p"] (aK iI):=by ac_rfl
theorem pC (hF:cQ K mg "on_straight" iI ["piece","p"])(xV:Has P w K mg base 102 "side" ["a","b","p"] aAg)(eG:Has P w K mg base 102 "before" ["p","q"] iM):Has P w K mg base 103 "on_straight" ["piece","p"] kX:=by
 refine Has.mkZ hF qU (λds M Q h=>by rcases h with⟨x,y,u,v,a,b,e,_⟩|⟨x,y,a,b,e,_⟩<;>(rw[e];rfl)) λf cdv A outer s H ds M Q E hr h=>?_;refine⟨_,(aE (cE (aX (eI hr) (aG (aA 0) aC) dQ) (aH (aP (fK (eI hr) (aA 1) (aG (aA 0) aC)))) bQ)
  (aH (aP (qC (fK (eI hr) (aF xV hr (by decide) (aB (aG (aA 0) aC) (aB (aG (aA 0) aC) (aB (aA 1) aD)))) aC) (qC (tZ (aF eG hr (by decide) (aB (aA 1) (aB (aG (aA 0) aC) aD)))) (vM (tZ (aF eG hr (by decide) (aB (aG (aA 0) aC) (aB (aA 1) aD)))))))))),?_⟩
 rcases h with⟨x,y,u,v,a,b,rfl,h1,h2,h3,h4,h5,h6,q⟩|⟨x,y,a,b,rfl,q⟩
 ·dsimp only[pcD];ac_nf;simp_arith;have m:∀{z:Rat},BQ 900 z->BQ 4400 z:=λh=>h.mono (by decide);rw[if_neg (by decide)];refine⟨_,_,_,_,_,_,rfl,h1,h2,h3,h4,h5,h6,?_⟩;simp_arith;unfold onS at q;by_cases c:fC x y u v a b=0
  ·rw[if_pos (wU.mpr c)];rw[decide_eq_true c,Bool.true_and] at q;refine⟨_,_,_,_,rfl,m h5,m h6,m h1,m h2,?_⟩;cases d:bef a b x y with
   |true =>
    rw[d] at q;exact⟨M,.refl _,q⟩
   |false =>
    rw[d] at q;exact⟨_,_,_,_,rfl,m h3,m h4,m h5,m h6,M,.refl _,q⟩
  ·rw[if_neg (λz=>c (wU.mp z))];rw[decide_eq_false c,Bool.false_and] at q;exact⟨M,.refl _,q⟩
 ·dsimp only[pcD];ac_nf;simp_arith;rw[if_pos trivial];exact⟨M,.refl _,q⟩
def zV:DSp:=λds M Q=>∃x y u v,ds=[pcD (.str x y u v)]/\¬(x=u/\y=v)/\BQ 400 x/\BQ 400 y/\BQ 400 u/\BQ 400 v/\Q (nM x y u v) M
theorem aJq {x y u v:Rat}{M:DM}{Q:DQ}(ne:¬(x=u/\y=v))(h1:BQ 400 x)(h2:BQ 400 y)(h3:BQ 400 u)(h4:BQ 400 v)(q:Q (nM x y u v) M):vP [PQ x y,PQ u v] M Q:=⟨_,_,_,_,rfl,ne,h1,h2,h3,h4,q⟩
noncomputable abbrev aCr:Stmt:=top 17
theorem aFb:aR ["p","q","way"] ["p","q"] (aK aCr):=by ac_rfl
theorem aDP (hF:cQ K mg "far" aCr ["p","q"]):Has P w K mg base 105 "far" ["p","q"] (λ_ _ _=>False):=by exact Has.never hF aFb 104
noncomputable abbrev oB:Stmt:=top 44
theorem yB:aR ["piece"] ["piece"] (aK oB):=by ac_rfl
theorem wD (hF:cQ K mg "carrier" oB ["piece"])(yM:Has P w K mg base 104 "line" ["p","q"] vP)(aB5:Has P w K mg base 105 "far" ["p","q"] (λ_ _ _=>False)):Has P w K mg base 106 "carrier" ["piece"] zV:=by
 refine Has.mkZ hF yB (λds M Q ⟨_,_,_,_,e,_⟩=>by rw[e];rfl) λf cdv A outer s H ds M Q E hr h=>?_;obtain⟨x,y,u,v,rfl,ne,h1,h2,h3,h4,q⟩:=h;refine⟨_,(aE (cE (aX (eI hr) (aG (aA 0) aC) dQ) (aH (aP uB)) bQ)
  (aE (cE (aX (eI hr) (aG (aA 0) aC) dQ) (aH (aP (aF yM hr (by decide) (aB (aG (aA 0) aC) (aB (aG (aA 0) aC) aD))))) bQ)
  (aH (aP (bW (aB dQ (aB (aG (aA 0) aC) (aB (aF aB5 hr (by decide) (aB (aG (aA 0) aC) (aB (aG (aA 0) aC) aD))) aD)))))))),?_⟩
 dsimp only[pcD];ac_nf;rw[fN];refine ifF (by decide) ?_;ac_nf;rw[fN];exact ifT (by decide) (aJq ne h1 h2 h3 h4 ⟨M,.refl _,q⟩)
def aBA:DSp:=λds M Q=>∃x y u v a b,ds=[pcD (.str x y u v),PQ a b]/\BQ 900 x/\BQ 900 y/\BQ 900 u/\BQ 900 v/\BQ 900 a/\BQ 900 b/\Q (.bl (onS x y u v a b)) M
noncomputable abbrev oJ:Stmt:=top 21
theorem yR:aR ["c","p","q","p_square","pd","q_square","qd"] ["c","p","q"] (aK oJ):=by ac_rfl
theorem wT (hF:cQ K mg "farther" oJ ["c","p","q"]):Has P w K mg base 103 "farther" ["c","p","q"] (λ_ _ _=>False):=by exact Has.never hF yR 102
noncomputable abbrev vD:Stmt:=top 30
theorem aBq:aR ["c","a","p","q"] ["c","a","p","q"] (aK vD):=by ac_rfl
theorem aAV (hF:cQ K mg "ahead" vD ["c","a","p","q"]):Has P w K mg base 103 "ahead" ["c","a","p","q"] (λ_ _ _=>False):=by exact Has.never hF aBq 102
noncomputable abbrev aG0:Stmt:=top 29
theorem aIW:aR ["piece","p"] ["piece","p"] (aK aG0):=by ac_rfl
theorem aGP (hF:cQ K mg "on" aG0 ["piece","p"])(iJ:Has P w K mg base 103 "on_straight" ["piece","p"] kX)(oF:Has P w K mg base 103 "farther" ["c","p","q"] (λ_ _ _=>False))(uJ:Has P w K mg base 103 "ahead" ["c","a","p","q"] (λ_ _ _=>False)):Has P w K mg base 104 "on" ["piece","p"] aBA:=by
 refine Has.mkZ hF aIW (λds M Q ⟨_,_,_,_,_,_,e,_⟩=>by rw[e];rfl) λf cdv A outer s H ds M Q E hr h=>?_;obtain⟨x,y,u,v,a,b,rfl,h1,h2,h3,h4,h5,h6,q⟩:=h;refine⟨_,(aE (cE (lN (qE (aX (eI hr) (aG (aA 0) aC) dQ) (pU (aX (eI hr) (aG (aA 0) aC) dQ)))) (aH (aP (aF iJ hr (by decide) (aB (aA 0) (aB (aA 1) aD))))) bQ)
  (aE (cE (aX (zX hr) (aF oF hr (by decide) (aB (aG (aA 0) aC) (aB (aA 1) (aB (aG (aA 0) aC) aD)))) aC) (aH (aP uI)) bQ)
  (aH (aP (aFc (fK (eI hr) (aG (aA 0) aC) dQ) (vM (tZ (aF uJ hr (by decide) (aB (aG (aA 0) aC) (aB (aG (aA 0) aC) (aB (aG (aA 0) aC) (aB (aA 1) aD)))))))))))),?_⟩
 dsimp only[pcD];ac_nf;rw[fN];refine dif (λc=>absurd c (by decide)) (λ_=>?_);rw[fN];refine dif (λ_=>?_) (λc=>absurd rfl c);exact .inl ⟨x,y,u,v,a,b,rfl,h1,h2,h3,h4,h5,h6,M,.refl _,q⟩
noncomputable def pH (x u:Rat)(t:Rat):Rat:=x+(u-x)*t
theorem aI0 {x y u v:Rat}{z:Int}{m n:Nat}{M:DM}{Q:DQ}(hz:z=1∨z = -1)(h1:BQ m x)(h2:BQ m y)(h3:BQ n u)(h4:BQ n v)(l:m+n<=8998)(q:Q (PQ (zs z x u) (zs z y v)) M):kL [PQ x y,PQ u v,.int z] M Q:=⟨_,_,_,_,_,_,_,rfl,hz,h1,h2,h3,h4,l,q⟩
theorem aFI {p r:Rat}{z:Int}{m n:Nat}{M:DM}{Q:DQ}(hz:z=1∨z = -1)(h1:BQ m p)(h2:BQ n r)(l:m+n<=8998)(q:Q (FQ (zs z p r)) M):gI [FQ p,FQ r,.int z] M Q:=⟨_,_,_,_,_,rfl,hz,h1,h2,l,q⟩
theorem aIk {p r:Rat}{m n:Nat}{M:DM}{Q:DQ}(h1:BQ m p)(h2:BQ n r)(l:m+n<=8998)(q:Q (FQ (p*r)) M):gK [FQ p,FQ r] M Q:=⟨_,_,_,_,rfl,trivial,h1,h2,l,q⟩
def nU:DSp:=λds M Q=>∃x y u v t,ds=[PQ x y,PQ u v,FQ t]/\BQ 60 x/\BQ 60 y/\BQ 60 u/\BQ 60 v/\BQ 60 t/\Q (PQ (pH x u t) (pH y v t)) M
noncomputable abbrev jX:Stmt:=top 61
theorem mX:aR ["_law_p","_law_q","_law_by","_law_way"] ["_law_p","_law_q","_law_by"] (aK jX):=by ac_rfl
theorem rW (hF:cQ K mg "_law_mixed" jX ["_law_p","_law_q","_law_by"])(mF:Has P w K mg base 103 "_law_both" ["_law_p","_law_q","_law_by"] kL)(dF:Has P w K mg base 102 "_law_sum" ["_law_one","_law_other","_law_by"] gI)(fH:Has P w K mg base 102 "_law_product" ["_law_one","_law_other"] gK):Has P w K mg base 104 "_law_mixed" ["_law_p","_law_q","_law_by"] nU:=by
 refine Has.mkZ hF mX (λds M Q ⟨x,y,u,v,t,e,_⟩=>by rw[e];rfl) λf cdv A outer s H ds M Q E hr h=>?_;obtain⟨x,y,u,v,t,rfl,h1,h2,h3,h4,ht,q⟩:=h;refine⟨_,(aE (aS (i:=3) mX.nd (aF mF hr (by decide) (aB (aA 1) (aB (aA 0) (aB (dG aC) aD)))))
  (aH (aP (bW (aB (aF dF hr (by decide) (aB (aG (aA 0) aC) (aB (aF fH hr (by decide) (aB (aG (aA 3) aC) (aB (aA 2) aD))) (aB aC aD)))) (aB (aF dF hr (by decide) (aB (aG (aA 0) aC) (aB (aF fH hr (by decide) (aB (aG (aA 3) aC) (aB (aA 2) aD))) (aB aC aD)))) aD)))))),?_⟩
 ac_nf;refine aI0 (.inr rfl) h3 h4 h1 h2 (by decide) ?_;rw[yI,yI];ac_nf;have b1:=h3.sub h1;have b2:=h4.sub h2;refine aIk b1 ht (by decide) (aFI (.inl rfl) h1 (b1.mul ht) (by decide) (aIk b2 ht (by decide) (aFI (.inl rfl) h2 (b2.mul ht) (by decide) ⟨by decide,M,.refl _,?_⟩)));rw[uD,uD];exact q
def oV:DSp:=λds M Q=>∃a n,ds=[.ref a]/\FdN M a n/\n<=20000/\∀x y u v M',bef x y u v=true->BQ 60 x->BQ 60 y->BQ 60 u->BQ 60 v->FdN M' a (n+12)->Adv M M' a->Q (.tup [PQ x y,PQ u v]) M'
noncomputable abbrev lX:Stmt:=top 63
theorem gR:aR ["_law_from","_law_p","_law_q"] ["_law_from"] (aK lX):=by ac_rfl
theorem tS (hF:cQ K mg "_law_base" lX ["_law_from"])(jH:Has P w K mg base 103 "_law_spot" ["_law_from"] oW)(dF:Has P w K mg base 102 "_law_sum" ["_law_one","_law_other","_law_by"] gI)(kE:Has P w K mg base 101 "_law_first" ["_law_p","_law_q"] nI):Has P w K mg base 104 "_law_base" ["_law_from"] oV:=by
 refine Has.mkZ hF gR (λds M Q ⟨a,n,e,_⟩=>by rw[e];rfl) λf cdv A outer s H ds M Q E hr h=>?_;obtain⟨a,n,rfl,fd,hn,q⟩:=h;refine⟨_,(aE (aS (i:=1) gR.nd (aF jH hr (by decide) (aB (aA 0) aD)))
  (aE (aS (i:=2) gR.nd (aF jH hr (by decide) (aB (aA 0) aD)))
  (aE (cE (aX (eI hr) (aA 1) (aA 2)) (aH (aS (i:=2) gR.nd (bW (aB (aG (aA 1) aC) (aB (aF dF hr (by decide) (aB (aG (aA 1) aC) (aB (bW (aB aC (aB aC aD))) (aB aC aD)))) aD))))) bQ)
  (aE (cE (kY (aF kE hr (by decide) (aB (aA 2) (aB (aA 1) aD)))) (aH (aP (bW (aB (aA 2) (aB (aA 1) aD))))) bQ)
  (aH (aP (bW (aB (aA 1) (aB (aA 2) aD))))))))),?_⟩
 ac_nf;refine⟨a,_,rfl,fd,by omega,λd1 M1 ⟨x,y,ex,hx,hy⟩ fd1 av1=>?_⟩;subst ex;ac_nf;refine⟨a,_,rfl,fd1,by omega,λd2 M2 ⟨u,v,eu,hu,hv⟩ fd2 av2=>?_⟩;subst eu;ac_nf;rw[yG];have av:=av1.trans av2;have m:∀{z:Rat},BQ 24 z->BQ 60 z:=λh=>h.mono (by decide);have k:∀{z:Rat},BQ 60 z->BQ 4400 z:=λh=>h.mono (by decide);by_cases c:x=u/\y=v
 ·refine ifT (decide_eq_true c) ?_;ac_nf;have b1:BQ 60 (y+1):=(hy.add bq1).mono (by decide);refine⟨by decide,?_⟩;rw[show(D.tup [.int 1,.int 1])=FQ 1 from rfl];refine aFI (.inl rfl) hy bq1 (by decide) ?_;rw[uD];ac_nf;have bb:bef x y x (y+1)=true:=by unfold bef;rw[if_pos rfl,decide_eq_true (by grind)]
  refine⟨by decide,_,_,_,_,rfl,k (m hx),k b1,k (m hx),k (m hy),?_⟩;have ne:¬(x=x/\y=y+1):=λz=>by have:=z.2;grind
  rw[mV ne,bb];exact⟨by decide,M2,.refl _,q _ _ _ _ _ bb (m hx) (m hy) (m hx) b1 (fd2.mono (by omega)) av⟩
 ·refine ifF (decide_eq_false c) ⟨_,_,_,_,rfl,k (m hu),k (m hv),k (m hx),k (m hy),?_⟩;rw[mV c];cases bb:bef x y u v with
  |true=>exact⟨by decide,M2,.refl _,q _ _ _ _ _ bb (m hx) (m hy) (m hu) (m hv) (fd2.mono (by omega)) av⟩
  |false =>
   have b2:=mV c;rw[bb] at b2;exact⟨by decide,M2,.refl _,q _ _ _ _ _ b2 (m hu) (m hv) (m hx) (m hy) (fd2.mono (by omega)) av⟩
noncomputable abbrev Sp:=Int×Int
structure Cmp (S L:List Sp):Prop where
 sep:L.Pairwise λx y=>x.2<y.1∨y.2<x.1
 wf:∀x∈L,x.1<=x.2
 cov:∀s∈S,∃x∈L,x.1<=s.1/\s.2<=x.2
 st:∀x∈L,∃s∈S,s.1=x.1
 gap:∀x∈L,∀t,x.1<=t->t<x.2->∃s∈S,s.1<=t/\t<s.2
theorem aH9 {R:Sp->Sp->Prop}(sy:∀x y,R x y->R y x){L:List Sp}(h:L.Pairwise R){x y:Sp}(hx:x∈L)(hy:y∈L)(ne:x≠y):R x y:=by
 induction L with
 |nil=>cases hx
 |cons a L ih =>
  obtain⟨h1,h2⟩:=List.pairwise_cons.mp h;rcases List.mem_cons.mp hx with e1|e1<;>rcases List.mem_cons.mp hy with e2|e2
  ·exact absurd (e1.trans e2.symm) ne
  ·rw[e1];exact h1 y e2
  ·rw[e2];exact sy _ _ (h1 x e1)
  ·exact ih h2 e1 e2
theorem Cmp.ne {S L:List Sp}(h:Cmp S L){x y:Sp}(hx:x∈L)(hy:y∈L)(ne:x≠y):x.2<y.1∨y.2<x.1:=aH9 (R:=λx y=>x.2<y.1∨y.2<x.1) (λ_ _ h=>h.symm) h.sep hx hy ne
theorem Cmp.sub {S L L':List Sp}(wf:∀s∈S,s.1<=s.2)(h:Cmp S L)(h':Cmp S L'):∀x∈L,x∈L':=λx hx=>by
 obtain⟨s,hs,e⟩:=h.st x hx;obtain⟨y,hy,y1,y2⟩:=h'.cov s hs;have ws:=wf s hs;have wx:=h.wf x hx;have e1:y.1=x.1:=by
  refine Classical.byContradiction λne=>?_;obtain⟨s',hs',a1,a2⟩:=h'.gap y hy (x.1-1) (by omega) (by omega);obtain⟨z,hz,z1,z2⟩:=h.cov s' hs';have nz:z≠x:=λe=>by rw[e] at z1;omega
  rcases h.ne hz hx nz with c|c<;>omega
 have e2:y.2=x.2:=by
  rcases Int.lt_trichotomy y.2 x.2 with c|c|c
  ·obtain⟨s',hs',a1,a2⟩:=h.gap x hx y.2 (by omega) c;obtain⟨z,hz,z1,z2⟩:=h'.cov s' hs';have nz:z≠y:=λe=>by rw[e] at z2;omega
   rcases h'.ne hz hy nz with d|d<;>omega
  ·exact c
  ·obtain⟨s',hs',a1,a2⟩:=h'.gap y hy x.2 (by omega) c;obtain⟨z,hz,z1,z2⟩:=h.cov s' hs';have nz:z≠x:=λe=>by rw[e] at z2;omega
   rcases h.ne hz hx nz with d|d<;>omega
 have e:y=x:=Prod.ext e1 e2;rw[<- e];exact hy
theorem Cmp.nodup {S L:List Sp}(h:Cmp S L):L.Nodup:=by
 have:=h.sep;have w:=h.wf;clear h
 induction L with
 |nil=>exact List.nodup_nil
 |cons x L ih =>
  obtain⟨h1,h2⟩:=List.pairwise_cons.mp this;refine List.nodup_cons.mpr ⟨λhx=>?_,ih h2 λy hy=>w y (mem_cons_of_mem _ hy)⟩;have:=w x mem_cons_self;rcases h1 x hx with c|c<;>omega
theorem Cmp.perm {S L L':List Sp}(wf:∀s∈S,s.1<=s.2)(h:Cmp S L)(h':Cmp S L'):L.Perm L' :=
 (List.perm_ext_iff_of_nodup h.nodup h'.nodup).mpr λx=>⟨h.sub wf h' x,h'.sub wf h x⟩
theorem Cmp.of_mem {S S' L:List Sp}(h:Cmp S L)(e:∀s,s∈S↔s∈S'):Cmp S' L :=
 ⟨h.sep,h.wf,λs hs=>h.cov s ((e s).mpr hs),λx hx=>by obtain⟨s,hs,z⟩:=h.st x hx;exact⟨s,(e s).mp hs,z⟩,λx hx t a b=>by obtain⟨s,hs,z⟩:=h.gap x hx t a b;exact⟨s,(e s).mp hs,z⟩⟩
theorem Cmp.self {S L:List Sp}(h:Cmp S L):Cmp L L :=
 ⟨h.sep,h.wf,λs hs=>⟨s,hs,Int.le_refl _,Int.le_refl _⟩,λx hx=>⟨x,hx,rfl⟩,λx hx _ a b=>⟨x,hx,a,b⟩⟩
theorem Cmp.perm_right {S L L':List Sp}(h:Cmp S L)(p:L.Perm L'):Cmp S L' :=
 ⟨h.sep.perm p (λh=>h.symm),λx hx=>h.wf x (p.mem_iff.mpr hx),λs hs=>by obtain⟨x,hx,z⟩:=h.cov s hs;exact⟨x,p.mem_iff.mp hx,z⟩,λx hx=>h.st x (p.mem_iff.mpr hx),λx hx=>h.gap x (p.mem_iff.mpr hx)⟩
noncomputable def jn (W:List Sp)(s:Sp):List Sp:=match W.getLast? with
 |none=>W++[s]
 |some l=>if l.2<s.1 then W++[s] else if l.2<s.2 then W.dropLast++[(l.1,s.2)] else W
structure Jn (S W:List Sp):Prop where
 c:Cmp S W
 asc:W.Pairwise λx y=>x.2<y.1
theorem Jn.step {S W:List Sp}(h:Jn S W){s:Sp}(ws:s.1<=s.2)(hs:∀x∈S,x.1<=s.1):Jn (S++[s]) (jn W s):=by
 have up:∀{x},x∈S->x∈S++[s]:=λh=>mem_append_left _ h;have sm:s∈S++[s]:=mem_append_right _ mem_cons_self;rcases List.eq_nil_or_concat W with z|⟨V,l,z⟩
 ·have e:jn W s=[s]:=by rw[z];rfl
  rw[e];refine⟨⟨pairwise_singleton _ _,λx hx=>by rw[List.mem_singleton.mp hx];exact ws,λx hx=>?_,λx hx=>?_,λx hx t a b=>?_⟩,pairwise_singleton _ _⟩
  ·rcases List.mem_append.mp hx with hx|hx
   ·obtain⟨y,hy,_⟩:=h.c.cov x hx;rw[z] at hy;cases hy
   ·rw[List.mem_singleton.mp hx];exact⟨s,mem_cons_self,Int.le_refl _,Int.le_refl _⟩
  ·rw[List.mem_singleton.mp hx];exact⟨s,sm,rfl⟩
  ·rw[List.mem_singleton.mp hx] at a b;exact⟨s,sm,a,b⟩
 rw[List.concat_eq_append] at z;have gl:W.getLast?=some l:=by rw[z,List.getLast?_concat]
 have asc:=h.asc;rw[z,List.pairwise_append] at asc;obtain⟨av,_,avl⟩:=asc;have avl:∀x∈V,x.2<l.1:=λx hx=>avl x hx l mem_cons_self;have lW:l∈W:=by rw[z];exact mem_append_right _ mem_cons_self
 have vW:∀{x},x∈V->x∈W:=λhx=>by rw[z];exact mem_append_left _ hx
 have wl:=h.c.wf l lW;have ls:l.1<=s.1:=by obtain⟨x,hx,e⟩:=h.c.st l lW;rw[<- e];exact hs x hx
 have asc2:∀{m:Sp},l.1<=m.1->(V++[m]).Pairwise (λx y=>x.2<y.1):=λ{m} hm =>
  List.pairwise_append.mpr ⟨av,pairwise_singleton _ _,λx hx y hy=>by rw[List.mem_singleton.mp hy];have:=avl x hx;omega⟩
 have sep:∀{U:List Sp},U.Pairwise (λx y=>x.2<y.1)->U.Pairwise λx y=>x.2<y.1∨y.2<x.1:=λh=>h.imp λh=>.inl h;have e:jn W s=if l.2<s.1 then W++[s] else if l.2<s.2 then W.dropLast++[(l.1,s.2)] else W:=by unfold jn;rw[gl]
 rw[e];by_cases c1:l.2<s.1
 ·rw[if_pos c1];have asc:(W++[s]).Pairwise λx y=>x.2<y.1:=List.pairwise_append.mpr ⟨h.asc,pairwise_singleton _ _,λx hx y hy=>by
   rw[List.mem_singleton.mp hy];rw[z] at hx;rcases List.mem_append.mp hx with hx|hx
   ·have:=avl x hx;omega
   ·rw[List.mem_singleton.mp hx];exact c1⟩
  refine⟨⟨sep asc,λx hx=>?_,λx hx=>?_,λx hx=>?_,λx hx t a b=>?_⟩,asc⟩
  ·rcases List.mem_append.mp hx with hx|hx
   ·exact h.c.wf x hx
   ·rw[List.mem_singleton.mp hx];exact ws
  ·rcases List.mem_append.mp hx with hx|hx
   ·obtain⟨y,hy,q⟩:=h.c.cov x hx;exact⟨y,mem_append_left _ hy,q⟩
   ·exact⟨s,mem_append_right _ mem_cons_self,by rw[List.mem_singleton.mp hx];exact⟨Int.le_refl _,Int.le_refl _⟩⟩
  ·rcases List.mem_append.mp hx with hx|hx
   ·obtain⟨y,hy,q⟩:=h.c.st x hx;exact⟨y,up hy,q⟩
   ·rw[List.mem_singleton.mp hx];exact⟨s,sm,rfl⟩
  ·rcases List.mem_append.mp hx with hx|hx
   ·obtain⟨y,hy,q⟩:=h.c.gap x hx t a b;exact⟨y,up hy,q⟩
   ·rw[List.mem_singleton.mp hx] at a b;exact⟨s,sm,a,b⟩
 rw[if_neg c1];by_cases c2:l.2<s.2
 ·rw[if_pos c2,z,List.dropLast_concat];have asc:=asc2 (m:=(l.1,s.2)) (Int.le_refl _);refine⟨⟨sep asc,λx hx=>?_,λx hx=>?_,λx hx=>?_,λx hx t a b=>?_⟩,asc⟩
  ·rcases List.mem_append.mp hx with hx|hx
   ·exact h.c.wf x (vW hx)
   ·rw[List.mem_singleton.mp hx];show l.1<=s.2;omega
  ·have lst:(l.1,s.2)∈V++[(l.1,s.2)]:=mem_append_right _ mem_cons_self;rcases List.mem_append.mp hx with hx|hx
   ·obtain⟨y,hy,q⟩:=h.c.cov x hx;rw[z] at hy;rcases List.mem_append.mp hy with hy|hy
    ·exact⟨y,mem_append_left _ hy,q⟩
    ·rw[List.mem_singleton.mp hy] at q;exact⟨_,lst,q.1,by show x.2<=s.2;omega⟩
   ·rw[List.mem_singleton.mp hx];exact⟨_,lst,ls,Int.le_refl _⟩
  ·rcases List.mem_append.mp hx with hx|hx
   ·obtain⟨y,hy,q⟩:=h.c.st x (vW hx);exact⟨y,up hy,q⟩
   ·obtain⟨y,hy,q⟩:=h.c.st l lW;rw[List.mem_singleton.mp hx];exact⟨y,up hy,q⟩
  ·rcases List.mem_append.mp hx with hx|hx
   ·obtain⟨y,hy,q⟩:=h.c.gap x (vW hx) t a b;exact⟨y,up hy,q⟩
   ·rw[List.mem_singleton.mp hx] at a b;have a:l.1<=t:=a;have b:t<s.2:=b;by_cases d:t<l.2
    ·obtain⟨y,hy,q⟩:=h.c.gap l lW t a d;exact⟨y,up hy,q⟩
    ·exact⟨s,sm,by omega,b⟩
 ·rw[if_neg c2];refine⟨⟨h.c.sep,h.c.wf,λx hx=>?_,λx hx=>?_,λx hx t a b=>?_⟩,h.asc⟩
  ·rcases List.mem_append.mp hx with hx|hx
   ·exact h.c.cov x hx
   ·rw[List.mem_singleton.mp hx];exact⟨l,lW,ls,by omega⟩
  ·obtain⟨y,hy,q⟩:=h.c.st x hx;exact⟨y,up hy,q⟩
  ·obtain⟨y,hy,q⟩:=h.c.gap x hx t a b;exact⟨y,up hy,q⟩
theorem Jn.nil:Jn [] []:=⟨⟨.nil,(λ_ h=>by cases h),(λ_ h=>by cases h),(λ_ h=>by cases h),(λ_ h=>by cases h)⟩,.nil⟩
theorem aEZ:∀{S:List Sp}{pre W:List Sp},Jn pre W->(∀s∈S,s.1<=s.2)->S.Pairwise (λa b=>a.1<=b.1)->(∀x∈pre,∀s∈S,x.1<=s.1)->Jn (pre++S) (S.foldl jn W)
 |[],pre,W,h,_,_,_=>by rw[append_nil];exact h
 |s::S,pre,W,h,wf,so,hp=>by
  obtain⟨s1,s2⟩:=List.pairwise_cons.mp so;have:=aEZ (S:=S) (h.step (wf s mem_cons_self) λx hx=>hp x hx s mem_cons_self) (λx hx=>wf x (mem_cons_of_mem _ hx)) s2 λx hx y hy=>by
   rcases List.mem_append.mp hx with hx|hx
   ·exact hp x hx y (mem_cons_of_mem _ hy)
   ·rw[List.mem_singleton.mp hx];exact s1 y hy
  rw[append_assoc] at this;exact this
theorem aBJ {S:List Sp}(wf:∀s∈S,s.1<=s.2)(so:S.Pairwise λa b=>a.1<=b.1):Cmp S (S.foldl jn []):=(aEZ Jn.nil wf so λx hx=>by cases hx).c
theorem Cmp.dots {S J:List Sp}{ns:List Int}(wf:∀s∈S,s.1<=s.2)(h:Cmp (S.filter λs=>s.1<s.2) J)(nd:ns.Nodup)(hn:∀n,n∈ns↔(n,n)∈S/\¬ ∃x∈J,x.1<=n/\n<=x.2):Cmp S (J++ns.map λn=>(n,n)):=by
 have ft:∀{s},s∈S.filter (λs=>s.1<s.2)->s∈S:=λh=>(List.mem_filter.mp h).1;refine⟨List.pairwise_append.mpr ⟨h.sep,?_,λx hx y hy=>?_⟩,λx hx=>?_,λs hs=>?_,λx hx=>?_,λx hx t a b=>?_⟩
 ·rw[pairwise_map];exact nd.imp λ{a b} h=>by show a<b∨b<a;omega
 ·obtain⟨n,hn',rfl⟩:=List.mem_map.mp hy;have:=((hn n).mp hn').2;have wx:=h.wf x hx;show x.2<n∨n<x.1;refine Classical.byContradiction λc=>this ⟨x,hx,by omega,by omega⟩
 ·rcases List.mem_append.mp hx with hx|hx
  ·exact h.wf x hx
  ·obtain⟨n,_,rfl⟩:=List.mem_map.mp hx;exact Int.le_refl _
 ·have ws:=wf s hs;by_cases c:s.1<s.2
  ·obtain⟨x,hx,q⟩:=h.cov s (List.mem_filter.mpr ⟨hs,by simpa using c⟩);exact⟨x,mem_append_left _ hx,q⟩
  ·have e:s=(s.1,s.1):=Prod.ext rfl (by show s.2=s.1;omega);by_cases d:∃x∈J,x.1<=s.1/\s.1<=x.2
   ·obtain⟨x,hx,a,b⟩:=d;exact⟨x,mem_append_left _ hx,a,by omega⟩
   ·refine⟨(s.1,s.1),mem_append_right _ (List.mem_map.mpr ⟨s.1,(hn _).mpr ⟨by rw[<- e];exact hs,d⟩,rfl⟩),Int.le_refl _,by show s.2<=s.1;omega⟩
 ·rcases List.mem_append.mp hx with hx|hx
  ·obtain⟨s,hs,e⟩:=h.st x hx;exact⟨s,ft hs,e⟩
  ·obtain⟨n,hn',rfl⟩:=List.mem_map.mp hx;exact⟨_,((hn n).mp hn').1,rfl⟩
 ·rcases List.mem_append.mp hx with hx|hx
  ·obtain⟨s,hs,e⟩:=h.gap x hx t a b;exact⟨s,ft hs,e⟩
  ·obtain⟨n,hn',rfl⟩:=List.mem_map.mp hx;have a:n<=t:=a;have b:t<n:=b;omega
theorem Cmp.long {S J:List Sp}(h:Cmp (S.filter λs=>s.1<s.2) J):∀x∈J,x.1<x.2:=λx hx=>by
 obtain⟨s,hs,e⟩:=h.st x hx;obtain⟨y,hy,a,b⟩:=h.cov s hs;have c:s.1<s.2:=by simpa using(List.mem_filter.mp hs).2
 have wy:=h.wf y hy;have wx:=h.wf x hx;by_cases d:x=y
 ·rw[d] at e ⊢;omega
 ·rcases h.ne hx hy d with f|f<;>omega
theorem vS:∀(S W:List Sp),(S.foldl jn W).length<=W.length+S.length
 |[],W=>Nat.le_refl _
 |s::S,W=>by
  have:=vS S (jn W s);have:(jn W s).length<=W.length+1:=by
   unfold jn;split
   ·rw[length_append];exact Nat.le_refl _
   ·split
    ·rw[length_append];exact Nat.le_refl _
    ·split
     ·rw[length_append,List.length_dropLast];show _+1<=_;omega
     ·omega
  rw[foldl_cons,length_cons];omega
theorem Cmp.en {S L:List Sp}(h:Cmp S L){x:Sp}(hx:x∈L)(l:x.1<x.2):∃s∈S,s.2=x.2:=by
 obtain⟨s,hs,a,b⟩:=h.gap x hx (x.2-1) (by omega) (by omega);obtain⟨y,hy,c,d⟩:=h.cov s hs;by_cases e:y=x
 ·exact⟨s,hs,by rw[e] at d;omega⟩
 ·rcases h.ne hy hx e with f|f<;>omega
theorem Cmp.all {S L:List Sp}(h:Cmp S L){R:Int->Prop}(hS:∀s∈S,R s.1/\R s.2):∀x∈L,R x.1/\R x.2:=λx hx=>by
 obtain⟨s,hs,e⟩:=h.st x hx;have r1:R x.1:=by rw[<- e];exact(hS s hs).1
 by_cases l:x.1<x.2
 ·obtain⟨t,ht,e⟩:=h.en hx l;exact⟨r1,by rw[<- e];exact(hS t ht).2⟩
 ·have:=h.wf x hx;exact⟨r1,by rw[show x.2=x.1 by omega];exact r1⟩
structure Ln where
 x:Rat
 y:Rat
 u:Rat
 v:Rat
 q:Int
structure Ln.Ok (c:Ln):Prop where
 ab:bef c.x c.y c.u c.v=true
 q0:0<c.q
 q1:c.q<=60
 bx:BQ 60 c.x
 b_y:BQ 60 c.y
 bu:BQ 60 c.u
 bv:BQ 60 c.v
noncomputable def Ln.sh (c:Ln)(t:Int):Rat:=(t:Rat)/(c.q:Rat)
noncomputable def Ln.X (c:Ln)(t:Int):Rat:=pH c.x c.u (c.sh t)
noncomputable def Ln.Y (c:Ln)(t:Int):Rat:=pH c.y c.v (c.sh t)
noncomputable def Ln.pd (c:Ln)(t:Int):D:=PQ (c.X t) (c.Y t)
theorem Ln.Ok.sh_lt {c:Ln}(h:c.Ok){s t:Int}(l:s<t):c.sh s<c.sh t:=by
 have hq:(0:Rat)<(c.q:Rat):=aEk h.q0;have e1:c.sh s*(c.q:Rat)=s:=Rat.div_mul_cancel (by grind);have e2:c.sh t*(c.q:Rat)=t:=Rat.div_mul_cancel (by grind);have l':(s:Rat)<(t:Rat):=by exact_mod_cast l
 by_cases z:c.sh s<c.sh t
 ·exact z
 ·have:=Rat.mul_nonneg (show 0<=c.sh s-c.sh t by grind) (Rat.le_of_lt hq);grind
theorem aAi {k k' x u:Rat}(h:k<k')(hx:x<u):pH x u k<pH x u k':=by have:=Rat.mul_pos (show 0<k'-k by grind) (show 0<u-x by grind);unfold pH;grind
theorem sG (k x:Rat):pH x x k=x:=by unfold pH;grind
theorem Ln.Ok.up {c:Ln}(h:c.Ok){s t:Int}(l:s<t):bef (c.X s) (c.Y s) (c.X t) (c.Y t)=true:=by
 have hk:=h.sh_lt l;have hb:=h.ab;unfold bef at hb ⊢;unfold Ln.X Ln.Y;by_cases e:c.x=c.u
 ·rw[if_pos e] at hb;have hb:=of_decide_eq_true hb;rw[e,sG,sG,if_pos rfl];exact decide_eq_true (aAi hk hb)
 ·rw[if_neg e] at hb;have hb:=of_decide_eq_true hb;have:=aAi hk hb;rw[if_neg (λz=>by rw[z] at this;grind)];exact decide_eq_true this
theorem Ln.Ok.bfx {c:Ln}(h:c.Ok)(s t:Int):bef (c.X s) (c.Y s) (c.X t) (c.Y t)=decide (s<t):=by
 rcases Int.lt_trichotomy s t with l|l|l
 ·rw[h.up l,decide_eq_true l]
 ·rw[l,jT,decide_eq_false (by omega)]
 ·have e:¬(c.X t=c.X s/\c.Y t=c.Y s):=λ⟨z1,z2⟩=>by have:=h.up l;rw[z1,z2,jT] at this;cases this
  rw[mV e,h.up l,decide_eq_false (by omega)];rfl
theorem Ln.Ok.ne {c:Ln}(h:c.Ok){s t:Int}(n:s≠t):¬(c.X s=c.X t/\c.Y s=c.Y t):=λ⟨z1,z2⟩=>by have a:=h.bfx s t;have b:=h.bfx t s;rw[z1,z2,jT] at a;rw[z1,z2,jT] at b;have:=of_decide_eq_false a.symm;have:=of_decide_eq_false b.symm;omega
theorem aFK {x y u v:Rat}(h:PQ x y=PQ u v):x=u/\y=v:=by
 unfold PQ FQ at h;injection h with h
 injection h with h1 h
 injection h with h2 _
 injection h1 with h1
 injection h1 with h1 h3
 injection h3 with h3 _
 injection h1 with h1
 injection h3 with h3
 injection h2 with h2
 injection h2 with h2 h4
 injection h4 with h4 _
 injection h2 with h2
 injection h4 with h4
 exact⟨Rat.ext h1 (by exact_mod_cast h3),Rat.ext h2 (by exact_mod_cast h4)⟩
theorem Ln.Ok.inj {c:Ln}(h:c.Ok){s t:Int}(e:c.pd s=c.pd t):s=t :=
 Classical.byContradiction λn=>h.ne n (aFK e)
theorem Ln.col (c:Ln)(r s t:Int):fC (c.X r) (c.Y r) (c.X s) (c.Y s) (c.X t) (c.Y t)=0:=by unfold fC Ln.X Ln.Y pH;grind
theorem Ln.on {c:Ln}(h:c.Ok)(a b t:Int):onS (c.X a) (c.Y a) (c.X b) (c.Y b) (c.X t) (c.Y t)=decide (a<=t/\t<=b):=by
 unfold onS;rw[c.col,decide_eq_true rfl,Bool.true_and,h.bfx,h.bfx];by_cases l1:t<a
 ·rw[decide_eq_true l1,decide_eq_false (show ¬(a<=t/\t<=b) by omega)];rfl
 ·by_cases l2:b<t
  ·rw[decide_eq_false l1,decide_eq_true l2,decide_eq_false (show ¬(a<=t/\t<=b) by omega)];rfl
  ·rw[decide_eq_false l1,decide_eq_false l2,decide_eq_true (show a<=t/\t<=b by omega)];rfl
def InR (t:Int):Prop:=0<=t/\t<64000000
theorem Ln.Ok.bsh {c:Ln}(h:c.Ok){t:Int}(ht:InR t):BQ 60 (c.sh t):=.make (by have:=h.q0;omega) (by unfold Bd;have:=ht.1;have:=ht.2;omega) (by unfold Bd;have:=h.q0;have:=h.q1;omega)
theorem Ln.Ok.bX {c:Ln}(h:c.Ok){t:Int}(ht:InR t):BQ 300 (c.X t):=(h.bx.add ((h.bu.sub h.bx).mul (h.bsh ht))).mono (by decide)
theorem Ln.Ok.bY {c:Ln}(h:c.Ok){t:Int}(ht:InR t):BQ 300 (c.Y t):=(h.b_y.add ((h.bv.sub h.b_y).mul (h.bsh ht))).mono (by decide)
noncomputable def Ln.str (c:Ln)(s:Sp):D:=.tup [.str "stretch",c.pd s.1,c.pd s.2]
noncomputable def Ln.dot (c:Ln)(t:Int):D:=.tup [.str "dot",c.pd t]
noncomputable def Ln.pc (c:Ln)(s:Sp):D:=if s.1=s.2 then c.dot s.1 else c.str s
theorem Ln.pc_dot (c:Ln)(t:Int):c.pc (t,t)=c.dot t:=if_pos rfl
theorem Ln.pc_str (c:Ln){s:Sp}(h:s.1<s.2):c.pc s=c.str s:=if_neg (by omega)
theorem Ln.Ok.dot_inj {c:Ln}(h:c.Ok){s t:Int}(e:c.dot s=c.dot t):s=t:=by
 unfold Ln.dot at e;injection e with e
 injection e with _ e
 injection e with e _
 exact h.inj e
noncomputable def Ln.ky (c:Ln):D:=nM c.x c.y c.u c.v
theorem Ln.key (c:Ln):∃a b d:Int,c.ky = .tup [.str "line",.int a,.int b,.int d]:=⟨_,_,_,rfl⟩
theorem Ln.Ok.line {c:Ln}(h:c.Ok){s t:Int}(n:s≠t):nM (c.X s) (c.Y s) (c.X t) (c.Y t)=c.ky:=by
 have n0:¬(c.x=c.u/\c.y=c.v):=λ⟨z1,z2⟩=>by have:=h.ab;rw[z1,z2,jT] at this;cases this
 exact(aEh (h.ne n) n0).mpr ⟨by unfold fC Ln.X Ln.Y pH;grind,by unfold fC Ln.X Ln.Y pH;grind⟩
noncomputable def Ln.lt (c:Ln)(x y:D):Bool:=@decide (∃s t,x=c.pd s/\y=c.pd t/\s<t) (Classical.propDecidable _)
theorem Ln.Ok.lt_eq {c:Ln}(h:c.Ok)(s t:Int):c.lt (c.pd s) (c.pd t)=decide (s<t):=by
 unfold Ln.lt;by_cases l:s<t
 ·rw[decide_eq_true l];exact @decide_eq_true _ (Classical.propDecidable _) ⟨s,t,rfl,rfl,l⟩
 ·rw[decide_eq_false l];exact @decide_eq_false _ (Classical.propDecidable _) λ⟨a,b,e1,e2,z⟩=>l (by rw[h.inj e1,h.inj e2];exact z)
def Ln.dom (c:Ln)(d:D):Prop:=∃t,InR t/\d=c.pd t
noncomputable def Ln.s3 (c:Ln)(s:Sp):S3:=⟨c.pd s.1,c.pd s.2,.non⟩
theorem Ln.Ok.jst1 {c:Ln}(h:c.Ok)(W:List Sp)(s:Sp):jst c.lt (W.map c.s3) (c.s3 s)=(jn W s).map c.s3:=by
 unfold Lw.jst jn;rw[List.getLast?_map];cases W.getLast? with
 |none=>rw[Option.map_none];dsimp only;rw[map_append];rfl
 |some l =>
  rw[Option.map_some];dsimp only;by_cases c1:l.2<s.1
  ·rw[if_pos (show c.lt (c.s3 l).b (c.s3 s).a=true from(h.lt_eq _ _).trans (decide_eq_true c1)),if_pos c1,map_append];rfl
  ·rw[if_neg (show ¬c.lt (c.s3 l).b (c.s3 s).a=true from λz=>c1 (of_decide_eq_true ((h.lt_eq _ _).symm.trans z))),if_neg c1];by_cases c2:l.2<s.2
   ·rw[if_pos (show c.lt (c.s3 l).b (c.s3 s).b=true from(h.lt_eq _ _).trans (decide_eq_true c2)),if_pos c2,map_append,List.map_dropLast];rfl
   ·rw[if_neg (show ¬c.lt (c.s3 l).b (c.s3 s).b=true from λz=>c2 (of_decide_eq_true ((h.lt_eq _ _).symm.trans z))),if_neg c2]
theorem Ln.Ok.jsp1 {c:Ln}(h:c.Ok)(S:List Sp):jsp c.lt (S.map c.s3)=(S.foldl jn []).map c.s3:=by
 have:∀(S W:List Sp),(S.map c.s3).foldl (Lw.jst c.lt) (W.map c.s3)=(S.foldl jn W).map c.s3:=λS=>by
  induction S with
  |nil=>intro W;rfl
  |cons s S ih =>
   intro W;rw[map_cons,foldl_cons,foldl_cons,h.jst1];exact ih _
 exact this S []
theorem Ln.Ok.ltOk {c:Ln}(h:c.Ok):aEc c.dom c.lt where
 asym:=λx y ⟨s,_,e1⟩ ⟨t,_,e2⟩ z=>by subst e1 e2;rw[h.lt_eq] at z ⊢;have z:=of_decide_eq_true z;exact decide_eq_false (by omega)
 tr:=λx y z ⟨s,_,e1⟩ ⟨t,_,e2⟩ ⟨r,_,e3⟩ a b=>by subst e1 e2 e3;rw[h.lt_eq] at a b ⊢;have a:=of_decide_eq_false a;have b:=of_decide_eq_false b;exact decide_eq_false (by omega)
theorem Ln.Ok.joined {c:Ln}(h:c.Ok){S:List Sp}(wf:∀s∈S,s.1<=s.2){zs:List S3}(pm:zs.Perm (S.map c.s3))(so:yW c.lt (zs.map s3D)):∃J,Cmp S J/\jsp c.lt zs=J.map c.s3/\J.length<=S.length:=by
 obtain⟨Z,rfl,pz⟩:=fP pm.symm S rfl;have so':Z.Pairwise λa b=>a.1<=b.1:=by unfold yW at so;rw[pairwise_map,pairwise_map] at so;refine so.imp λ{a b} z=>?_;have z:c.lt (c.pd b.1) (c.pd a.1)=false:=z;rw[h.lt_eq] at z;have:=of_decide_eq_false z;omega
 have lz:=vS Z [];have lp:=pz.length_eq;have ln:([]:List Sp).length=0:=rfl;exact⟨Z.foldl jn [],(aBJ (λs hs=>wf s (pz.mem_iff.mpr hs)) so').of_mem λs=>pz.symm.mem_iff,h.jsp1 Z,by omega⟩
def InS (s:Sp):Prop:=InR s.1/\InR s.2
def aAz (pt:Addr):DSp:=λds M Q=>∃(l:Addr)(c:Ln) (S:List Sp),ds = [.ref l]/\c.Ok/\M (.l l) = some (S.map c.str)/\(∀s∈S,InS s/\s.1<s.2)/\S.length<=100/\M (.x pt) = some [.str "joined_spans.<locals>.<lambda>"] /\
 ∀(p:Addr)(M':DM) (J:List Sp),bG M M'->M (.l p)=none->M' (.l p)=some (J.map c.str)->Cmp S J->J.length<=S.length->Q (.ref p) M'
def aE9:DSp:=λds M Q=>∃(l1 l2:Addr)(c:Ln) (S J:List Sp),ds=[.ref l1,.ref l2]/\c.Ok/\M (.l l1)=some (S.map c.pc)/\M (.l l2)=some (J.map c.str)/\(∀s∈S,InS s)/\(∀s∈J,InS s)/\S.length<=100/\J.length<=100 /\
 ∀(p:Addr)(M':DM) (ns:List Int),bG M M'->M (.l p)=none->M' (.l p)=some (ns.map c.dot)->ns.Nodup->(∀n,n∈ns↔(n,n)∈S/\¬ ∃x∈J,x.1<=n/\n<=x.2)->ns.length<=S.length->Q (.ref p) M'
noncomputable def spD (s:Sp):D:=.tup [.int s.1,.int s.2]
theorem eX {M M':DM}(s:bG M M'){b:AK}(h:M' b=none):M b=none:=by
 cases e:M b with
 |none=>rfl
 |some o=>rw[s _ _ e] at h;cases h
theorem Ln.Ok.ear {c:Ln}(h:c.Ok)(eG:Has P w K mg base 102 "before" ["p","q"] iM){g:Addr}(hg:mg "before"=some (.ref g)):aAy P w K mg base 106 g c.dom c.lt :=
 ⟨_,_,_,hg,eG.mono (by decide),λx y M Q ⟨s,hs,e1⟩ ⟨t,ht,e2⟩ q=>by have m:∀{z:Rat},BQ 300 z->BQ 4400 z:=λh=>h.mono (by decide);refine⟨_,_,_,_,by rw[e1,e2];rfl,m (h.bX hs),m (h.bY hs),m (h.bX ht),m (h.bY ht),?_⟩;rw[h.bfx,<- h.lt_eq,<- e1,<- e2];exact q⟩
noncomputable abbrev cM:Stmt:=top 47
theorem fX:aR ["stretches","spans"] ["stretches"] (aK cM):=by ac_rfl
theorem jS {pt:Addr}(hF:cQ K mg "joined_stretches" cM ["stretches"])(eG:Has P w K mg base 102 "before" ["p","q"] iM)(gG:Has P w K mg base 120 "joined_spans" ["spans","earlier"] (aE6 P w K mg base pt)):Has P w K mg base 122 "joined_stretches" ["stretches"] (aAz pt):=by
 obtain⟨gb,_,_,hgb,_⟩:=id eG;have g_before:aGq K mg "before" (.ref gb):=⟨_,.ref gb,hgb,rfl,λH=>cK⟩;refine Has.mkZ hF fX (λds M Q ⟨_,_,_,e,_⟩=>by rw[e];rfl) λf cdv A outer s H ds M Q E hr h=>?_;obtain⟨l,c,S,rfl,ok,hl,hS,ln,hP,q⟩:=h;refine⟨_,(aE (yS (i:=1) (⟨rfl,by decide +kernel,by decide +kernel,by decide +kernel,rfl,by decide +kernel⟩:vF ["stretches","spans"] (aK cM) ["piece"] [none] _) rfl fX.nd (aA 0) (λ_ _ _ _ _=>(aZ (i:=0) (show Nodup (["piece"]:List Str) by decide +kernel))) (λ_ _ _ _ _=>(bW (aB (aG (aA 0) aC) (aB (aG (aA 0) aC) (aB uB aD))))))
  (aH (aP (aAp (⟨rfl,by decide +kernel,by decide +kernel,by decide +kernel,rfl,by decide +kernel⟩:vF ["stretches","spans"] (aK cM) ["p","q","number"] [none,none,none] _) rfl (aF gG hr (by decide) (aB (aA 1) (aB (aA6 g_before) aD))) (λ_ _ _ _ _=>(fY (n:=3) rfl (bL (aZ (i:=0) (show Nodup (["p","q","number"]:List Str) by decide +kernel)) (bL (aZ (i:=1) (show Nodup (["p","q","number"]:List Str) by decide +kernel)) (bL (aZ (i:=2) (show Nodup (["p","q","number"]:List Str) by decide +kernel)) eP))))) (λ_ _ _ _ _=>(bW (aB dQ (aB (aA 0) (aB (aA 1) aD))))))))),?_⟩
 ac_nf;refine⟨_,hl,by rw[length_map];omega,λi ys M'=>M'=M/\ys=(S.take i).map λs=>s3D (c.s3 s),⟨rfl,rfl⟩,?_,?_,?_⟩
 ·rintro i ys M' _ ⟨rfl,_⟩ a e;cases e;exact hl
 ·rintro i d ys M' hd ⟨rfl,rfl⟩;rw[getElem?_map] at hd;obtain⟨s,hs,rfl⟩:=Option.map_eq_some_iff.mp hd;dsimp only[Ln.str];ac_nf;exact⟨by decide,rfl,by rw[fO hs,map_append];rfl⟩
 rintro ys M' - ⟨e0,rfl⟩ p1 hp1;rw[e0] at hp1 ⊢;clear e0 M';rw[length_map,take_length];ac_nf;have n1:l≠p1:=bP hl hp1;refine⟨p1,gb,S.map c.s3,c.dom,c.lt,rfl,by rw[aI,map_map];rfl,λx hx=>?_,by rw[length_map];omega,by rw[kQ];exact hP,ok.ear eG hgb,ok.ltOk,λp2 M2 zs s2 n2 e2 pm so=>?_⟩
 ·obtain⟨s,hs,rfl⟩:=List.mem_map.mp hx;exact⟨⟨_,(hS s hs).1.1,rfl⟩,_,(hS s hs).1.2,rfl⟩
 obtain⟨J,cj,ej,lj⟩:=ok.joined (λs hs=>Int.le_of_lt (hS s hs).2) pm so;rw[ej] at e2;ac_nf;refine⟨_,e2,by rw[length_map,length_map];omega,λi ys M'=>M'=M2/\ys=(J.take i).map c.str,⟨rfl,rfl⟩,?_,?_,?_⟩
 ·rintro i ys M' _ ⟨rfl,_⟩ a e;cases e;exact e2
 ·rintro i d ys M' hd ⟨rfl,rfl⟩;rw[getElem?_map,getElem?_map] at hd;obtain⟨x,hx,rfl⟩:=Option.map_eq_some_iff.mp hd;obtain⟨s,hs,rfl⟩:=Option.map_eq_some_iff.mp hx;dsimp only[s3D,Ln.s3];ac_nf;exact⟨rfl,by decide,rfl,by rw[fO hs,map_append];rfl⟩
 rintro ys M3 - ⟨e0,rfl⟩ p3 hp3;rw[e0] at hp3 ⊢;clear e0 M3;rw[length_map,length_map,take_length];have s1:bG M (aU M p1 ((S.map λs=>s3D (c.s3 s)))):=bG.new hp1 _;refine lM (q p3 _ J (s1.trans (s2.trans (bG.new hp3 _))) (eX (s1.trans s2) hp3) (by rw[aI]) cj lj)
noncomputable def Ln.kv (c:Ln)(ns:List Int):List (D×D):=ns.map λn=>(c.dot n,.bl true)
theorem Ln.kv_keys (c:Ln)(ns:List Int):(c.kv ns).map (·.1)=ns.map c.dot:=by unfold Ln.kv;rw[map_map];rfl
theorem Ln.Ok.tk {c:Ln}(h:c.Ok){ns:List Int}(nd:ns.Nodup):TK (c.kv ns):=by
 refine⟨λp hp=>?_,?_⟩
 ·obtain⟨n,_,rfl⟩:=List.mem_map.mp hp;exact⟨⟨_,rfl⟩,rfl⟩
 ·rw[c.kv_keys];exact nd.map (S:=λa b=>a≠b) c.dot λa b n e=>n (h.dot_inj e)
noncomputable abbrev hO:Stmt:=top 46
theorem iY:aR ["pieces","others","dots","piece"] ["pieces","others"] (aK hO):=by ac_rfl
theorem rT (hF:cQ K mg "lone_dots" hO ["pieces","others"])(aGc:Has P w K mg base 104 "on" ["piece","p"] aBA)(aC4:mg "any" = none)(iB:mg "list" = none):Has P w K mg base 122 "lone_dots" ["pieces","others"] aE9:=by
 refine Has.mkZ hF iY (λds M Q ⟨_,_,_,_,_,e,_⟩=>by rw[e];rfl) λf cdv A outer s H ds M Q E hr h=>?_;obtain⟨l1,l2,c,S,J,rfl,ok,h1,h2,hS,hJ,ln1,ln2,q⟩:=h;refine⟨_,(aE (aS (i:=2) iY.nd tE)
  (aE (gE PassesOwn.never rfl (aA 0) (aZ (i:=3) iY.nd) (aH (cE (lN (jC (aX (eI hr) (aG (aA 3) aC) dQ) (jC (aX (aAY hr) (aA 3) (aA 2) rfl) (iP (tO (kY (cL (aHo rfl) aC4 (aB (aAp (⟨rfl,by decide +kernel,by decide +kernel,by decide +kernel,rfl,by decide +kernel⟩:vF ["pieces","others","dots","piece"] (aK hO) ["other","piece"] [none,some 3] _) rfl (aA 1) (λ_ _ _ _ _=>(aZ (i:=0) (show Nodup (["other","piece"]:List Str) by decide +kernel))) (λ_ _ _ _ _=>(aF aGc hr (by decide) (aB (aA 0) (aB (aG (aA 1) aC) aD))))) aD)))))))) (aH (fM uI (aAM hr (aA 2) (aA 3)))) bQ)))
  (aH (aP (gH (aCb rfl) iB (aB (aA 2) aD)))))),?_⟩
 ac_nf;intro g hg;have s0:=bG.newK hg [];refine⟨_,s0 _ _ h1,λi ρ M'=>bG M M'/\(∃ns:List Int,M' (.d g)=some (dS w (c.kv ns))/\ns.Nodup/\(∀n,n∈ns↔(n,n)∈S.take i/\¬ ∃x∈J,x.1<=n/\n<=x.2)/\ns.length<=i)/\∃o,ρ=[some (.ref l1),some (.ref l2),some (.ref g),o],⟨s0,⟨[],gC,List.nodup_nil,λn=>by simp,Nat.le_refl _⟩,none,rfl⟩,?_,?_,?_⟩
 ·rintro i ρ M' _ ⟨s1,_⟩ a e;cases e;exact s1 _ _ h1
 ·rintro i d ρ M' hd ⟨s1,⟨ns,hn,nd,mem,ln⟩,o,rfl⟩;rw[getElem?_map] at hd;obtain⟨s,hs,rfl⟩:=Option.map_eq_some_iff.mp hd;have tk:=ok.tk nd;have tki:=fO hs;have hi:=(List.getElem?_eq_some_iff.mp hs).1;have skip:(s.1=s.2->s.1∈ns ∨ ∃x∈J,x.1<=s.1/\s.1<=x.2)->∀n,n∈ns↔(n,n)∈S.take (i+1)/\¬ ∃x∈J,x.1<=n/\n<=x.2:=λhz n=>by rw[tki,List.mem_append,mem_singleton,mem];refine⟨λz=>⟨.inl z.1,z.2⟩,λ⟨z,y⟩=>z.elim (λz=>⟨z,y⟩) λz=>?_⟩;rw[<- z] at hz;exact(hz rfl).elim (λz=>(mem n).mp z) λz=>absurd z y
  by_cases z:s.1=s.2
  ·have es:c.pc s=c.dot s.1:=if_pos z;rw[es];dsimp only[Ln.dot];ac_nf;rw[fN];refine ifT rfl ⟨_,hn,tk,⟨⟨_,rfl⟩,rfl⟩,?_⟩;rw[show(D.tup [.str "dot",c.pd s.1])=c.dot s.1 from rfl];ac_nf;have rs:=(hS s (mem_of_getElem? hs)).1;by_cases y:s.1∈ns
   ·have hk:c.dot s.1∈(c.kv ns).map (·.1):=by rw[c.kv_keys];exact List.mem_map.mpr ⟨_,y,rfl⟩
    exact ifF (by rw[decide_eq_true hk];rfl) (ifF rfl ⟨s1,⟨ns,hn,nd,skip λ_=>.inl y,by omega⟩,_,rfl⟩)
   ·have hk:c.dot s.1∉(c.kv ns).map (·.1):=by rw[c.kv_keys];intro hk;obtain⟨n,hn,e⟩:=List.mem_map.mp hk;exact y (by rw[<- ok.dot_inj e];exact hn)
    refine ifT (by rw[decide_eq_false hk];rfl) ⟨_,s1 _ _ h2,by rw[length_map];omega,λj ys M2=>M2=M'/\ys=((J.take j).map λx=>decide (x.1<=s.1/\s.1<=x.2)).map D.bl,⟨rfl,rfl⟩,?_,?_,?_⟩
    ·rintro j ys M2 _ ⟨rfl,_⟩ a e;cases e;exact s1 _ _ h2
    ·rintro j d ys M2 hd2 ⟨rfl,rfl⟩;rw[getElem?_map] at hd2;obtain⟨x,hx,rfl⟩:=Option.map_eq_some_iff.mp hd2;dsimp only[Ln.dot];ac_nf;have m:∀{z:Rat},BQ 300 z->BQ 900 z:=λh=>h.mono (by decide);have rx:=hJ x (mem_of_getElem? hx);refine⟨_,_,_,_,_,_,rfl,m (ok.bX rx.1),m (ok.bY rx.1),m (ok.bX rx.2),m (ok.bY rx.2),m (ok.bX rs),m (ok.bY rs),?_⟩;rw[Ln.on ok];exact⟨rfl,by rw[fO hx,map_append,map_append];rfl⟩
    rintro ys M2 - ⟨e0,rfl⟩ pa hpa;rw[e0] at hpa ⊢;clear e0 M2;rw[length_map,take_length];refine⟨_,aI,?_⟩;have s2:=s1.trans (bG.new hpa (map D.bl (J.map λx=>decide (x.1<=s.1/\s.1<=x.2))));have hn2:aU M' pa (map D.bl (J.map λx=>decide (x.1<=s.1/\s.1<=x.2))) (.d g)=some (dS w (c.kv ns)):=by rw[gO];exact hn
    generalize aU M' pa (map D.bl (J.map λx=>decide (x.1<=s.1/\s.1<=x.2)))=M2 at s2 hn2 ⊢;by_cases y2:∃x∈J,x.1<=s.1/\s.1<=x.2
    ·obtain⟨x,hx,hy⟩:=id y2;have ea:(J.map λx=>decide (x.1<=s.1/\s.1<=x.2)).any id=true:=List.any_eq_true.mpr ⟨true,List.mem_map.mpr ⟨x,hx,decide_eq_true hy⟩,rfl⟩;exact ifF (by rw[ea];rfl) ⟨s2,⟨ns,hn2,nd,skip λ_=>.inr y2,by omega⟩,_,rfl⟩
    ·have ea:(J.map λx=>decide (x.1<=s.1/\s.1<=x.2)).any id=false:=List.any_eq_false.mpr λb hb=>by obtain⟨x,hx,e⟩:=List.mem_map.mp hb;intro z;have z:b=true:=z;rw[z] at e;exact y2 ⟨x,hx,of_decide_eq_true e⟩
     have lk:(c.kv ns).length=ns.length:=by unfold Ln.kv;rw[length_map]
     refine ifT (by rw[ea];rfl) ⟨_,hn2,tk,by omega,⟨⟨_,rfl⟩,rfl⟩,λb o e=>by rw[qS (bK e hg)];exact s2 _ _ e,⟨ns++[s.1],?_,?_,λn=>?_,by rw[length_append];show _+1<=_;omega⟩,_,rfl⟩
     ·rw[gC];unfold uO;rw[if_neg hk];unfold Ln.kv;rw[map_append];rfl
     ·rw[List.nodup_append];exact⟨nd,by simp,λa ha b hb e=>y (by rw[mem_singleton] at hb;rw[<- hb,<- e];exact ha)⟩
     ·rw[tki,List.mem_append,List.mem_append,mem_singleton,mem_singleton,mem];have es:((n,n)=s)↔n=s.1:=⟨λe=>by rw[<- e],λe=>by rw[e];exact Prod.ext rfl z⟩;rw[es];constructor
      ·rintro(⟨a,b⟩|a)
       ·exact⟨.inl a,b⟩
       ·exact⟨.inr a,by rw[a];exact y2⟩
      ·rintro⟨a|a,b⟩
       ·exact .inl ⟨a,b⟩
       ·exact .inr a
  ·have es:c.pc s=c.str s:=if_neg z;rw[es];dsimp only[Ln.str];ac_nf;rw[fN];exact ifF (by decide) ⟨s1,⟨ns,hn,nd,skip λh=>absurd h z,by omega⟩,_,rfl⟩
 ·rintro ρ M' ⟨s1,⟨ns,hn,nd,mem,ln⟩,o,rfl⟩;rw[length_map] at mem ln;rw[take_length] at mem;ac_nf;refine⟨_,hn,λp hp=>lM (q p _ ns (s1.trans (bG.new hp _)) (eX s1 hp) ?_ nd mem ln)⟩;rw[aI,sL,c.kv_keys]
noncomputable abbrev iC:Stmt:=top 48
theorem rR:aR ["pieces","c","a","ring","runs","start","stop","number"] ["pieces"] (aK iC):=by ac_rfl
theorem pM (hF:cQ K mg "joined_arcs" iC ["pieces"]):Has P w K mg base 122 "joined_arcs" ["pieces"] (λ_ _ _=>False):=by exact Has.never hF rR 121
def Grp (w:World)(c:Ln)(T:List Sp)(M:DM)(g:Addr)(M':DM):Prop:=(T=[]/\M' (.d g)=some (dS w [])) ∨ ∃a:Addr,T≠[]/\M (.l a)=none/\M' (.d g)=some (dS w [(c.ky,.ref a)])/\M' (.l a)=some (T.map c.str)
theorem Ln.tk1 (c:Ln)(d:D):TK [(c.ky,d)]:=⟨λp hp=>by rw[List.mem_singleton.mp hp];exact⟨⟨_,rfl⟩,rfl⟩,by simp⟩
theorem aI1 {k d:D}:rQ [(k,d)] k=some d:=by unfold rQ;rw[List.find?_cons_of_pos (by exact decide_eq_true rfl)];rfl
theorem aAA {w:World}{M N:DM}{g:Addr}{kvs:List (D×D)}(s:bG M N)(hg:M (.d g)=none)(hx:N (.x g)=none):bG M (pP w N g kvs):=λb o e=>by rw[hG (λz=>by rw[z] at e;rw[s _ _ e] at hx;cases hx) (bK e hg)];exact s _ _ e
theorem aAB {w:World}{M N:DM}{g:Addr}{kvs:List (D×D)}(s:bG M N)(hg:M (.d g)=none)(hx:M (.x g)=none):bG M (xR w N g kvs):=λb o e=>by rw[jK (bK e hx) (bK e hg)];exact s _ _ e
noncomputable def ptS:Sh:=.t [.t [.i,.i],.t [.i,.i]]
theorem Ln.pc_sh (c:Ln)(x:Sp):hs (.t (.s::[ptS,ptS])) (c.pc x)/\c.pc x ≠ .tup []:=by
 unfold Ln.pc;split
 ·exact⟨by simp[hs,hss,Ln.dot,Ln.pd,PQ,FQ,ptS],by simp[Ln.dot]⟩
 ·exact⟨by simp[hs,hss,Ln.str,Ln.pd,PQ,FQ,ptS],by simp[Ln.str]⟩
theorem Ln.pc_key (c:Ln)(x:Sp):dN 6 (c.pc x)=true:=by unfold Ln.pc;split<;>rfl
noncomputable abbrev lg (s:Sp):Bool:=s.1<s.2
def sI (pt:Addr):DSp:=λds M Q=>∃(l:Addr)(c:Ln) (S:List Sp),ds = [.ref l]/\c.Ok/\M (.l l) = some (S.map c.pc)/\(∀s∈S,InS s/\s.1<=s.2)/\S.length<=31/\M (.x pt) = some [.str "joined_spans.<locals>.<lambda>"] /\
 ∀(p:Addr)(M':DM) (F:List Sp),bG M M'->M (.l p)=none->M' (.l p)=some (F.map c.pc)->Cmp S F->(F.map c.pc).Pairwise (λa b=>ltD b a=false)->Q (.ref p) M'
noncomputable abbrev rO:Stmt:=top 45
theorem gB:aR ["pieces","groups","piece","whole","each"] ["pieces"] (aK rO):=by ac_rfl
theorem yQ {pt:Addr}(hF:cQ K mg "joined" rO ["pieces"])(oK:Has P w K mg base 106 "carrier" ["piece"] zV)(eM:Has P w K mg base 122 "joined_stretches" ["stretches"] (aAz pt))(iD:Has P w K mg base 122 "joined_arcs" ["pieces"] (λ_ _ _=>False))(kT:Has P w K mg base 122 "lone_dots" ["pieces","others"] aE9)(eS:mg "sorted" = none):Has P w K mg base 124 "joined" ["pieces"] (sI pt):=by
 refine Has.mkZ hF gB (λds M Q ⟨_,_,_,e,_⟩=>by rw[e];rfl) λf cdv A outer s H ds M Q E hr h=>?_;obtain⟨l,c,S,rfl,ok,hl,hS,ln,hP,q⟩:=h;refine⟨_,(aE (aS (i:=1) gB.nd tE)
  (aE (gE PassesOwn.never rfl (aA 0) (aZ (i:=2) gB.nd) (aH (cE (aX (zX hr) (aG (aA 2) aC) dQ) (aH (eT (dL (aA5 hr (aA 1) (aF oK hr (by decide) (aB (aA 2) aD)) (cX aD)) (aA 2)))) bQ)))
  (aE (aS (i:=3) gB.nd (cX aD))
  (wS (aAU 1 PassesOwn.never rfl (aZ (i:=4) gB.nd) (aH (aCa (i:=3) gB.nd (tK (aX (eI hr) (aG (aA 4) aC) dQ) (aF eM hr (by decide) (aB (zS hr (aA 1) (aA 4)) aD)) (aF iD hr (by decide) (aB (zS hr (aA 1) (aA 4)) aD))))))
  (aH (aP (cL (oM hr) eS (aB (aL eD (aA 3) (aF kT hr (by decide) (aB (aA 0) (aB (aA 3) aD)))) aD)))))))),?_⟩
 ac_nf;intro g hg;have s0:=bG.newK hg [];refine⟨_,s0 _ _ hl,λi ρ M'=>bG M M'/\Grp w c ((S.take i).filter lg) M g M'/\∃o,ρ=[some (.ref l),some (.ref g),o,none,none],⟨s0,.inl ⟨rfl,gC⟩,none,rfl⟩,?_,?_,?_⟩
 ·rintro i ρ M' _ ⟨s1,_⟩ a e;cases e;exact s1 _ _ hl
 ·rintro i d ρ M' hd ⟨s1,gr,o,rfl⟩;rw[getElem?_map] at hd;obtain⟨s,hs,rfl⟩:=Option.map_eq_some_iff.mp hd;have ms:=hS s (mem_of_getElem? hs);by_cases z:s.1=s.2
  ·have es:c.pc s=c.dot s.1:=if_pos z;have et:(S.take (i+1)).filter lg=(S.take i).filter lg:=by rw[fO hs,List.filter_append,List.filter_cons_of_neg (by unfold lg;simp;omega),List.filter_nil,append_nil]
   rw[es];dsimp only[Ln.dot];ac_nf;rw[fN];exact ifF (by decide) ⟨s1,by rw[et];exact gr,_,rfl⟩
  ·have es:c.pc s=c.str s:=if_neg z;have et:(S.take (i+1)).filter lg=(S.take i).filter lg++[s]:=by rw[fO hs,List.filter_append,List.filter_cons_of_pos (by unfold lg;simp;omega),List.filter_nil]
   rw[es];dsimp only[Ln.str];ac_nf;rw[fN];refine ifT (by decide) ?_;have m:∀{z:Rat},BQ 300 z->BQ 400 z:=λh=>h.mono (by decide);have there:∃kvs,M' (.d g)=some (dS w kvs)/\TK kvs:=by
    rcases gr with⟨_,h⟩|⟨a,_,_,h,_⟩
    ·exact⟨_,h,TK.nil⟩
    ·exact⟨_,h,c.tk1 _⟩
   have lT:((S.take i).filter lg).length<=31:=Nat.le_trans (List.length_filter_le _ _) (Nat.le_trans (List.length_take_le' _ _) ln);refine⟨there,_,_,_,_,rfl,ok.ne z,m (ok.bX ms.1.1),m (ok.bY ms.1.1),m (ok.bX ms.1.2),m (ok.bY ms.1.2),?_⟩;rw[ok.line z];refine⟨by decide,λp hp=>?_⟩;have hpM:=eX s1 hp;have s2:=s1.trans (bG.new hp []);rcases gr with⟨e,h⟩|⟨a,e,na,h,ha⟩
   ·refine⟨[],by rw[gO];exact h,TK.nil,by decide,⟨⟨_,rfl⟩,rfl⟩,.inr ⟨by simp,⟨_,by rw[tW];exact aI⟩,_,_,rfl,by rw[tW];exact aI,by decide,λb o e=>?_,.inr ⟨p,by rw[et];simp,hpM,by rw[gO,gC];rfl,by rw[aI,et,e];rfl⟩,_,rfl⟩⟩;rw[iL (bK e hpM),qS (bK e hg)];exact s2 _ _ e
   ·have np:a≠p:=bP ha hp;have ha2:aU M' p [] (.l a)=some (((S.take i).filter lg).map c.str):=by rw[cT np];exact ha
    refine⟨_,by rw[gO];exact h,c.tk1 _,Nat.le_of_ble_eq_true rfl,⟨⟨_,rfl⟩,rfl⟩,.inl ⟨.ref a,aI1,⟨_,ha2⟩,_,_,rfl,ha2,by rw[length_map];omega,λb o e=>?_,.inr ⟨a,by rw[et];simp,na,by rw[gO,gO];exact h,by rw[aI,et,map_append];rfl⟩,_,rfl⟩⟩;rw[iL (bK e na)];exact s2 _ _ e
 ·rintro ρ M' ⟨s1,gr,o,rfl⟩;rw[length_map,take_length] at gr;ac_nf;refine⟨by decide,λp hp=>⟨λρ N=>bG M N/\(∃J,N (.l p)=some (J.map c.str)/\Cmp (S.filter lg) J/\J.length<=S.length)/\∃o o',ρ=[some (.ref l),some (.ref g),o,some (.ref p),o'],?_,?_⟩⟩
  ·have hpM:=eX s1 hp;have s2:=s1.trans (bG.new hp []);rcases gr with⟨e,h⟩|⟨a,e,na,h,ha⟩
   ·refine⟨[],by rw[gO];exact h,TK.nil,λhx=>aCn ⟨zL,?_,⟨[],?_,?_,Nat.zero_le _⟩,_,_,rfl⟩⟩
    ·exact aAB (aAA s2 hg hx) hg (eX s2 hx)
    ·rw[jK (by intro z;cases z) (by intro z;cases z),hG (by intro z;cases z) (by intro z;cases z)];exact aI
    ·rw[e];exact Jn.nil.c
   ·obtain⟨a',b',d',ek⟩:=c.key;have tk:=c.tk1 (.ref a);rw[ek] at tk h;have np:a≠p:=bP ha hp;refine⟨_,by rw[gO];exact h,tk,λhx=>aCn ?_⟩;have sf:=aAA (kvs:=[(D.tup [.str "line",.int a',.int b',.int d'],D.ref a)]) (w:=w) s2 hg hx;have lT:(S.filter lg).length<=S.length:=List.length_filter_le _ _;have hf:pP w (aU M' p []) g [(D.tup [.str "line",.int a',.int b',.int d'],D.ref a)] (.l a)=some ((S.filter lg).map c.str):=by rw[hG (by intro z;cases z) (by intro z;cases z),cT np];exact ha
    have hfp:pP w (aU M' p []) g [(D.tup [.str "line",.int a',.int b',.int d'],D.ref a)] (.l p)=some []:=by rw[hG (by intro z;cases z) (by intro z;cases z)];exact aI
    have hfx:pP w (aU M' p []) g [(D.tup [.str "line",.int a',.int b',.int d'],D.ref a)] (.x g) = some (.bl true :: dS w [(D.tup [.str "line",.int a',.int b',.int d'],D.ref a)]):=zL;generalize pP w (aU M' p []) g [(D.tup [.str "line",.int a',.int b',.int d'],D.ref a)]=N0 at sf hf hfp hfx ⊢;ac_nf;rw[fN];refine ifT (by decide) ⟨_,.ref a,hfx,tk,⟨⟨_,rfl⟩,rfl⟩,aI1,a,c,S.filter lg,rfl,ok,hf,λs hs=>⟨(hS s (List.mem_filter.mp hs).1).1,by have:=(List.mem_filter.mp hs).2;unfold lg at this;simpa using this⟩,by omega,sf _ _ hP,λp2 N1 J s3 n2 e2 cj lj=>?_⟩;ac_nf;have npp:p2≠p:=λz=>by rw[z,hfp] at n2;cases n2
    refine⟨_,_,s3 _ _ hfp,e2,by rw[length_map];show 0+_<=1000;omega,?_⟩;have sp:bG M (aU N1 p ([]++J.map c.str)):=λb o e=>by rw[iL (bK e hpM)];exact s3 _ _ (sf _ _ e)
    refine⟨by rw[kQ];exact s3 _ _ hfx,aAB sp hg (eX s2 hx),⟨J,?_,cj,by omega⟩,_,_,rfl⟩;rw[jK (by intro z;cases z) (by intro z;cases z)];exact aI
  rintro _ N ⟨s1,⟨J,hJ,cJ,lJ⟩,o,o',rfl⟩;clear gr hp;ac_nf;have wf:∀s∈S,s.1<=s.2:=λs hs=>(hS s hs).2;have jl:=cJ.long;refine⟨l,p,c,S,J,rfl,ok,s1 _ _ hl,hJ,λs hs=>(hS s hs).1,cJ.all λs hs=>(hS s (List.mem_filter.mp hs).1).1,by omega,by omega,λp2 N2 ns s2 n2 e2 nd mem lns=>?_⟩;have er:J.map c.str++ns.map c.dot=(J++ns.map λn=>((n,n):Sp)).map c.pc:=by
   rw[map_append,map_map];congr 1
   ·exact List.map_congr_left λx hx=>(c.pc_str (jl x hx)).symm
   ·exact List.map_congr_left λn _=>(c.pc_dot n).symm
  refine⟨_,_,s2 _ _ hJ,e2,by rw[length_map,length_map];omega,λp3 hp3=>⟨_,.s,[ptS,ptS],aI,λd hd=>?_,?_,by rw[length_append,length_map,length_map];omega,λp4 zs hp4 pm so=>?_⟩⟩
  ·rw[er] at hd;obtain⟨x,_,rfl⟩:=List.mem_map.mp hd;exact c.pc_sh x
  ·rw[er];exact List.all_eq_true.mpr λd hd=>by obtain⟨x,_,rfl⟩:=List.mem_map.mp hd;exact c.pc_key x
  rw[er] at pm hp4 ⊢;obtain⟨F,rfl,pF⟩:=fP pm.symm _ rfl;have s3:=(s1.trans s2).trans ((bG.new hp3 _).trans (bG.new hp4 (F.map c.pc)));exact lM (q p4 _ F s3 (eX (s1.trans (s2.trans (bG.new hp3 _))) hp4) aI ((cJ.dots wf nd mem).perm_right pF) so)
theorem gM.none {N M:DM}{p a:Addr}{W:List D}(h:gM N M p)(hp:M (.l p)=some W)(ha:M (.l a)=none):N (.l a)=none:=by
 cases e:N (.l a) with
 |none=>rfl
 |some o =>
  by_cases z:a=p
  ·rw[z,hp] at ha;cases ha
  ·rw[h.l z e] at ha;cases ha
theorem gM.adv {N M M':DM}{p a:Addr}(h:gM N M p)(v:Adv M M' a)(n:N (.l a)=Option.none):gM N M' p:=λb nb o e=>by rw[v.ak (bK e n)];exact h b nb o e
theorem aE3 {M M':DM}{a:Addr}{n:Nat}(s:bG M M')(h:FdN M a n):FdN M' a n:=let ⟨c,k,fl,h1,h2⟩:=h;⟨c,k,fl,s _ _ h1,h2⟩
def nV:DSp:=λds M Q=>∃ns:List Int,ds=[.fz (ns.map D.int)] /\
 ∀(p:Addr)(M':DM) (S:List Sp),bG M M'->M (.l p)=none->M' (.l p)=some (S.map spD)->(∀s∈S,InS s/\s.1<=s.2)->S.length<=31->Q (.ref p) M'
noncomputable abbrev kK:Stmt:=top 64
theorem cR:aR ["_law_script","_law_found","_law_cell","_law_from","_law_far","_law_at","_law_long"] ["_law_script"] (aK kK):=by ac_rfl
theorem rX (hF:cQ K mg "_law_spans" kK ["_law_script"])(fD:Has P w K mg base 101 "_law_feed" ["_law_cell"] kI)(bM:Has P w K mg base 101 "_law_draw" ["_law_from","_law_many"] gW)(iN:mg "len" = none)(tG:mg "int" = none):Has P w K mg base 103 "_law_spans" ["_law_script"] nV:=by
 refine Has.mkZ hF cR (λds M Q ⟨_,e,_⟩=>by rw[e];rfl) λf cdv A outer s H ds M Q E hr h=>?_;obtain⟨ns,rfl,q⟩:=h;refine⟨_,(aE (aS (i:=1) cR.nd (cX aD))
  (aE (gE PassesOwn.never rfl (aL eD (lE (aA 0) (kS aC) (kS aC)) (aL aEa (cX (aB aC aD)) (gH aBD tG (aB (fK nO (cL rN iN (aB (aA 0) aD)) aC) aD)))) (aZ (i:=2) cR.nd) (aE (aS (i:=3) cR.nd (aF fD hr (by decide) (aB (aA 2) aD)))
  (aE (aS (i:=4) cR.nd (aG (cX (aB aC (aB aC (aB (aL oI aC aC) aD)))) (aF bM hr (by decide) (aB (aA 3) (aB aC aD)))))
  (aE (aS (i:=5) cR.nd (aF bM hr (by decide) (aB (aA 3) (aB (aA 4) aD))))
  (aE (aS (i:=6) cR.nd (aG (cX (aB aC (aB (aL eD aC (aF bM hr (by decide) (aB (aA 3) (aB aC aD)))) (aB (aL eD aC (aF bM hr (by decide) (aB (aA 3) (aB (aA 4) aD)))) aD)))) (aF bM hr (by decide) (aB (aA 3) (aB aC aD)))))
  (wS (cE (lN (jC (aX (eI hr) (aF bM hr (by decide) (aB (aA 3) (aB aC aD))) aC) (iP (aX (aCX hr) (aA 1) (cX aD))))) (aH (aS (i:=5) cR.nd (aG (aG (aA 1) (dG aC)) aC))) bQ)
  (aH (eT (dL (aA 1) (bW (aB (aA 5) (aB (aL eD (aA 5) (aA 6)) aD))))))))))))
  (aH (aP (aA 1))))),?_⟩
 ac_nf;refine⟨by decide,λp hp p1 hp1=>⟨by decide,λp2 hp2=>⟨_,aI,by simp,by split<;>decide,by split<;>decide,by split<;>decide,λp3 hp3=>?_⟩⟩⟩;have l1:(Dd.cutD (ns.map D.int) (some 1) (some 31)).length<=30:=by unfold Dd.cutD;rw[show(1:Int)=((1:Nat):Int) from rfl,show(31:Int)=((31:Nat):Int) from rfl,HT.sIx_nat,HT.sIx_nat,length_take];omega
 have i1:∀d∈Dd.cutD (ns.map D.int) (some 1) (some 31),∃c:Int,d=.int c:=λd hd=>by obtain⟨c,_,e⟩:=List.mem_map.mp (aDv hd);exact⟨c,e.symm⟩
 have i2:∀m:Nat,∀d∈(replicate m [D.int 0]).flatten,∃c:Int,d=.int c:=λm d hd=>by obtain⟨l,hl,hd⟩:=List.mem_flatten.mp hd;rw[List.eq_of_mem_replicate hl,mem_singleton] at hd;exact⟨0,hd⟩
 have l2:((replicate (if decide ((((ns.map D.int).length:Nat):Int)<2)=true then (1:Int) else 0).toNat [D.int 0]).flatten).length<=1:=by split<;>exact Nat.le_of_ble_eq_true rfl
 generalize (if decide ((((ns.map D.int).length:Nat):Int)<2)=true then (1:Int) else 0).toNat=mm at l2 ⊢;have i2:=i2 mm;generalize (replicate mm [D.int 0]).flatten=R at l2 i2 ⊢;generalize Dd.cutD (ns.map D.int) (some 1) (some 31)=C at l1 i1 hp2 hp3 ⊢;ac_nf;have e1:aU (aU (aU (aU M p []) p1 C) p2 [D.int 0]) p3 R (.l p1)=some C:=by rw[cT (bP (by rw[cT (bP aI hp2)];exact aI) hp3),cT (bP aI hp2)];exact aI
 have s3:bG (aU M p []) (aU (aU (aU (aU M p []) p1 C) p2 [D.int 0]) p3 R):=((bG.new hp1 _).trans (bG.new hp2 _)).trans (bG.new hp3 _);refine⟨C,R,e1,aI,by omega,λp4 hp4=>⟨_,aI,?_⟩⟩;have s4:=s3.trans (bG.new hp4 (C++R));have e4:aU (aU (aU (aU (aU M p []) p1 C) p2 [D.int 0]) p3 R) p4 (C++R) (.l p4)=some (C++R):=aI;have np:p4≠p:=λz=>by rw[z,s3 _ _ aI] at hp4;cases hp4
 generalize aU (aU (aU (aU (aU M p []) p1 C) p2 [D.int 0]) p3 R) p4 (C++R)=N0 at s4 e4 ⊢;have ic:∀d∈C++R,∃c:Int,d=.int c:=λd hd=>(List.mem_append.mp hd).elim (i1 d) (i2 d);have lc:(C++R).length<=31:=by rw[length_append];omega
 generalize C++R=CS at ic lc e4 ⊢;have pN:N0 (.l p)=some (([]:List Sp).map spD):=s4 _ _ aI;refine⟨λi ρ M'=>gM N0 M' p/\(∃S:List Sp,M' (.l p)=some (S.map spD)/\S.length=i/\∀s∈S,0<=s.1/\s.1<=s.2/\s.2<=2000000*(i:Int))/\∃o2 o3 o4 o5 o6,ρ=[some (.fz (ns.map D.int)),some (.ref p),o2,o3,o4,o5,o6],⟨.of (.refl _) p,⟨[],pN,rfl,λs h=>by cases h⟩,_,_,_,_,_,rfl⟩,?_,?_,?_⟩
 ·rintro i ρ M' _ ⟨a1,_⟩ a e;cases e;exact a1.l np e4
 ·rintro i d ρ M' hd ⟨a1,⟨S,hS,lS,bS⟩,o2,o3,o4,o5,o6,rfl⟩;have hi:=(List.getElem?_eq_some_iff.mp hd).1;obtain⟨c,rfl⟩:=ic d (mem_of_getElem? hd);ac_nf;refine⟨c,rfl,λpg Mg hpg fdg avg=>?_⟩;have npg:p≠pg:=bP hS hpg;have ng:=a1.none hS hpg;have a2:=a1.adv avg ng;have hS2:=(avg p npg).trans hS;clear a1 hS avg hpg;ac_nf;refine⟨⟨by decide,by decide,by decide⟩,by decide,λq1 hq1=>?_⟩;have nq1:q1≠pg:=λz=>by obtain⟨_,_,_,z2,_⟩:=fdg;rw[z,z2] at hq1;cases hq1
  have s5:=bG.new hq1 [D.int 12,D.int 41,D.int (10^Int.toNat 6)];have a3:=a2.trans (.of s5 p);have hS3:=s5 _ _ hS2;have e5:aU Mg q1 [D.int 12,D.int 41,D.int (10^Int.toNat 6)] (.l q1)=some [D.int 12,D.int 41,D.int (10^Int.toNat 6)]:=aI;refine⟨pg,3,0,rfl,aE3 s5 fdg,by decide,by decide,bdk (by decide),λr0 M5 r00 r01 fd5 av5=>?_⟩;have a5:=a3.adv av5 ng;have hS5:=(av5 p npg).trans hS3;have e5:=(av5 q1 nq1).trans e5;clear a3 hS3 s5 a2 hS2 hq1 fdg av5;have ep:((10:Int)^Int.toNat 6)=1000000:=by decide
  obtain⟨fr,efr,f1,f2⟩:∃fr:Int,atI [D.int 12,D.int 41,D.int (10^Int.toNat 6)] r0=some (.int fr)/\12<=fr/\fr<=1000000:=by
   rw[ep];rcases (show r0=0∨r0=1∨r0=2 by omega) with z|z|z<;>subst z
   ·exact⟨12,rfl,by decide,by decide⟩
   ·exact⟨41,rfl,by decide,by decide⟩
   ·exact⟨1000000,rfl,by decide,by decide⟩
  have bf:Bd 8999 fr:=Bd.mono (m:=24) (by unfold Bd;omega) (by decide);ac_nf;refine⟨_,_,e5,efr,pg,fr,_,rfl,fd5,by decide,by omega,bf,λat' M6 t0 t1 fd6 av6=>?_⟩;have a6:=a5.adv av6 ng;have hS6:=(av6 p npg).trans hS5;clear a5 hS5 e5 efr fd5 av6;ac_nf;refine⟨pg,6,_,rfl,fd6,by decide,by decide,bdk (by decide),λj1 M7 j10 j11 fd7 av7=>?_⟩;have a7:=a6.adv av7 ng;have hS7:=(av7 p npg).trans hS6;clear a6 hS6 fd6 av7;ac_nf;refine⟨pg,fr,_,rfl,fd7,by decide,by omega,bf,λj2 M8 j20 j21 fd8 av8=>?_⟩;have a8:=a7.adv av8 ng;have hS8:=(av8 p npg).trans hS7;clear a7 hS7 fd7 av8;ac_nf;refine⟨by decide,λq2 hq2=>?_⟩;have nq2:q2≠pg:=λz=>by obtain⟨_,_,_,z2,_⟩:=fd8;rw[z,z2] at hq2;cases hq2
  have s9:=bG.new hq2 [D.int 0,D.int (1+j1),D.int (1+j2)];have a9:=a8.trans (.of s9 p);have hS9:=s9 _ _ hS8;have e9:aU M8 q2 [D.int 0,D.int (1+j1),D.int (1+j2)] (.l q2)=some [D.int 0,D.int (1+j1),D.int (1+j2)]:=aI;refine⟨pg,3,_,rfl,aE3 s9 fd8,by omega,by decide,bdk (by decide),λr2 M10 r20 r21 fd10 av10=>?_⟩;have a10:=a9.adv av10 ng;have hS10:=(av10 p npg).trans hS9;have e10:=(av10 q2 nq2).trans e9;clear a9 hS9 s9 a8 hS8 hq2 fd8 av10 e9;obtain⟨lo,elo,lo1,lo2⟩:∃lo:Int,atI [D.int 0,D.int (1+j1),D.int (1+j2)] r2=some (.int lo)/\0<=lo/\lo<=1000000:=by
   rcases (show r2=0∨r2=1∨r2=2 by omega) with z|z|z<;>subst z
   ·exact⟨0,rfl,by decide,by decide⟩
   ·exact⟨_,rfl,by omega,by omega⟩
   ·exact⟨_,rfl,by omega,by omega⟩
  ac_nf;refine⟨_,_,e10,elo,λρ' M'=>∃t:Int,(0<=t/\t<=1000000+2000000*(i:Int))/\gM N0 M' p/\M' (.l p)=some (S.map spD)/\ρ'=[some (.fz (ns.map D.int)),some (.ref p),some (.int c),some (.ref pg),some (.int fr),some (.int t),some (.int lo)],⟨pg,5,_,rfl,fd10,by decide,by decide,bdk (by decide),λr3 M11 r30 r31 fd11 av11=>?_⟩,?_⟩
  ·have a11:=a10.adv av11 ng;have hS11:=(av11 p npg).trans hS10;clear a10 hS10 av11;ac_nf;rw[gY];refine dif (λ_=>?_) (λ_=>⟨at',⟨t0,by omega⟩,a11,hS11,rfl⟩);refine⟨by decide,λq3 hq3=>?_⟩;have s12:=bG.new hq3 [];have a12:=a11.trans (.of s12 p);have hS12:=s12 _ _ hS11;refine⟨_,hS12,aI,?_⟩;generalize aU M11 q3 []=M12 at a12 hS12 ⊢;rcases List.eq_nil_or_concat S with z|⟨W0,lst,z⟩
   ·rw[z];exact ifF rfl ⟨at',⟨t0,by omega⟩,a12,by rw[<- z];exact hS12,rfl⟩
   ·rw[List.concat_eq_append] at z;have hat:atI (S.map spD) (-1)=some (spD lst):=by rw[z,map_append];exact vE _ _
    obtain⟨c1,c2,c3⟩:=bS lst (by rw[z];exact mem_append_right _ mem_cons_self);refine ifT (by rw[z];simp) ⟨_,_,hS12,hat,?_⟩;dsimp only[spD];ac_nf;exact⟨lst.2,⟨by omega,by omega⟩,a12,hS12,rfl⟩
  ·rintro _ M11 ⟨t,⟨t2,t3⟩,a11,hS11,rfl⟩;ac_nf;refine⟨⟨_,hS11⟩,by decide,_,_,rfl,hS11,by rw[length_map];omega,a11.trans .put,⟨S++[(t,t+lo)],by rw[aI,map_append];rfl,by rw[length_append,lS];rfl,λs hs=>?_⟩,_,_,_,_,_,rfl⟩;rw[Int.natCast_add];rcases List.mem_append.mp hs with h|h
   ·obtain⟨b1,b2,b3⟩:=bS s h;exact⟨b1,b2,by omega⟩
   ·rw[List.mem_singleton.mp h];exact⟨t2,by show t<=t+lo;omega,by show t+lo<=_;omega⟩
 ·rintro ρ M' ⟨a1,⟨S,hS,lS,bS⟩,o2,o3,o4,o5,o6,rfl⟩;ac_nf;refine lM (q p M' S (λb o e=>a1 b (bK e hp) o (s4 _ _ ((bG.new hp _) _ _ e))) hp hS (λs hs=>?_) (by omega));obtain⟨b1,b2,b3⟩:=bS s hs;exact⟨⟨⟨b1,by omega⟩,by omega,by omega⟩,b2⟩
def lL:DSp:=λds M Q=>∃(l:Addr)(S:List Sp),ds=[.ref l]/\M (.l l)=some (S.map spD)/\(∀s∈S,s.1<=s.2)/\S.length<=31 /\
 ∀(p:Addr)(M':DM) (F:List Sp),bG M M'->M (.l p)=none->M' (.l p)=some (F.map spD)->Cmp S F->F.length<=S.length->Q (.ref p) M'
noncomputable abbrev jA:Stmt:=top 65
theorem fJ:aR ["_law_spans_here","_law_found","_law_at","_law_stop"] ["_law_spans_here"] (aK jA):=by ac_rfl
theorem rA (hF:cQ K mg "_law_merged" jA ["_law_spans_here"])(eS:mg "sorted" = none)(aB6:mg "max" = none):Has P w K mg base 103 "_law_merged" ["_law_spans_here"] lL:=by
 refine Has.mkZ hF fJ (λds M Q ⟨_,_,e,_⟩=>by rw[e];rfl) λf cdv A outer s H ds M Q E hr h=>?_;obtain⟨l,S,rfl,hl,wf,ln,q⟩:=h;refine⟨_,(aE (aS (i:=1) fJ.nd (cX aD))
  (aE (gE PassesOwn.never rfl (cL (oM hr) eS (aB (aA 0) aD)) (fY (n:=2) rfl (bL (aZ (i:=2) fJ.nd) (bL (aZ (i:=3) fJ.nd) eP))) (aH (cE (lN (jC (aX (aCX hr) (aA 1) (cX aD)) (iP (aX aIc (aA 2) (aG (aG (aA 1) (dG aC)) aC))))) (aH (fM (bW (aB (aG (aG (aA 1) (dG aC)) aC) (aB (cL (aFm rfl) aB6 (aB (aG (aG (aA 1) (dG aC)) aC) (aB (aA 3) aD))) aD))) (qB (aA 1) (dG aC)))) (aH (eT (dL (aA 1) (bW (aB (aA 2) (aB (aA 3) aD)))))))))
  (aH (aP (aA 1))))),?_⟩
 ac_nf;refine⟨by decide,λp hp=>?_⟩;have n1:l≠p:=bP hl hp;refine⟨S.map spD,.i,[.i],by rw[cT n1];exact hl,λd hd=>?_,?_,by rw[length_map];omega,λp1 zs hp1 pm so=>?_⟩
 ·obtain⟨s,_,rfl⟩:=List.mem_map.mp hd;exact⟨by simp[hs,hss,spD],by simp[spD]⟩
 ·exact List.all_eq_true.mpr λd hd=>by obtain⟨s,_,rfl⟩:=List.mem_map.mp hd;rfl
 obtain⟨Z,rfl,pz⟩:=fP pm.symm S rfl;have lz:=pz.length_eq;have so':Z.Pairwise λa b=>a.1<=b.1:=by
  rw[pairwise_map] at so;refine so.imp λ{a b} z=>?_;unfold spD at z;rw[jN,dZ] at z;by_cases e:b.1=a.1
  ·omega
  ·rw[if_neg (λy=>e (D.int.inj y)),gX] at z;have:=of_decide_eq_false z;omega
 have np:p≠p1:=bP aI hp1;have s0:bG M (aU (aU M p []) p1 (Z.map spD)):=(bG.new hp []).trans (bG.new hp1 _);refine⟨_,aI,λi ρ M'=>gM (aU (aU M p []) p1 (Z.map spD)) M' p/\M' (.l p)=some (((Z.take i).foldl jn []).map spD)/\∃o o',ρ=[some (.ref l),some (.ref p),o,o'],⟨.of (.refl _) p,by rw[cT np];exact aI,none,none,rfl⟩,?_,?_,?_⟩
 ·rintro i ρ M' _ ⟨a1,_⟩ a e;cases e;exact a1.l (Ne.symm np) aI
 ·rintro i d ρ M' hd ⟨a1,hW,o,o',rfl⟩;rw[getElem?_map] at hd;obtain⟨s,hs,rfl⟩:=Option.map_eq_some_iff.mp hd;have hi:=(List.getElem?_eq_some_iff.mp hs).1;have stp:(Z.take (i+1)).foldl jn []=jn ((Z.take i).foldl jn []) s:=by rw[fO hs,List.foldl_append];rfl
  have lW:=vS (Z.take i) [];rw[length_take] at lW;have lnil:([]:List Sp).length=0:=rfl;generalize hWW:(Z.take i).foldl jn []=W at hW lW stp;dsimp only[spD];ac_nf;rw[stp];refine⟨rfl,by decide,λp0 hp0=>?_⟩;have A0:gM (aU (aU M p []) p1 (Z.map spD)) (aU M' p0 []) p:=a1.trans (.of (bG.new hp0 _) p);have hW0:=(bG.new hp0 []) _ _ hW;have e0:aU M' p0 [] (.l p0)=some []:=aI;generalize aU M' p0 []=M2 at A0 hW0 e0 ⊢;refine⟨_,hW0,e0,?_⟩;have put:∀{V:List D}{U:List Sp},V=U.map spD->gM (aU (aU M p []) p1 (Z.map spD)) (aU M2 p V) p/\aU M2 p V (.l p)=some (U.map spD):=λe=>⟨A0.trans .put,by rw[aI,e]⟩;rcases List.eq_nil_or_concat W with z|⟨W0,lst,z⟩
  ·rw[z] at hW0 ⊢;refine ifF rfl ⟨⟨_,hW0⟩,by decide,_,_,rfl,hW0,by decide,?_⟩;obtain⟨a2,a3⟩:=put (V:=[]++[D.tup [.int s.1,.int s.2]]) (U:=jn [] s) rfl;exact⟨a2,a3,_,_,rfl⟩
  ·rw[List.concat_eq_append] at z;have gl:W.getLast?=some lst:=by rw[z,List.getLast?_concat]
   have hat:atI (W.map spD) (-1)=some (spD lst):=by rw[z,map_append];exact vE _ _
   have js:jn W s=if lst.2<s.1 then W++[s] else if lst.2<s.2 then W.dropLast++[(lst.1,s.2)] else W:=by unfold jn;rw[gl]
   refine ifT (by rw[z];simp) ⟨_,_,hW0,hat,?_⟩;dsimp only[spD];ac_nf;have lw:W.length=W0.length+1:=by rw[z,length_append];rfl
   refine dif (λc1=>?_) (λc1=>?_)
   ·refine⟨_,_,hW0,hat,?_⟩;dsimp only[spD];ac_nf;refine⟨_,_,hW0,hat,?_⟩;dsimp only[spD];ac_nf;refine⟨by decide,_,W0.length,hW0,by rw[length_map,lw];exact aAx,?_⟩;obtain⟨a2,a3⟩:=put (V:=(W.map spD).set W0.length (D.tup [.int lst.1,.int (if s.2 > lst.2 then s.2 else lst.2)])) (U:=jn W s) (by
     rw[js,if_neg (show ¬lst.2<s.1 by omega)];by_cases c2:lst.2<s.2
     ·rw[if_pos (show lst.2<s.2 from c2),if_pos (show s.2 > lst.2 from c2),z,List.dropLast_concat,map_append,map_append,List.set_append_right _ _ (by rw[length_map];exact Nat.le_refl _),length_map,Nat.sub_self];rfl
     ·rw[if_neg (show ¬lst.2<s.2 from c2),if_neg (show ¬s.2 > lst.2 from c2),z,map_append,List.set_append_right _ _ (by rw[length_map];exact Nat.le_refl _),length_map,Nat.sub_self];rfl)
    exact⟨a2,a3,_,_,rfl⟩
   ·obtain⟨a2,a3⟩:=put (V:=W.map spD++[D.tup [.int s.1,.int s.2]]) (U:=jn W s) (by rw[js,if_pos (show lst.2<s.1 by omega),map_append];rfl);exact⟨⟨_,hW0⟩,by decide,_,_,rfl,hW0,by rw[length_map];omega,a2,a3,_,_,rfl⟩
 ·rintro ρ M' ⟨a1,hW,o,o',rfl⟩;rw[length_map,take_length] at hW;ac_nf;have:=vS Z [];have lnil:([]:List Sp).length=0:=rfl;refine lM (q p M' _ (λb o e=>a1 b (bK e hp) o (s0 _ _ e)) hp hW ((aBJ (λs hs=>wf s (pz.mem_iff.mpr hs)) so').of_mem λs=>pz.symm.mem_iff) (by omega))
def lO:DSp:=λds M Q=>∃(l:Addr)(c:Ln) (S:List Sp),ds=[PQ c.x c.y,PQ c.u c.v,.int c.q,.ref l]/\c.Ok/\M (.l l)=some (S.map spD)/\(∀s∈S,InS s)/\S.length<=100 /\
 ∀(p:Addr)(M':DM),bG M M'->M (.l p)=none->M' (.l p)=some (S.map c.pc)->Q (.ref p) M'
noncomputable abbrev jF:Stmt:=top 66
theorem eK:aR ["_law_p","_law_q","_law_part","_law_spans_here","_law_found","_law_at","_law_stop","_law_one"] ["_law_p","_law_q","_law_part","_law_spans_here"] (aK jF):=by ac_rfl
theorem qD (hF:cQ K mg "_law_pieces" jF ["_law_p","_law_q","_law_part","_law_spans_here"])(hU:Has P w K mg base 104 "_law_mixed" ["_law_p","_law_q","_law_by"] nU)(bR:Has P w K mg base 101 "_law_lowest" ["_law_top","_law_bottom"] eH):Has P w K mg base 106 "_law_pieces" ["_law_p","_law_q","_law_part","_law_spans_here"] lO:=by
 refine Has.mkZ hF eK (λds M Q ⟨_,_,_,e,_⟩=>by rw[e];rfl) λf cdv A outer s H ds M Q E hr h=>?_;obtain⟨l,c,S,rfl,ok,hl,hS,ln,q⟩:=h;refine⟨_,(aE (aS (i:=4) eK.nd (cX aD))
  (aE (gE PassesOwn.never rfl (aA 3) (fY (n:=2) rfl (bL (aZ (i:=5) eK.nd) (bL (aZ (i:=6) eK.nd) eP))) (aE (aS (i:=7) eK.nd (aF hU hr (by decide) (aB (aA 0) (aB (aA 1) (aB (aF bR hr (by decide) (aB (aA 5) (aB (aA 2) aD))) aD)))))
  (aH (cE (aX (eI hr) (aA 5) (aA 6)) (aH (eT (dL (aA 4) (bW (aB dQ (aB (aA 7) aD)))))) (aH (eT (dL (aA 4) (bW (aB dQ (aB (aA 7) (aB (aF hU hr (by decide) (aB (aA 0) (aB (aA 1) (aB (aF bR hr (by decide) (aB (aA 6) (aB (aA 2) aD))) aD)))) aD)))))))))))
  (aH (aP (aA 4))))),?_⟩
 ac_nf;refine⟨by decide,λp hp=>?_⟩;have n1:l≠p:=bP hl hp;refine⟨_,by rw[cT n1];exact hl,λi ρ M'=>M'=aU M p ((S.take i).map c.pc)/\∃o5 o6 o7,ρ=[some (PQ c.x c.y),some (PQ c.u c.v),some (.int c.q),some (.ref l),some (.ref p),o5,o6,o7],⟨rfl,_,_,_,rfl⟩,?_,?_,?_⟩
 ·rintro i ρ M' _ ⟨rfl,_⟩ a e;cases e;rw[cT n1];exact hl
 ·rintro i d ρ M' hd ⟨rfl,o5,o6,o7,rfl⟩;rw[getElem?_map] at hd;obtain⟨s,hs,rfl⟩:=Option.map_eq_some_iff.mp hd;have ms:=hS s (mem_of_getElem? hs);have hi:=(List.getElem?_eq_some_iff.mp hs).1;have q0:c.q≠0:=by have:=ok.q0;omega
  have bq:Bd 8999 c.q:=by have:=ok.q0;have:=ok.q1;exact Bd.mono (m:=8) (by unfold Bd;omega) (by decide)
  dsimp only[spD];ac_nf;refine⟨rfl,_,_,rfl,q0,bq,?_⟩;ac_nf;refine⟨_,_,_,_,_,rfl,ok.bx,ok.b_y,ok.bu,ok.bv,ok.bsh ms.1,?_⟩;ac_nf;rw[gY];by_cases z:s.1=s.2
  ·refine ifT (decide_eq_true z) ⟨⟨_,aI⟩,by decide,_,_,rfl,aI,by rw[length_map,length_take];omega,?_,_,_,_,rfl⟩;rw[iQ,fO hs,map_append];congr 2;rw[map_cons,show c.pc s=c.dot s.1 from if_pos z];rfl
  ·refine ifF (decide_eq_false z) ?_;ac_nf;refine⟨⟨_,aI⟩,_,_,rfl,q0,bq,?_⟩;ac_nf;refine⟨_,_,_,_,_,rfl,ok.bx,ok.b_y,ok.bu,ok.bv,ok.bsh ms.2,?_⟩;ac_nf;refine⟨by decide,_,_,rfl,aI,by rw[length_map,length_take];omega,?_,_,_,_,rfl⟩;rw[iQ,fO hs,map_append];congr 2;rw[map_cons,show c.pc s=c.str s from if_neg z];rfl
 ·rintro ρ M' ⟨rfl,o5,o6,o7,rfl⟩;ac_nf;refine lM (q p _ (bG.new hp _) hp ?_);rw[aI,length_map,take_length]
theorem Ln.due (c:Ln){S F G:List Sp}(wf:∀s∈S,s.1<=s.2)(h:Cmp S F)(h':Cmp S G)(s1:(F.map c.pc).Pairwise λa b=>ltD b a=false)(s2:(G.map c.pc).Pairwise λa b=>ltD b a=false):F.map c.pc=G.map c.pc :=
 sD (λd hd=>by obtain⟨x,_,rfl⟩:=List.mem_map.mp hd;exact(c.pc_sh x).1) ((h.perm wf h').map c.pc) s1 s2
def sp_law (pt:Addr):DSp:=λds M Q=>∃ns:List Int,ds = [.fz (ns.map D.int)]/\ns.length<=63/\M (.x pt) = some [.str "joined_spans.<locals>.<lambda>"]/\∀M',Q (.bl true) M'
noncomputable abbrev mO:Stmt:=top 67
theorem hX:aR ["_law_script","_law_from","_law_p","_law_q","_law_part","_law_spans_here","_law_handed","_law_kept","_law_due","_law_found"] ["_law_script"] (aK mO):=by ac_rfl
theorem aDo {pt f0:Addr}{fd0:FuncData}(hF:L2.Fun K "law" "law" mO f0 fd0)(fD:Has P w K mg base 101 "_law_feed" ["_law_cell"] kI)(hZ:Has P w K mg base 101 "_law_cell_at" ["_law_script","_law_k"] kM)(mH:Has P w K mg base 104 "_law_base" ["_law_from"] oV)(bM:Has P w K mg base 101 "_law_draw" ["_law_from","_law_many"] gW)(kB:Has P w K mg base 103 "_law_spans" ["_law_script"] nV)(iT:Has P w K mg base 103 "_law_merged" ["_law_spans_here"] lL)(fZ:Has P w K mg base 106 "_law_pieces" ["_law_p","_law_q","_law_part","_law_spans_here"] lO)(iO:Has P w K mg base 124 "joined" ["pieces"] (sI pt))(iB:mg "list" = none)(eS:mg "sorted" = none)(iU:mg "isinstance"=none) :
  jP P w K mg base CX0 151 f0 fd0 ["_law_script"] (mL K (sp_law pt)):=by
 refine Fun.okZ hF hX (λds M Q ⟨ns,e,_⟩=>by rw[e];rfl) λcdv A outer s H ds M Q E hr h=>?_;obtain⟨ns,rfl,lns,hP,fin⟩:=h;refine⟨_,(aE (aS (i:=1) hX.nd (aF fD hr (by decide) (aB (aF hZ hr (by decide) (aB (aA 0) (aB aC aD))) aD)))
  (aE (fM (aF mH hr (by decide) (aB (aA 1) aD)) (fY (n:=2) rfl (bL (aZ (i:=2) hX.nd) (bL (aZ (i:=3) hX.nd) eP))))
  (aE (aS (i:=4) hX.nd (aL eD aC (aF bM hr (by decide) (aB (aA 1) (aB aC aD)))))
  (aE (aS (i:=5) hX.nd (aF kB hr (by decide) (aB (aA 0) aD)))
  (aE (aS (i:=6) hX.nd (aF fZ hr (by decide) (aB (aA 2) (aB (aA 3) (aB (aA 4) (aB (aA 5) aD))))))
  (aE (aS (i:=7) hX.nd (gH aAk iB (aB (aA 6) aD)))
  (aE (aS (i:=8) hX.nd (cL (oM hr) eS (aB (aF fZ hr (by decide) (aB (aA 2) (aB (aA 3) (aB (aA 4) (aB (aF iT hr (by decide) (aB (aA 5) aD)) aD))))) aD)))
  (aE (aS (i:=9) hX.nd (aF iO hr (by decide) (aB (aA 6) aD)))
  (aE (cE (lN (qE (tO (kY (aCV (aA 9) iU iB))) (qE (aX (aB4 hr) (aA 9) (aA 8)) (pU (aX (aB4 hr) (aA 6) (aA 7)))))) (aH (aP uI)) bQ)
  (aE (eT (dL (aA 9) uB))
  (aH (aP (qC (fK (tV hr) (aF iO hr (by decide) (aB (aED (aA 6) (dG aC)) aD)) (aA 8)) (qC (fK (tV hr) (aF iO hr (by decide) (aB (aA 8) aD)) (aA 8)) (vM (fK (tV hr) (aF iO hr (by decide) (aB (cX aD) aD)) (cX aD))))))))))))))))),?_⟩
 ac_nf;refine⟨ns,0,rfl,λc0=>⟨c0,rfl,λpf Mf hpf fdf avf=>?_⟩⟩;ac_nf;refine⟨pf,0,rfl,fdf,by decide,λx y u v M1 ab b1 b2 b3 b4 fd1 av1=>?_⟩;ac_nf;refine⟨rfl,pf,60,_,rfl,fd1,by decide,by decide,bdk (by decide),λr M3 r0 r1 fd3 av3=>?_⟩;have hP3:M3 (.x pt) = some [.str "joined_spans.<locals>.<lambda>"]:=by rw[av3.x,av1.x,avf.x];exact hP
 clear avf av1 av3 fd3 fd1 fdf hpf;obtain⟨c,ec⟩:∃c:Ln,c=⟨x,y,u,v,1+r⟩:=⟨_,rfl⟩;have ok:c.Ok:=by rw[ec];exact⟨ab,by show 0<1+r;omega,by show 1+r<=60;omega,b1,b2,b3,b4⟩
 have e1:PQ x y=PQ c.x c.y:=by rw[ec]
 have e2:PQ u v=PQ c.u c.v:=by rw[ec]
 have e3:1+r=c.q:=by rw[ec]
 ac_nf;rw[e1,e2,e3];clear ec e1 e2 e3 ab b1 b2 b3 b4;refine⟨ns,rfl,λp5 M5 S s5 n5 h5 hS lS=>?_⟩;have wf:∀s∈S,s.1<=s.2:=λs hs=>(hS s hs).2;ac_nf;refine⟨p5,c,S,rfl,ok,h5,λs hs=>(hS s hs).1,by omega,λp6 M6 s6 n6 h6=>?_⟩;ac_nf;refine⟨_,h6,λp7 hp7=>?_⟩;have s7:=bG.new hp7 (S.map c.pc);have h7:aU M6 p7 (S.map c.pc) (.l p7)=some (S.map c.pc):=aI;generalize aU M6 p7 (S.map c.pc)=M7 at s7 h7 ⊢;have n67:p6≠p7:=bP h6 hp7;refine⟨p5,S,rfl,s7 _ _ (s6 _ _ h5),wf,lS,λpm Mm F0 sm nm hm cF0 lF0=>?_⟩;ac_nf;refine⟨pm,c,F0,rfl,ok,hm,cF0.all λs hs=>(hS s hs).1,by omega,λp8 M8 s8 n8 h8=>?_⟩;ac_nf;refine⟨_,.s,[ptS,ptS],h8,λd hd=>?_,?_,by rw[length_map];omega,λp9 zs hp9 pz so=>?_⟩
 ·obtain⟨x,_,rfl⟩:=List.mem_map.mp hd;exact c.pc_sh x
 ·exact List.all_eq_true.mpr λd hd=>by obtain⟨x,_,rfl⟩:=List.mem_map.mp hd;exact c.pc_key x
 obtain⟨G,rfl,pG⟩:=fP pz.symm _ rfl;have cG:=cF0.perm_right pG;have lG:G.length<=31:=by have:=pG.length_eq;omega
 have iG:=cG.all λs hs=>(hS s hs).1;have s9:=bG.new hp9 (G.map c.pc);have h9:aU M8 p9 (G.map c.pc) (.l p9)=some (G.map c.pc):=aI;generalize aU M8 p9 (G.map c.pc)=M9 at s9 h9 ⊢;have s79:bG M7 M9:=sm.trans (s8.trans s9);have s39:bG M3 M9:=s5.trans (s6.trans (s7.trans s79));have hP9:=s39 _ _ hP3;have h69:=s79 _ _ (s7 _ _ h6);have h79:=s79 _ _ h7;clear s39 s79 s9 s8 sm s7 s6 s5 hP3 h8 hm h7 h6 h5 n5 n6 nm n8 hp7 hp9 pz pG cF0 lF0;refine⟨p6,c,S,rfl,ok,h69,hS,lS,hP9,λp10 M10 F1 s10 n10 h10 c1 so1=>?_⟩;have e1:=c.due wf c1 cG so1 so;rw[e1] at h10;have pu:∀{T:List Sp},∀d∈T.map c.pc,bH 19 d=true:=λd hd=>by obtain⟨x,_,rfl⟩:=List.mem_map.mp hd;unfold Ln.pc;split<;>rfl
 have n106:p10≠p6:=λz=>by rw[z,h69] at n10;cases n10
 have n107:p10≠p7:=λz=>by rw[z,h79] at n10;cases n10
 have n109:p10≠p9:=λz=>by rw[z,h9] at n10;cases n10
 have h6a:=s10 _ _ h69;have h7a:=s10 _ _ h79;have h9a:=s10 _ _ h9;have hPa:=s10 _ _ hP9;clear s10 n10 h69 h79 h9 hP9 c1 so1;ac_nf;have sh:∀{a b:Addr},((∃xs,D.ref a=.tup xs)/\∃ys,D.ref b=.tup ys)∨((∃a',D.ref a=.ref a')/\∃b',D.ref b=.ref b'):=.inr ⟨⟨_,rfl⟩,_,rfl⟩;refine aDL h10 rfl (ifF rfl ⟨sh,true,iK (n:=19) h10 h9a n109 pu,ifF rfl ⟨sh,true,iK (n:=19) h6a h7a n67 pu,ifF rfl ?_⟩⟩);refine⟨⟨_,h10⟩,_,_,rfl,h10,by rw[length_map];omega,rfl,_,by rw[cT (Ne.symm n106)];exact h6a,λp11 hp11=>?_⟩;have h9b:aU M10 p10 (G.map c.pc++[.non]) (.l p9)=some (G.map c.pc):=by rw[cT (Ne.symm n109)];exact h9a
 have hPb:aU M10 p10 (G.map c.pc++[.non]) (.x pt) = some [.str "joined_spans.<locals>.<lambda>"]:=by rw[kQ];exact hPa
 rw[<- List.map_reverse];have s11:=bG.new hp11 (S.reverse.map c.pc);have h11:aU (aU M10 p10 (G.map c.pc++[.non])) p11 (S.reverse.map c.pc) (.l p11)=some (S.reverse.map c.pc):=aI;have h9b:=s11 _ _ h9b;have hPb:=s11 _ _ hPb;generalize aU (aU M10 p10 (G.map c.pc++[.non])) p11 (S.reverse.map c.pc)=M11 at h11 h9b hPb ⊢;refine⟨p11,c,S.reverse,rfl,ok,h11,λs hs=>hS s (List.mem_reverse.mp hs),by rw[List.length_reverse];exact lS,hPb,λp12 M12 F2 s12 n12 h12 c2 so2=>?_⟩;rw[c.due wf (c2.of_mem λs=>List.mem_reverse) cG so2 so] at h12;have n129:p12≠p9:=λz=>by rw[z,h9b] at n12;cases n12
 have h9c:=s12 _ _ h9b;have hPc:=s12 _ _ hPb;refine⟨sh,true,iK (n:=19) h12 h9c n129 pu,ifT rfl ?_⟩;refine⟨p9,c,G,rfl,ok,h9c,λs hs=>⟨iG s hs,cG.wf s hs⟩,lG,hPc,λp13 M13 F3 s13 n13 h13 c3 so3=>?_⟩;rw[c.due cG.wf c3 cG.self so3 so] at h13;have n139:p13≠p9:=λz=>by rw[z,h9c] at n13;cases n13
 refine⟨sh,true,iK (n:=19) h13 (s13 _ _ h9c) n139 pu,ifT rfl ⟨by decide,λp14 hp14=>?_⟩⟩;have s14:=bG.new hp14 [];refine⟨p14,c,[],rfl,ok,aI,(λs hs=>nomatch hs),by decide,s14 _ _ (s13 _ _ hPc),λp15 M15 F4 s15 n15 h15 c4 so4=>⟨by decide,λp16 hp16=>?_⟩⟩;have e4:F4=[]:=by
  cases F4 with
  |nil=>rfl
  |cons x F=>obtain⟨s,hs,_⟩:=c4.st x mem_cons_self;cases hs
 rw[e4] at h15;exact⟨sh,true,iK (n:=19) ((bG.new hp16 []) _ _ h15) aI (bP h15 hp16) (λd hd=>nomatch hd),_,.refl _,fin _⟩
noncomputable abbrev tabsL:List (Addr×Addr×Str):=[((275:Addr),(271:Addr),("joined_spans.<locals>.<lambda>":Str))]
theorem law_here (ns:List Int)(hl:ns.length<=63)(M:DM)(h:∀t∈tabsL,M (.x t.2.1)=some [.str t.2.2]):sp_law 271 [.fz (ns.map D.int)] M λd _=>d=.bl true:=⟨ns,rfl,hl,h _ mem_cons_self,λ_=>rfl⟩
end
local macro_rules | `(tactic|subst_eqs) => `(tactic|(intro _ _ _ _ _ _ us hl;first |(obtain ⟨_,h⟩ := us1 hl;subst h;rfl) |(obtain ⟨_,_,h⟩ := us2 hl;subst h;rfl) |(obtain ⟨_,_,_,h⟩ := us3 hl;subst h;rfl) |(obtain ⟨_,_,_,_,h⟩ := us4 hl;subst h;rfl)))
theorem all_mk {l:PySem.W.OpenLaw}{w:World}{K:Frag}{h:Heap}{mg:Str->Option Value}{fa f0 f1 f2 f3 f4 f5 f6 f7 f8 f9 f10 f11 f12 f13 f14 f15 f16 f17 f18 f19 f20 f21 f22 f23 f24 f25 f26 f27 f28 f29 f30 f31 f32 f33 f34 f35 f36 f37 f38 f39:Addr}(X:K.In h)(G:h.Ns mainGlobals mg)(hfa:mg "law"=some (.ref fa)){od39 an39:Option Addr}{sl39:Array (Option Value)}{oc39 kV39 dc39 pm39 cd39 ct39:Value}(b0:FK K "merged" f0 qR)(b1:FK K "in_order" f1 mI)(b2:FK K "joined_spans" f2 gL)(b3:FK K "greatest_divisor" f3 eO)(b4:FK K "plus" f4 xW)(b5:FK K "minus" f5 vR)(b6:FK K "times" f6 uU)(b7:FK K "below" f7 vL)(b8:FK K "before" f8 qM)(b9:FK K "_law_feed" f9 mK)(b10:FK K "_law_draw" f10 mE)(b11:FK K "_law_lowest" f11 iZ)(b12:FK K "_law_small" f12 jZ)(b13:FK K "_law_spot" f13 lV)(b14:FK K "_law_sum" f14 nW)(b15:FK K "_law_both" f15 mJ)(b16:FK K "_law_product" f16 iE)(b17:FK K "_law_first" f17 kD)(b18:FK K "_law_cell_at" f18 iA)(b19:FK K "plain_line" f19 iW)(b20:FK K "line" f20 yD)(b21:FK K "on_one_bottom" f21 fU)(b22:FK K "sign" f22 zH)(b23:FK K "side" f23 yT)(b24:FK K "on_straight" f24 iI)(b25:FK K "far" f25 aCr)(b26:FK K "carrier" f26 oB)(b27:FK K "farther" f27 oJ)(b28:FK K "ahead" f28 vD)(b29:FK K "on" f29 aG0)(b30:FK K "_law_mixed" f30 jX)(b31:FK K "_law_base" f31 lX)(b32:FK K "joined_stretches" f32 cM)(b33:FK K "lone_dots" f33 hO)(b34:FK K "joined_arcs" f34 iC)(b35:FK K "joined" f35 rO)(b36:FK K "_law_spans" f36 kK)(b37:FK K "_law_merged" f37 jA)(b38:FK K "_law_pieces" f38 jF)(a39:nsIn K mainGlobals "law" = some (some (.ref f39)))(l39:K.lookup f39 = some ⟨oc39,od39,.func (fnOf "law" "law" (jE mO) (dY mO) (aK mO) .none kV39 dc39 pm39 an39 cd39 ct39),sl39⟩)(c39:codeIn K cd39 "law"=true)(k39:keepIn K (.ref f39)=true)(z_abs:nsIn K mainGlobals "abs"=some none)(z_any:nsIn K mainGlobals "any"=some none)(z_int:nsIn K mainGlobals "int"=some none)(z_isinstance:nsIn K mainGlobals "isinstance"=some none)(z_len:nsIn K mainGlobals "len"=some none)(z_list:nsIn K mainGlobals "list"=some none)(z_max:nsIn K mainGlobals "max"=some none)(z_sorted:nsIn K mainGlobals "sorted"=some none)(z_zip:nsIn K mainGlobals "zip"=some none)(tk_joined_spans:∃oc od fd osl,K.lookup f2=some ⟨oc,od,.func fd,osl⟩/\fd.code=.ref 275):∃fd:FuncData,(∀(s:Shared)(v:Value),BindsTo s fd ⟨[v],[]⟩ [("_law_script",v)])/\∀base:Heap,K.In base->base.Ns mainGlobals mg->(∀t∈tabsL,CodeHd base t.1 t.2.1/\base.BuiltinsAt mg t.2.1)->jP l.prog w K mg base CX0 151 fa fd ["_law_script"] (mL K (sp_law 271)):=by
 have e:=hfa.symm.trans (mg_of X G a39);cases e;have H0:=b0.has X G (ps:=["ones","others","earlier"]) (by subst_eqs)
 have H1:=b1.has X G (ps:=["things","earlier"]) (by subst_eqs)
 have H2:=b2.has X G (ps:=["spans","earlier"]) (by subst_eqs)
 have H3:=b3.has X G (ps:=["one","other"]) (by subst_eqs)
 have H4:=b4.has X G (ps:=["one","other"]) (by subst_eqs)
 have H5:=b5.has X G (ps:=["one","other"]) (by subst_eqs)
 have H6:=b6.has X G (ps:=["one","other"]) (by subst_eqs)
 have H7:=b7.has X G (ps:=["one","other"]) (by subst_eqs)
 have H8:=b8.has X G (ps:=["p","q"]) (by subst_eqs)
 have H9:=b9.has X G (ps:=["_law_cell"]) (by subst_eqs)
 have H10:=b10.has X G (ps:=["_law_from","_law_many"]) (by subst_eqs)
 have H11:=b11.has X G (ps:=["_law_top","_law_bottom"]) (by subst_eqs)
 have H12:=b12.has X G (ps:=["_law_from"]) (by subst_eqs)
 have H13:=b13.has X G (ps:=["_law_from"]) (by subst_eqs)
 have H14:=b14.has X G (ps:=["_law_one","_law_other","_law_by"]) (by subst_eqs)
 have H15:=b15.has X G (ps:=["_law_p","_law_q","_law_by"]) (by subst_eqs)
 have H16:=b16.has X G (ps:=["_law_one","_law_other"]) (by subst_eqs)
 have H17:=b17.has X G (ps:=["_law_p","_law_q"]) (by subst_eqs)
 have H18:=b18.has X G (ps:=["_law_script","_law_k"]) (by subst_eqs)
 have H19:=b19.has X G (ps:=["a","b","d"]) (by subst_eqs)
 have H20:=b20.has X G (ps:=["p","q"]) (by subst_eqs)
 have H21:=b21.has X G (ps:=["p"]) (by subst_eqs)
 have H22:=b22.has X G (ps:=["number"]) (by subst_eqs)
 have H23:=b23.has X G (ps:=["a","b","p"]) (by subst_eqs)
 have H24:=b24.has X G (ps:=["piece","p"]) (by subst_eqs)
 have H25:=b25.has X G (ps:=["p","q"]) (by subst_eqs)
 have H26:=b26.has X G (ps:=["piece"]) (by subst_eqs)
 have H27:=b27.has X G (ps:=["c","p","q"]) (by subst_eqs)
 have H28:=b28.has X G (ps:=["c","a","p","q"]) (by subst_eqs)
 have H29:=b29.has X G (ps:=["piece","p"]) (by subst_eqs)
 have H30:=b30.has X G (ps:=["_law_p","_law_q","_law_by"]) (by subst_eqs)
 have H31:=b31.has X G (ps:=["_law_from"]) (by subst_eqs)
 have H32:=b32.has X G (ps:=["stretches"]) (by subst_eqs)
 have H33:=b33.has X G (ps:=["pieces","others"]) (by subst_eqs)
 have H34:=b34.has X G (ps:=["pieces"]) (by subst_eqs)
 have H35:=b35.has X G (ps:=["pieces"]) (by subst_eqs)
 have H36:=b36.has X G (ps:=["_law_script"]) (by subst_eqs)
 have H37:=b37.has X G (ps:=["_law_spans_here"]) (by subst_eqs)
 have H38:=b38.has X G (ps:=["_law_p","_law_q","_law_part","_law_spans_here"]) (by subst_eqs)
 have F39:=fun_mk (st:=mO) l39 c39 k39;have rP:=mg_none_of X G z_abs;have aC4:=mg_none_of X G z_any;have tG:=mg_none_of X G z_int;have iU:=mg_none_of X G z_isinstance;have iN:=mg_none_of X G z_len;have iB:=mg_none_of X G z_list;have aB6:=mg_none_of X G z_max;have eS:=mg_none_of X G z_sorted;have aCU:=mg_none_of X G z_zip;refine⟨fnOf "law" "law" (jE mO) (dY mO) (aK mO) .none kV39 dc39 pm39 an39 cd39 ct39,λs v=>.of_eq rfl,λbase _ _ hTb=>?_⟩;have tb_joined_spans:aBY K mg base "joined_spans" 271:=λf oc od fd osl hm lk=>by obtain⟨oc2,od2,fd2,osl2,lk2,hc2⟩:=tk_joined_spans;have e:=hm.symm.trans (mg_of X G b2.1);cases e;rw[lk2] at lk;cases lk;exact⟨275,hc2,(hTb _ mem_cons_self).1,(hTb _ mem_cons_self).2⟩
 have qX:=yZ (P:=l.prog) (w:=w) (base:=base) H0 iN;have eZ:=uN H1 iN iB qX;have gG:=nY H2 tb_joined_spans eZ;have aW:=jV (P:=l.prog) (w:=w) (base:=base) H3 rP;have oG:=aC0 H4 aW;have pX:=aBb H5 oG;have pQ:=aAK H6 aW;have pZ:=aBa (P:=l.prog) (w:=w) (base:=base) H7;have eG:=yE H8 pZ;have fD:=vJ (P:=l.prog) (w:=w) (base:=base) H9 tG;have bM:=uY (P:=l.prog) (w:=w) (base:=base) H10;have bR:=qP (P:=l.prog) (w:=w) (base:=base) H11 rP;have gS:=sA H12 bM bR;have jH:=uV H13 gS;have dF:=wB H14 bR;have mF:=uL H15 dF;have fH:=pL H16 bR;have kE:=rV (P:=l.prog) (w:=w) (base:=base) H17 aCU;have hZ:=pE (P:=l.prog) (w:=w) (base:=base) H18 iN;have jG:=rC H19 aW;have yM:=aDk H20 pX oG pQ jG;have dM:=mW (P:=l.prog) (w:=w) (base:=base) H21;have yV:=aCm (P:=l.prog) (w:=w) (base:=base) H22;have xV:=aBU H23 dM yV;have iJ:=pC H24 xV eG;have aB5:=aDP (P:=l.prog) (w:=w) (base:=base) H25;have oK:=wD H26 yM aB5;have oF:=wT (P:=l.prog) (w:=w) (base:=base) H27;have uJ:=aAV (P:=l.prog) (w:=w) (base:=base) H28;have aGc:=aGP H29 iJ oF uJ;have hU:=rW H30 mF dF fH;have mH:=tS H31 jH dF kE;have eM:=jS H32 eG gG;have kT:=rT H33 aGc aC4 iB;have iD:=pM (P:=l.prog) (w:=w) (base:=base) H34;have iO:=yQ H35 oK eM iD kT eS;have kB:=rX H36 fD bM iN tG;have iT:=rA (P:=l.prog) (w:=w) (base:=base) H37 eS aB6;have fZ:=qD H38 hU bR;exact aDo (P:=l.prog) (w:=w) (base:=base) F39 fD hZ mH bM kB iT fZ iO iB eS iU
end Lw
def PySem.W.Fast.tw2452291266411721857:Unit:=()
def PySem.W.Fast.tw7116023941404033060:Unit:=()
def PySem.W.Fast.tw5519732224310997381:Unit:=()
def PySem.W.Fast.tw17093398358142880550:Unit:=()
def PySem.W.Fast.tw11652367461660644428:Unit:=()
def PySem.W.Fast.tw10713048835783336717:Unit:=()
def PySem.W.Fast.tw7670490801536248785:Unit:=()
def PySem.W.Fast.tw7048187351965317778:Unit:=()
def PySem.W.Fast.tw16238257993482365171:Unit:=()
def PySem.W.Fast.tw12806640006958075350:Unit:=()
def PySem.W.Fast.tw52867536641249174:Unit:=()
def PySem.W.Fast.tw14693954801065330807:Unit:=()
def PySem.W.Fast.tw5834157525957822935:Unit:=()
def PySem.W.Fast.tw13069338961256671767:Unit:=()
def PySem.W.Fast.tw5775317728358542104:Unit:=()
def PySem.W.Fast.tw8299816973463445626:Unit:=()
def PySem.W.Fast.tw5618222895010248315:Unit:=()
def PySem.W.Fast.tw1992128032054819612:Unit:=()
def PySem.W.Fast.tw1519338819591237790:Unit:=()
def PySem.W.Fast.tw3058053486282633598:Unit:=()
def PySem.W.Fast.tw16586556162220385407:Unit:=()
def PySem.W.Fast.tw7143413439074174871:Unit:=()
open PySem PySem.W PyProof.Rows
set_option maxRecDepth 100000 in
set_option maxHeartbeats 0 in
theorem PySem.Challenge.cw_arcmill_k41_joined_on_a_line_holds : PySem.Challenge.rw_arcmill_k41_joined_on_a_line.Holds := by
 w_on;o_law;k_head;(case hw=>w_witness2)
 k_fill
 refine Dd.walk_ofL (l:=PySem.Challenge.rw_arcmill_k41_joined_on_a_line) (n:=63) (k:=151) (x:="_law_script") (sp:=Lw.sp_law 271) (tabs:=Lw.tabsL) rfl (by decide) rfl ⟨rfl,by decide,by decide⟩ (λw h Y=>PySem.W.km_in_of Y) (by intro w;kernel_rfl) (by decide) (λw h Y=>List.forall_mem_cons.mpr ⟨⟨PySem.W.codeHd_of_K (PySem.W.km_in_of Y) (by kernel_rfl),PySem.W.km_tabs_of Y 271 (by k_mem)⟩,λ_ h=>nomatch h⟩) ?F Lw.law_here
 case F =>
  intro w mg fa h KX G hmg
  refine' Lw.all_mk KX G hmg ?b0 ?b1 ?b2 ?b3 ?b4 ?b5 ?b6 ?b7 ?b8 ?b9 ?b10 ?b11 ?b12 ?b13 ?b14 ?b15 ?b16 ?b17 ?b18 ?b19 ?b20 ?b21 ?b22 ?b23 ?b24 ?b25 ?b26 ?b27 ?b28 ?b29 ?b30 ?b31 ?b32 ?b33 ?b34 ?b35 ?b36 ?b37 ?b38 ?a39 ?l39 ?c39 ?k39 ?z_abs ?z_any ?z_int ?z_isinstance ?z_len ?z_list ?z_max ?z_sorted ?z_zip ?tk_joined_spans
  (case b0|b1|b2|b3|b4|b5|b6|b7|b8|b9|b10|b11|b12|b13|b14|b15|b16|b17|b18|b19|b20|b21|b22|b23|b24|b25|b26|b27|b28|b29|b30|b31|b32|b33|b34|b35|b36|b37|b38 =>exact⟨by k_is,_,L2.fun_mk (by k_is) (by k_is) (by k_is)⟩)
  (case a39|l39|c39|k39|z_abs|z_any|z_int|z_isinstance|z_len|z_list|z_max|z_sorted|z_zip =>k_is)
  (case tk_joined_spans=>exact⟨_,_,_,_,by k_is,rfl⟩)
