import PyProof.Rows.All
import Wide.All
import OpenK.AllK
import Wide.FinOn
import Lean
import PyProof.EqAt
import PyProof.EqKinds
import PyProof.TupleCall
import PyProof.NeKinds
import PyProof.IsRules
import PyProof.CompFree
import KE.LcSums
import PyProof.FactsAll.range_1
import PyProof.SeqRoads2
import KE.KRevSl
import PyProof.ZipIter
import PyProof.TupleIter
import PyProof.FitsBits
import PyProof.NoPylong
import KE.IntBitsLaws
import PyProof.CompMap
import PyProof.AutoSeq1
import PyProof.SeqInW
import KE.KDictList
import PyProof.Rows.TupDisplay
import KE.KSortTup
import PyProof.ListMulRoad
import PyProof.Rows.SumAny
import PyProof.StrLawsOcc
import PyProof.FitsReplace
import PyProof.CollectIter
import PyProof.Rows.CountFlat
import PyProof.Draws
import PyProof.EnumMake
import PyProof.Rows.TupTab
import PyProof.Rows.SetFrom
import PySem.Challenge.RW_arcmill_k88_whole_what_is_let_by_is_so
set_option Elab.async false
set_option linter.all false
set_option bootstrap.genMatcherCode false
set_option maxRecDepth 100000
open List (range filterMap_cons mem_cons_self mem_cons_of_mem mem_append_left mem_append_right length_cons map_cons length_map append_nil length_take getElem?_append_right getElem?_append_left getElem?_map mem_of_getElem? length_append size_toArray length_drop all_cons all_map drop lookup_cons getElem?_eq_getElem getElem_mem any_cons map_append find?_cons mem_cons not_mem_nil take_length Nodup length_zip)
open PySem.W (instObj methodObj Frag lookIn plainGet hasDictIn findIn plainGet_of isFn emptyDict keepIn kitOne kia_one kitx_list callWith_K fnOf codeIn nsIn mg_of mg_none_of)
namespace L2
open PySem PySem.Spec PyProof.Rows
noncomputable abbrev Key:=Sum Int Str
noncomputable def aHV:Key->Value->Bool
 |.inl k,v=>Value.isInt k v
 |.inr x,v=>Value.isStrOf x v
noncomputable def aII (w:World):Key->Int
 |.inl k=>hashInt k
 |.inr x=>hashStr w x
theorem dN:∀{k:Key}{v:Value},aHV k v=true->(∃i t,k=Sum.inl i/\v=Value.int i t)∨(∃x t,k=Sum.inr x/\v=Value.str x t)
 |.inl i,v,h=>by obtain⟨t,e⟩:=Value.isInt_shape (k:=i) (v:=v) h;exact .inl ⟨i,t,rfl,e⟩
 |.inr x,v,h=>by obtain⟨t,e⟩:=Value.isStrOf_shape (x:=x) (v:=v) h;exact .inr ⟨x,t,rfl,e⟩
theorem aJi (a b:Int):decide ((Sum.inl a:Key)=Sum.inl b)=(a==b):=by
 by_cases e:a=b
 ·subst e;simp
 ·have h:¬(Sum.inl a:Key)=Sum.inl b:=λq=>e (Sum.inl.inj q);rw[decide_eq_false h];exact(beq_eq_false_iff_ne.mpr e).symm
theorem aKw (a b:Str):decide ((Sum.inr a:Key)=Sum.inr b)=decide (a=b):=by
 by_cases e:a=b
 ·subst e;simp
 ·have h:¬(Sum.inr a:Key)=Sum.inr b:=λq=>e (Sum.inr.inj q);rw[decide_eq_false h,decide_eq_false e]
theorem aIt (a:Int)(b:Str):decide ((Sum.inl a:Key)=Sum.inr b)=false:=decide_eq_false (λq=>nomatch q)
theorem aJW (a:Str)(b:Int):decide ((Sum.inr a:Key)=Sum.inl b)=false:=decide_eq_false (λq=>nomatch q)
noncomputable def aCS (prog:Program)(w:World):PySem.KeyKind prog w Key where
 is:=aHV
 hash:=aII w
 inj:=λv a b ha hb=>by
  rcases dN ha with⟨i,t,rfl,rfl⟩|⟨x,t,rfl,rfl⟩
  ·rcases dN hb with⟨j,u,rfl,e⟩|⟨y,u,rfl,e⟩
   ·injection e with e1 _;rw[e1]
   ·exact nomatch e
  ·rcases dN hb with⟨j,u,rfl,e⟩|⟨y,u,rfl,e⟩
   ·exact nomatch e
   ·injection e with e1 _;rw[e1]
 byValue:=λk v h=>by rcases dN h with⟨i,t,rfl,rfl⟩|⟨x,t,rfl,rfl⟩<;>rfl
 pyHash:=λhv h=>by
  rcases dN hv with⟨i,t,rfl,rfl⟩|⟨x,t,rfl,rfl⟩
  ·exact wpAny_pyHash_int h
  ·exact wpAny_pyHash_str h
 eqBool:=λhu hv h=>by
  rcases dN hu with⟨i,t,rfl,rfl⟩|⟨x,t,rfl,rfl⟩
  ·rcases dN hv with⟨j,u,rfl,rfl⟩|⟨y,u,rfl,rfl⟩
   ·rw[aJi] at h;exact wpAny_eqBool_int h
   ·rw[aIt] at h;exact SeqAt.EqAt.int_str i t y u _ _ _ _ h
  ·rcases dN hv with⟨j,u,rfl,rfl⟩|⟨y,u,rfl,rfl⟩
   ·rw[aJW] at h;exact SeqAt.EqAt.str_int x t j u _ _ _ _ h
   ·rw[aKw] at h;exact wpAny_eqBool_str h
 «strs»:=λk x t v h=>by
  rcases dN h with⟨i,u,rfl,e⟩|⟨y,u,rfl,e⟩
  ·exact nomatch e
  ·injection e with e1 _
   subst e1;cases v<;>rfl
inductive V where
 |non|bl (b:Bool)|int (i:Int)|str (x:Str)|byt (b:Array UInt8)|flt (b:UInt64)|ref (a:Addr)|ty (n:String)
 deriving DecidableEq
def bM:V->Value->Prop
 |.non,u=>u=Value.none
 |.bl b,u=>u=Value.bool b
 |.int i,u=>∃t,u=Value.int i t
 |.str x,u=>∃t,u=Value.str x t
 |.byt b,u=>∃t,u=Value.bytes b t
 |.flt b,u=>∃t,u=Value.float b t
 |.ref a,u=>u=Value.ref a
 |.ty n,u=>u=Value.type n
abbrev bT:List V->List Value->Prop:=Paired bM
theorem bT.length {xs:List V}{us:List Value}(r:bT xs us):xs.length=us.length:=Paired.length r
theorem bT.get:∀{xs:List V}{us:List Value} {i:Nat} {x:V},bT xs us->xs[i]?=some x->∃u,us[i]?=some u/\bM x u
 |_,_,_,_,.nil,e=>by simp at e
 |_,_,0,_,.cons r _,e=>by simp at e;subst e;exact⟨_,rfl,r⟩
 |_,_,i+1,x,.cons _ t,e=>by obtain⟨u,h1,h2⟩:=bT.get (i:=i) (x:=x) t (by simpa using e);exact⟨u,by simpa using h1,h2⟩
theorem bT.set {x:V}{u:Value}(r:bM x u):∀{xs:List V}{us:List Value} (i:Nat),bT xs us->bT (xs.set i x) (us.set i u)
 |_,_,_,.nil=>.nil
 |_,_,0,.cons _ t=>.cons r t
 |_,_,i+1,.cons q t=>.cons q (bT.set r i t)
theorem bT.append:∀{xs ys:List V}{us ws:List Value},bT xs us->bT ys ws->bT (xs++ys) (us++ws)
 |_,_,_,_,.nil,s=>s
 |_,_,_,_,.cons r t,s=>.cons r (bT.append t s)
theorem bT.take:∀{xs:List V}{us:List Value} (n:Nat),bT xs us->bT (xs.take n) (us.take n)
 |_,_,0,_=>.nil
 |_,_,_+1,.nil=>.nil
 |_,_,n+1,.cons r t=>.cons r (bT.take n t)
theorem bT.drop:∀{xs:List V}{us:List Value} (n:Nat),bT xs us->bT (xs.drop n) (us.drop n)
 |_,_,0,r=>r
 |_,_,_+1,.nil=>.nil
 |_,_,n+1,.cons _ t=>bT.drop n t
def xW:Option V->Option Value->Prop
 |some v,some u=>bM v u
 |none,none=>True
 |_,_=>False
def KV {κ:Type}:List (κ×V)->List (κ×Value)->Prop:=Paired λ(p:κ×V)(q:κ×Value)=>p.1=q.1/\bM p.2 q.2
noncomputable def kV:Key->V
 |.inl i=>.int i
 |.inr x=>.str x
inductive HO where
  |lst (xs:List V)
  |tup (xs:List V)
  |dK (kvs:List (Key×V))|dT (kvs:List (List Key×V))
  |set (S:Int->Bool) (n:Nat)
  |ins (C dx:Addr) (fs:List (Str×V))
  |own (x:Addr)
  |xd (fs:List (Str×V))
  |met (f x:Addr)
  |rng (lo hi:Int)
  |frz (o:Obj) (u:HO)
  |tbl (ps:Array Value)
  |ext (φ:Heap->Prop)
noncomputable abbrev Hp:=Addr->Option HO
noncomputable def upd (H:Hp)(a:Addr)(o:HO):Hp:=λb=>if b=a then some o else H b
theorem cP {H:Hp}{a:Addr}{o:HO}:upd H a o a=some o:=by unfold upd;rw[if_pos rfl]
theorem aZ {H:Hp}{a b:Addr}{o:HO}(h:b≠a):upd H a o b=H b:=by unfold upd;rw[if_neg h]
theorem nG {H:Hp}{a b:Addr}{o u:HO}(h:H a=some o)(h':H b=some u)(d:o≠u):a≠b:=by intro e;subst e;rw[h] at h';exact d (Option.some.inj h')
theorem bD {H:Hp}{a b:Addr}{o:HO}(h:H a=some o)(h':H b=none):a≠b:=by intro e;subst e;rw[h] at h';cases h'
section
variable (P:Program)(w:World)
def fF (H:Hp)(h:Heap)(a:Addr):HO->Prop
 |.lst xs=>xs.length<=sizeLine/\∃(its:List Value)(n:Nat),bT xs its/\h.get? a = some { cls:=.type "list",data:=.seq its.toArray n }
 |.tup xs=>xs.length<=sizeLine/\∃its:List Value,bT xs its/\IsTup h a its.toArray
 |.dK kvs=>kvs.length<=sizeLine/\(a==sysModules)=false/\∃vs,KV kvs vs/\h.DictOf (aCS P w) a vs
 |.dT kvs=>kvs.length<=sizeLine/\(a==sysModules)=false/\∃xs:List (List Key×Addr×Value),
   Paired (λ(p:List Key×V)(q:List Key×Addr×Value)=>p.1=q.1/\H q.2.1=some (.tup (p.1.map kV))/\bM p.2 q.2.2) kvs xs /\
   ∃o es ep,h.get? a=some o/\o.ExactDict/\o.data=.dict es ep/\es.toList=xs.map (entryOfKey (tupleKind (aCS P w)))/\(xs.map (·.1)).Nodup
 |.set S n=>h.SetOf (intKind P w) a S n
 |.ins C dx fs=>H dx=some (.own a)/\fs.length<=1000/\dx≠a/\h.get? a=some (instObj C dx) /\
   ∃mA,h.Ns1 dx mA/\(∀f,xW (fs.lookup f) (mA f))/\PySem.Within mA (fs.map (·.1))
 |.own _=>∃o,h.get? a=some o
 |.xd fs=>∃mA,h.Ns1 a mA/\∀f,xW (fs.lookup f) (mA f)
 |.rng lo hi=>∃t u v,h.get? a = some { cls:=.type "range",data:=.fields #[.int lo t,.int hi u,.int 1 v] }
 |.frz o u=>h.get? a=some o/\fF H h a u
 |.tbl ps=>h.get? a=some { cls:=.none,data:=.fields ps }
 |.met f x=>h.get? a=some (methodObj (.ref f) (.ref x))
 |.ext φ=>φ h/\(∃o,h.get? a=some o)/\∀h1 h2:Heap,φ h1->(∀o,h1.get? a=some o->h2.get? a=some o)->φ h2
def HOk (H:Hp)(h:Heap):Prop:=∀a o,H a=some o->fF P w H h a o
end
section
variable {P:Program}{w:World}{H H':Hp}{h h':Heap}{a:Addr}{o:HO}
theorem fF.lt (x:fF P w H h a o):a<h.objs.size:=by
 cases o with
 |lst xs=>obtain⟨_,_,_,_,e⟩:=x;exact Heap.lt_size e
 |tup xs=>obtain⟨_,_,_,p⟩:=x;exact p.lt
 |dK kvs=>obtain⟨_,_,_,_,o,_,_,e,_⟩:=x;exact Heap.lt_size e
 |dT kvs=>obtain⟨_,_,_,_,o,_,_,e,_⟩:=x;exact Heap.lt_size e
 |set S n=>obtain⟨o,_,_,_,e,_⟩:=x;exact Heap.lt_size e
 |ins C dx fs=>obtain⟨_,_,_,e,_⟩:=x;exact Heap.lt_size e
 |own y=>obtain⟨_,e⟩:=x;exact Heap.lt_size e
 |xd fs=>obtain⟨_,⟨_,_,_,e,_⟩,_⟩:=x;exact Heap.lt_size e
 |rng lo hi=>obtain⟨_,_,_,e⟩:=x;exact Heap.lt_size e
 |frz ob u=>obtain⟨e,_⟩:=x;exact Heap.lt_size e
 |tbl ps=>exact Heap.lt_size (show h.get? a=some _ from x)
 |met f y=>exact Heap.lt_size (show h.get? a=some _ from x)
 |ext φ=>obtain⟨_,⟨_,e⟩,_⟩:=x;exact Heap.lt_size e
theorem Paired.mapP {α β:Type}{F G:α->β->Prop}:∀{l₁:List α}{l₂:List β},Paired F l₁ l₂->(∀a b,F a b->G a b)->Paired G l₁ l₂
 |_,_,.nil,_=>.nil
 |_,_,.cons r t,f=>.cons (f _ _ r) (Paired.mapP t f)
theorem fF.stay (x:fF P w H h a o)(k:∀b u,(b=a∨H b=some (.own a))->h.get? b=some u->h'.get? b=some u)(ho:∀b,H b=some (.own a)->H' b=some (.own a))(ht:∀b xs,H b=some (.tup xs)->H' b=some (.tup xs)):fF P w H' h' a o:=by
 induction o with
 |lst xs=>obtain⟨z,its,n,r,e⟩:=x;exact⟨z,its,n,r,k _ _ (.inl rfl) e⟩
 |tup xs=>obtain⟨z,its,r,ob,e,c⟩:=x;exact⟨z,its,r,ob,k _ _ (.inl rfl) e,c⟩
 |dK kvs=>obtain⟨z,y,vs,r,ob,es,ep,e,c⟩:=x;exact⟨z,y,vs,r,ob,es,ep,k _ _ (.inl rfl) e,c⟩
 |dT kvs =>
  obtain⟨z,y,xs,r,ob,es,ep,e,c⟩:=x;exact⟨z,y,xs,Paired.mapP r λp q z=>⟨z.1,ht _ _ z.2.1,z.2.2⟩,ob,es,ep,k _ _ (.inl rfl) e,c⟩
 |set S n=>obtain⟨ob,es,ep,t,e,c⟩:=x;exact⟨ob,es,ep,t,k _ _ (.inl rfl) e,c⟩
 |ins C dx fs =>
  obtain⟨d,z,ne,e,mA,⟨od,es,ep,e2,c⟩,r⟩:=x;exact⟨ho _ d,z,ne,k _ _ (.inl rfl) e,mA,⟨od,es,ep,k _ _ (.inr d) e2,c⟩,r⟩
 |own y=>obtain⟨ob,e⟩:=x;exact⟨ob,k _ _ (.inl rfl) e⟩
 |xd fs=>obtain⟨mA,⟨od,es,ep,e,c⟩,r⟩:=x;exact⟨mA,⟨od,es,ep,k _ _ (.inl rfl) e,c⟩,r⟩
 |rng lo hi=>obtain⟨t,u,v,e⟩:=x;exact⟨t,u,v,k _ _ (.inl rfl) e⟩
 |frz ob u ih=>obtain⟨e,q⟩:=x;exact⟨k _ _ (.inl rfl) e,ih q⟩
 |tbl ps =>
  have e:h.get? a=some { cls:=.none,data:=.fields ps }:=x;show h'.get? a=some { cls:=.none,data:=.fields ps };exact k a _ (.inl rfl) e
 |met f y =>
  have e:h.get? a=some (methodObj (.ref f) (.ref y)):=x;show h'.get? a=some (methodObj (.ref f) (.ref y));exact k a _ (.inl rfl) e
 |ext φ=>obtain⟨p,⟨o,e⟩,st⟩:=x;exact⟨st _ _ p λo q=>k _ _ (.inl rfl) q,⟨o,k _ _ (.inl rfl) e⟩,st⟩
theorem HOk.lt (x:HOk P w H h)(e:H a=some o):a<h.objs.size:=(x a o e).lt
theorem HOk.fresh (x:HOk P w H h)(e:h.objs.size<=a):H a=none:=by
 cases q:H a with
 |none=>rfl
 |some u=>exact absurd (Nat.lt_of_lt_of_le (x.lt q) e) (Nat.lt_irrefl _)
theorem HOk.kept (x:HOk P w H h)(k:∀b u,h.get? b=some u->h'.get? b=some u):HOk P w H h':=λa o e =>
 (x a o e).stay (λb u _ q=>k b u q) (λ_ q=>q) λ_ _ q=>q
theorem HOk.laid (x:HOk P w H h)(k:∀b u,h.get? b=some u->h'.get? b=some u)(hp:h.objs.size<=a)(new:fF P w (upd H a o) h' a o):HOk P w (upd H a o) h':=λb u e=>by
 have hn:=x.fresh hp;by_cases hb:b=a
 ·subst hb;rw[cP] at e;cases e;exact new
 ·rw[aZ hb] at e;exact(x b u e).stay (λc v _ q=>k c v q) (λc q=>by rw[aZ (bD q hn)];exact q) λc xs q=>by rw[aZ (bD q hn)];exact q
end
def Rd (H:Hp)(a:Addr)(u:HO):Prop:=H a=some u ∨ ∃o,H a=some (.frz o u)
theorem Rd.ok {P:Program}{w:World}{H:Hp}{h:Heap}{a:Addr}{u:HO}(r:Rd H a u)(x:HOk P w H h):fF P w H h a u:=by
 rcases r with r|⟨o,r⟩
 ·exact x a u r
 ·obtain⟨_,q⟩:=x a _ r;exact q
def Mut:Option HO->Prop
 |some (.lst _)=>True
 |some (.dK _)=>True
 |some (.dT _)=>True
 |some (.set _ _)=>True
 |some (.ins _ _ _)=>True
 |some (.ext _)=>True
 |_=>False
section
variable {P:Program}{w:World}{H:Hp}{h h':Heap}{x e:Addr}{o':HO}
theorem HOk.write (ok:HOk P w H h)(mu:Mut (H x))(he:e=x∨H e=some (.own x))(k:∀b u,b≠e->h.get? b=some u->h'.get? b=some u)(heo:∃u,h'.get? e=some u)(new:fF P w (upd H x o') h' x o'):HOk P w (upd H x o') h':=λb u q=>by
 have nown:∀c y,H c=some (.own y)->c≠x:=λc y r z=>by subst z;rw[r] at mu;exact mu
 have ntup:∀c xs,H c=some (.tup xs)->c≠x:=λc xs r z=>by subst z;rw[r] at mu;exact mu
 by_cases hb:b=x
 ·subst hb;rw[cP] at q;cases q;exact new
 ·rw[aZ hb] at q;by_cases hbe:b=e
  ·have q':H b=some (.own x):=by
    rcases he with z|z
    ·exact absurd (hbe.trans z) hb
    ·rw[hbe];exact z
   rw[q] at q';cases q';obtain⟨v,hv⟩:=heo;exact⟨v,by rw[hbe];exact hv⟩
  ·refine(ok b u q).stay (λc v hc r=>k c v ?_ r) (λc r=>by rw[aZ (nown c b r)];exact r) λc xs r=>by rw[aZ (ntup c xs r)];exact r
   rcases hc with rfl|hc
   ·exact hbe
   ·rintro rfl;rcases he with z|z
    ·exact nown c b hc z
    ·rw[hc] at z;cases z;exact hb rfl
end
structure Un (fs ex:List Addr)(H H':Hp)(h h':Heap):Prop where
 keep:∀b o,h.get? b=some o->H b=none->b∉fs->b∉ex->h'.get? b=some o
 slot:∀b o,h.get? b=some o->H b=none->b∈fs->b∉ex->∃sl,h'.get? b=some { o with slots:=sl }
 free:∀b o,h.get? b=some o->H b=none->b∉ex->H' b=none
 there:∀b o,h.get? b=some o->b∉ex->∃o',h'.get? b=some o'
 tups:∀b xs,H b=some (.tup xs)->H' b=some (.tup xs)
 frzs:∀b o u,H b=some (.frz o u)->H' b=some (.frz o u)
 tbls:∀b ps,H b=some (.tbl ps)->∃more,H' b=some (.tbl (ps++more))
section
variable {fs fs' ex ex':List Addr}{H H1 H2:Hp}{h h1 h2 h':Heap}{a x e:Addr}{o:HO}
theorem Un.any (u:Un fs ex H H1 h h1){b:Addr}{ob:Obj}(q:h.get? b=some ob)(n:H b=none)(hx:b∉ex):∃sl,h1.get? b=some { ob with slots:=sl }:=by
 by_cases hb:b∈fs
 ·exact u.slot b ob q n hb hx
 ·exact⟨ob.slots,u.keep b ob q n hb hx⟩
theorem Un.trans (a:Un fs ex H H1 h h1)(b:Un fs ex H1 H2 h1 h2):Un fs ex H H2 h h2 where
 keep:=λc ob q n hc hx=>b.keep c ob (a.keep c ob q n hc hx) (a.free c ob q n hx) hc hx
 slot:=λc ob q n hc hx=>by obtain⟨sl,e1⟩:=a.slot c ob q n hc hx;obtain⟨sl',e2⟩:=b.slot c _ e1 (a.free c ob q n hx) hc hx;exact⟨sl',e2⟩
 free:=λc ob q n hx=>by obtain⟨o',e1⟩:=a.there c ob q hx;exact b.free c o' e1 (a.free c ob q n hx) hx
 there:=λc ob q hx=>by obtain⟨o',e1⟩:=a.there c ob q hx;exact b.there c o' e1 hx
 tups:=λc xs q=>b.tups c xs (a.tups c xs q)
 frzs:=λc ob xs q=>b.frzs c ob xs (a.frzs c ob xs q)
 tbls:=λc ps q=>by obtain⟨m1,e1⟩:=a.tbls c ps q;obtain⟨m2,e2⟩:=b.tbls c _ e1;exact⟨m1++m2,by rw[e2,Array.append_assoc]⟩
theorem Un.kept (k:∀b u,h.get? b=some u->h'.get? b=some u):Un fs ex H H h h' :=
 ⟨λb ob q _ _ _=>k b ob q,λb ob q _ _ _=>⟨ob.slots,k b ob q⟩,λ_ _ _ n _=>n,λb ob q _=>⟨ob,k b ob q⟩,λ_ _ q=>q,λ_ _ _ q=>q,λ_ ps q=>⟨#[],by rw[q];simp⟩⟩
theorem Un.refl:Un fs ex H H h h:=Un.kept λ_ _ q=>q
theorem Un.laid (k:∀b u,h.get? b=some u->h'.get? b=some u)(hp:h.objs.size<=a)(hn:H a=none):Un fs ex H (upd H a o) h h' where
 keep:=λb u q _ _ _=>k b u q
 slot:=λb u q _ _ _=>⟨u.slots,k b u q⟩
 free:=λb u q n _=>by rw[aZ (Nat.ne_of_lt (Nat.lt_of_lt_of_le (Heap.lt_size q) hp))];exact n
 there:=λb u q _=>⟨u,k b u q⟩
 tups:=λb xs q=>by rw[aZ (bD q hn)];exact q
 frzs:=λb u xs q=>by rw[aZ (bD q hn)];exact q
 tbls:=λb ps q=>⟨#[],by rw[aZ (bD q hn),q];simp⟩
theorem Un.write (mu:Mut (H x))(he:e=x∨H e=some (.own x))(k:∀b u,b≠e->h.get? b=some u->h'.get? b=some u)(heo:∃u,h'.get? e=some u):Un fs ex H (upd H x o) h h':=by
 have hx:∀b,H b=none->b≠x:=λb n z=>by subst z;rw[n] at mu;exact mu
 have hb:∀b,H b=none->b≠e:=λb n z=>by
  subst z;rcases he with r|r
  ·exact hx b n r
  ·rw[n] at r;cases r
 have hm:∀b u,H b=some u->¬Mut (some u)->b≠x:=λb u q nm z=>by subst z;rw[q] at mu;exact nm mu
 refine⟨λb u q n _ _=>k b u (hb b n) q,λb u q n _ _=>⟨u.slots,k b u (hb b n) q⟩,λb u q n _=>by rw[aZ (hx b n)];exact n,λb u q _=>?_,
  λb xs q=>by rw[aZ (hm b _ q λz=>z)];exact q,λb u xs q=>by rw[aZ (hm b _ q λz=>z)];exact q,λb ps q=>⟨#[],by rw[aZ (hm b _ q λz=>z),q];simp⟩⟩
 by_cases hbe:b=e
 ·subst hbe;exact heo
 ·exact⟨u,k b u hbe q⟩
end
noncomputable def trk (h:Heap)(H:Hp):List Addr:=(range h.objs.size).filter λa=>(H a).isSome
noncomputable def aAh (h:Heap)(H:Hp):Heap:=PySem.W.hideAll h (trk h H)
theorem aDE (h:Heap)(H:Hp):(aAh h H).objs.size=h.objs.size:=PySem.W.hideAll_size _ _
theorem aE8 {h:Heap}{H:Hp}{b:Addr}{o:Obj}(e:h.get? b=some o)(n:H b=none):(aAh h H).get? b=some o :=
 PySem.W.hideAll_get _ e λhm=>by have q:(H b).isSome=true:=(List.mem_filter.mp hm).2;rw[n] at q;simp at q
theorem aGF {h:Heap}{H:Hp}{b:Addr}{o:Obj}(e:(aAh h H).get? b=some o):h.get? b=some o/\H b=none:=by
 have e':h.get? b=some o:=PySem.W.of_hideAll (trk h H) e;refine⟨e',?_⟩;cases q:H b with
 |none=>rfl
 |some x =>
  have hm:b∈trk h H:=List.mem_filter.mpr ⟨List.mem_range.mpr (Heap.lt_size e'),by simp[q]⟩;have z:(aAh h H).get? b=none:=PySem.W.hideAll_none (trk h H) hm;rw[z] at e;cases e
noncomputable def aGv (g h:Heap)(L:Addr):List (Addr×Obj):=(range h.objs.size).filterMap λa=>if a=L∨(g.get? a).isSome=true then none else (h.get? a).map λo=>(a,o)
noncomputable def bI (g h:Heap)(L d:Addr):List (Addr×Obj):=(aGv g h L).filter λp=>decide (p.1≠d)
structure Mod (K:Frag)(mg:Str->Option Value)(base:Heap):Prop where
 kin:K.In base
 glob:base.Ns mainGlobals mg
 blt:∃mb,base.Ns builtinsNs mb/\∀x:Str,x ≠ "__name__"->mb x=bootBuiltins x
 nolimit:base.NoLimit
structure Cx where
 prog:Program
 w:World
 K:Frag
 mg:Str->Option Value
 base:Heap
 A:Around
 N:List Str
 s₀:Shared
 H₀:Hp
 env:Env
 outer:List Env
 stack:List Env
 ex:List Addr
 fn:Str->Bool
 calm:Bool
 pn:List (Addr×Obj)
 xe:Value->Shared->Prop
noncomputable def frs (l:List Env):List Addr:=l.filterMap (·.frame)
noncomputable abbrev Cx.fs (X:Cx):List Addr:=frs X.outer
def Vis (sc:Scope)(x:Str):Prop:=sc.names.lookup x=some .local∨sc.names.lookup x=some .cell∨sc.names.lookup x=some .free
def Loc (sc:Scope)(x:Str):Prop:=sc.names.lookup x=some .local∨sc.names.lookup x=some .cell
def aMe (env:Env)(h:Heap)(m:Str->Option Value)(x:Str)(u:Value):Prop :=
 (env.kindOf x=some .local/\m x=some u)∨((env.kindOf x=some .cell∨env.kindOf x=some .free)/\∃c,env.cells.lookup x=some c/\h.IsCell c (some u))
structure Cx.Ok (X:Cx):Prop where
 mod:Mod X.K X.mg X.base
 kind:X.env.scope.kind=.function
 glob:X.env.globals=mainGlobals
 blt:X.env.builtins=builtinsNs
 above:X.s₀.heap.objs.size<=X.env.locals
 inj:∀x y c,X.env.cells.lookup x=some c->X.env.cells.lookup y=some c->x=y
 has:∀x,(X.env.kindOf x=some .cell∨X.env.kindOf x=some .free)->∃c,X.env.cells.lookup x=some c
 cab:∀x c,X.fn x=true->X.env.cells.lookup x=some c->X.s₀.heap.objs.size<=c
 hd:X.calm=true->X.A.handled=none
 frames:X.A.frames=some X.stack
 stk:X.stack=X.outer∨(X.stack=X.env::X.outer/\X.env.frame=some X.env.locals)
 exf:∀b∈X.ex,b≠X.env.locals/\∀x c,X.env.cells.lookup x=some c->c≠b
 bs:∀b o,X.base.get? b=some o->X.s₀.heap.get? b=some o/\X.H₀ b=none
 bsz:X.base.objs.size<=X.s₀.heap.objs.size
 noex:∀b o,X.base.get? b=some o->b∉X.ex
 exfs:∀b∈X.ex,b∉X.fs
 funs:X.s₀.heap.FunFrames X.base X.outer
 frf:∀b∈X.fs,X.H₀ b=none
structure Inv (X:Cx)(pins:List (Addr×Obj))(σ:List (Option V))(H:Hp)(s:Shared):Prop where
 ok:X.Ok
 os:s.os=X.s₀.os
 bare:AllBare s.gens
 base:Un X.fs X.ex X.H₀ H X.s₀.heap s.heap
 loc:∃m,s.heap.Ns X.env.locals m/\∀(i:Nat)(x:Str) (v:V),X.N[i]?=some x->σ[i]?=some (some v)->Vis X.env.scope x->∃u,bM v u/\aMe X.env s.heap m x u
 cell:∀x c,X.env.cells.lookup x=some c->∃v,s.heap.IsCell c v
 free:H X.env.locals=none
 freeC:∀x c,X.env.cells.lookup x=some c->H c=none
 pin:∀p∈X.pn++pins,s.heap.get? p.1=some p.2/\H p.1=none/\p.1≠X.env.locals/\p.1∉X.fs/\∀v,p.2.data ≠ .cell v
 hok:HOk X.prog X.w H s.heap
 len:σ.length=X.N.length
section
variable {X:Cx}{pins:List (Addr×Obj)}{σ:List (Option V)}{H H':Hp}{s:Shared}{h':Heap}
theorem Cx.Ok.nofr (ok:X.Ok){b:Addr}{o:Obj}(e:X.base.get? b=some o):b∉X.fs:=λhb=>by have:=(ok.funs.mem hb).1;rw[e] at this;cases this
theorem Inv.bs (I:Inv X pins σ H s):∀b o,X.base.get? b=some o->s.heap.get? b=some o/\H b=none:=λb o e =>
 ⟨I.base.keep b o (I.ok.bs b o e).1 (I.ok.bs b o e).2 (I.ok.nofr e) (I.ok.noex b o e),I.base.free b o (I.ok.bs b o e).1 (I.ok.bs b o e).2 (I.ok.noex b o e)⟩
theorem Inv.bk (I:Inv X pins σ H s):∀b o,X.base.get? b=some o->s.heap.get? b=some o:=λb o e=>(I.bs b o e).1
theorem Inv.mod (I:Inv X pins σ H s):Mod X.K X.mg X.base:=I.ok.mod
theorem Inv.kIn (I:Inv X pins σ H s):X.K.In s.heap:=I.ok.mod.kin.keeps I.bk
theorem Inv.lt (I:Inv X pins σ H s):X.env.locals<s.heap.objs.size:=let ⟨_,hn,_⟩:=I.loc;hn.lt
theorem Inv.sz (I:Inv X pins σ H s):X.s₀.heap.objs.size<=s.heap.objs.size:=Nat.le_trans I.ok.above (Nat.le_of_lt I.lt)
theorem Inv.nofs (I:Inv X pins σ H s){a:Addr}(h:s.heap.objs.size<=a):a∉X.fs:=λhb=>by obtain⟨_,o,ho,_⟩:=I.ok.funs.mem hb;exact absurd (Nat.lt_of_lt_of_le (Heap.lt_size ho) (Nat.le_trans I.sz h)) (Nat.lt_irrefl _)
theorem Inv.cne (I:Inv X pins σ H s):∀x c,X.env.cells.lookup x=some c->c≠X.env.locals:=λx c e z=>by obtain⟨v,o,ho,hd⟩:=I.cell x c e;obtain⟨m,⟨o',es,ep,ho',hd',_⟩,_⟩:=I.loc;rw[z,ho'] at ho;cases ho;rw[hd'] at hd;cases hd
theorem Inv.funs (I:Inv X pins σ H s):s.heap.FunFrames X.base X.outer:=by
 have all:∀(l:List Env),(∀b∈frs l,b∈X.fs)->X.s₀.heap.FunFrames X.base l->s.heap.FunFrames X.base l:=by
  intro l
  induction l with
  |nil=>intro _ _;trivial
  |cons env r ih =>
   intro hs hl;obtain⟨hk,⟨L,o,hf,hn,ho,hd⟩,hr⟩:=hl;have hL:L∈X.fs:=hs L (by unfold frs;rw[filterMap_cons,hf];exact mem_cons_self);obtain⟨sl,e⟩:=I.base.slot L o ho (I.ok.frf L hL) hL λz=>I.ok.exfs L z hL;exact⟨hk,⟨L,_,hf,hn,e,hd⟩,ih (λb hb=>hs b (by unfold frs;rw[filterMap_cons,hf];exact mem_cons_of_mem _ hb)) hr⟩
 exact all X.outer (λ_ hb=>hb) I.ok.funs
theorem Inv.stack (I:Inv X pins σ H s):s.heap.FunFrames X.base X.stack:=by
 rcases I.ok.stk with e|⟨e,hf⟩
 ·rw[e];exact I.funs
 ·rw[e];obtain⟨m,hn,_⟩:=I.loc;refine .cons (by rw[I.ok.kind];decide) hf hn ?_ I.funs;exact Heap.get?_none_of_le (Nat.le_trans I.ok.bsz I.ok.above)
theorem Inv.stkSub (I:Inv X pins σ H s):∀b∈frs X.stack,b∈X.env.locals::X.fs:=λb hb=>by
 rcases I.ok.stk with e|⟨e,hf⟩
 ·rw[e] at hb;exact mem_cons_of_mem _ hb
 ·rw[e] at hb;unfold frs at hb;rw[filterMap_cons,hf] at hb;exact hb
theorem Inv.stkFree (I:Inv X pins σ H s):∀b∈frs X.stack,H b=none:=λb hb=>by
 rcases List.mem_cons.mp (I.stkSub b hb) with e|hb
 ·rw[e];exact I.free
 ·obtain⟨_,o,ho,_⟩:=I.ok.funs.mem hb;exact I.base.free b o ho (I.ok.frf b hb) λz=>I.ok.exfs b z hb
theorem Inv.step {g':Array GenState}{t':Nat}{d':Drawn}{ch:List Addr}(I:Inv X pins σ H s)(hch:∀b∈ch,(b∈X.ex∨X.s₀.heap.objs.size<=b)/\b≠X.env.locals/\(∀x c,X.env.cells.lookup x=some c->c≠b)/\∀p∈X.pn++pins,p.1≠b)(keep:∀b o,b≠X.env.locals->b∉X.fs->b∉ch->s.heap.get? b=some o->H b=none->h'.get? b=some o)(slot:∀b o,b≠X.env.locals->b∈X.fs->b∉ch->s.heap.get? b=some o->H b=none->∃sl,h'.get? b=some { o with slots:=sl })(free:∀b o,b∉ch->s.heap.get? b=some o->H b=none->H' b=none)(there:∀b o,b∉ch->s.heap.get? b=some o->∃o',h'.get? b=some o')(tups:∀b xs,H b=some (.tup xs)->H' b=some (.tup xs))(frzs:∀b o u,H b=some (.frz o u)->H' b=some (.frz o u))(tbls:∀b ps,H b=some (.tbl ps)->∃more,H' b=some (.tbl (ps++more)))(ns:∀m,s.heap.Ns X.env.locals m->h'.Ns X.env.locals m)(hok:HOk X.prog X.w H' h')(hg:AllBare g') :
  Inv X pins σ H' { s with heap:=h',gens:=g',drawn:=d',toks:=t' }:=by
 have neL:∀b o,X.s₀.heap.get? b=some o->b≠X.env.locals:=λb o e=>Nat.ne_of_lt (Nat.lt_of_lt_of_le (Heap.lt_size e) I.ok.above);have neC:∀b o,X.s₀.heap.get? b=some o->b∉X.ex->b∉ch:=λb o e hx hb=>by
  rcases (hch b hb).1 with z|z
  ·exact hx z
  ·exact absurd (Nat.lt_of_lt_of_le (Heap.lt_size e) z) (Nat.lt_irrefl _)
 have cellK:∀x c,X.env.cells.lookup x=some c->∀v,s.heap.IsCell c v->h'.IsCell c v:=λx c e v ⟨o,ho,hd⟩=>by
  have nch:c∉ch:=λz=>(hch c z).2.2.1 x c e rfl;by_cases hc:c∈X.fs
  ·obtain⟨sl,q⟩:=slot c o (I.cne x c e) hc nch ho (I.freeC x c e);exact⟨_,q,hd⟩
  ·exact⟨o,keep c o (I.cne x c e) hc nch ho (I.freeC x c e),hd⟩
 refine⟨I.ok,I.os,hg,⟨λb o e n hb hx=>?_,λb o e n hb hx=>?_,λb o e n hx=>?_,λb o e hx=>?_,λb xs e=>tups b xs (I.base.tups b xs e),λb o xs e=>frzs b o xs (I.base.frzs b o xs e),λb ps e=>?_⟩,?_,λx c e=>?_,?_,λx c e=>?_,λp hp=>?_,hok,I.len⟩
 ·exact keep b o (neL b o e) hb (neC b o e hx) (I.base.keep b o e n hb hx) (I.base.free b o e n hx)
 ·obtain⟨sl,e1⟩:=I.base.slot b o e n hb hx;obtain⟨sl',e2⟩:=slot b _ (neL b o e) hb (neC b o e hx) e1 (I.base.free b o e n hx);exact⟨sl',e2⟩
 ·obtain⟨o',e1⟩:=I.base.there b o e hx;exact free b o' (neC b o e hx) e1 (I.base.free b o e n hx)
 ·obtain⟨o',e1⟩:=I.base.there b o e hx;exact there b o' (neC b o e hx) e1
 ·obtain⟨m1,e1⟩:=I.base.tbls b ps e;obtain⟨m2,e2⟩:=tbls b _ e1;exact⟨m1++m2,by rw[e2,Array.append_assoc]⟩
 ·obtain⟨m,hn,hl⟩:=I.loc;refine⟨m,ns m hn,λi x v e1 e2 e3=>?_⟩;obtain⟨u,r,l⟩:=hl i x v e1 e2 e3;refine⟨u,r,?_⟩;rcases l with l|⟨k,c,e,z⟩
  ·exact .inl l
  ·exact .inr ⟨k,c,e,cellK x c e _ z⟩
 ·obtain⟨v,z⟩:=I.cell x c e;exact⟨v,cellK x c e v z⟩
 ·obtain⟨m,⟨o,_,_,ho,_⟩,_⟩:=I.loc;exact free _ o (λz=>(hch _ z).2.1 rfl) ho I.free
 ·obtain⟨v,o,ho,hd⟩:=I.cell x c e;exact free c o (λz=>(hch c z).2.2.1 x c e rfl) ho (I.freeC x c e)
 ·obtain⟨e,n,ne,nf,d⟩:=I.pin p hp;have nch:p.1∉ch:=λz=>(hch p.1 z).2.2.2 p hp rfl;exact⟨keep p.1 p.2 ne nf nch e n,free p.1 p.2 nch e n,ne,nf,d⟩
theorem Inv.un {t':Nat}(I:Inv X pins σ H s)(u:Un X.fs [] H H' s.heap h')(hok:HOk X.prog X.w H' h'):Inv X pins σ H' { s with heap:=h',toks:=t' }:=by
 obtain⟨m,⟨o,es,ep,ho,r⟩,_⟩:=id I.loc;obtain⟨sl,hL⟩:=u.any ho I.free (by simp);exact I.step (g':=s.gens) (d':=s.drawn) (ch:=[]) (λ_ z=>nomatch z) (λb o _ hb _ e n=>u.keep b o e n hb (by simp)) (λb o _ hb _ e n=>u.slot b o e n hb (by simp)) (λb o _ e n=>u.free b o e n (by simp)) (λb o _ e=>u.there b o e (by simp)) u.tups u.frzs u.tbls (λm' hm=>by obtain⟨o',es',ep',ho',r'⟩:=hm;rw[ho] at ho';cases ho';exact⟨_,es',ep',hL,r'⟩) hok I.bare
theorem Inv.call {g':Array GenState}{t':Nat}{d':Drawn}{ch:List Addr}(I:Inv X pins σ H s)(u:Un (frs X.stack) ch H H' s.heap h')(hok:HOk X.prog X.w H' h')(hg:AllBare g')(hch:∀b∈ch,(b∈X.ex∨X.s₀.heap.objs.size<=b)/\b≠X.env.locals/\(∀x c,X.env.cells.lookup x=some c->c≠b)/\∀p∈X.pn++pins,p.1≠b) :
  Inv X pins σ H' { s with heap:=h',gens:=g',drawn:=d',toks:=t' }:=by
 obtain⟨m,⟨o,es,ep,ho,r⟩,_⟩:=id I.loc;obtain⟨sl,hL⟩:=u.any ho I.free λz=>(hch _ z).2.1 rfl;exact I.step (ch:=ch) hch (λb o hL hb hc e n=>u.keep b o e n (λz=>(List.mem_cons.mp (I.stkSub b z)).elim hL hb) hc) (λb o _ _ hc e n=>u.any e n hc) (λb o hc e n=>u.free b o e n hc) (λb o hc e=>u.there b o e hc) u.tups u.frzs u.tbls (λm' hm=>by obtain⟨o',es',ep',ho',r'⟩:=hm;rw[ho] at ho';cases ho';exact⟨_,es',ep',hL,r'⟩) hok hg
theorem Inv.turned {t':Nat}{it:Addr}(I:Inv X pins σ H s)(k:∀b o,b≠it->s.heap.get? b=some o->h'.get? b=some o)(hn:H it=none)(hL:it≠X.env.locals)(h1:it∈X.ex∨X.s₀.heap.objs.size<=it)(h2:∀x c,X.env.cells.lookup x=some c->c≠it)(h3:∀p∈X.pn++pins,p.1≠it):Inv X pins σ H { s with heap:=h',toks:=t' }:=by
 have nit:∀b u,H b=some u->b≠it:=λb u e z=>by rw[z,hn] at e;cases e
 refine I.step (g':=s.gens) (d':=s.drawn) (ch:=[it]) (λb hb=>?_) (λb o _ _ hc e _=>k b o (λz=>hc (by simp[z])) e) (λb o _ _ hc e _=>⟨o.slots,k b o (λz=>hc (by simp[z])) e⟩) (λ_ _ _ _ n=>n)
  (λb o hc e=>⟨o,k b o (λz=>hc (by simp[z])) e⟩) (λ_ _ e=>e) (λ_ _ _ e=>e) (λb ps e=>⟨#[],by rw[e];simp⟩) (λm hm=>?_) (λb u e=>?_) I.bare
 ·have e:b=it:=by simpa using hb
  subst e;exact⟨h1,hL,h2,h3⟩
 ·obtain⟨o,es,ep,ho,r⟩:=hm;exact⟨o,es,ep,k _ o (Ne.symm hL) ho,r⟩
 ·refine(I.hok b u e).stay (λc v hc q=>k c v ?_ q) (λ_ q=>q) λ_ _ q=>q;rcases hc with z|z
  ·rw[z];exact nit b u e
  ·exact nit c _ z
theorem Inv.tok (I:Inv X pins σ H s)(t:Nat):Inv X pins σ H { s with toks:=t }:=I.un (h':=s.heap) (t':=t) Un.refl I.hok
theorem Inv.kept {t':Nat}(I:Inv X pins σ H s)(k:∀b u,s.heap.get? b=some u->h'.get? b=some u):Inv X pins σ H { s with heap:=h',toks:=t' }:=I.un (Un.kept k) (I.hok.kept k)
theorem Inv.laid {a:Addr}{o:HO}{t':Nat}(I:Inv X pins σ H s)(k:∀b u,s.heap.get? b=some u->h'.get? b=some u)(hp:s.heap.objs.size<=a)(new:fF X.prog X.w (upd H a o) h' a o) :
  Inv X pins σ (upd H a o) { s with heap:=h',toks:=t' }:=I.un (Un.laid k hp (I.hok.fresh hp)) (I.hok.laid k hp new)
theorem Inv.write {x e:Addr}{o:HO}{t':Nat}(I:Inv X pins σ H s)(mu:Mut (H x))(he:e=x∨H e=some (.own x))(k:∀b u,b≠e->s.heap.get? b=some u->h'.get? b=some u)(heo:∃u,h'.get? e=some u)(new:fF X.prog X.w (upd H x o) h' x o):Inv X pins σ (upd H x o) { s with heap:=h',toks:=t' }:=I.un (Un.write mu he k heo) (I.hok.write mu he k heo new)
theorem Inv.pins_of {pins':List (Addr×Obj)}(I:Inv X pins σ H s)(h:∀p∈pins',s.heap.get? p.1=some p.2/\H p.1=none/\p.1≠X.env.locals/\p.1∉X.fs/\∀v,p.2.data ≠ .cell v):Inv X pins' σ H s :=
 ⟨I.ok,I.os,I.bare,I.base,I.loc,I.cell,I.free,I.freeC,λp hp=>(List.mem_append.mp hp).elim (λz=>I.pin p (mem_append_left _ z)) (h p),I.hok,I.len⟩
theorem aBo {N:List Str}(hN:N.Nodup){i j:Nat}{x:Str}(a:N[i]?=some x)(b:N[j]?=some x):i=j:=by obtain⟨h1,e1⟩:=List.getElem?_eq_some_iff.mp a;obtain⟨h2,e2⟩:=List.getElem?_eq_some_iff.mp b;exact(List.getElem_inj hN).mp (e1.trans e2.symm)
theorem yU {M:Model}{A:Around}{E:Value->Shared->Prop}{i:Nat}{x:Str}{v:V}{u:Value}{Q:Unit->Shared->Prop}(I:Inv X pins σ H s)(hN:X.N.Nodup)(hi:X.N[i]?=some x)(hx:Loc X.env.scope x)(r:bM v u)(h:∀s',Inv X pins (σ.set i (some v)) H s'->(∃a,Heap.SameBut a s.heap s'.heap/\(a=X.env.locals∨X.env.cells.lookup x=some a))->Q () s')(hf:X.fn x=true∨X.env.scope.names.lookup x=some .local:=by first|exact .inl rfl|exact .inr rfl|assumption):wpAny M A (storeName X.env x u) Q E s:=by
 obtain⟨m,hn,hl⟩:=id I.loc;have hcls:(X.env.scope.kind == .class||(X.env.scope.kind == .module&&X.env.locals != X.env.globals))=false:=by rw[I.ok.kind];rfl
 have hiσ:i<σ.length:=by rw[I.len];exact(List.getElem?_eq_some_iff.mp hi).1
 have cne:=I.cne;have tracked:∀{a:Addr}{h':Heap},(∃o,s.heap.get? a=some o/\H a=none)->Heap.SameBut a s.heap h'->HOk X.prog X.w H h':=λ{a h'} ha hs b ob e=>by
  obtain⟨_,_,hfree⟩:=ha;refine(I.hok b ob e).stay (λc w' hc q=>(hs.2 c ?_).trans q) (λ_ q=>q) λ_ _ q=>q;rintro rfl;rcases hc with rfl|hc
  ·rw[hfree] at e;cases e
  ·rw[hfree] at hc;cases hc
 rcases hx with hk|hk
 ·refine wpAny_storeName_local hk hn (λh' hn' hs=>?_) hcls;obtain⟨oL,_,_,hoL,_⟩:=id hn;refine h _ ⟨I.ok,I.os,I.bare,⟨λb o e n hb hx=>?_,λb o e n hb hx=>?_,I.base.free,λb o e hx=>?_,I.base.tups,I.base.frzs,I.base.tbls⟩,⟨_,hn',λj y v' e1 e2 e3=>?_⟩,λy c e=>?_,I.free,I.freeC,λp hp=>?_,tracked ⟨oL,hoL,I.free⟩ hs,by simpa using I.len⟩ ⟨_,hs,.inl rfl⟩
  ·exact(hs.2 b (Nat.ne_of_lt (Nat.lt_of_lt_of_le (Heap.lt_size e) I.ok.above))).trans (I.base.keep b o e n hb hx)
  ·obtain⟨sl,e1⟩:=I.base.slot b o e n hb hx;exact⟨sl,(hs.2 b (Nat.ne_of_lt (Nat.lt_of_lt_of_le (Heap.lt_size e) I.ok.above))).trans e1⟩
  ·obtain⟨o',e1⟩:=I.base.there b o e hx;exact⟨o',(hs.2 b (Nat.ne_of_lt (Nat.lt_of_lt_of_le (Heap.lt_size e) I.ok.above))).trans e1⟩
  ·by_cases hj:j=i
   ·subst hj;rw[hi] at e1;cases e1;rw[List.getElem?_set_self hiσ] at e2;cases e2;exact⟨u,r,.inl ⟨hk,by simp⟩⟩
   ·rw[List.getElem?_set_ne (Ne.symm hj)] at e2;obtain⟨u',r',q⟩:=hl j y v' e1 e2 e3;refine⟨u',r',?_⟩;rcases q with⟨k,e⟩|⟨k,c,e,z⟩
    ·refine .inl ⟨k,?_⟩;have:y≠x:=λe=>hj (aBo hN e1 (e ▸ hi));simp[this,e]
    ·exact .inr ⟨k,c,e,z.sameBut hs (cne y c e)⟩
  ·obtain⟨w',z⟩:=I.cell y c e;exact⟨w',z.sameBut hs (cne y c e)⟩
  ·obtain⟨e,n,ne,nf,d⟩:=I.pin p hp;exact⟨(hs.2 p.1 ne).trans e,n,ne,nf,d⟩
 ·have hfn:X.fn x=true:=by
   rcases hf with z|z
   ·exact z
   ·rw[z] at hk;cases hk
  obtain⟨c,hc⟩:=I.ok.has x (.inl hk);obtain⟨w',z⟩:=I.cell x c hc;refine wpAny_storeName_cell I.ok.kind hk hc z (λh' hc' hs=>?_);obtain⟨oc,hoc,hocd⟩:=id z;refine h { s with heap:=h' } ⟨I.ok,I.os,I.bare,⟨λb o e n hb hx=>?_,λb o e n hb hx=>?_,I.base.free,λb o e hx=>?_,I.base.tups,I.base.frzs,I.base.tbls⟩,⟨m,hn.sameBut hs (Ne.symm (cne x c hc)),λj y v' e1 e2 e3=>?_⟩,λy c' e=>?_,I.free,I.freeC,λp hp=>?_,tracked ⟨oc,hoc,I.freeC x c hc⟩ hs,by simpa using I.len⟩ ⟨c,hs,.inr hc⟩
  ·exact(hs.2 b (Nat.ne_of_lt (Nat.lt_of_lt_of_le (Heap.lt_size e) (I.ok.cab x c hfn hc)))).trans (I.base.keep b o e n hb hx)
  ·obtain⟨sl,e1⟩:=I.base.slot b o e n hb hx;exact⟨sl,(hs.2 b (Nat.ne_of_lt (Nat.lt_of_lt_of_le (Heap.lt_size e) (I.ok.cab x c hfn hc)))).trans e1⟩
  ·obtain⟨o',e1⟩:=I.base.there b o e hx;exact⟨o',(hs.2 b (Nat.ne_of_lt (Nat.lt_of_lt_of_le (Heap.lt_size e) (I.ok.cab x c hfn hc)))).trans e1⟩
  ·by_cases hj:j=i
   ·subst hj;rw[hi] at e1;cases e1;rw[List.getElem?_set_self hiσ] at e2;cases e2;exact⟨u,r,.inr ⟨.inl hk,c,hc,hc'⟩⟩
   ·rw[List.getElem?_set_ne (Ne.symm hj)] at e2;obtain⟨u',r',q⟩:=hl j y v' e1 e2 e3;refine⟨u',r',?_⟩;rcases q with q|⟨k,c',e,z'⟩
    ·exact .inl q
    ·refine .inr ⟨k,c',e,z'.sameBut hs ?_⟩;rintro rfl;exact hj (aBo hN e1 (I.ok.inj _ _ _ e hc ▸ hi))
  ·by_cases hcc:c'=c
   ·subst hcc;exact⟨_,hc'⟩
   ·obtain⟨w2,z2⟩:=I.cell y c' e;exact⟨w2,z2.sameBut hs hcc⟩
  ·obtain⟨e,n,ne,nf,d⟩:=I.pin p hp;refine⟨(hs.2 p.1 ?_).trans e,n,ne,nf,d⟩;intro q;rw[q,hoc] at e;have q':oc=p.2:=Option.some.inj e;exact d w' (by rw[<- q'];exact hocd)
theorem oI {M:Model}{A:Around}{E:Value->Shared->Prop}{i:Nat}{x:Str}{v:V}{u:Value}{Q:Unit->Shared->Prop}(I:Inv X pins σ H s)(hN:X.N.Nodup)(hi:X.N[i]?=some x)(hx:Loc X.env.scope x)(r:bM v u)(h:∀s',Inv X pins (σ.set i (some v)) H s'->Q () s')(hf:X.fn x=true∨X.env.scope.names.lookup x=some .local:=by first|exact .inl rfl|exact .inr rfl|assumption):wpAny M A (storeName X.env x u) Q E s :=
 yU I hN hi hx r (λs' I' _=>h s' I') hf
theorem Inv.call' {s':Shared}{ch:List Addr}(I:Inv X pins σ H s)(ho:s'.os=s.os)(u:Un (frs X.stack) ch H H' s.heap s'.heap)(hok:HOk X.prog X.w H' s'.heap)(hg:AllBare s'.gens)(hch:∀b∈ch,(b∈X.ex∨X.s₀.heap.objs.size<=b)/\b≠X.env.locals/\(∀x c,X.env.cells.lookup x=some c->c≠b)/\∀p∈X.pn++pins,p.1≠b):Inv X pins σ H' s':=by obtain⟨h',g',d',t',o'⟩:=s';have e:o'=s.os:=ho;subst e;exact I.call (g':=g') (t':=t') (d':=d') u hok hg hch
end
abbrev XK:=Value->Option Addr->Hp->Prop
noncomputable abbrev St:=List (Option V)
abbrev VK:=V->Hp->Prop
abbrev TE:=St->Hp->VK->Prop
abbrev TT:=St->Hp->(Bool->Hp->Prop)->Prop
abbrev TA:=St->Hp->(List V->Hp->Prop)->Prop
structure wZ where
 nx:St->Hp->Prop
 rt:VK
 bk:St->Hp->Prop:=λ_ _=>False
 ct:St->Hp->Prop:=λ_ _=>False
abbrev TS:=wZ->St->Hp->Prop
def EP (X:Cx)(pins:List (Addr×Obj))(σ:St)(Q:VK)(u:Value)(s':Shared):Prop:=∃v H',Inv X pins σ H' s'/\bM v u/\Q v H'
def TP (X:Cx)(pins:List (Addr×Obj))(σ:St)(Q:Bool->Hp->Prop)(b:Bool)(s':Shared):Prop:=∃H',Inv X pins σ H' s'/\Q b H'
def AP (X:Cx)(pins:List (Addr×Obj))(σ:St)(Q:List V->Hp->Prop)(us:List Value)(s':Shared):Prop:=∃vs H',Inv X pins σ H' s'/\bT vs us/\Q vs H'
def SP (X:Cx)(pins:List (Addr×Obj))(D:wZ)(f:Flow)(s':Shared):Prop :=
 match f with
 |.next=>∃σ' H',Inv X pins σ' H' s'/\D.nx σ' H'
 |.brk=>∃σ' H',Inv X pins σ' H' s'/\D.bk σ' H'
 |.cont=>∃σ' H',Inv X pins σ' H' s'/\D.ct σ' H'
 |.ret u=>∃v σ' H',Inv X pins σ' H' s'/\bM v u/\D.rt v H'
def PE (X:Cx)(e:Expr)(t:TE):Prop :=
 ∀(pins:List (Addr×Obj)) (s:Shared) (σ:St) (H:Hp) (Q:VK),Inv X pins σ H s->t σ H Q->wpAny (model X.prog X.w) X.A (eval e X.env) (EP X pins σ Q) X.xe s
def PT (X:Cx)(e:Expr)(t:TT):Prop :=
 ∀(pins:List (Addr×Obj)) (s:Shared) (σ:St) (H:Hp) (Q:Bool->Hp->Prop),Inv X pins σ H s->t σ H Q->wpAny (model X.prog X.w) X.A (isTrue e X.env (eval e X.env)) (TP X pins σ Q) X.xe s
def PW (X:Cx)(e:Expr)(t:TT):Prop :=
 ∀(whole:Sem Value)(pins:List (Addr×Obj)) (s:Shared) (σ:St) (H:Hp) (Q:Bool->Hp->Prop),Inv X pins σ H s->t σ H Q->wpAny (model X.prog X.w) X.A (isTrue e X.env whole) (TP X pins σ Q) X.xe s
theorem PW.pt {X:Cx}{e:Expr}{t:TT}(h:PW X e t):PT X e t:=h _
def PA (X:Cx)(es:List Expr)(t:TA):Prop :=
 ∀(pos:Pos)(pins:List (Addr×Obj)) (s:Shared) (σ:St) (H:Hp) (Q:List V->Hp->Prop),Inv X pins σ H s->t σ H Q->wpAny (model X.prog X.w) X.A (spliced (backTo pos (starEach es X.env))) (AP X pins σ Q) X.xe s
def PS (X:Cx)(st:Stmt)(t:TS):Prop :=
 ∀(pins:List (Addr×Obj)) (s:Shared) (σ:St) (H:Hp) (D:wZ),Inv X pins σ H s->t D σ H->wpAny (model X.prog X.w) X.A (exec st X.env) (SP X pins D) X.xe s
def PSs (X:Cx)(st:List Stmt)(t:TS):Prop :=
 ∀(pins:List (Addr×Obj)) (s:Shared) (σ:St) (H:Hp) (D:wZ),Inv X pins σ H s->t D σ H->wpAny (model X.prog X.w) X.A (execs st X.env) (SP X pins D) X.xe s
theorem thn {α:Type}{t:Sem α}{Q Q':α->Shared->Prop}{M:Model}{A:Around}{E:Value->Shared->Prop}{s:Shared}(h:wpAny M A t Q E s)(hQ:∀a s,Q a s->Q' a s):wpAny M A t Q' E s:=wpAny_mono h hQ λ_ _ x=>x
section
variable {X:Cx}
def aNr (i:Nat):TE:=λσ H Q=>∃v,σ[i]?=some (some v)/\Q v H
def tC (v:V):TE:=λ_ H Q=>Q v H
theorem aJF {i:Nat}{x:Str}{pos:Pos}(hN:X.N[i]?=some x)(hv:Vis X.env.scope x)(hd:(x==("__debug__":Str))=false:=by decide)(hcd:(x==("__classdict__":Str))=false:=by decide):PE X (.Name x pos) (aNr i):=by
 intro pins s σ H Q I h;obtain⟨v,e,h⟩:=h;obtain⟨m,hn,hl⟩:=I.loc;obtain⟨u,r,l⟩:=hl i x v hN e hv;have fin:EP X pins σ Q u s:=⟨v,H,I,r,h⟩;rcases l with⟨hk,hm⟩|⟨hk,c,hc,hcell⟩
 ·exact wpAny_Name (wpAny_loadName_local I.ok.kind hk hn hm fin) hd
 ·rcases hk with hk|hk
  ·exact wpAny_Name (wpAny_loadName_cell I.ok.kind hk hc hcell fin) hd
  ·exact wpAny_Name (wpAny_loadName_free I.ok.kind hk hc hcell fin hcd) hd
theorem aKc {i j pos}:PE X (.Constant (.int i) j pos) (tC (.int i)):=λ_ _ _ H _ I h=>wpAny_Constant_int ⟨.int i,H,I.tok _,⟨_,rfl⟩,h⟩
theorem aMn {b j pos}:PE X (.Constant (.bool b) j pos) (tC (.bl b)):=λ_ _ _ H _ I h=>Constant_bool ⟨.bl b,H,I,rfl,h⟩
theorem aIB {x j pos}:PE X (.Constant (.str x) j pos) (tC (.str x)):=λ_ _ _ H _ I h=>Calls.Constant_str ⟨.str x,H,I.tok _,⟨_,rfl⟩,h⟩
def Gl (X:Cx)(x:Str):Prop:=X.env.kindOf x=some .globalImplicit
theorem vD {E:Value->Shared->Prop}{pins:List (Addr×Obj)}{s:Shared}{σ:St}{H:Hp}{x:Str}{u:Value}{pos:Pos}{Q:Value->Shared->Prop}(I:Inv X pins σ H s)(hg:Gl X x)(hm:X.mg x=some u)(h:Q u s)(hd:(x==("__debug__":Str))=false:=by decide):wpAny (model X.prog X.w) X.A (eval (.Name x pos) X.env) Q E s :=
 Calls.Name_function_global I.ok.kind hg (Calls.loadGlobal_global (by rw[I.ok.glob];exact I.mod.glob.keeps I.bk) hm h) hd
theorem wL {E:Value->Shared->Prop}{pins:List (Addr×Obj)}{s:Shared}{σ:St}{H:Hp}{x:Str}{u:Value}{pos:Pos}{Q:Value->Shared->Prop}(I:Inv X pins σ H s)(hg:Gl X x)(hm:X.mg x=none)(hv:bootBuiltins x=some u)(h:Q u s)(hn:x ≠ "__name__":=by decide)(hd:(x==("__debug__":Str))=false:=by decide):wpAny (model X.prog X.w) X.A (eval (.Name x pos) X.env) Q E s:=by obtain⟨mb,h1,h2⟩:=I.mod.blt;exact Calls.Name_function_global I.ok.kind hg (Calls.loadGlobal_builtin (by rw[I.ok.glob];exact I.mod.glob.keeps I.bk) hm (by rw[I.ok.blt];exact h1.keeps I.bk) ((h2 x hn).trans hv) h) hd
theorem aGy {x:Str}{v:V}{u:Value}{pos:Pos}(hg:Gl X x)(hm:X.mg x=some u)(r:bM v u)(hd:(x==("__debug__":Str))=false:=by decide):PE X (.Name x pos) (tC v) :=
 λ_ _ _ H _ I h=>vD I hg hm ⟨v,H,I,r,h⟩ hd
theorem aGR {x:Str}{v:V}{u:Value}{pos:Pos}(hg:Gl X x)(hm:X.mg x = none)(hv:bootBuiltins x = some u)(r:bM v u)(hn:x ≠ "__name__":=by decide)(hd:(x==("__debug__":Str))=false:=by decide):PE X (.Name x pos) (tC v) :=
 λ_ _ _ H _ I h=>wL I hg hm hv ⟨v,H,I,r,h⟩ hn hd
variable {a b:Expr}{ta tb:TE}{pos:Pos}
def tB (t:TE):TT:=λσ H Q=>t σ H λx H1=>∃c,x=.bl c/\Q c H1
theorem aKo {e:Expr}{t:TE}(h:PE X e t)(he:∀whole,isTrue e X.env whole=(do let v <- whole;standAt e.pos;holding [v] (truthy v)):=by intro _;rfl):PT X e (tB t):=by intro pins s σ H Q I hw;refine isTrue_plain (thn (h pins s σ H _ I hw) λv s1 ⟨x,H1,I1,r1,q1⟩=>?_) (he _);obtain⟨d,rfl,q⟩:=q1;cases r1;exact wpAny_truthy_bool ⟨H1,I1,q⟩
variable {tA tB':TT}{bI:List Expr}
def aMV (t u:TT):TT:=λσ H Q=>t σ H λc H1=>if c=true then u σ H1 Q else Q false H1
def tOr (t u:TT):TT:=λσ H Q=>t σ H λc H1=>if c=true then Q true H1 else u σ H1 Q
def aMR (t:TT):TT:=λσ H Q=>t σ H λc H1=>Q (!c) H1
theorem aF7 (ha:PT X a tA):PW X (.BoolOp .And [a] pos) tA:=by
 intro wh pins s σ H Q I h;refine isTrue_and (thn (ha pins s σ H Q I h) λc s1 e=>?_);cases c with
 |true=>exact isTrue_and_nil e
 |false=>exact e
theorem aIy (ha:PT X a tA):PW X (.BoolOp .Or [a] pos) tA:=by
 intro wh pins s σ H Q I h;refine isTrue_or (thn (ha pins s σ H Q I h) λc s1 e=>?_);cases c with
 |false=>exact isTrue_or_nil e
 |true=>exact e
theorem aKg (ha:PT X a tA)(hb:PW X (.BoolOp .And (b::bI) pos) tB'):PW X (.BoolOp .And (a::b::bI) pos) (aMV tA tB'):=by
 intro wh pins s σ H Q I h;refine isTrue_and (thn (ha pins s σ H _ I h) λc s1 ⟨H1,I1,q1⟩=>?_);cases c with
 |true=>exact hb wh pins s1 σ H1 Q I1 q1
 |false=>exact⟨H1,I1,q1⟩
theorem aKV (ha:PT X a tA)(hb:PW X (.BoolOp .Or (b::bI) pos) tB'):PW X (.BoolOp .Or (a::b::bI) pos) (tOr tA tB'):=by
 intro wh pins s σ H Q I h;refine isTrue_or (thn (ha pins s σ H _ I h) λc s1 ⟨H1,I1,q1⟩=>?_);cases c with
 |true=>exact⟨H1,I1,q1⟩
 |false=>exact hb wh pins s1 σ H1 Q I1 q1
theorem aIr (ha:PT X a tA):PT X (.UnaryOp .Not a pos) (aMR tA):=by intro pins s σ H Q I h;exact isTrue_not (ha pins s σ H (λc H1=>Q (!c) H1) I h)
def aK7 (ta tb:TE):TE:=λσ H Q=>ta σ H λx H1=>∃c,x=.bl c/\if c=true then tb σ H1 Q else Q (.bl false) H1
def aM0 (ta tb:TE):TE:=λσ H Q=>ta σ H λx H1=>∃c,x=.bl c/\if c=true then Q (.bl true) H1 else tb σ H1 Q
def aLA (ta:TE):TE:=λσ H Q=>ta σ H λx H1=>∃c,x=.bl c/\Q (.bl (!c)) H1
theorem aIi {op}{t:TE}(h:PE X a t):PE X (.BoolOp op [a] pos) t:=λpins s σ H Q I hw=>BoolOp_one (h pins s σ H Q I hw)
theorem aKx (ha:PE X a ta)(hb:PE X (.BoolOp .And (b::bI) pos) tb):PE X (.BoolOp .And (a::b::bI) pos) (aK7 ta tb):=by
 intro pins s σ H Q I h;refine BoolOp_and (thn (ha pins s σ H _ I h) λv s1 ⟨x,H1,I1,r1,q1⟩=>?_);obtain⟨c,rfl,q1⟩:=q1;cases r1;refine wpAny_truthy_bool ?_;cases c with
 |true=>exact hb pins s1 σ H1 Q I1 q1
 |false=>exact⟨.bl false,H1,I1,rfl,q1⟩
theorem aMv (ha:PE X a ta)(hb:PE X (.BoolOp .Or (b::bI) pos) tb):PE X (.BoolOp .Or (a::b::bI) pos) (aM0 ta tb):=by
 intro pins s σ H Q I h;refine BoolOp_or (thn (ha pins s σ H _ I h) λv s1 ⟨x,H1,I1,r1,q1⟩=>?_);obtain⟨c,rfl,q1⟩:=q1;cases r1;refine wpAny_truthy_bool ?_;cases c with
 |false=>exact hb pins s1 σ H1 Q I1 q1
 |true=>exact⟨.bl true,H1,I1,rfl,q1⟩
theorem aKQ (ha:PE X a ta):PE X (.UnaryOp .Not a pos) (aLA ta):=by intro pins s σ H Q I h;refine UnaryOp_ (thn (ha pins s σ H _ I h) λv s1 ⟨x,H1,I1,r1,q1⟩=>?_);obtain⟨c,rfl,q1⟩:=q1;cases r1;exact not_of (wpAny_truthy_bool ⟨.bl (!c),H1,I1,rfl,q1⟩)
def tIf (t:TT)(ta tb:TE):TE:=λσ H Q=>t σ H λc H1=>if c=true then ta σ H1 Q else tb σ H1 Q
theorem aFL {c:Expr}(hc:PT X c tA)(ha:PE X a ta)(hb:PE X b tb):PE X (.IfExp c a b pos) (tIf tA ta tb):=by
 intro pins s σ H Q I h;refine wpAny_IfExp (thn (hc pins s σ H _ I h) λd s1 ⟨H1,I1,q1⟩=>?_);cases d with
 |true=>exact ha pins s1 σ H1 Q I1 q1
 |false=>exact hb pins s1 σ H1 Q I1 q1
end
def SqL (K:Frag)(H:Hp)(a:Addr)(xs:List V):Prop :=
 Rd H a (.lst xs) ∨
  ∃(o:Obj)(its:Array Value) (n:Nat),K.lookup a = some o/\o.cls = .type "list"/\o.dict=none/\o.data=.seq its n/\its.size<=sizeLine/\bT xs its.toList
def SqT (K:Frag)(H:Hp)(a:Addr)(xs:List V):Prop :=
 Rd H a (.tup xs) ∨
  ∃(o:Obj)(its:Array Value) (n:Nat),K.lookup a = some o/\o.cls = .type "tuple"/\o.data=.seq its n/\its.size<=sizeLine/\bT xs its.toList
noncomputable def aND:Value->Option V
 |.none=>some .non
 |.bool b=>some (.bl b)
 |.int i _=>some (.int i)
 |.str x _=>some (.str x)
 |.bytes b _=>some (.byt b)
 |.float b _=>some (.flt b)
 |.ref a=>some (.ref a)
 |.type n=>some (.ty n)
 |_=>none
theorem bM.abs {x:V}{u:Value}(r:bM x u):aND u=some x:=by
 cases x with
 |non=>cases r;rfl
 |bl _=>cases r;rfl
 |int _=>obtain⟨t,rfl⟩:=r;rfl
 |str _=>obtain⟨t,rfl⟩:=r;rfl
 |byt _=>obtain⟨t,rfl⟩:=r;rfl
 |flt _=>obtain⟨t,rfl⟩:=r;rfl
 |ref _=>cases r;rfl
 |ty _=>cases r;rfl
theorem bM.inj {x y:V}{u:Value}(r:bM x u)(q:bM y u):x=y:=Option.some.inj (r.abs.symm.trans q.abs)
theorem bT.inj:∀{xs ys:List V}{us:List Value},bT xs us->bT ys us->xs=ys
 |_,_,_,.nil,.nil=>rfl
 |_,_,_,.cons r t,.cons r' t'=>by rw[r.inj r',bT.inj t t']
section
variable {X:Cx}{pins:List (Addr×Obj)}{σ:St}{H:Hp}{s:Shared}{a:Addr}{xs ys:List V}
theorem SqL.of {K:Frag}(h:H a=some (.lst xs)):SqL K H a xs:=.inl (.inl h)
theorem SqT.of {K:Frag}(h:H a=some (.tup xs)):SqT K H a xs:=.inl (.inl h)
theorem Inv.list (I:Inv X pins σ H s)(h:SqL X.K H a xs):∃its:List Value,bT xs its/\PlainL s.heap a its.toArray/\xs.length<=sizeLine:=by
 rcases h with h|⟨o,its,n,hk,hc,hd,hs,hz,r⟩
 ·obtain⟨z,its,n,r,e⟩:=h.ok I.hok;exact⟨its,r,⟨_,n,e,rfl,rfl,rfl⟩,z⟩
 ·refine⟨its.toList,r,⟨o,n,I.kIn a o hk,hc,hd,by simpa using hs⟩,?_⟩;have e:=r.length;simp only[Array.length_toList] at e;omega
theorem Inv.tuple (I:Inv X pins σ H s)(h:SqT X.K H a xs):∃its:List Value,bT xs its/\IsTup s.heap a its.toArray/\xs.length<=sizeLine:=by
 rcases h with h|⟨o,its,n,hk,hc,hs,hz,r⟩
 ·obtain⟨z,its,r,p⟩:=h.ok I.hok;exact⟨its,r,p,z⟩
 ·refine⟨its.toList,r,⟨o,I.kIn a o hk,hc,n,by simpa using hs⟩,?_⟩;have e:=r.length;simp only[Array.length_toList] at e;omega
theorem Inv.list_inj (I:Inv X pins σ H s)(h:SqL X.K H a xs)(h':SqL X.K H a ys):xs=ys:=by
 obtain⟨its,r,⟨o,n,e,_,_,d⟩,_⟩:=I.list h;obtain⟨its',r',⟨o',n',e',_,_,d'⟩,_⟩:=I.list h';rw[e] at e';cases e';rw[d] at d';injection d' with d1 _
 have:its=its':=by simpa using congrArg Array.toList d1
 subst this;exact r.inj r'
theorem Inv.tuple_inj (I:Inv X pins σ H s)(h:SqT X.K H a xs)(h':SqT X.K H a ys):xs=ys:=by
 obtain⟨its,r,⟨o,e,_,n,d⟩,_⟩:=I.tuple h;obtain⟨its',r',⟨o',e',_,n',d'⟩,_⟩:=I.tuple h';rw[e] at e';cases e';rw[d] at d';injection d' with d1 _
 have:its=its':=by simpa using congrArg Array.toList d1
 subst this;exact r.inj r'
end
noncomputable abbrev Cx.wish (X:Cx)(E:Value->Shared->Prop):Cx:={ X with xe:=E }
noncomputable abbrev Cx.nox (X:Cx):Cx:=X.wish λ_ _=>False
theorem Cx.Ok.wish {X:Cx}(ok:X.Ok)(E:Value->Shared->Prop):(X.wish E).Ok :=
 ⟨ok.mod,ok.kind,ok.glob,ok.blt,ok.above,ok.inj,ok.has,ok.cab,ok.hd,ok.frames,ok.stk,ok.exf,ok.bs,ok.bsz,ok.noex,ok.exfs,ok.funs,ok.frf⟩
theorem Cx.Ok.unwish {X:Cx}{E:Value->Shared->Prop}(ok:(X.wish E).Ok):X.Ok :=
 ⟨ok.mod,ok.kind,ok.glob,ok.blt,ok.above,ok.inj,ok.has,ok.cab,ok.hd,ok.frames,ok.stk,ok.exf,ok.bs,ok.bsz,ok.noex,ok.exfs,ok.funs,ok.frf⟩
section
variable {X:Cx}{pins:List (Addr×Obj)}{σ:St}{H:Hp}{s:Shared}{E:Value->Shared->Prop}
theorem Inv.wish (I:Inv X pins σ H s)(E:Value->Shared->Prop):Inv (X.wish E) pins σ H s:=⟨I.ok.wish E,I.os,I.bare,I.base,I.loc,I.cell,I.free,I.freeC,I.pin,I.hok,I.len⟩
theorem Inv.unwish (I:Inv (X.wish E) pins σ H s):Inv X pins σ H s:=⟨I.ok.unwish,I.os,I.bare,I.base,I.loc,I.cell,I.free,I.freeC,I.pin,I.hok,I.len⟩
theorem SP.unwish {D:wZ}{f:Flow}{s':Shared}(h:SP (X.wish E) pins D f s'):SP X pins D f s':=by
 cases f with
 |next=>obtain⟨σ',H',I,q⟩:=h;exact⟨σ',H',I.unwish,q⟩
 |brk=>obtain⟨σ',H',I,q⟩:=h;exact⟨σ',H',I.unwish,q⟩
 |cont=>obtain⟨σ',H',I,q⟩:=h;exact⟨σ',H',I.unwish,q⟩
 |ret u=>obtain⟨v,σ',H',I,r,q⟩:=h;exact⟨v,σ',H',I.unwish,r,q⟩
theorem PSs.nox {st:List Stmt}{t:TS}(h:PSs X.nox st t):PSs X st t:=λpins s σ H D I hw =>
 wpAny_mono (h pins s σ H D (I.wish _) hw) (λ_ _ q=>q.unwish) λ_ _ z=>False.elim z
end
section
variable {X:Cx}{st:Stmt}{bI:List Stmt}{t u:TS}{e:Expr}{te:TE}{pos:Pos}
def aLT:TS:=λD σ H=>D.nx σ H
def aNd (t u:TS):TS:=λD σ H=>t { D with nx:=u D } σ H
theorem aGQ:PSs X [] aLT:=λ_ _ σ H _ I h=>wpAny_execs_nil ⟨σ,H,I,h⟩
theorem aBA (h1:PS X st t)(h2:PSs X bI u):PSs X (st::bI) (aNd t u):=by
 intro pins s σ H D I h;refine wpAny_execs_cons (thn (h1 pins s σ H { D with nx:=u D } I h) λf s1 q=>?_);cases f with
 |next =>
  obtain⟨σ',H',I',q⟩:=q;exact h2 pins s1 σ' H' D I' q
 |ret v=>exact q
 |brk=>exact q
 |cont=>exact q
theorem aHn (h1:PS X st t):PSs X [st] t:=by
 intro pins s σ H D I h;refine wpAny_execs_cons (thn (h1 pins s σ H D I h) λf s1 q=>?_);cases f with
 |next=>exact wpAny_execs_nil q
 |ret v=>exact q
 |brk=>exact q
 |cont=>exact q
theorem Inv.quiet {pins:List (Addr×Obj)}{σ:St}{H:Hp}{s:Shared}(I:Inv X pins σ H s):interactive X.env=false:=by simp[interactive,I.ok.kind]
def aMg (te:TE):TS:=λD σ H=>te σ H λ_ H1=>D.nx σ H1
theorem aF9 (he:PE X e te)(hs:swapsWith e none pos.line X.env=pure false:=by rfl):PS X (.Expr e pos) (aMg te):=by intro pins s σ H D I h;exact wpAny_Expr_any (thn (he pins s σ H _ I h) λv s1 ⟨x,H1,I1,r1,q1⟩=>⟨σ,H1,I1,q1⟩) I.quiet hs
def aNn (te:TE):TS:=λD σ H=>te σ H D.rt
theorem aIW (he:PE X e te):PS X (.Return (some e) pos) (aNn te):=by intro pins s σ H D I h;exact wpAny_Return_some (thn (he pins s σ H _ I h) λv s1 ⟨x,H1,I1,r1,q1⟩=>⟨x,σ,H1,I1,r1,q1⟩)
def aNf (c:TT)(t u:TS):TS:=λD σ H=>c σ H λb H1=>if b=true then t D σ H1 else u D σ H1
theorem aLv {c:Expr}{a b:List Stmt}{tc:TT}(hc:PT X c tc)(ha:PSs X a t)(hb:PSs X b u):PS X (.If c a b pos) (aNf tc t u):=by
 intro pins s σ H D I h;refine wpAny_If (thn (hc pins s σ H _ I h) λd s1 ⟨H1,I1,q1⟩=>?_);cases d with
 |true=>exact ha pins s1 σ H1 D I1 q1
 |false=>exact hb pins s1 σ H1 D I1 q1
end
abbrev TG:=V->St->Hp->(St->Hp->Prop)->Prop
abbrev TGs:=List V->St->Hp->(St->Hp->Prop)->Prop
def PG (X:Cx)(target:Expr)(t:TG):Prop :=
 ∀(pins:List (Addr×Obj)) (s:Shared) (σ:St) (H:Hp) (v:V) (u:Value) (Q:St->Hp->Prop),Inv X pins σ H s->bM v u->t v σ H Q ->
  wpAny (model X.prog X.w) X.A (assign target X.env u) (λ_ s'=>∃σ' H',Inv X pins σ' H' s'/\Q σ' H') X.xe s
def PGs (X:Cx)(ts:List Expr)(t:TGs):Prop :=
 ∀(pins:List (Addr×Obj)) (s:Shared) (σ:St) (H:Hp) (vs:List V) (us:List Value) (Q:St->Hp->Prop),Inv X pins σ H s->bT vs us->t vs σ H Q ->
  wpAny (model X.prog X.w) X.A (assignInOrder ((assignEach ts X.env).map (·.2)) us) (λ_ s'=>∃σ' H',Inv X pins σ' H' s'/\Q σ' H') X.xe s
abbrev aIb:=V->V->V->Hp->(Hp->Prop)->Prop
def aI5 (X:Cx)(t:aIb):Prop :=
 ∀(pins:List (Addr×Obj)) (s:Shared) (σ:St) (H:Hp) (o i v:V) (ov iv u:Value) (Q:Hp->Prop),Inv X pins σ H s->bM o ov->bM i iv->bM v u->t o i v H Q ->
  wpAny (model X.prog X.w) X.A (setItem ov iv u) (λ_ s'=>∃H',Inv X pins σ H' s'/\Q H') X.xe s
abbrev TIp:=V->V->Hp->VK->Prop
def PIp (X:Cx)(op:Operator)(t:TIp):Prop :=
 ∀(pins:List (Addr×Obj)) (s:Shared) (σ:St) (H:Hp) (x y:V) (v u:Value) (Q:VK),Inv X pins σ H s->bM x v->bM y u->t x y H Q ->
  wpAny (model X.prog X.w) X.A (inplaceOp op v u) (EP X pins σ Q) X.xe s
section
variable {X:Cx}{pos:Pos}
def aHN (i:Nat):TG:=λv σ H Q=>Q (σ.set i (some v)) H
theorem aGI {i:Nat}{x:Str}(hN:X.N.Nodup)(hi:X.N[i]?=some x)(hx:Loc X.env.scope x)(hf:X.fn x=true∨X.env.scope.names.lookup x=some .local:=by first|exact .inl rfl|exact .inr rfl|assumption):PG X (.Name x pos) (aHN i):=by intro pins s σ H v u Q I r h;exact wpAny_assign_Name (oI I hN hi hx r (λs' I'=>⟨_,H,I',h⟩) hf)
def aMX:TGs:=λvs σ H Q=>vs=[]/\Q σ H
def aK8 (t:TG)(u:TGs):TGs:=λvs σ H Q=>∃v r,vs=v::r/\t v σ H λσ' H'=>u r σ' H' Q
theorem aGG:PGs X [] aMX:=by intro pins s σ H vs us Q I r h;obtain⟨e,h⟩:=h;subst e;cases r;exact assignInOrder_nil ⟨σ,H,I,h⟩
theorem aFY {e:Expr}{es:List Expr}{t:TG}{u:TGs}(h1:PG X e t)(h2:PGs X es u)(hs:(assignEach (e::es) X.env).map (·.2)=assign e X.env::(assignEach es X.env).map (·.2):=by rfl):PGs X (e::es) (aK8 t u):=by
 intro pins s σ H vs us Q I r h;obtain⟨v,vr,e1,h⟩:=h;subst e1;cases r with
 |cons r rr =>
  rw[hs];refine assignInOrder_cons (thn (h1 pins s σ H _ _ _ I r h) λ_ s1 ⟨σ1,H1,I1,q1⟩=>?_);exact h2 pins s1 σ1 H1 _ _ Q I1 rr q1
def aMY (K:Frag)(n:Nat)(t:TGs):TG:=λv σ H Q=>∃a xs,v=.ref a/\SqT K H a xs/\xs.length=n/\t xs σ H Q
theorem aKp {es:List Expr}{k:Nat}{t:TGs}{n:Nat}(hc:X.calm=true)(h:PGs X es t)(hn:(assignEach es X.env).length=n:=by rfl)(hst:(assignEach es X.env).findIdx? (·.1)=none:=by rfl):PG X (.Tuple es k pos) (aMY X.K n t):=by intro pins s σ H v u Q I r hw;obtain⟨a,xs,e1,hq,hl,hw⟩:=hw;subst e1;cases r;obtain⟨its,rv,ht,hz⟩:=I.tuple hq;refine assign_Tuple_tuple (I.ok.hd hc) ht (by simp[hn,<- hl,rv.length]) hst λh' hx=>?_;have I1:Inv X pins σ H { s with heap:=h' }:=I.kept (t':=s.toks) λb o e=>hx b o (Nat.ne_of_lt (Heap.lt_size e)) e;exact h pins _ σ H xs _ Q I1 (by simpa using rv) hw
def aMQ (to ti:TE)(t:aIb):TG:=λv σ H Q=>to σ H λo H1=>ti σ H1 λi H2=>t o i v H2 λH3=>Q σ H3
theorem aE2 {o i:Expr}{to ti:TE}{t:aIb}(ho:PE X o to)(hi:PE X i ti)(hs:aI5 X t)(ha:∀v,assign (.Subscript o i pos) X.env v=(do
   let ov <- holding [v] (eval o X.env)
   let iv <- holding [v,ov] (eval i X.env)
   standAt pos
   holding [v,ov,iv] (setItem ov iv v)
   release [v,ov,iv] []):=by intro _;rfl):PG X (.Subscript o i pos) (aMQ to ti t):=by
 intro pins s σ H v u Q I r h;rw[ha];refine wpAny_bind (wpAny_holding (thn (ho pins s σ H _ I h) λov s1 ⟨x,H1,I1,r1,q1⟩=>?_));refine wpAny_bind (wpAny_holding (thn (hi pins s1 σ H1 _ I1 q1) λiv s2 ⟨y,H2,I2,r2,q2⟩=>?_));refine wpAny_bind (wpAny_standAt (wpAny_bind (wpAny_holding (thn (hs pins s2 σ H2 x y v ov iv u _ I2 r1 r2 r q2) λ_ s3 ⟨H3,I3,q3⟩=>?_))));exact wpAny_release ⟨σ,H3,I3,q3⟩
def aLQ (te:TE)(g:TG):TS:=λD σ H=>te σ H λx H1=>g x σ H1 D.nx
theorem aJZ {tg e:Expr}{te:TE}{g:TG}(he:PE X e te)(hg:PG X tg g)(hs:swapsWithSole [tg] e pos.line X.env=pure false:=by rfl)(hw:swappedStores [tg] e X.env=pure none:=by rfl)(h1:(assignEach [tg] X.env).map (·.2)=[assign tg X.env]:=by rfl):PS X (.Assign [tg] e pos) (aLQ te g):=by intro pins s σ H D I h;refine wpAny_Assign_stores (thn (he pins s σ H _ I h) λv s1 ⟨x,H1,I1,r1,q1⟩=>?_) hs hw;rw[h1];exact thn (hg pins s1 σ H1 x v _ I1 r1 q1) λ_ s2 q=>q
theorem aIX {i:Nat}{x:Str}{e:Expr}{te:TE}{pos':Pos}(hN:X.N.Nodup)(hi:X.N[i]?=some x)(hx:Loc X.env.scope x)(he:PE X e te)(hs:swapsWith e (some (.Name x pos')) pos.line X.env=pure false:=by rfl)(hf:X.fn x=true∨X.env.scope.names.lookup x=some .local:=by first|exact .inl rfl|exact .inr rfl|assumption) :
  PS X (.Assign [.Name x pos'] e pos) (aLQ te (aHN i)):=by
 intro pins s σ H D I h;refine wpAny_Assign_Name (thn (he pins s σ H _ I h) λv s1 ⟨y,H1,I1,r1,q1⟩=>?_) hs;exact oI I1 hN hi hx r1 (λs2 I2=>⟨_,H1,I2,q1⟩) hf
def aNy (i j:Nat)(ta:TA):TS:=λD σ H=>ta σ H λvs H1=>∃v w,vs=[v,w]/\D.nx ((σ.set i (some v)).set j (some w)) H1
theorem aKP {i j:Nat}{x y:Str}{a b:Expr}{ta:TA}{px py pt:Pos}{kt k2 pt2}(hc:X.calm=true)(hN:X.N.Nodup)(hi:X.N[i]?=some x)(hj:X.N[j]?=some y)(hij:i≠j)(hx:X.env.scope.names.lookup x=some .local)(hy:X.env.scope.names.lookup y=some .local)(ha:PA X [a,b] ta)(hw:swappedStores [.Tuple [.Name x px,.Name y py] kt pt] (.Tuple [a,b] k2 pt2) X.env=pure (some [x,y]))(hs:swapsWithSole [.Tuple [.Name x px,.Name y py] kt pt] (.Tuple [a,b] k2 pt2) pos.line X.env=pure false:=by rfl) :
  PS X (.Assign [.Tuple [.Name x px,.Name y py] kt pt] (.Tuple [a,b] k2 pt2) pos) (aNy i j ta):=by
 intro pins s σ H D I h;rw[exec_Assign_arm];refine wpAny_bind (wpAny_standAt ?_);rw[hs];refine wpAny_bind (wpAny_pure ?_);rw[if_neg (by decide)];refine wpAny_bind (Tuple_ (thn (ha _ pins s σ H _ I h) λus s1 ⟨vs,H1,I1,r1,q1⟩=>?_));obtain⟨v,w,e1,q1⟩:=q1;subst e1;obtain⟨u1,u2,rfl,rv,rw'⟩:∃u1 u2,us=[u1,u2]/\bM v u1/\bM w u2:=by
  cases r1 with
  |cons p q =>
   cases q with
   |cons p' q' =>
    cases q';exact⟨_,_,rfl,p,p'⟩
 refine wpAny_newObj_type ?_ (by show 2<=sizeLine;decide);have I2:Inv X pins σ H1 { s1 with heap:=s1.heap.push { cls:=.type "tuple",data:=.seq [u1,u2].toArray } }:=I1.kept (t':=s1.toks) λb o e=>Heap.get?_push_of_some _ e;rw[hw];refine wpAny_bind (wpAny_pure ?_);show wpAny (model X.prog X.w) X.A (do rule "assign.swapped-stores";let items <- unpackItems (.ref s1.heap.objs.size) 2 none;assignInOrder [λv=>bindName X.env y v,λv=>bindName X.env x v] items.reverse;pure Flow.next) _ _ _;refine wpAny_bind (wpAny_rule (wpAny_bind (unpackItems_tuple (items:=#[u1,u2]) (I.ok.hd hc) (IsTup.new s1.heap _) λh' hx'=>?_)));have I3:=I2.kept (h':=h') (t':=s1.toks) λb o e=>hx' b o (Nat.ne_of_lt (Heap.lt_size e)) e;show wpAny _ _ (assignInOrder [λv=>bindName X.env y v,λv=>bindName X.env x v] [u2,u1] >>= λ_=>pure Flow.next) _ _ _;refine wpAny_bind (assignInOrder_cons (wpAny_bindName (oI I3 hN hj (.inl hy) rw' (λs2 I4=>?_) (.inr hy))));refine assignInOrder_cons (wpAny_bindName (oI I4 hN hi (.inl hx) rv (λs3 I5=>assignInOrder_nil (wpAny_pure ?_)) (.inr hx)));rw[List.set_comm _ _ (Ne.symm hij)] at I5;exact⟨_,H1,I5,q1⟩
def aNi (i:Nat)(te:TE)(ti:TIp):TS:=λD σ H=>∃x,σ[i]?=some (some x)/\te σ H λy H1=>ti x y H1 λz H2=>D.nx (σ.set i (some z)) H2
theorem aJB {i:Nat}{x:Str}{e:Expr}{te:TE}{op:Operator}{ti:TIp}{pos':Pos}(hN:X.N.Nodup)(hi:X.N[i]?=some x)(hx:Loc X.env.scope x)(he:PE X e te)(ho:PIp X op ti)(hf:X.fn x=true∨X.env.scope.names.lookup x=some .local:=by first|exact .inl rfl|exact .inr rfl|assumption) :
  PS X (.AugAssign (.Name x pos') op e pos) (aNi i te ti):=by
 intro pins s σ H D I h;obtain⟨v,e1,h⟩:=h;obtain⟨m,hn,hl⟩:=I.loc;have vis:Vis X.env.scope x:=by rcases hx with k|k;exact .inl k;exact .inr (.inl k)
 obtain⟨u,r,l⟩:=hl i x v hi e1 vis;refine wpAny_AugAssign_Name ?_;have go:wpAny (model X.prog X.w) X.A (eval e X.env) (λw s₂=>wpAny (model X.prog X.w) X.A (inplaceOp op u w) (λr s₃=>wpAny (model X.prog X.w) X.A (storeName X.env x r) (λ_=>SP X pins D .next) X.xe s₃) X.xe s₂) X.xe s:=by refine thn (he pins s σ H _ I h) λw s1 ⟨y,H1,I1,r1,q1⟩=>?_;refine thn (ho pins s1 σ H1 v y u w _ I1 r r1 q1) λz s2 ⟨zv,H2,I2,r2,q2⟩=>?_;exact oI I2 hN hi hx r2 (λs3 I3=>⟨_,H2,I3,q2⟩) hf
 rcases l with⟨hk,hm⟩|⟨hk,c,hc,hcell⟩
 ·exact wpAny_loadName_local I.ok.kind hk hn hm go
 ·rcases hk with hk|hk
  ·exact wpAny_loadName_cell I.ok.kind hk hc hcell go
  ·rcases hx with k|k
   ·have:X.env.scope.names.lookup x=some .free:=hk;rw[k] at this;cases this
   ·have:X.env.scope.names.lookup x=some .free:=hk;rw[k] at this;cases this
noncomputable def ipI (f:Int->Int->Int):TIp:=λx y H Q=>∃i j,x=.int i/\y=.int j/\Q (.int (f i j)) H
theorem aFM:PIp X .Sub (ipI λi j=>i-j):=by intro pins s σ H x y v u Q I r1 r2 h;obtain⟨i,j,e1,e2,q⟩:=h;subst e1;subst e2;obtain⟨t,rfl⟩:=r1;obtain⟨t',rfl⟩:=r2;exact isub_int ⟨.int _,H,I.tok _,⟨_,rfl⟩,q⟩
end
section
variable {X:Cx}{pos:Pos}
def aJA (c:TT)(tb:TS):TS:=λD σ H=>∃W:Nat->St->Hp->Prop,(∃m,W m σ H)/\∀m σ H,W m σ H ->
 c σ H λb H1=>if b=true then ∃N:St->Hp->Prop,(∀σ' H',N σ' H'->∃m',m'<m/\W m' σ' H')/\tb { D with nx:=N,ct:=N,bk:=D.nx } σ H1 else D.nx σ H1
theorem aFB {c:Expr}{body:List Stmt}{tc:TT}{tb:TS}(hp:PassesOwn (model X.prog X.w) X.A X.env X.xe)(hc:PT X c tc)(hb:PSs X body tb):PS X (.While c body [] pos) (aJA tc tb):=by
 intro pins s σ H D I h;obtain⟨W,⟨m0,w0⟩,turn⟩:=h;refine wpAny_While (codeAny_whileLoop (λn s'=>∃σ' H',Inv X pins σ' H' s'/\W n σ' H') ?_ m0 ⟨σ,H,I,w0⟩);rintro n s1 ⟨σ1,H1,I1,w1⟩;refine wpAny_passesOwn hp (thn (hc pins s1 σ1 H1 _ I1 (turn n σ1 H1 w1)) λb s2 ⟨H2,I2,q2⟩=>?_);cases b with
 |true =>
  obtain⟨N,hN,q2⟩:=q2;rw[if_pos rfl];refine wpAny_passesOwn hp (thn (hb pins s2 σ1 H2 _ I2 q2) λf s3 q3=>?_);cases f with
  |next =>
   obtain⟨σ3,H3,I3,n3⟩:=q3;obtain⟨m',hm,w3⟩:=hN σ3 H3 n3;exact⟨m',hm,σ3,H3,I3,w3⟩
  |cont =>
   obtain⟨σ3,H3,I3,n3⟩:=q3;obtain⟨m',hm,w3⟩:=hN σ3 H3 n3;exact⟨m',hm,σ3,H3,I3,w3⟩
  |brk=>exact q3
  |ret v=>exact q3
 |false =>
  rw[if_neg Bool.false_ne_true];exact wpAny_execs_nil ⟨σ1,H2,I2,q2⟩
end
structure It where
 go:Nat->Hp->Prop
 yld:Nat->Hp->V->Hp->Prop
 stop:Nat->Hp->Prop
def xP (X:Cx)(pins:List (Addr×Obj))(H:Hp)(b:Addr):Prop :=
 H b=none/\b≠X.env.locals/\b∉X.fs/\(b∈X.ex∨X.s₀.heap.objs.size<=b)/\(∀x c,X.env.cells.lookup x=some c->c≠b)/\∀p∈X.pn++pins,p.1≠b
theorem Inv.fpOk {X:Cx}{pins:List (Addr×Obj)}{σ:St}{H H':Hp}{s:Shared}{b:Addr}(I:Inv X pins σ H s)(hb:s.heap.objs.size<=b)(hn:H' b=none):xP X pins H' b:=by
 refine⟨hn,Nat.ne_of_gt (Nat.lt_of_lt_of_le I.lt hb),I.nofs hb,.inr (Nat.le_trans I.sz hb),λx c e z=>?_,λp hp z=>?_⟩
 ·obtain⟨v,q⟩:=I.cell x c e;exact absurd (Nat.lt_of_lt_of_le q.lt (by rw[z];exact hb)) (Nat.lt_irrefl _)
 ·exact absurd (Nat.lt_of_lt_of_le (Heap.lt_size (I.pin p hp).1) (by rw[z];exact hb)) (Nat.lt_irrefl _)
structure aFS (P:Program)(w:World)(K:Frag)(tg:Expr)(J:It)(fp:List Addr)(it:Addr)(tn:Nat->Heap->Prop):Prop where
 mem:it∈fp
 obj:∀i h,tn i h->∀b∈fp,∃o,h.get? b=some o/\∀v,o.data ≠ .cell v
 keep:∀i h h',tn i h->(∀b∈fp,∀o,h.get? b=some o->h'.get? b=some o)->tn i h'
 item:∀(X:Cx),X.prog=P->X.w=w->X.K=K->X.calm=true->∀(i:Nat)(pins:List (Addr×Obj)) (s:Shared) (σ:St) (H:Hp) (E:Value->Shared->Prop),Inv X pins σ H s->(∀b∈fp,xP X pins H b)->tn i s.heap->J.go i H ->
  wpAny (model P w) X.A (pyNext (.ref it)) (λr s1=>∃u,r=some u /\
   wpAny (model P w) X.A (letOwnedTupleGo tg (.ref it) u) (λ_ s2=>∃x H',Inv X pins σ H' s2/\bM x u/\J.yld i H x H'/\tn (i+1) s2.heap/\∀b∈fp,H' b=none) E s1) E s
 done:∀(X:Cx),X.prog=P->X.w=w->X.K=K->X.calm=true->∀(i:Nat)(pins:List (Addr×Obj)) (s:Shared) (σ:St) (H:Hp) (E:Value->Shared->Prop),Inv X pins σ H s->(∀b∈fp,xP X pins H b)->tn i s.heap->J.stop i H ->
  wpAny (model P w) X.A (pyNext (.ref it)) (λr s1=>r=none/\Inv X pins σ H s1) E s
 self:∀(A:Around)(i:Nat) (s:Shared) (Q:Value->Shared->Prop) (E:Value->Shared->Prop),tn i s.heap->Q (.ref it) s->wpAny (model P w) A (pyIter (.ref it)) Q E s
abbrev TI:=St->Hp->(It->Hp->Prop)->Prop
def PIE (X:Cx)(pins:List (Addr×Obj))(σ:St)(tg:Expr)(R:It->Hp->Prop)(itv:Value)(s2:Shared):Prop :=
 ∃(it:Addr)(fp:List Addr) (tn:Nat->Heap->Prop) (J:It) (H':Hp),itv=.ref it/\Inv X pins σ H' s2/\aFS X.prog X.w X.K tg J fp it tn/\tn 0 s2.heap/\(∀b∈fp,xP X pins H' b)/\R J H'
def PI (X:Cx)(tg iter:Expr)(wi:TI):Prop :=
 ∀(pins:List (Addr×Obj)) (s:Shared) (σ:St) (H:Hp) (R:It->Hp->Prop),Inv X pins σ H s->wi σ H R ->
  wpAny (model X.prog X.w) X.A (eval iter X.env) (λv s1=>wpAny (model X.prog X.w) X.A (pyIter v) (PIE X pins σ tg R) X.xe s1) X.xe s
theorem aFW {M:Model}{A:Around}{E:Value->Shared->Prop}{s:Shared}{tg:Expr}{it:Addr}{u:Value}{o:Obj}{n:String}{vs:Array Value}{Q:Unit->Shared->Prop}(ho:s.heap.get? it=some o)(hc:o.cls=.type n)(hd:o.data=.fields vs)(hn:["enumerate","zip","dict_itemiterator","dict_reverseitemiterator","odict_iterator","itertools.zip_longest","itertools.pairwise"].contains n=false)(hQ:Q () s):wpAny M A (letOwnedTupleGo tg (.ref it) u) Q E s:=by
 unfold letOwnedTupleGo;cases tg<;>first
  |exact wpAny_pure hQ
  |(cases u<;>first
    |exact wpAny_pure hQ
    |(
      refine wpAny_bind (wpAny_load ho ?_);rw[hc,hd];show wpAny M A (if (["enumerate","zip","dict_itemiterator","dict_reverseitemiterator","odict_iterator","itertools.zip_longest","itertools.pairwise"].contains n&&vs[0]?==some (rawInt _))=true then _ else _) Q E s;rw[if_neg (by intro h;rw[hn,Bool.false_and] at h;cases h)];exact wpAny_pure hQ))
noncomputable def Itl (K:Frag)(a:Addr):It :=
 ⟨λi H=>∃xs x,SqL K H a xs/\xs[i]?=some x,λi H x H'=>H'=H/\∀xs,SqL K H a xs->xs[i]?=some x,λi H=>∃xs,SqL K H a xs/\xs.length<=i⟩
noncomputable def Itt (K:Frag)(a:Addr):It :=
 ⟨λi H=>∃xs x,SqT K H a xs/\xs[i]?=some x,λi H x H'=>H'=H/\∀xs,SqT K H a xs->xs[i]?=some x,λi H=>∃xs,SqT K H a xs/\xs.length<=i⟩
noncomputable def Itr (lo:Int)(n:Nat):It:=⟨λi _=>i<n,λi H x H'=>H'=H/\x=.int (lo+i),λi _=>n<=i⟩
theorem aDF {P:Program}{w:World}{K:Frag}{tg:Expr}(a it:Addr):aFS P w K tg (Itl K a) [it] it (λi h=>h.IsListIter it a i) where
 mem:=by simp
 obj:=λi h st b hb=>by
  have e:b=it:=by simpa using hb
  subst e;obtain⟨o,e,c,d⟩:=st;exact⟨o,e,λv z=>by rw[d] at z;cases z⟩
 keep:=λi h h' st k=>st.at λo e=>k it (by simp) o e
 item:=by intro X hP hw hK hc i pins s σ H E I hf st hg;subst hP hw hK;obtain⟨xs,x,hq,hx⟩:=hg;obtain⟨its,rv,p,hz⟩:=I.list hq;obtain⟨u,hu,ru⟩:=rv.get hx;obtain⟨f0,f1,f2,f3,f4,f5⟩:=hf it (by simp);refine wpAny_pyNext_list_item st p.isList (x:=u) (by simpa using hu) λh' st' sb=>?_;have I1:Inv X pins σ H { s with heap:=h' }:=I.turned (t':=s.toks) (λb o hb e=>(sb.2 b hb).trans e) f0 f1 f3 f4 f5;obtain⟨o,e,c,d⟩:=id st';exact⟨u,rfl,aFW (s:={ s with heap:=h' }) e c d (by decide) ⟨x,H,I1,ru,⟨rfl,λys hy=>by rw[I.list_inj hy hq];exact hx⟩,st',λb hb=>(hf b hb).1⟩⟩
 done:=by intro X hP hw hK hc i pins s σ H E I hf st hg;subst hP hw hK;obtain⟨xs,hq,hx⟩:=hg;obtain⟨its,rv,p,hz⟩:=I.list hq;obtain⟨f0,f1,f2,f3,f4,f5⟩:=hf it (by simp);have hl:=rv.length;exact wpAny_pyNext_list_end (I.ok.hd hc) st p.isList (by simp;omega) λh' eb=>⟨rfl,I.turned (t':=s.toks) (λb o hb e=>eb b o hb e) f0 f1 f3 f4 f5⟩
 self:=λ_ _ _ _ _ st h=>wpAny_pyIter_listiter st h
theorem aB4 {P:Program}{w:World}{K:Frag}{tg:Expr}(a it:Addr):aFS P w K tg (Itt K a) [it] it (λi h=>h.IsTupleIter it a i) where
 mem:=by simp
 obj:=λi h st b hb=>by
  have e:b=it:=by simpa using hb
  subst e;obtain⟨o,e,c,d⟩:=st;exact⟨o,e,λv z=>by rw[d] at z;cases z⟩
 keep:=λi h h' st k=>st.at λo e=>k it (by simp) o e
 item:=by intro X hP hw hK hc i pins s σ H E I hf st hg;subst hP hw hK;obtain⟨xs,x,hq,hx⟩:=hg;obtain⟨its,rv,p,hz⟩:=I.tuple hq;obtain⟨u,hu,ru⟩:=rv.get hx;obtain⟨f0,f1,f2,f3,f4,f5⟩:=hf it (by simp);refine wpAny_pyNext_tuple_item st (show s.heap.IsTuple a its.toArray from p) (x:=u) (by simpa using hu) λh' st' sb=>?_;have I1:Inv X pins σ H { s with heap:=h' }:=I.turned (t':=s.toks) (λb o hb e=>(sb.2 b hb).trans e) f0 f1 f3 f4 f5;obtain⟨o,e,c,d⟩:=id st';exact⟨u,rfl,aFW (s:={ s with heap:=h' }) e c d (by decide) ⟨x,H,I1,ru,⟨rfl,λys hy=>by rw[I.tuple_inj hy hq];exact hx⟩,st',λb hb=>(hf b hb).1⟩⟩
 done:=by intro X hP hw hK hc i pins s σ H E I hf st hg;subst hP hw hK;obtain⟨xs,hq,hx⟩:=hg;obtain⟨its,rv,p,hz⟩:=I.tuple hq;obtain⟨f0,f1,f2,f3,f4,f5⟩:=hf it (by simp);have hl:=rv.length;exact wpAny_pyNext_tuple_end (I.ok.hd hc) st (show s.heap.IsTuple a its.toArray from p) (by simp;omega) λh' eb=>⟨rfl,I.turned (t':=s.toks) (λb o hb e=>eb b o hb e) f0 f1 f3 f4 f5⟩
 self:=λ_ _ _ _ _ st h=>wpAny_pyIter_tupleiter st h
theorem aCt {P:Program}{w:World}{K:Frag}{tg:Expr}(it:Addr)(lo:Int)(n:Nat):aFS P w K tg (Itr lo n) [it] it (λi h=>IsRangeIter h it (lo+(i:Nat)*1) ((n:Int)-(i:Nat)) 1) where
 mem:=by simp
 obj:=λi h st b hb=>by
  have e:b=it:=by simpa using hb
  subst e;exact⟨_,st,λv z=>by have z':Data.fields _=Data.cell v:=z;cases z'⟩
 keep:=λi h h' st k=>k it (by simp) _ st
 item:=by intro X hP hw hK hc i pins s σ H E I hf st hg;subst hP hw hK;obtain⟨f0,f1,f2,f3,f4,f5⟩:=hf it (by simp);have W:=Walks.range (prog:=X.prog) (w:=X.w) (I.ok.hd hc) it lo 1 n;refine W.item i s _ _ hg st λv h' tk hv st' kk=>?_;obtain⟨t,rfl⟩:=hv;have I1:Inv X pins σ H { s with heap:=h',toks:=tk }:=I.turned (λb o hb e=>kk b o (by simpa using hb) e) f0 f1 f3 f4 f5;refine⟨_,rfl,aFW (s:={ s with heap:=h',toks:=tk }) (n:="range_iterator") st' rfl rfl (by decide) ⟨.int (lo+i),H,I1,⟨t,?_⟩,⟨rfl,rfl⟩,st',λb hb=>(hf b hb).1⟩⟩;rw[Int.mul_one]
 done:=by intro X hP hw hK hc i pins s σ H E I hf st hg;subst hP hw hK;obtain⟨f0,f1,f2,f3,f4,f5⟩:=hf it (by simp);exact wpAny_pyNext_range_end (I.ok.hd hc) st (by have:n<=i:=hg;omega) λh' eb=>⟨rfl,I.turned (t':=s.toks) (λb o hb e=>eb b o hb e) f0 f1 f3 f4 f5⟩
 self:=λ_ _ _ _ _ st h=>wpAny_pyIter_rangeiter st h
section
variable {X:Cx}{tg:Expr}
noncomputable def aMy (K:Frag)(tl:TE):TI:=λσ H R=>tl σ H λx H1=>∃a,x=.ref a/\(∃xs,SqL K H1 a xs)/\R (Itl K a) H1
noncomputable def aNp (K:Frag)(tl:TE):TI:=λσ H R=>tl σ H λx H1=>∃a,x=.ref a/\(∃xs,SqT K H1 a xs)/\R (Itt K a) H1
theorem aAl {l:Expr}{tl:TE}(hl:PE X l tl):PI X tg l (aMy X.K tl):=by
 intro pins s σ H R I h;refine thn (hl pins s σ H _ I h) λv s1 ⟨x,H1,I1,r1,q1⟩=>?_;obtain⟨a,e,⟨xs,hq⟩,q⟩:=q1;subst e;cases r1;obtain⟨its,rv,p,hz⟩:=I1.list hq;refine wpAny_pyIter_list p.isList ?_;refine⟨s1.heap.objs.size,[s1.heap.objs.size],_,_,H1,rfl,I1.kept (t':=s1.toks) λb o e=>Heap.get?_push_of_some _ e,aDF a _,⟨_,Heap.get?_push_size _ rfl,rfl,rfl⟩,λb hb=>?_,q⟩;have e:b=s1.heap.objs.size:=by simpa using hb
 subst e;exact I1.fpOk (Nat.le_refl _) (I1.hok.fresh (Nat.le_refl _))
theorem aEB {l:Expr}{tl:TE}(hl:PE X l tl):PI X tg l (aNp X.K tl):=by
 intro pins s σ H R I h;refine thn (hl pins s σ H _ I h) λv s1 ⟨x,H1,I1,r1,q1⟩=>?_;obtain⟨a,e,⟨xs,hq⟩,q⟩:=q1;subst e;cases r1;obtain⟨its,rv,p,hz⟩:=I1.tuple hq;refine wpAny_pyIter_tuple (show s1.heap.IsTuple a its.toArray from p) ?_;refine⟨s1.heap.objs.size,[s1.heap.objs.size],_,_,H1,rfl,I1.kept (t':=s1.toks) λb o e=>Heap.get?_push_of_some _ e,aB4 a _,⟨_,Heap.get?_push_size _ rfl,rfl,rfl⟩,λb hb=>?_,q⟩;have e:b=s1.heap.objs.size:=by simpa using hb
 subst e;exact I1.fpOk (Nat.le_refl _) (I1.hok.fresh (Nat.le_refl _))
theorem aEO {pins:List (Addr×Obj)}{σ:St}{H:Hp}{s:Shared}{R:It->Hp->Prop}{E:Value->Shared->Prop}{lo hi:Int}{t u v:Tok}{tk:Nat}(I:Inv X pins σ H s)(h1:-(2^62)<=lo)(h2:lo<2^62)(h3:-(2^62)<=hi)(h4:hi<2^62)(q:R (Itr lo (hi-lo).toNat) H):wpAny (model X.prog X.w) X.A (pyIter (.ref s.heap.objs.size)) (PIE X pins σ tg R) E { s with heap:=s.heap.push { cls:=.type "range",data:=.fields #[.int lo t,.int hi u,.int 1 v] },toks:=tk }:=by
 refine wpAny_pyIter_range (IsRange.new ..) (small_one h1 h2 h3 h4) ?_;have I1:Inv X pins σ H { s with heap:=s.heap.push { cls:=.type "range",data:=.fields #[.int lo t,.int hi u,.int 1 v] },toks:=tk }:=I.kept λb o e=>Heap.get?_push_of_some _ e;refine⟨(s.heap.push { cls:=.type "range",data:=.fields #[.int lo t,.int hi u,.int 1 v] }).objs.size,[(s.heap.push { cls:=.type "range",data:=.fields #[.int lo t,.int hi u,.int 1 v] }).objs.size],_,_,H,rfl,
  I1.kept (t':=tk) λb o e=>Heap.get?_push_of_some _ e,aCt _ lo (hi-lo).toNat,?_,λb hb=>?_,q⟩
 ·have e1:lo+((0:Nat):Int)*1=lo:=by simp
  have e2:(((hi-lo).toNat:Nat):Int)-((0:Nat):Int)=Builtin.Range.rangeSize lo hi 1:=by rw[rangeSize_one];split<;>omega
  show IsRangeIter _ _ (lo+((0:Nat):Int)*1) ((((hi-lo).toNat:Nat):Int)-((0:Nat):Int)) 1;rw[e1,e2];exact Heap.get?_push_size _ rfl
 ·have e:b = (s.heap.push { cls:=.type "range",data:=.fields #[.int lo t,.int hi u,.int 1 v] }).objs.size:=by simpa using hb
  subst e;exact I1.fpOk (Nat.le_refl _) (I1.hok.fresh (Nat.le_refl _))
noncomputable def aLm (ta:TA):TI:=λσ H R=>ta σ H λvs H1=>∃j:Int,vs=[.int j]/\-(2^62)<=j/\j<2^62/\R (Itr 0 j.toNat) H1
theorem tL {a:Expr}{ta:TA}{p pos:Pos}(hg:Gl X "range")(hm:X.mg "range" = none)(ha:PA X [a] ta)(hs:starEach [a] X.env = [(false,eval a X.env)]:=by rfl):PI X tg (.Call (.Name "range" p) [a] [] pos) (aLm ta):=by
 intro pins s σ H R I h;refine Call_ (wL I hg hm boot_range (PyProof.Rows.callWith_type1 (thn (ha pos pins s σ H _ I h) λus s1 ⟨vs,H1,I1,r1,q1⟩=>?_) hs rfl));obtain⟨j,e,q1,q2,q⟩:=q1;subst e;cases r1 with
 |cons r rr =>
  cases rr;obtain⟨t,rfl⟩:=r;exact call_range_1 (aEO I1 (by omega) (by omega) q1 q2 (by simpa using q))
def aM8 (wi:TI)(g:TG)(tb:TS):TS:=λD σ H=>wi σ H λJ H1=>∃W:Nat->Nat->St->Hp->Prop,(∃m,W 0 m σ H1)/\∀i m σ H,W i m σ H ->
 (J.stop i H/\D.nx σ H)∨(J.go i H/\∃N:St->Hp->Prop,(∀σ' H',N σ' H'->∃m',m'<m/\W (i+1) m' σ' H')/\∀x H',J.yld i H x H'->g x σ H' λσ2 H2=>tb { D with nx:=N,ct:=N,bk:=D.nx } σ2 H2)
noncomputable def zZ (fp:List Addr)(h:Heap):List (Addr×Obj):=fp.filterMap λb=>(h.get? b).map λo=>(b,o)
theorem mN {fp:List Addr}{h:Heap}{b:Addr}{o:Obj}(hb:b∈fp)(e:h.get? b=some o):(b,o)∈zZ fp h:=List.mem_filterMap.mpr ⟨b,hb,by rw[e];rfl⟩
theorem aD0 {fp:List Addr}{h:Heap}{p:Addr×Obj}(hp:p∈zZ fp h):p.1∈fp/\h.get? p.1=some p.2:=by
 obtain⟨b,hb,e⟩:=List.mem_filterMap.mp hp;cases q:h.get? b with
 |none=>rw[q] at e;cases e
 |some o =>
  rw[q] at e;have e':(b,o)=p:=Option.some.inj e;subst e';exact⟨hb,q⟩
theorem Inv.pinned {pins:List (Addr×Obj)}{σ:St}{H:Hp}{s:Shared}{fp:List Addr}(I:Inv X pins σ H s)(hf:∀b∈fp,xP X pins H b)(ho:∀b∈fp,∃o,s.heap.get? b=some o/\∀v,o.data ≠ .cell v):Inv X (pins++zZ fp s.heap) σ H s :=
 I.pins_of λp hp=>(List.mem_append.mp hp).elim (λz=>I.pin p (mem_append_right _ z)) λz=>by obtain⟨hb,e⟩:=aD0 z;obtain⟨f0,f1,f2,_⟩:=hf p.1 hb;obtain⟨o,e',d⟩:=ho p.1 hb;rw[e] at e';cases e';exact⟨e,f0,f1,f2,d⟩
theorem Inv.unpinned {pins pl:List (Addr×Obj)}{σ:St}{H:Hp}{s:Shared}(I:Inv X (pins++pl) σ H s):Inv X pins σ H s:=I.pins_of λp hp=>I.pin p (mem_append_right _ (mem_append_left _ hp))
theorem aB6 {iter:Expr}{body:List Stmt}{wi:TI}{g:TG}{tb:TS}{pos:Pos}(hp:PassesOwn (model X.prog X.w) X.A X.env X.xe)(hc:X.calm=true)(hi:PI X tg iter wi)(hg:PG X tg g)(hb:PSs X body tb)(hs:∀x,foldedSetIterable iter X.env x=pure x:=by intro _;rfl):PS X (.For tg iter body [] pos) (aM8 wi g tb):=by
 intro pins s σ H D I h;refine wpAny_For (thn (hi pins s σ H _ I h) λv s1 h1=>thn h1 λitv s2 h2=>?_) hs;obtain⟨it,fp,tn,J,H2,e,I2,T,st2,f2,W,⟨m0,w0⟩,turn⟩:=h2;subst e;have stat:∀{H':Hp},(∀b∈fp,H' b=none)->∀b∈fp,xP X pins H' b:=λhn b hb=>⟨hn b hb,(f2 b hb).2⟩;refine codeAny_forLoop_any (λn s'=>∃i σ' H',Inv X pins σ' H' s'/\tn i s'.heap/\(∀b∈fp,H' b=none)/\W i n σ' H') ?_ m0 ⟨0,σ,H2,I2,st2,λb hb=>(f2 b hb).1,w0⟩;rintro n s3 ⟨i,σ3,H3,I3,st3,fr3,w3⟩;rcases turn i n σ3 H3 w3 with⟨stop,qn⟩|⟨go,N,hN,step⟩
 ·refine wpAny_passesOwn hp (thn (T.done X rfl rfl rfl hc i pins s3 σ3 H3 X.xe I3 (stat fr3) st3 stop) λr s4 ⟨hr,I4⟩=>?_);subst hr;exact wpAny_execs_nil ⟨σ3,H3,I4,qn⟩
 ·refine wpAny_passesOwn hp (thn (T.item X rfl rfl rfl hc i pins s3 σ3 H3 X.xe I3 (stat fr3) st3 go) λr s4 ⟨u,hr,h4⟩=>?_);subst hr;refine wpAny_passesOwn hp (thn h4 λ_ s5 ⟨x,H5,I5,r5,y5,st5,fr5⟩=>?_);have I5':=I5.pinned (stat fr5) (T.obj _ _ st5);refine wpAny_passesOwn hp (thn (hg _ s5 σ3 H5 x u _ I5' r5 (step x H5 y5)) λ_ s6 ⟨σ6,H6,I6,q6⟩=>?_);refine wpAny_passesOwn hp (thn (hb _ s6 σ6 H6 _ I6 q6) λf s7 q7=>?_);have again:∀{σ7:St}{H7:Hp},Inv X (pins++zZ fp s5.heap) σ7 H7 s7->N σ7 H7->∃m,m<n/\∃i σ' H',Inv X pins σ' H' s7/\tn i s7.heap/\(∀b∈fp,H' b=none)/\W i m σ' H':=λ{σ7 H7} I7 n7=>by obtain⟨m',hm,w7⟩:=hN σ7 H7 n7;refine⟨m',hm,i+1,σ7,H7,I7.unpinned,T.keep _ _ _ st5 λb hb o e=>(I7.pin (b,o) (mem_append_right _ (mem_append_right _ (mN hb e)))).1,λb hb=>?_,w7⟩;obtain⟨o,e,d⟩:=T.obj _ _ st5 b hb;exact(I7.pin (b,o) (mem_append_right _ (mem_append_right _ (mN hb e)))).2.1
  cases f with
  |next=>obtain⟨σ7,H7,I7,n7⟩:=q7;exact again I7 n7
  |cont=>obtain⟨σ7,H7,I7,n7⟩:=q7;exact again I7 n7
  |brk=>obtain⟨σ7,H7,I7,q7⟩:=q7;exact⟨σ7,H7,I7.unpinned,q7⟩
  |ret v=>obtain⟨x7,σ7,H7,I7,r7,q7⟩:=q7;exact⟨x7,σ7,H7,I7.unpinned,r7,q7⟩
end
abbrev R2:=V->V->Hp->VK->Prop
def OpR (X:Cx)(f:Value->Value->Sem Value)(r:R2):Prop :=
 ∀(pins:List (Addr×Obj)) (s:Shared) (σ:St) (H:Hp) (x y:V) (v u:Value) (Q:VK),Inv X pins σ H s->bM x v->bM y u->r x y H Q ->
  wpAny (model X.prog X.w) X.A (f v u) (EP X pins σ Q) X.xe s
def UnR (X:Cx)(f:Value->Sem Value)(r:V->Hp->VK->Prop):Prop :=
 ∀(pins:List (Addr×Obj)) (s:Shared) (σ:St) (H:Hp) (x:V) (v:Value) (Q:VK),Inv X pins σ H s->bM x v->r x H Q ->
  wpAny (model X.prog X.w) X.A (f v) (EP X pins σ Q) X.xe s
def kS (X:Cx)(f:Value)(r:List V->Hp->VK->Prop):Prop :=
 ∀(pins:List (Addr×Obj)) (s:Shared) (σ:St) (H:Hp) (xs:List V) (us:List Value) (Q:VK),Inv X pins σ H s->bT xs us->r xs H Q ->
  wpAny (model X.prog X.w) X.A (call f us) (EP X pins σ Q) X.xe s
def tOp (r:R2)(ta tb:TE):TE:=λσ H Q=>ta σ H λx H1=>tb σ H1 λy H2=>r x y H2 Q
def tUn (r:V->Hp->VK->Prop)(ta:TE):TE:=λσ H Q=>ta σ H λx H1=>r x H1 Q
def rI (C:Int->Int->Prop)(g:Int->Int->V):R2:=λx y H Q=>∃i j,x=.int i/\y=.int j/\C i j/\Q (g i j) H
def rI0 (g:Int->Int->V):R2:=λx y H Q=>∃i j,x=.int i/\y=.int j/\Q (g i j) H
def rU (g:Int->V):V->Hp->VK->Prop:=λx H Q=>∃i,x=.int i/\Q (g i) H
section
variable {X:Cx}{a b c:Expr}{ta tb tc:TE}{pos:Pos}
theorem aKi (ha:PE X a ta)(hb:PE X b tb){pins:List (Addr×Obj)}{s:Shared}{σ:St}{H:Hp}{R:V->V->Hp->Prop}(I:Inv X pins σ H s)(h:ta σ H λx H1=>tb σ H1 λy H2=>R x y H2){Q:Value->Shared->Prop}{f:Value->Value->Sem Value}(hf:∀v u s2 x y H2,Inv X pins σ H2 s2->bM x v->bM y u->R x y H2->wpAny (model X.prog X.w) X.A (f v u) Q X.xe s2) :
  wpAny (model X.prog X.w) X.A (eval a X.env) (λv s₁=>wpAny (model X.prog X.w) X.A (eval b X.env) (λu s₂=>wpAny (model X.prog X.w) X.A (f v u) Q X.xe s₂) X.xe s₁) X.xe s:=by
 refine thn (ha pins s σ H _ I h) λv s1 ⟨x,H1,I1,r1,q1⟩=>?_;refine thn (hb pins s1 σ H1 _ I1 q1) λu s2 ⟨y,H2,I2,r2,q2⟩=>?_;exact hf v u s2 x y H2 I2 r1 r2 q2
theorem aME {op:Operator}{r:R2}(ho:OpR X (binaryOp op) r)(ha:PE X a ta)(hb:PE X b tb):PE X (.BinOp a op b pos) (tOp r ta tb):=by intro pins s σ H Q I h;exact wpAny_BinOp (aKi ha hb I h λv u s2 x y H2 I2 rx ry q=>ho pins s2 σ H2 x y v u Q I2 rx ry q)
theorem aLr {op:UnaryOp}{r:V->Hp->VK->Prop}(ho:UnR X (unaryOp op) r)(ha:PE X a ta):PE X (.UnaryOp op a pos) (tUn r ta):=by intro pins s σ H Q I h;exact UnaryOp_ (thn (ha pins s σ H _ I h) λv s1 ⟨x,H1,I1,r1,q1⟩=>ho pins s1 σ H1 x v Q I1 r1 q1)
theorem opI {f:Value->Value->Sem Value}{C:Int->Int->Prop}{g:Int->Int->Int}(rule:∀(i j:Int)(t u:Tok) (s:Shared) (Q:Value->Shared->Prop) (E:Value->Shared->Prop),C i j->Q (.int (g i j) s.toks) { s with toks:=s.toks+1 }->wpAny (model X.prog X.w) X.A (f (.int i t) (.int j u)) Q E s) :
  OpR X f (rI C λi j=>.int (g i j)):=by
 intro pins s σ H x y v u Q I rx ry h;obtain⟨i,j,rfl,rfl,hc,q⟩:=h;obtain⟨t,rfl⟩:=rx;obtain⟨t',rfl⟩:=ry;exact rule i j t t' s _ _ hc ⟨.int (g i j),H,I.tok _,⟨_,rfl⟩,q⟩
theorem aLe {f:Value->Value->Sem Value}{g:Int->Int->Int}(rule:∀(i j:Int)(t u:Tok) (s:Shared) (Q:Value->Shared->Prop) (E:Value->Shared->Prop),Q (.int (g i j) s.toks) { s with toks:=s.toks+1 }->wpAny (model X.prog X.w) X.A (f (.int i t) (.int j u)) Q E s) :
  OpR X f (rI0 λi j=>.int (g i j)):=by
 intro pins s σ H x y v u Q I rx ry h;obtain⟨i,j,rfl,rfl,q⟩:=h;obtain⟨t,rfl⟩:=rx;obtain⟨t',rfl⟩:=ry;exact rule i j t t' s _ _ ⟨.int (g i j),H,I.tok _,⟨_,rfl⟩,q⟩
theorem aG5 {f:Value->Value->Sem Value}{g:Int->Int->Bool}(rule:∀(i j:Int)(t u:Tok) (s:Shared) (Q:Value->Shared->Prop) (E:Value->Shared->Prop),Q (.bool (g i j)) s->wpAny (model X.prog X.w) X.A (f (.int i t) (.int j u)) Q E s) :
  OpR X f (rI0 λi j=>.bl (g i j)):=by
 intro pins s σ H x y v u Q I rx ry h;obtain⟨i,j,rfl,rfl,q⟩:=h;obtain⟨t,rfl⟩:=rx;obtain⟨t',rfl⟩:=ry;exact rule i j t t' s _ _ ⟨.bl (g i j),H,I,rfl,q⟩
def aK4 (i j:Int):Prop:=0<=j/\j<=1000000/\i.natAbs<2^64
theorem aJO:OpR X (binaryOp .Add) (rI0 λi j=>.int (i+j)):=aLe λ_ _ _ _ _ _ _ q=>add_int q
theorem aIK:OpR X (binaryOp .Sub) (rI0 λi j=>.int (i-j)):=aLe λ_ _ _ _ _ _ _ q=>sub_int q
theorem aGr:OpR X (binaryOp .Mod) (rI (λ_ j=>j≠0) λi j=>.int (i.fmod j)):=opI λ_ _ _ _ _ _ _ hc q=>mod_int' hc q
theorem aJX:OpR X (binaryOp .Pow) (rI aK4 λi j=>.int (i^j.toNat)):=opI λ_ _ _ _ _ _ _ hc q=>pow_int_small hc.1 hc.2.1 hc.2.2 q
theorem unI {f:Value->Sem Value}{g:Int->Int}(rule:∀(i:Int)(t:Tok) (s:Shared) (Q:Value->Shared->Prop) (E:Value->Shared->Prop),Q (.int (g i) s.toks) { s with toks:=s.toks+1 }->wpAny (model X.prog X.w) X.A (f (.int i t)) Q E s) :
  UnR X f (rU λi=>.int (g i)):=by
 intro pins s σ H x v Q I rx h;obtain⟨i,rfl,q⟩:=h;obtain⟨t,rfl⟩:=rx;exact rule i t s _ _ ⟨.int (g i),H,I.tok _,⟨_,rfl⟩,q⟩
theorem aH8:UnR X (unaryOp .USub) (rU λi=>.int (-i)):=unI λ_ _ _ _ _ q=>neg_int q
end
section
variable {X:Cx}{a b c:Expr}{ta tb tc:TE}{pos:Pos}
theorem aK5:OpR X (compareOp .Lt) (rI0 λi j=>.bl (decide (i<j))):=aG5 λ_ _ _ _ _ _ _ q=>lt_int q
theorem aLS:OpR X (compareOp .LtE) (rI0 λi j=>.bl (decide (i<=j))):=aG5 λ_ _ _ _ _ _ _ q=>le_int q
theorem aLI:OpR X (compareOp .Gt) (rI0 λi j=>.bl (decide (j<i))):=aG5 λ_ _ _ _ _ _ _ q=>gt_int q
theorem aLF:OpR X (compareOp .GtE) (rI0 λi j=>.bl (decide (j<=i))):=aG5 λ_ _ _ _ _ _ _ q=>ge_int q
theorem zE (b:Expr){op:CmpOp}(h:op ≠ .In:=by decide)(h2:op ≠ .NotIn:=by decide):behindInMarks op b=false:=by
 have e1:(op==CmpOp.In)=false:=by cases op<;>first|rfl|exact absurd rfl h
 have e2:(op==CmpOp.NotIn)=false:=by cases op<;>first|rfl|exact absurd rfl h2
 cases b<;>simp[behindInMarks,e1,e2]
theorem aGw {op:CmpOp}{r:R2}(ho:OpR X (compareOp op) r)(ha:PE X a ta)(hb:PE X b tb)(hm:behindInMarks op b=false):PE X (.Compare a [op] [b] pos) (tOp r ta tb):=by intro pins s σ H Q I h;exact wpAny_Compare1 (aKi ha hb I h λv u s2 x y H2 I2 rx ry q=>ho pins s2 σ H2 x y v u Q I2 rx ry q) hm
def aLo (t:TE):TT:=λσ H Q=>t σ H λx H'=>∃k,x=.bl k/\Q k H'
theorem aHj {op:CmpOp}{r:R2}(ho:OpR X (compareOp op) r)(ha:PE X a ta)(hb:PE X b tb)(hm:behindInMarks op b=false):PT X (.Compare a [op] [b] pos) (aLo (tOp r ta tb)):=by
 intro pins s σ H Q I h;refine wpAny_isTrue_Compare1 (thn (ha pins s σ H _ I h) λv s1 ⟨x,H1,I1,r1,q1⟩=>thn (hb pins s1 σ H1 _ I1 q1) λu s2 ⟨y,H2,I2,r2,q2⟩ =>
  thn (ho pins s2 σ H2 x y v u _ I2 r1 r2 q2) λc s3 ⟨z,H3,I3,r3,k,e,q3⟩=>?_) hm
 subst e;cases r3;exact wpAny_truthy_bool ⟨H3,I3,q3⟩
def aFX (r r':R2)(ta tb tc:TE):TE:=λσ H Q=>ta σ H λx H1=>tb σ H1 λy H2=>r x y H2 λz H3=>∃k,z=.bl k /\
 (if k=true then tc σ H3 λw' H4=>r' y w' H4 Q else Q (.bl false) H3)
theorem aEr {op op':CmpOp}{r r':R2}(ho:OpR X (compareOp op) r)(ho':OpR X (compareOp op') r')(ha:PE X a ta)(hb:PE X b tb)(hc:PE X c tc)(hm:lastMarks [op,op'] [b,c]=false:=by with_unfolding_all rfl):PE X (.Compare a [op,op'] [b,c] pos) (aFX r r' ta tb tc):=by
 intro pins s σ H Q I h;refine Compare_chain (thn (ha pins s σ H _ I h) λv s1 ⟨x,H1,I1,r1,q1⟩=>chain_link (thn (hb pins s1 σ H1 _ I1 q1) λu s2 ⟨y,H2,I2,r2,q2⟩ =>
  thn (ho pins s2 σ H2 x y v u _ I2 r1 r2 q2) λd s3 ⟨z,H3,I3,r3,k,e,q3⟩=>?_)) hm
 subst e;cases r3;refine wpAny_truthy_bool ?_;cases k with
 |false=>exact ite_ff ⟨.bl false,H3,I3,rfl,q3⟩
 |true=>exact ite_tt (chain_last (thn (hc pins s3 σ H3 _ I3 q3) λw' s4 ⟨z',H4,I4,r4,q4⟩=>ho' pins s4 σ H4 y z' u w' Q I4 r2 r4 q4))
theorem aAp:(sizeLine:Nat)<2^63:=by rw[sizeLine_eq];decide
theorem zD {x:V}{us:List Value}(r:bT [x] us):∃u,us=[u]/\bM x u:=by
 cases r with
 |cons r1 r2=>cases r2;exact⟨_,rfl,r1⟩
theorem aHY {x y:V}{us:List Value}(r:bT [x,y] us):∃u w',us=[u,w']/\bM x u/\bM y w':=by
 cases r with
 |cons r1 r2 =>
  cases r2 with
  |cons r3 r4=>cases r4;exact⟨_,_,rfl,r1,r3⟩
theorem aEh:kS X (.builtin "abs") (λxs H Q=>∃i,xs=[.int i]/\Q (.int (if i<0 then -i else i)) H):=by intro pins s σ H xs us Q I r h;obtain⟨i,rfl,q⟩:=h;obtain⟨u,rfl,t,rfl⟩:=zD r;exact call_abs_int λu tk=>⟨.int (if i<0 then -i else i),H,I.tok _,⟨_,rfl⟩,q⟩
theorem aDm (hc:X.calm = true):kS X (.builtin "max") (λxs H Q=>∃i j,xs=[.int i,.int j]/\Q (.int (if j > i then j else i)) H):=by
 intro pins s σ H xs us Q I r h;obtain⟨i,j,rfl,q⟩:=h;obtain⟨u,w',rfl,⟨t,rfl⟩,⟨t',rfl⟩⟩:=aHY r;refine max_two_ints (I.ok.hd hc) λh' tk k=>⟨_,H,I.kept k,?_,q⟩;by_cases hj:j > i
 ·rw[if_pos hj,if_pos hj];exact⟨_,rfl⟩
 ·rw[if_neg hj,if_neg hj];exact⟨_,rfl⟩
theorem aDf:kS X (.type "int") (λxs H Q=>(∃i,xs=[.int i]/\Q (.int i) H) ∨ ∃k,xs=[.bl k]/\Q (.int (if k then 1 else 0)) H):=by
 intro pins s σ H xs us Q I r h;rcases h with⟨i,rfl,q⟩|⟨k,rfl,q⟩
 ·obtain⟨u,rfl,t,rfl⟩:=zD r;exact call_int_int ⟨.int i,H,I,⟨_,rfl⟩,q⟩
 ·obtain⟨u,rfl,r1⟩:=zD r;cases r1;exact call_int_bool ⟨.int (if k then 1 else 0),H,I.tok _,⟨_,rfl⟩,q⟩
end
structure aCc (h:Heap)(x dx C:Addr)(mA:Str->Option Value):Prop where
 obj:h.get? x=some (instObj C dx)
 ns:h.Ns1 dx mA
 ne:dx≠x
theorem aDU {h:Heap}{dx:Addr}{mA:Str->Option Value}(n:h.Ns1 dx mA):∃od,h.get? dx=some od/\∀name,lookIn name od=some (mA name):=by
 obtain⟨o,es,ep,ho,hd,hk,_,hm⟩:=n;refine⟨o,ho,λname=>?_⟩;have e:=hm name;unfold nsFind findBy at e;rw[<- Array.find?_toList] at e;unfold lookIn;rw[hd];dsimp only;split
 ·rename_i y q;rw[q] at e;exact congrArg some e
 ·rename_i q;rw[q] at e;have a:es.toList.any (·.refKey)=false:=by rw[List.any_eq_false];intro y hy;obtain⟨z,t,hkey⟩:=hk y (Array.mem_toList_iff.mp hy);simp[DictEntry.refKey,hkey]
  have a':¬es.toList.any (·.refKey)=true:=by rw[a];exact Bool.false_ne_true
  rw[if_neg a'];exact congrArg some e
theorem aCc.look {h:Heap}{x dx C:Addr}{mA:Str->Option Value}(I:aCc h x dx C mA):∃od,PySem.W.InstAt h x (instObj C dx) C (some od)/\∀name,lookIn name od=some (mA name) :=
 let ⟨od,ho,hl⟩:=aDU I.ns
 ⟨od,⟨I.obj,rfl,rfl,ho⟩,hl⟩
section
variable {prog:Program}{w:World}{A:Around}{E:Value->Shared->Prop}{s:Shared}{K:Frag}{x dx C f:Addr}{mA:Str->Option Value}{name:Str}{v:Value}
theorem aGu {expr:Bool}{Q:Value->Shared->Prop}(X:K.In s.heap)(I:aCc s.heap x dx C mA)(hg:plainGet K C name=true)(hh:hasDictIn K C=true)(ha:findIn K (.ref C) name=some none)(hv:mA name=some v)(hv':PySem.W.handedIn v=true)(h:Q v { s with toks:=s.toks+1 }) :
  wpAny (model prog w) A (getAttr (.ref x) name expr) Q E s:=by
 obtain⟨od,J,hl⟩:=I.look;exact PySem.W.get_value X J (plainGet_of hg).1 (PySem.W.findObj_own hh ha rfl (by rw[hl,hv])) hv' h
theorem aFK {pl:Sem Bool}{Q:Value×List Value->Shared->Prop}(X:K.In s.heap)(I:aCc s.heap x dx C mA)(hg:plainGet K C name=true)(hf:findIn K (.ref C) name=some (some (.ref f)))(ht:isFn K (.ref f)=true)(hv:mA name=none)(h:Q (.ref f,[.ref x]) s) :
  wpAny (model prog w) A (getMethod (.ref x) name pl) Q E s:=by
 obtain⟨od,J,hl⟩:=I.look;exact PySem.W.method_fn X J (plainGet_of hg).1 (plainGet_of hg).2 hf (beq_iff_eq.mp ht) (by show(lookIn name od).map (·.isSome)=some false;rw[hl,hv];rfl) h
theorem aHr {ns:List Str}{Q:Unit->Shared->Prop}(X:K.In s.heap)(I:aCc s.heap x dx C mA)(hs:findIn K (.ref C) "__setattr__" = some (some (.builtin "object.__setattr__")))(hp:PySem.W.plainOver K C=true)(ht:PySem.W.takerIn K C name=some none)(hh:hasDictIn K C=true)(hw:PySem.Within mA ns)(hsz:ns.length<=sizeLine)(h:∀h',aCc h' x dx C (λy=>if y=name then some v else mA y)->Heap.SameBut dx s.heap h'->Q () { s with heap:=h',toks:=s.toks+2 }) :
  wpAny (model prog w) A (setAttr (.ref x) name v) Q E s:=by
 obtain⟨od,J,hl⟩:=I.look;refine PySem.W.set_plain X J hs (PySem.W.osa_open (s:={ s with toks:=s.toks+1 }) (r:=none) X J hp ht λb=>?_);obtain⟨cd,hc,hd'⟩:=PySem.W.any_some hh;have hx:s.heap.get? x=some ⟨.ref C,some dx,.plain,#[]⟩:=I.obj;refine wpAny_bind (wpAny_pure (wpAny_bind (wpAny_bind (wpAny_loadPart hx (wpAny_bind (PySem.W.Looks.here (s:={ s with toks:=s.toks+1 }) (PySem.W.looks_clsIn X hc) ?_))))));rw[hd'];refine wpAny_pure (a:=some dx) (wpAny_bind (wpAny_pure (wpAny_bind ?_)));refine wpAny_nsSet1 (s:={ s with toks:=s.toks+1 }) I.ns λh' hn2 hs2=>?_;obtain⟨oD,esD,epD,hoD,hdD,hcD⟩:=hn2.count (PySem.Within.cons name v hw);refine wpAny_bind (wpAny_lookBehind hoD (by rw[hdD];exact pastItsLine_dict (Nat.le_trans hcD (by rw[length_cons];omega))) ?_);exact wpAny_pure (h _ ⟨(hs2.2 _ (Ne.symm I.ne)).trans I.obj,hn2,I.ne⟩ hs2)
theorem aFh {R:Result->Shared->Prop}{vs:List Value}{kw:List (Str×Value)}(X:K.In s.heap)(hm:PySem.W.makesIn K C=true)(hi:findIn K (.ref C) "__init__" = some (some (.ref f)))(hf:PySem.W.typeIn K (.ref f) = some (.type "function"))(h:codeAny (model prog w) (A.under (.builtin "type.__call__" ⟨.ref C::vs,kw⟩)) (.call (.ref f) ⟨.ref (s.heap.objs.size+1)::vs,kw⟩) (PySem.W.InitBack (s.heap.objs.size+1) R)
   { s with heap:=(s.heap.push emptyDict).push (instObj C s.heap.objs.size) }) :
  codeAny (model prog w) A (.call (.ref C) ⟨vs,kw⟩) R s:=by
 obtain⟨hh,g,d,t,os⟩:=s;exact PySem.W.make_core (PySem.W.makes_of X hm) (PySem.W.looks_findIn X hi) (λself=>PySem.W.bind_fn X self hf) (.inl rfl) h
end
noncomputable def mL (f:Str)(v:V):List (Str×V)->List (Str×V)
 |[]=>[(f,v)]
 |(g,x)::r=>if g=f then (g,v)::r else (g,x)::mL f v r
theorem uE (f g:Str)(v:V):∀fs:List (Str×V),(mL f v fs).lookup g=if g=f then some v else fs.lookup g
 |[]=>by
  show List.lookup g [(f,v)]=_;by_cases h:g=f
  ·have hb:(g==f)=true:=beq_iff_eq.mpr h;simp only[List.lookup,hb,if_pos h]
  ·have hb:(g==f)=false:=beq_eq_false_iff_ne.mpr h;simp only[List.lookup,hb,if_neg h]
 |(k,x)::r=>by
  have ih:=uE f g v r;rw[show mL f v ((k,x)::r)=(if k=f then (k,v)::r else (k,x)::mL f v r) from rfl];by_cases hk:k=f
  ·rw[if_pos hk];by_cases h:g=k
   ·have hb:(g==k)=true:=beq_iff_eq.mpr h;simp only[List.lookup,hb,if_pos (h.trans hk)]
   ·have hb:(g==k)=false:=beq_eq_false_iff_ne.mpr h;simp only[List.lookup,hb,if_neg (λe:g=f=>h (e.trans hk.symm))]
  ·rw[if_neg hk];by_cases h:g=k
   ·have hb:(g==k)=true:=beq_iff_eq.mpr h;simp only[List.lookup,hb,if_neg (λe:g=f=>hk (h.symm.trans e))]
   ·have hb:(g==k)=false:=beq_eq_false_iff_ne.mpr h;simp only[List.lookup,hb];exact ih
theorem sU (f:Str)(v:V):∀fs:List (Str×V),f∈(mL f v fs).map (·.1)/\∀g,g∈fs.map (·.1)->g∈(mL f v fs).map (·.1)
 |[]=>⟨by simp[mL],λg h=>by simp at h⟩
 |(k,x)::r=>by
  obtain⟨i1,i2⟩:=sU f v r;rw[show mL f v ((k,x)::r)=(if k=f then (k,v)::r else (k,x)::mL f v r) from rfl];by_cases hk:k=f
  ·rw[if_pos hk];subst hk;exact⟨by simp,λg h=>by simpa using h⟩
  ·rw[if_neg hk];refine⟨?_,λg h=>?_⟩
   ·rw[map_cons];exact mem_cons_of_mem _ i1
   ·rw[map_cons] at h ⊢;rcases List.mem_cons.mp h with e|e
    ·exact List.mem_cons.mpr (.inl e)
    ·exact mem_cons_of_mem _ (i2 g e)
theorem uA (f:Str)(v:V):∀fs:List (Str×V),(mL f v fs).length<=fs.length+1
 |[]=>by simp[mL]
 |(k,x)::r=>by
  have ih:=uA f v r;rw[show mL f v ((k,x)::r)=(if k=f then (k,v)::r else (k,x)::mL f v r) from rfl];by_cases hk:k=f
  ·rw[if_pos hk,length_cons,length_cons];omega
  ·rw[if_neg hk,length_cons,length_cons];omega
theorem xW.some_of {v:V}{o:Option Value}(r:xW (some v) o):∃u,o=some u/\bM v u:=by
 cases o with
 |none=>exact(show False from r).elim
 |some u=>exact⟨u,rfl,r⟩
theorem xW.none_of {o:Option Value}(r:xW none o):o=none:=by
 cases o with
 |none=>rfl
 |some u=>exact(show False from r).elim
theorem aDV {v:V}{u:Value}(r:bM v u):PySem.W.handedIn u=true:=by
 cases v with
 |non=>cases (show u=Value.none from r);rfl
 |bl b=>cases (show u=Value.bool b from r);rfl
 |int i=>obtain⟨t,e⟩:=(show ∃t,u=Value.int i t from r);cases e;rfl
 |str x=>obtain⟨t,e⟩:=(show ∃t,u=Value.str x t from r);cases e;rfl
 |byt b=>obtain⟨t,e⟩:=(show ∃t,u=Value.bytes b t from r);cases e;rfl
 |flt b=>obtain⟨t,e⟩:=(show ∃t,u=Value.float b t from r);cases e;rfl
 |ref a=>cases (show u=Value.ref a from r);rfl
 |ty n=>cases (show u=Value.type n from r);rfl
section
variable {P:Program}{w:World}{H H':Hp}{h h':Heap}{a C dx:Addr}{fs fs':List (Str×V)}
theorem vJ (hok:HOk P w H h)(e:H a=some (.ins C dx fs)):∃mA,aCc h a dx C mA/\(∀f,xW (fs.lookup f) (mA f))/\PySem.Within mA (fs.map (·.1))/\fs.length<=1000/\H dx=some (.own a):=by obtain⟨d,z,ne,ob,mA,n,r,q⟩:=(show fF P w H h a (.ins C dx fs) from hok a _ e);exact⟨mA,⟨ob,n,ne⟩,r,q,z,d⟩
end
structure Cls (K:Frag)(C:Addr):Prop where
 pg:plainGet K C Str.empty=true
 hd:hasDictIn K C=true
 po:PySem.W.plainOver K C=true
 sa:findIn K (.ref C) "__setattr__" = some (some (.builtin "object.__setattr__"))
theorem Cls.get {K:Frag}{C:Addr}(c:Cls K C)(f:Str):plainGet K C f=true:=c.pg
def qC (K:Frag)(C:Addr)(f:Str):Prop:=findIn K (.ref C) f=some none
theorem qC.taker {K:Frag}{C:Addr}{f:Str}(n:qC K C f):PySem.W.takerIn K C f=some none:=by unfold PySem.W.takerIn;rw[show findIn K (.ref C) f=some none from n];rfl
structure aBY (K:Frag)(C:Addr)(m:Str)(f:Addr):Prop where
 at_:findIn K (.ref C) m=some (some (.ref f))
 fn:isFn K (.ref f)=true
 kp:keepIn K (.ref f)=true
section
variable {X:Cx}{pins:List (Addr×Obj)}{σ:St}{H:Hp}{s:Shared}{a C dx:Addr}{fs:List (Str×V)}{f:Str}{v:V}{A:Around}{E:Value->Shared->Prop}
theorem aCu {b:Bool}{Q:Value->Shared->Prop}(I:Inv X pins σ H s)(e:H a=some (.ins C dx fs))(c:Cls X.K C)(n:qC X.K C f)(l:fs.lookup f=some v)(h:∀u s',Inv X pins σ H s'->bM v u->Q u s'):wpAny (model X.prog X.w) A (getAttr (.ref a) f b) Q E s:=by obtain⟨mA,O,r,_,_,_⟩:=vJ I.hok e;obtain⟨u,hu,ru⟩:=xW.some_of (v:=v) (o:=mA f) (by rw[<- l];exact r f);exact aGu I.kIn O (c.get f) c.hd n hu (aDV ru) (h u _ (I.tok _) ru)
theorem aBZ {m:Str}{g:Addr}{pl:Sem Bool}{Q:Value×List Value->Shared->Prop}(I:Inv X pins σ H s)(e:H a=some (.ins C dx fs))(c:Cls X.K C)(k:aBY X.K C m g)(l:fs.lookup m=none)(h:Q (.ref g,[.ref a]) s):wpAny (model X.prog X.w) A (getMethod (.ref a) m pl) Q E s:=by obtain⟨mA,O,r,_,_,_⟩:=vJ I.hok e;have hn:mA m=none:=xW.none_of (by rw[<- l];exact r m);exact aFK I.kIn O (c.get m) k.at_ k.fn hn h
theorem aCa {y:V}{u:Value}{Q:Unit->Shared->Prop}(I:Inv X pins σ H s)(e:H a=some (.ins C dx fs))(c:Cls X.K C)(n:qC X.K C f)(hl:fs.length<1000)(ry:bM y u)(h:∀s',Inv X pins σ (upd H a (.ins C dx (mL f y fs))) s'->Q () s'):wpAny (model X.prog X.w) A (setAttr (.ref a) f u) Q E s:=by
 obtain⟨mA,O,r,wi,_,ho⟩:=vJ I.hok e;have hz:(fs.map (·.1)).length<=sizeLine:=by rw[length_map,sizeLine_eq];omega
 refine aHr I.kIn O c.sa c.po n.taker c.hd wi hz λh' O' sb=>h _ ?_;have hd:∃o,h'.get? dx=some o:=let ⟨o,_,_,e',_⟩:=O'.ns;⟨o,e'⟩
 refine I.write (x:=a) (e:=dx) (by rw[e];exact True.intro) (.inr ho) (λb q hb z=>(sb.2 b hb).trans z) hd ?_;refine⟨by rw[aZ O.ne];exact ho,?_,O.ne,O'.obj,_,O'.ns,λg=>?_,λg hg=>?_⟩
 ·have:=uA f y fs;omega
 ·show xW ((mL f y fs).lookup g) (if g=f then some u else mA g);rw[uE];by_cases q:g=f
  ·rw[if_pos q,if_pos q];exact ry
  ·rw[if_neg q,if_neg q];exact r g
 ·by_cases q:g=f
  ·rw[q];exact(sU f y fs).1
  ·refine(sU f y fs).2 g (wi g λz=>hg ?_);show(if g=f then some u else mA g)=none;rw[if_neg q];exact z
theorem Inv.made (I:Inv X pins σ H s):Inv X pins σ (upd (upd H s.heap.objs.size (.own (s.heap.objs.size+1))) (s.heap.objs.size+1) (.ins C s.heap.objs.size []))
  { s with heap:=(s.heap.push emptyDict).push (instObj C s.heap.objs.size) }:=by
 have e1:(s.heap.push emptyDict).get? s.heap.objs.size=some emptyDict:=Heap.get?_push_size s.heap rfl;have e2:((s.heap.push emptyDict).push (instObj C s.heap.objs.size)).get? (s.heap.objs.size+1)=some (instObj C s.heap.objs.size):=by
  have:=Heap.get?_push_size (s.heap.push emptyDict) (o:=instObj C s.heap.objs.size) rfl
  rwa [Heap.size_push] at this
 have e3:(s.heap.push emptyDict).Ns s.heap.objs.size (λ_=>none):=⟨emptyDict,#[],_,e1,rfl,(λe he=>absurd he (by simp)),λ_=>rfl⟩;have I1:=I.laid (a:=s.heap.objs.size) (o:=.own (s.heap.objs.size+1)) (h':=s.heap.push emptyDict) (t':=s.toks) (λb u q=>Heap.get?_push_of_some _ q) (Nat.le_refl _) ⟨_,e1⟩;refine I1.laid (a:=s.heap.objs.size+1) (o:=.ins C s.heap.objs.size []) (t':=s.toks) (λb u q=>Heap.get?_push_of_some _ q) (Nat.le_of_eq (Heap.size_push _ _)) ?_;have ne:s.heap.objs.size≠s.heap.objs.size+1:=Nat.ne_of_lt (Nat.lt_succ_self _);refine⟨by rw[aZ ne,cP],Nat.zero_le _,ne,e2,λ_=>none,(Heap.Ns1.of_empty e3).at λo q=>Heap.get?_push_of_some _ q,λ_=>True.intro,λy hy=>absurd rfl hy⟩
theorem aGz {prog:Program}{w:World}{env:Env}{e:Expr}{f:Str}{pos:Pos}{s:Shared}{Q:Value->Shared->Prop}(hb:attributeBase e f env (eval e env)=eval e env)(h:wpAny (model prog w) A (eval e env) (λo s₁=>wpAny (model prog w) A (getAttr o f true) Q E s₁) E s):wpAny (model prog w) A (eval (.Attribute e f pos) env) Q E s :=
 Attribute_any_ h (by rw[arm_eval_Attribute,hb])
end
def aNe (K:Frag)(ta:TE)(f:Str):TE:=λσ H Q=>ta σ H λx H1=>∃a C dx fs v,x=.ref a/\H1 a=some (.ins C dx fs)/\Cls K C/\qC K C f/\fs.lookup f=some v/\Q v H1
def aM2 (K:Frag)(ta tv:TE)(f:Str):TS:=λD σ H=>tv σ H λy H1=>ta σ H1 λx H2=>∃a C dx fs,x=.ref a/\H2 a=some (.ins C dx fs)/\Cls K C/\qC K C f/\fs.length<1000 /\
 D.nx σ (upd H2 a (.ins C dx (mL f y fs)))
section
variable {X:Cx}{o e value:Expr}{f:Str}{pos pos' tpos:Pos}{ta tv:TE}
theorem aKe (he:PE X e ta)(hb:attributeBase e f X.env (eval e X.env)=eval e X.env):PE X (.Attribute e f pos) (aNe X.K ta f):=by intro pins s σ H Q I h;refine aGz hb (thn (he pins s σ H _ I h) λu s1 ⟨x,H1,I1,rx,a,C,dx,fs,v,ex,ea,c,n,l,q⟩=>?_);subst ex;obtain rfl:u=Value.ref a:=rx;exact aCu I1 ea c n l λu' s2 I2 ru=>⟨v,H1,I2,ru,q⟩
theorem aIF (ha:PE X o ta)(hv:PE X value tv)(hs:swapsWith value (some (.Attribute o f pos')) pos.line X.env=pure false):PS X (.Assign [.Attribute o f pos'] value pos) (aM2 X.K ta tv f):=by intro pins s σ H D I h;refine plainObj_wpAny_Assign_Attribute (thn (hv pins s σ H _ I h) λu s1 ⟨y,H1,I1,ry,q⟩=>thn (ha pins s1 σ H1 _ I1 q) λov s2 ⟨x,H2,I2,rx,a,C,dx,fs,ex,ea,c,n,l,q2⟩=>?_) hs;subst ex;obtain rfl:ov=Value.ref a:=rx;exact aCa I2 ea c n l ry λs3 I3=>⟨σ,_,I3,q2⟩
end
section
variable {X:Cx}{pins:List (Addr×Obj)}{σ:St}{H:Hp}{s:Shared}{A:Around}{E:Value->Shared->Prop}{Q:Value->Shared->Prop}{c:Value}{b:Bool}
inductive uW (K:Frag) (H:Hp):V->Value->Prop where
 |non:uW K H .non (.type "NoneType")
 |bl (x:Bool):uW K H (.bl x) (.type "bool")
 |int (i:Int):uW K H (.int i) (.type "int")
 |str (x:Str):uW K H (.str x) (.type "str")
 |flt (x:UInt64):uW K H (.flt x) (.type "float")
 |lst {a:Addr} {xs:List V} (e:H a = some (.lst xs)):uW K H (.ref a) (.type "list")
 |frz {a:Addr} {o:Obj} {xs:List V} (e:H a = some (.frz o (.lst xs))):uW K H (.ref a) (.type "list")
 |tup {a:Addr} {xs:List V} (e:H a = some (.tup xs)):uW K H (.ref a) (.type "tuple")
 |dK {a:Addr} {kvs:List (Key×V)} (e:H a = some (.dK kvs)):uW K H (.ref a) (.type "dict")
 |dT {a:Addr} {kvs:List (List Key×V)} (e:H a = some (.dT kvs)):uW K H (.ref a) (.type "dict")
 |ins {a C dx:Addr} {fs:List (Str×V)} (e:H a = some (.ins C dx fs)) (cl:Cls K C) (ha:findIn K (.ref C) "__class__" = some (some (.builtin "object.__class__")))
   (hn:PySem.W.specialIn K (.builtin "object.__class__") "__get__" = some (some (.builtin "getset_descriptor.__get__"))) (htk:PySem.W.takesIn K (.builtin "object.__class__")=some true)
   (hm:PySem.W.mroIn K C (.type "object")=some true):uW K H (.ref a) (.ref C)
theorem mC {x:V}{u t:Value}(I:Inv X pins σ H s)(rx:bM x u)(ty:uW X.K H x t)(e:kitOne X.K t c=some b)(h:∀tk,Q (.bool b) { s with toks:=tk }) :
  wpAny (model X.prog X.w) A (call (.builtin "isinstance") [u,c]) Q E s:=by
 cases ty with
 |non=>cases (show u=Value.none from rx);exact kia_one PySem.W.kitx_none I.kIn True.intro e (λz=>nomatch z) h
 |bl y=>cases (show u=Value.bool y from rx);exact kia_one PySem.W.kitx_bool I.kIn True.intro e (λz=>nomatch z) h
 |int i=>obtain⟨t,q⟩:=(show ∃t,u=Value.int i t from rx);cases q;exact kia_one PySem.W.kitx_int I.kIn True.intro e (λz=>nomatch z) h
 |str y=>obtain⟨t,q⟩:=(show ∃t,u=Value.str y t from rx);cases q;exact kia_one PySem.W.kitx_str I.kIn True.intro e (λz=>nomatch z) h
 |flt y=>obtain⟨t,q⟩:=(show ∃t,u=Value.float y t from rx);cases q;exact kia_one PySem.W.kitx_float I.kIn True.intro e (λz=>nomatch z) h
 |@lst a xs ea =>
  cases (show u=Value.ref a from rx);obtain⟨_,_,n,_,h1⟩:=(show fF X.prog X.w H s.heap a (.lst xs) from I.hok a _ ea);exact kia_one kitx_list I.kIn ⟨_,h1,rfl⟩ e (λz=>nomatch z) h
 |@frz a ob xs ea =>
  cases (show u=Value.ref a from rx);obtain⟨_,_,_,n,_,h1⟩:=(show fF X.prog X.w H s.heap a (.frz ob (.lst xs)) from I.hok a _ ea);exact kia_one kitx_list I.kIn ⟨_,h1,rfl⟩ e (λz=>nomatch z) h
 |@tup a xs ea =>
  cases (show u=Value.ref a from rx);obtain⟨_,_,_,p⟩:=(show fF X.prog X.w H s.heap a (.tup xs) from I.hok a _ ea);obtain⟨o,h1,h2,_⟩:=p;exact kia_one PySem.W.kitx_tuple I.kIn ⟨o,h1,h2⟩ e (λz=>nomatch z) h
 |@dK a kvs ea =>
  cases (show u=Value.ref a from rx);obtain⟨_,_,vs,_,p⟩:=(show fF X.prog X.w H s.heap a (.dK kvs) from I.hok a _ ea);obtain⟨o,es,ep,h1,h2,_⟩:=p;exact kia_one PySem.W.kitx_dict I.kIn ⟨o,h1,h2.1⟩ e (λz=>nomatch z) h
 |@dT a kvs ea =>
  cases (show u=Value.ref a from rx);obtain⟨_,_,xs,_,o,es,ep,h1,h2,_⟩:=(show fF X.prog X.w H s.heap a (.dT kvs) from I.hok a _ ea);exact kia_one PySem.W.kitx_dict I.kIn ⟨o,h1,h2.1⟩ e (λz=>nomatch z) h
 |@ins a C dx fs ea cl ha hn htk hm =>
  cases (show u=Value.ref a from rx);obtain⟨mA,O,_⟩:=vJ I.hok ea;obtain⟨od,J,_⟩:=O.look;exact kia_one (PySem.W.kitx_own (cl.get _) cl.hd ha hn htk hm) I.kIn J e (λz=>nomatch z) h
end
structure cQ (k:Nat)(A:Around):Prop where
 hd:A.handled=none
 dp:A.depth+3*k+5<recursionLimit
 un:A.units+16*k+200<cLine
theorem cQ.mono {j k:Nat}{A:Around}(r:cQ k A)(h:j<=k):cQ j A:=⟨r.hd,by have:=r.dp;omega,by have:=r.un;omega⟩
theorem cQ.deeper {k:Nat}{A:Around}(r:cQ (k+1) A)(env:Env):cQ k (A.deeper env) :=
 ⟨r.hd,by have:=r.dp;show A.depth+1+3*k+5<_;omega,by have:=r.un;show A.units+3+16*k+200<_;omega⟩
theorem aCi {A:Around}{C:Addr}{us:List Value}{kw:List (Str×Value)}:(A.under (.builtin "type.__call__" ⟨.ref C::us,kw⟩)).depth=A.depth+1:=by first|rfl|simp[Around.under,Code.weight,Code.isCreation,Code.isGuard,Code.isCaller,Code.frames,Code.isFrame,guardIds]
theorem aCs {A:Around}{C:Addr}{us:List Value}{kw:List (Str×Value)}:(A.under (.builtin "type.__call__" ⟨.ref C::us,kw⟩)).units=A.units+1:=by first|rfl|simp[Around.under,Code.cUnits,Code.frames,Code.isFrame]
theorem cQ.make {k:Nat}{A:Around}(r:cQ (k+1) A)(C:Addr)(us:List Value)(kw:List (Str×Value)):cQ k (A.under (.builtin "type.__call__" ⟨.ref C::us,kw⟩)) :=
 ⟨r.hd,by have:=r.dp;rw[aCi];omega,by have:=r.un;rw[aCs];omega⟩
theorem cQ.depth {k:Nat}{A:Around}(r:cQ k A):A.depth<recursionLimit:=by have:=r.dp;omega
theorem cQ.units {k:Nat}{A:Around}(r:cQ k A):A.units+64<cLine:=by have:=r.un;omega
def aIO:TA:=λ_ H Q=>Q [] H
def aHT (ta:TE)(tr:TA):TA:=λσ H Q=>ta σ H λx H1=>tr σ H1 λxs H2=>Q (x::xs) H2
section
variable {X:Cx}{e:Expr}{es:List Expr}{te:TE}{t:TA}{pos:Pos}
theorem zU:PA X [] aIO:=λ_ _ _ _ H Q I h=>Calls.spliced_nil ⟨[],H,I,.nil,h⟩
theorem rP (ha:PE X e te)(hr:PA X es t)(hs:starEach (e::es) X.env=(false,eval e X.env)::starEach es X.env:=by rfl):PA X (e::es) (aHT te t):=by intro pos pins s σ H Q I h;rw[hs];show wpAny _ _ (spliced ((false,eval e X.env)::backTo pos (starEach es X.env))) _ _ s;refine Calls.spliced_cons (thn (ha pins s σ H _ I h) λu s1 ⟨x,H1,I1,r1,q1⟩=>?_);exact thn (hr pos pins s1 σ H1 _ I1 q1) λus s2 ⟨xs,H2,I2,r2,q2⟩=>⟨x::xs,H2,I2,.cons r1 r2,q2⟩
def aNt (t:TA):TE:=λσ H Q=>t σ H λxs H1=>xs.length<=sizeLine/\∀p,H1 p=none->Q (.ref p) (upd H1 p (.tup xs))
def aNH (t:TA):TE:=λσ H Q=>t σ H λxs H1=>xs.length<=sizeLine/\∀p,H1 p=none->Q (.ref p) (upd H1 p (.lst xs))
theorem aJR {x1}(h:PA X es t):PE X (.Tuple es x1 pos) (aNt t):=by intro pins s σ H Q I hq;refine wpAny_Tuple_spliced (thn (h pos pins s σ H _ I hq) λus s1 ⟨xs,H1,I1,r,z,q⟩=>⟨by rw[<- r.length];exact z,?_⟩);have hf:H1 s1.heap.objs.size=none:=I1.hok.fresh (Nat.le_refl _);refine⟨.ref s1.heap.objs.size,upd H1 s1.heap.objs.size (.tup xs),I1.laid (t':=s1.toks) (λb u e=>Heap.get?_push_of_some _ e) (Nat.le_refl _) ?_,rfl,q _ hf⟩;exact⟨z,us,r,⟨_,Heap.get?_push_size _ rfl,rfl,_,rfl⟩⟩
theorem aKu (h:PA X es t):PE X (.List es pos) (aNH t):=by intro pins s σ H Q I hq;refine wpAny_List_spliced (thn (h pos pins s σ H _ I hq) λus s1 ⟨xs,H1,I1,r,z,q⟩=>⟨by rw[<- r.length];exact z,?_⟩);have hf:H1 s1.heap.objs.size=none:=I1.hok.fresh (Nat.le_refl _);refine⟨.ref s1.heap.objs.size,upd H1 s1.heap.objs.size (.lst xs),I1.laid (t':=s1.toks) (λb u e=>Heap.get?_push_of_some _ e) (Nat.le_refl _) ?_,rfl,q _ hf⟩;exact⟨z,us,0,r,Heap.get?_push_size _ rfl⟩
end
abbrev Sp:=List V->Hp->VK->XK->Prop
abbrev CXT:=List Env->Hp->Shared->XK->Value->Shared->Prop
structure aCo (P:Program)(w:World)(K:Frag)(mg:Str->Option Value)(base:Heap)(A:Around)(outer:List Env)(s:Shared)(H:Hp):Prop where
 frames:A.frames=some outer
 mod:Mod K mg base
 bs:∀b o,base.get? b=some o->s.heap.get? b=some o/\H b=none
 bsz:base.objs.size<=s.heap.objs.size
 funs:s.heap.FunFrames base outer
 frf:∀b∈frs outer,H b=none
 hok:HOk P w H s.heap
 bare:AllBare s.gens
def CE (outer:List Env)(P:Program)(w:World)(H:Hp)(s:Shared)(Q:VK)(u:Value)(s':Shared):Prop :=
 ∃v H',s'.os=s.os/\AllBare s'.gens/\Un (frs outer) [] H H' s.heap s'.heap/\HOk P w H' s'.heap/\bM v u/\Q v H'
def CR (CX:CXT)(outer:List Env)(P:Program)(w:World)(H:Hp)(s:Shared)(Q:VK)(E:XK)(r:Result)(s':Shared):Prop :=
 match r with
 |.ok (.ret u)=>CE outer P w H s Q u s'
 |.ok _=>False
 |.error e=>CX outer H s E e s'
structure kC (P:Program)(w:World)(K:Frag)(mg:Str->Option Value)(base:Heap)(CX:CXT)(k:Nat)(f:Addr)(fd:FuncData)(ps:List Str)(sp:Sp):Prop where
 len:∀vs H Q E,sp vs H Q E->vs.length=ps.length
 run:∀(A:Around)(outer:List Env) (s:Shared) (H:Hp) (args:Args) (us:List Value) (vs:List V) (Q:VK) (E:XK),cQ k A->aCo P w K mg base A outer s H->BindsTo s fd args (ps.zip us)->bT vs us->sp vs H Q E ->
  codeAny (model P w) A (.call (.ref f) args) (CR CX outer P w H s Q E) s
theorem kC.imp {P:Program}{w:World}{K:Frag}{mg:Str->Option Value}{base:Heap}{CX:CXT}{k:Nat}{f:Addr}{fd:FuncData}{ps:List Str}{sp sp':Sp}(F:kC P w K mg base CX k f fd ps sp)(h:∀vs H Q E,sp' vs H Q E->sp vs H Q E):kC P w K mg base CX k f fd ps sp' :=
 ⟨λvs H Q E q=>F.len vs H Q E (h _ _ _ _ q),λA outer s H args us vs Q E hr he hb hv hs=>F.run A outer s H args us vs Q E hr he hb hv (h _ _ _ _ hs)⟩
theorem aCo.make {P:Program}{w:World}{K:Frag}{mg:Str->Option Value}{base:Heap}{A:Around}{outer:List Env}{s:Shared}{H:Hp}(e:aCo P w K mg base A outer s H)(C:Addr)(us:List Value)(kw:List (Str×Value)) :
  aCo P w K mg base (A.under (.builtin "type.__call__" ⟨.ref C::us,kw⟩)) outer s H:=⟨by first|exact e.frames|(simpa[Around.under,Code.envs,Code.isFrame,pushEnvs] using e.frames),e.mod,e.bs,e.bsz,e.funs,e.frf,e.hok,e.bare⟩
section
variable {X:Cx}{pins:List (Addr×Obj)}{σ:St}{H:Hp}{s s':Shared}
theorem Inv.env0 (I:Inv X pins σ H s):aCo X.prog X.w X.K X.mg X.base X.A X.stack s H :=
 ⟨I.ok.frames,I.ok.mod,I.bs,Nat.le_trans I.ok.bsz I.sz,I.stack,I.stkFree,I.hok,I.bare⟩
theorem Inv.after {Q:VK}{u:Value}(I:Inv X pins σ H s)(h:CE X.stack X.prog X.w H s Q u s'):EP X pins σ Q u s':=by obtain⟨v,H',os,bare,un,hok,r,q⟩:=h;obtain⟨hh,g,d,t,os'⟩:=s';obtain rfl:os'=s.os:=os;exact⟨v,H',I.call (h':=hh) (g':=g) (d':=d) (t':=t) (ch:=[]) un hok bare (λb z=>absurd z (by simp)),r,q⟩
end
def aH3 (sp:Sp)(dvs:List V)(E:XK)(t:TA):TE:=λσ H Q=>t σ H λvs H1=>sp (vs++dvs) H1 Q E
def aLy (C:Addr)(m:Str)(sp:Sp)(dvs:List V)(E:XK)(ta:TE)(t:TA):TE:=λσ H Q=>ta σ H λx H1=>∃a dx fs,x=.ref a/\H1 a=some (.ins C dx fs)/\fs.lookup m=none /\
 t σ H1 λvs H2=>sp (x::(vs++dvs)) H2 Q E
def aMF (C:Addr)(sp:Sp)(dvs:List V)(E:XK)(t:TA):TE:=λσ H Q=>t σ H λvs H1=>∀x dx,H1 x=none->H1 dx=none->dx≠x ->
 sp (.ref x::(vs++dvs)) (upd (upd H1 dx (.own x)) x (.ins C dx [])) (λv H2=>v=.non/\Q (.ref x) H2) E
def iK (K:Frag)(fd:FuncData)(ps:List Str)(ds:List Value):Prop :=
 ∀(s:Shared)(us:List Value),K.In s.heap->(us++ds).length=ps.length->BindsTo s fd ⟨us,[]⟩ (ps.zip (us++ds))
theorem iK.all {K:Frag}{fd:FuncData}{ps:List Str}(h:∀us:List Value,us.length=ps.length->bindArgs fd ⟨us,[]⟩=pure (ps.zip us)):iK K fd ps []:=λs us _ hl=>by rw[append_nil] at hl ⊢;exact .of_eq (h us hl)
def mV (CX:CXT)(X:Cx)(E:XK):Prop:=∀(pins:List (Addr×Obj)) (σ:St) (H:Hp) (s:Shared) (e:Value) (s':Shared),Inv X pins σ H s->CX X.stack H s E e s'->X.xe e s'
section
variable {X:Cx}{CX:CXT}{k:Nat}{f C:Addr}{fd:FuncData}{ps:List Str}{sp:Sp}{dvs:List V}{ds:List Value}{E:XK}{x m:Str}{p pos apos:Pos}{e o:Expr}{es:List Expr}{ta:TE}{t:TA}
theorem aBM {pins:List (Addr×Obj)}{σ:St}{H:Hp}{s:Shared}{Q:VK}{us:List Value}{vs:List V}(F:kC X.prog X.w X.K X.mg X.base CX k f fd ps sp)(hr:cQ k X.A)(hb:iK X.K fd ps ds)(hd:bT dvs ds)(hx:mV CX X E)(I:Inv X pins σ H s)(r:bT vs us)(h:sp (vs++dvs) H Q E):wpAny (model X.prog X.w) X.A (call (.ref f) us) (EP X pins σ Q) X.xe s:=by
 have r2:bT (vs++dvs) (us++ds):=r.append hd;have hl:(us++ds).length=ps.length:=by rw[<- r2.length];exact F.len _ _ _ _ h
 refine wpAny_call (codeAny_mono (F.run X.A X.stack s H ⟨us,[]⟩ (us++ds) (vs++dvs) Q E hr I.env0 (hb s us I.kIn hl) r2 h) λr s' hq=>?_);cases r with
 |error e=>exact hx pins σ H s e s' I hq
 |ok fl =>
  cases fl with
  |ret u=>exact I.after hq
  |next=>exact False.elim hq
  |brk=>exact False.elim hq
  |cont=>exact False.elim hq
theorem aHp (F:kC X.prog X.w X.K X.mg X.base CX k f fd ps sp)(hr:cQ k X.A)(hg:Gl X x)(hm:X.mg x=some (.ref f))(hk:keepIn X.K (.ref f)=true)(hb:iK X.K fd ps ds)(hd:bT dvs ds)(hx:mV CX X E)(ha:PA X (e::es) t)(hdb:(x==("__debug__":Str))=false:=by decide)(he:starEach (e::es) X.env=(false,eval e X.env)::starEach es X.env:=by rfl)(hpl:(backTo pos (starEach es X.env)).any (·.1)=false:=by rfl) :
  PE X (.Call (.Name x p) (e::es) [] pos) (aH3 sp dvs E t):=by
 intro pins s σ H Q I h;refine wpAny_Call_Name_kw (vD I hg hm ?_ hdb);refine callWith_K (h₀:=X.base) I.ok.mod.kin hk (thn (ha pos pins s σ H _ I h) λus s1 ⟨vs,H1,I1,r,q⟩=>⟨I1.kIn,?_⟩) he hpl;exact aBM F hr hb hd hx I1 r q
theorem aEx (F:kC X.prog X.w X.K X.mg X.base CX k f fd ps sp)(hr:cQ k X.A)(hg:Gl X x)(hm:X.mg x=some (.ref f))(hk:keepIn X.K (.ref f)=true)(hb:iK X.K fd ps ds)(hd:bT dvs ds)(hx:mV CX X E)(hdb:(x==("__debug__":Str))=false:=by decide):PE X (.Call (.Name x p) [] [] pos) (aH3 sp dvs E aIO):=by intro pins s σ H Q I h;refine wpAny_Call_Name_kw (vD I hg hm ?_ hdb);exact PySem.W.callWith_K0 I.kIn hk (aBM (us:=[]) F hr hb hd hx I .nil h)
theorem aHJ {pl:Sem Bool}(he:PE X o ta)(c:Cls X.K C)(hm:aBY X.K C m f)(F:kC X.prog X.w X.K X.mg X.base CX k f fd ps sp)(hr:cQ k X.A)(hb:iK X.K fd ps ds)(hd:bT dvs ds)(hx:mV CX X E)(ha:PA X (e::es) t)(hst:starEach (e::es) X.env=(false,eval e X.env)::starEach es X.env:=by rfl)(hpl:(backTo pos (starEach es X.env)).any (·.1)=false:=by rfl)(ht:eval (.Call (.Attribute o m apos) (e::es) [] pos) X.env=(do
   let ov <- eval o X.env
   standAt apos.atName
   let (f,first) <- holding [ov] (getMethod ov m pl)
   callWith pos f first (backTo pos (starEach (e::es) X.env)) (backToKw pos (keywordEach [] X.env))):=by rfl) :
  PE X (.Call (.Attribute o m apos) (e::es) [] pos) (aLy C m sp dvs E ta t):=by
 intro pins s σ H Q I h;refine PySem.W.methodCall_KW (pl:=pl) (thn (he pins s σ H _ I h) λu s1 ⟨x,H1,I1,rx,a,dx,fs,ex,ea,l,q⟩=>?_) ht;subst ex;obtain rfl:u=Value.ref a:=rx;refine aBZ I1 ea c hm l ?_;refine callWith_K (first:=[.ref a]) (h₀:=X.base) I.ok.mod.kin hm.kp (thn (ha pos pins s1 σ H1 _ I1 q) λus s2 ⟨vs,H2,I2,r,q2⟩=>⟨I2.kIn,?_⟩) hst hpl;exact aBM (us:=.ref a::us) (vs:=.ref a::vs) F hr hb hd hx I2 (.cons rfl r) q2
structure Mk (K:Frag)(C f:Addr):Prop where
 makes:PySem.W.makesIn K C=true
 init:findIn K (.ref C) "__init__"=some (some (.ref f))
 fn:isFn K (.ref f)=true
 kp:keepIn K (.ref C)=true
theorem aEY {pins:List (Addr×Obj)}{σ:St}{H:Hp}{s:Shared}{Q:VK}{us:List Value}{vs:List V}(M:Mk X.K C f)(F:kC X.prog X.w X.K X.mg X.base CX k f fd ps sp)(hr:cQ (k+1) X.A)(hb:iK X.K fd ps ds)(hd:bT dvs ds)(hx:mV CX X E)(I:Inv X pins σ H s)(r:bT vs us)(h:∀x dx,H x=none->H dx=none->dx≠x->sp (.ref x::(vs++dvs)) (upd (upd H dx (.own x)) x (.ins C dx [])) (λv H2=>v=.non/\Q (.ref x) H2) E) :
  wpAny (model X.prog X.w) X.A (call (.ref C) us) (EP X pins σ Q) X.xe s:=by
 have hq:=h (s.heap.objs.size+1) s.heap.objs.size (I.hok.fresh (Nat.le_succ _)) (I.hok.fresh (Nat.le_refl _)) (Nat.ne_of_lt (Nat.lt_succ_self _));have I2:=Inv.made (C:=C) I;have r2:bT (V.ref (s.heap.objs.size+1)::(vs++dvs)) (Value.ref (s.heap.objs.size+1)::(us++ds)):=.cons rfl (r.append hd);have hl:(Value.ref (s.heap.objs.size+1)::us++ds).length=ps.length:=by have e:=r2.length;rw[F.len _ _ _ _ hq] at e;exact e.symm
 refine wpAny_call (aFh (f:=f) I.kIn M.makes M.init (beq_iff_eq.mp M.fn) (codeAny_mono (F.run _ X.stack _ _ ⟨Value.ref (s.heap.objs.size+1)::us,[]⟩ (Value.ref (s.heap.objs.size+1)::(us++ds)) _ _ E (hr.make C us [])
  (I2.env0.make C us []) (hb _ (Value.ref (s.heap.objs.size+1)::us) I2.kIn hl) r2 hq) λr s' hq'=>?_))
 cases r with
 |error e=>exact hx pins σ _ _ e s' I2 hq'
 |ok fl =>
  cases fl with
  |ret u =>
   obtain⟨v,H',I3,rv,ev,q3⟩:=I2.after hq';subst ev;exact⟨rv,⟨V.ref (s.heap.objs.size+1),H',I3,rfl,q3⟩⟩
  |next=>exact False.elim hq'
  |brk=>exact False.elim hq'
  |cont=>exact False.elim hq'
theorem aHq (M:Mk X.K C f)(F:kC X.prog X.w X.K X.mg X.base CX k f fd ps sp)(hr:cQ (k+1) X.A)(hg:Gl X x)(hm:X.mg x=some (.ref C))(hb:iK X.K fd ps ds)(hd:bT dvs ds)(hx:mV CX X E)(ha:PA X (e::es) t)(hdb:(x==("__debug__":Str))=false:=by decide)(he:starEach (e::es) X.env=(false,eval e X.env)::starEach es X.env:=by rfl)(hpl:(backTo pos (starEach es X.env)).any (·.1)=false:=by rfl) :
  PE X (.Call (.Name x p) (e::es) [] pos) (aMF C sp dvs E t):=by
 intro pins s σ H Q I h;refine wpAny_Call_Name_kw (vD I hg hm ?_ hdb);refine callWith_K (h₀:=X.base) I.ok.mod.kin M.kp (thn (ha pos pins s σ H _ I h) λus s1 ⟨vs,H1,I1,r,q⟩=>⟨I1.kIn,?_⟩) he hpl;exact aEY M F hr hb hd hx I1 r q
end
section
variable {X:Cx}{CX:CXT}{k:Nat}{f C:Addr}{fd:FuncData}{ps ks:List Str}{sp:Sp}{E:XK}{x m:Str}{p pos apos kpos:Pos}{e o:Expr}{es:List Expr}{kws:List Keyword}{te ta:TE}{t tk:TA}{nm:Option Str}
variable {g:List Value->List Value->List Value}{gV:List V->List V->List V}
end
structure aS (N P:List Str)(sc:Scope):Prop where
 kind:sc.kind=.function
 co:sc.isCoroutine=false
 gen:sc.isGenerator=false
 nd:N.Nodup
 pre:N.take P.length=P
 par:∀x∈P,sc.names.lookup x=some .local∨sc.names.lookup x=some .cell
 nofree:∀y∈sc.names,y.2 ≠ .free
theorem yF {kindOf:Str->Option NameKind}{x:Str}:∀{binds:List (Str×Value)}{m:Str->Option Value},(∀v,(x,v)∉binds)->bindL kindOf binds m x=m x
 |[],_,_=>rfl
 |(n,v)::r,m,h=>by
  unfold bindL;rw[yF λw hw=>h w (mem_cons_of_mem _ hw)];split
  ·have:x≠n:=by rintro rfl;exact h v mem_cons_self
   simp[this]
  ·rfl
theorem yW {kindOf:Str->Option NameKind}{x:Str}:∀{binds:List (Str×Value)}{m:Str->Option Value},(∀v,(x,v)∉binds)->bindC kindOf binds m x=m x
 |[],_,_=>rfl
 |(n,v)::r,m,h=>by
  unfold bindC;rw[yW λw hw=>h w (mem_cons_of_mem _ hw)];split
  ·rfl
  ·have:x≠n:=by rintro rfl;exact h v mem_cons_self
   simp[this]
theorem yV {kindOf:Str->Option NameKind}{x:Str}{v:Value}:∀{P:List Str}{vs:List Value} {i:Nat} {m:Str->Option Value},P.Nodup->P[i]?=some x->vs[i]?=some v->kindOf x=some .local ->
  bindL kindOf (P.zip vs) m x=some v
 |[],_,_,_,_,h,_,_=>by simp at h
 |_::_,[],_,_,_,_,h,_=>by simp at h
 |p::P,w::vs,0,m,nd,h1,h2,hk=>by simp at h1 h2;subst h1;subst h2;show bindL kindOf ((p,w)::P.zip vs) m p=_;unfold bindL;rw[yF λv hv=>(List.nodup_cons.mp nd).1 (List.of_mem_zip hv).1,if_pos hk];simp
 |p::P,w::vs,i+1,m,nd,h1,h2,hk=>by show bindL kindOf ((p,w)::P.zip vs) m x=_;unfold bindL;exact yV (i:=i) (List.nodup_cons.mp nd).2 (by simpa using h1) (by simpa using h2) hk
theorem zB {kindOf:Str->Option NameKind}{x:Str}{v:Value}:∀{P:List Str}{vs:List Value} {i:Nat} {m:Str->Option Value},P.Nodup->P[i]?=some x->vs[i]?=some v->kindOf x≠some .local ->
  bindC kindOf (P.zip vs) m x=some v
 |[],_,_,_,_,h,_,_=>by simp at h
 |_::_,[],_,_,_,_,h,_=>by simp at h
 |p::P,w::vs,0,m,nd,h1,h2,hk=>by simp at h1 h2;subst h1;subst h2;show bindC kindOf ((p,w)::P.zip vs) m p=_;unfold bindC;rw[yW λv hv=>(List.nodup_cons.mp nd).1 (List.of_mem_zip hv).1,if_neg hk];simp
 |p::P,w::vs,i+1,m,nd,h1,h2,hk=>by show bindC kindOf ((p,w)::P.zip vs) m x=_;unfold bindC;exact zB (i:=i) (List.nodup_cons.mp nd).2 (by simpa using h1) (by simpa using h2) hk
noncomputable def start (N:List Str)(vs:List V):St:=vs.map some++List.replicate (N.length-vs.length) none
noncomputable def tE (CX:CXT)(P:Program)(w:World)(K:Frag)(mg:Str->Option Value)(base:Heap)(N:List Str)(qual:Str)(scope:Scope)(f:Addr)(cd:Value)(A:Around)(outer:List Env)(s:Shared)(H:Hp)(E:XK):Cx where
 prog:=P
 w:=w
 K:=K
 mg:=mg
 base:=base
 A:=A.deeper (envOfC qual scope s.heap.objs.size f cd)
 N:=N
 s₀:=s
 H₀:=H
 env:=envOfC qual scope s.heap.objs.size f cd
 outer:=outer
 stack:=envOfC qual scope s.heap.objs.size f cd::outer
 ex:=[]
 calm:=true
 fn:=λ_=>true
 pn:=[]
 xe:=λe s'=>wpAny (model P w) (A.deeper (envOfC qual scope s.heap.objs.size f cd)) (leaving (envOfC qual scope s.heap.objs.size f cd) e) (λ_ s''=>CX outer H s E e s'') (λe' s''=>CX outer H s E e' s'') s'
theorem aBm {sc:Scope}{n:Nat}{x:Str}(h:sc.names.lookup x=some .cell):∃c,(cellsFrom n sc.names []).lookup x=some c:=by have q:=PySem.W.cellsFrom_some sc.names n [] (.inl h);exact Option.isSome_iff_exists.mp q
theorem aDK {CX:CXT}{P:Program}{w:World}{K:Frag}{mg:Str->Option Value}{base:Heap}{N ps:List Str}{qual:Str}{scope:Scope}{f:Addr}{cd:Value}{A:Around}{outer:List Env}{s s1:Shared}{H:Hp}{E:XK}{us:List Value}{vs:List V}(S:aS N ps scope)(hd:A.handled=none)(e0:aCo P w K mg base A outer s H)(hl:vs.length=ps.length)(r:bT vs us)(x:InCallC s s.heap.objs.size (bindL (envOfC qual scope s.heap.objs.size f cd).kindOf (ps.zip us) λ_=>none) (cellsFrom (s.heap.objs.size+1) scope.names []) (bindC (envOfC qual scope s.heap.objs.size f cd).kindOf (ps.zip us) λ_=>none) s1) :
  Inv (tE CX P w K mg base N qual scope f cd A outer s H E) [] (start N vs) H s1:=by
 have hpl:ps.length<=N.length:=by have:=congrArg List.length S.pre;rw[length_take] at this;omega
 obtain⟨h1,tk,rfl,hk⟩:=x.done;have noA:∀b:Addr,b∉(tE CX P w K mg base N qual scope f cd A outer s H E).ex:=λb z=>absurd (show b∈([]:List Addr) from z) (by simp);refine⟨⟨e0.mod,S.kind,rfl,rfl,Nat.le_refl _,λy z c h1 h2=>?_,λy hy=>?_,λy c _ h=>?_,λ_=>hd,Around.frames_deeper e0.frames,.inr ⟨rfl,rfl⟩,λb z=>absurd z (noA b),e0.bs,e0.bsz,λb _ _=>noA b,λb z=>absurd z (noA b),e0.funs,e0.frf⟩,
  rfl,e0.bare,Un.kept hk,⟨_,x.toInCall.ns,λi y v h1 h2 h3=>?_⟩,λy c h=>⟨_,x.cell y c h⟩,e0.hok.fresh (Nat.le_refl _),λy c h=>?_,λp hp=>absurd (show p∈([]:List (Addr×Obj)) from hp) (by simp),e0.hok.kept hk,?_⟩
 ·exact name_of_addr x.apart (PySem.mem_of_lookup h1) (PySem.mem_of_lookup h2)
 ·have hy:scope.names.lookup y=some .cell∨scope.names.lookup y=some .free:=hy;rcases hy with hy|hy
  ·exact aBm hy
  ·exact absurd rfl (S.nofree _ (PySem.mem_of_lookup hy))
 ·exact Nat.le_of_lt (x.above y c (PySem.mem_of_lookup h))
 ·have hi:i<vs.length:=by
   unfold start at h2;by_cases hi:i<vs.length
   ·exact hi
   ·rw[getElem?_append_right (by simpa using hi)] at h2;rw[List.getElem?_replicate] at h2;split at h2<;>cases h2
  have ha:vs[i]?=some v:=by
   unfold start at h2;rw[getElem?_append_left (by simpa using hi),getElem?_map] at h2;cases e:vs[i]? with
   |none=>rw[e] at h2;cases h2
   |some a=>rw[e] at h2;cases h2;rfl
  obtain⟨u,hu,rv⟩:=r.get ha;have hp:ps[i]?=some y:=by rw[<- S.pre,List.getElem?_take_of_lt (by omega)];exact h1
  have ndP:ps.Nodup:=by rw[<- S.pre];exact S.nd.sublist (List.take_sublist _ _)
  refine⟨u,rv,?_⟩;rcases S.par y (mem_of_getElem? hp) with k|k
  ·exact .inl ⟨k,yV ndP hp hu k⟩
  ·obtain⟨c,e⟩:=aBm (n:=s.heap.objs.size+1) k;refine .inr ⟨.inl k,c,e,?_⟩;have q:=x.cell y c e;rw[zB ndP hp hu (by show scope.names.lookup y≠_;rw[k];decide)] at q;exact q
 ·exact e0.hok.fresh (Nat.le_of_lt (x.above y c (PySem.mem_of_lookup h)))
 ·unfold start;show _=N.length;rw[length_append,length_map,List.length_replicate];omega
theorem aMc {CX:CXT}{P:Program}{w:World}{K:Frag}{mg:Str->Option Value}{base:Heap}{k:Nat}{f:Addr}{name qual:Str}{params:Arguments}{body:List Stmt}{scope:Scope}{dV kV doc pm cdv ct oc:Value}{an od:Option Addr}{osl:Array (Option Value)}{N ps:List Str}{sp:Sp}(lk:K.lookup f=some ⟨oc,od,.func (fnOf name qual params body scope dV kV doc pm an cdv ct),osl⟩)(hcd:codeIn K cdv qual=true)(S:aS N ps scope)(len:∀vs H Q E,sp vs H Q E->vs.length=ps.length)(hbody:∀(A:Around)(outer:List Env) (s:Shared) (H:Hp) (vs:List V) (Q:VK) (E:XK),cQ k (A.deeper (envOfC qual scope s.heap.objs.size f cdv))->sp vs H Q E ->
   ∃t,PSs (tE CX P w K mg base N qual scope f cdv A outer s H E) body t/\t { nx:=λ_ H'=>Q .non H',rt:=Q } (start N vs) H) :
  kC P w K mg base CX (k+1) f (fnOf name qual params body scope dV kV doc pm an cdv ct) ps sp:=by
 refine⟨len,λA outer s H args us vs Q E hr e0 hb r hsp=>?_⟩;have hl:=len _ _ _ _ hsp;have KX:K.In s.heap:=e0.mod.kin.keeps λb o e=>(e0.bs b o e).1;have lim:s.heap.NoLimit:=e0.mod.nolimit.keeps λb o e=>(e0.bs b o e).1;have hkind:∀y∈ps.zip us,scope.names.lookup y.1=some .local∨(scope.names.lookup y.1=some .cell/\((cellsFrom (s.heap.objs.size+1) scope.names []).lookup y.1).isSome=true):=λ⟨n,v⟩ hy=>by
  rcases S.par n (List.of_mem_zip hy).1 with q|q
  ·exact .inl q
  ·exact .inr ⟨q,PySem.W.cellsFrom_some _ _ _ (.inl q)⟩
 refine codeAny_call_function hr.depth (KX _ _ lk) rfl S.co S.gen rfl (PySem.W.codeRec_of KX hcd) (hb _ _ _ _ ?_);refine wpAny_newFunctionEnv_cells S.kind hkind λenv he s1 x=>?_;subst he;refine⟨lim.keeps x.toInCall.keep,codeAny_func ?_⟩;obtain⟨t,ht,hq⟩:=hbody A outer s H vs Q E (hr.deeper _) hsp;have I:Inv (tE CX P w K mg base N qual scope f cdv A outer s H E) [] (start N vs) H s1:=aDK S hr.hd e0 hl r x;refine wpAny_mono (ht [] s1 (start N vs) H _ I hq) (λfl s' hs=>?_) λe s' hs=>hs;have fin:∀{σ':St}{H':Hp} {v:V} {u:Value},Inv (tE CX P w K mg base N qual scope f cdv A outer s H E) [] σ' H' s'->bM v u->Q v H'->CE outer P w H s Q u s' :=
  λ{σ' H' v u} J rv q=>⟨v,H',J.os,J.bare,J.base,J.hok,rv,q⟩
 cases fl with
 |ret u =>
  obtain⟨v,σ',H',J,rv,q⟩:=hs;exact fin J rv q
 |next =>
  obtain⟨σ',H',J,q⟩:=hs;exact fin (v:=V.non) (u:=Value.none) J rfl q
 |brk =>
  obtain⟨_,_,_,q⟩:=hs;exact False.elim q
 |cont =>
  obtain⟨_,_,_,q⟩:=hs;exact False.elim q
section
variable {X:Cx}{x:Str}{p pos:Pos}{e:Expr}{es:List Expr}{t:TA}{id T:String}{r:List V->Hp->VK->Prop}
def tCB (r:List V->Hp->VK->Prop)(t:TA):TE:=λσ H Q=>t σ H λvs H1=>r vs H1 Q
theorem wK (hc:kS X (.builtin id) r)(hg:Gl X x)(hm:X.mg x = none)(hv:bootBuiltins x = some (.builtin id))(ha:PA X (e :: es) t)(hn:x ≠ "__name__":=by decide)(hdb:(x==("__debug__":Str))=false:=by decide)(he:starEach (e::es) X.env=(false,eval e X.env)::starEach es X.env:=by rfl)(hpl:(backTo pos (starEach es X.env)).any (·.1)=false:=by rfl):PE X (.Call (.Name x p) (e::es) [] pos) (tCB r t):=by intro pins s σ H Q I h;refine wpAny_Call_Name_kw (wL I hg hm hv ?_ hn hdb);exact PyProof.Rows.callWith_builtin1 (thn (ha pos pins s σ H _ I h) λus s1 ⟨vs,H1,I1,r1,q1⟩=>hc pins s1 σ H1 vs us Q I1 r1 q1) he hpl
theorem xY (hc:kS X (.type T) r)(hg:Gl X x)(hm:X.mg x = none)(hv:bootBuiltins x = some (.type T))(ha:PA X (e :: es) t)(hn:x ≠ "__name__":=by decide)(hdb:(x==("__debug__":Str))=false:=by decide)(he:starEach (e::es) X.env=(false,eval e X.env)::starEach es X.env:=by rfl)(hpl:(backTo pos (starEach es X.env)).any (·.1)=false:=by rfl):PE X (.Call (.Name x p) (e::es) [] pos) (tCB r t):=by intro pins s σ H Q I h;refine wpAny_Call_Name_kw (wL I hg hm hv ?_ hn hdb);exact PyProof.Rows.callWith_type1 (thn (ha pos pins s σ H _ I h) λus s1 ⟨vs,H1,I1,r1,q1⟩=>hc pins s1 σ H1 vs us Q I1 r1 q1) he hpl
end
end L2
namespace HT
open PySem PyProof.Rows
section
open PySem.SeqAt
open PySem.AutoSeq1 (wpAny_loadPart')
open PySem.MeetsSeq PySem.MeetsSeq2 PySem.MeetsSeq3
end
section
variable {prog:Program}{w:World}{A:Around}{E:Value->Shared->Prop}{s:Shared}
theorem cat_tup {t b:Addr}{vs ws:List Value}{Q:Value->Shared->Prop}(ht:IsTup s.heap t vs.toArray)(hb:IsTup s.heap b ws.toArray)(hv:vs≠[])(h1:ws = []->Q (.ref t) s)(h2:ws≠[]->Q (.ref s.heap.objs.size) { s with heap:=s.heap.push { cls:=.type "tuple",data:=.seq (vs++ws).toArray } })(hsz:vs.length+ws.length<=sizeLine):wpAny (model prog w) A (binaryOp .Add (.ref t) (.ref b)) Q E s:=by
 obtain⟨⟨cls,dd,data,sl⟩,ho,hc,n,hd⟩:=id ht;obtain⟨⟨cls2,dd2,data2,sl2⟩,ho2,hc2,n2,hd2⟩:=id hb;simp only at hc hd hc2 hd2;subst hc hd hc2 hd2;have e:vs.toArray++ws.toArray=(vs++ws).toArray:=by simp
 by_cases hw:ws=[]
 ·exact concat_meets ⟨_,ho,rfl⟩ ⟨_,ho2,rfl⟩ noFill_tuple_add seq_tuple_add PySem.F.slot_tuple_add PySem.F.entry_tuple_add (PySem.F.args_tuple_add_2 _ _)
   (tuple_addW1 t b vs.toArray ws.toArray n n2 dd dd2 sl sl2 (by simpa using hv) (by simp[hw])) ⟨ho,ho2,h1 hw⟩
 ·refine concat_meets ⟨_,ho,rfl⟩ ⟨_,ho2,rfl⟩ noFill_tuple_add seq_tuple_add PySem.F.slot_tuple_add PySem.F.entry_tuple_add (PySem.F.args_tuple_add_2 _ _)
   (tuple_addW2 t b vs.toArray ws.toArray n n2 dd dd2 sl sl2 (by simpa using hv) (by simpa using hw) (by rw[size_toArray,size_toArray];exact hsz)) ⟨ho,ho2,?_⟩
  rw[e];exact h2 hw
noncomputable def sIx (n d:Nat):Option Int->Nat
 |none=>d
 |some v=>if v<0 then (v+(n:Int)).toNat else min v.toNat n
theorem aJQ (n d:Nat)(hd:d<=n)(o:Option Int):sIx n d o<=n:=by
 cases o with
 |none=>exact hd
 |some v =>
  show(if v<0 then (v+(n:Int)).toNat else min v.toNat n)<=n;by_cases hv:v<0
  ·rw[if_pos hv];omega
  ·rw[if_neg hv];exact Nat.min_le_right _ _
theorem aC1 (v:Int)(n d:Nat):(if v<0 then max (v+(n:Int)) 0 else min v (n:Int))=((sIx n d (some v):Nat):Int):=by
 show(if v<0 then max (v+(n:Int)) 0 else min v (n:Int))=(((if v<0 then (v+(n:Int)).toNat else min v.toNat n):Nat):Int);by_cases hv:v<0
 ·simp only[if_pos hv];omega
 ·simp only[if_neg hv];omega
theorem aBX (lo hi:Option Int)(n:Nat):Builtin.Slice.sliceAdjust lo hi 1 (n:Int)=(((sIx n 0 lo:Nat):Int),((sIx n n hi:Nat):Int)):=by
 have h1:¬((1:Int)<0):=by omega
 unfold Builtin.Slice.sliceAdjust;simp only[h1,if_false];refine Prod.ext ?_ ?_
 ·cases lo with
  |none=>rfl
  |some v=>exact aC1 v n 0
 ·cases hi with
  |none=>rfl
  |some v=>exact aC1 v n n
theorem aCr (i j:Nat):Builtin.Slice.slicePlaces (i:Int) (j:Int) 1=j-i:=by
 unfold Builtin.Slice.slicePlaces;have h1:(1:Int) > 0:=by omega
 simp only[h1,if_true,Int.ediv_one];split<;>omega
theorem wX {v:Value}{o:Option Int}{Q:Option Int->Shared->Prop}(p:IsPart v o)(h:Q o s):wpAny (model prog w) A (Builtin.Slice.slicePartIndex v) Q E s:=by
 cases p with
 |none=>exact slicePart_none h
 |int i t=>exact slicePart_int h
theorem tN {sl:Addr}{vl vu:Value}{lo hi:Option Int}{n:Nat}{Q:Int×Int×Nat->Shared->Prop}(hs:s.heap.IsSliceOf sl vl vu .none)(pl:IsPart vl lo)(pu:IsPart vu hi)(h:Q (((sIx n 0 lo:Nat):Int),1,sIx n n hi-sIx n 0 lo) s):wpAny (model prog w) A (Builtin.Slice.sliceApplied (.ref sl) (pure (n:Int))) Q E s:=by obtain⟨os,hos,hcs,hds⟩:=id hs;unfold Builtin.Slice.sliceApplied Builtin.Slice.sliceFields;refine wpAny_bind (wpAny_bind (wpAny_field hos hds (x:=vl) rfl (wpAny_bind (wpAny_field hos hds (x:=vu) rfl (wpAny_bind (wpAny_field hos hds (x:=.none) rfl (wpAny_pure ?_)))))));refine wpAny_bind (slicePart_none ?_);show wpAny _ _ (if ((1:Int)==0)=true then _ else _) _ _ s;rw[if_neg (by decide)];refine wpAny_bind (wX pl (wpAny_bind (wX pu (wpAny_bind (wpAny_pure ?_)))));show wpAny _ _ (match Builtin.Slice.sliceAdjust lo hi 1 (n:Int) with|(lo,hi)=>pure (lo,(1:Int),Builtin.Slice.slicePlaces lo hi 1)) _ _ s;rw[aBX lo hi n];show wpAny _ _ (pure (((sIx n 0 lo:Nat):Int),(1:Int),Builtin.Slice.slicePlaces ((sIx n 0 lo:Nat):Int) ((sIx n n hi:Nat):Int) 1)) _ _ s;rw[aCr];exact wpAny_pure h
theorem aFA (xs:Array Value)(i k:Nat):((range k).filterMap λ(m:Nat)=>xs[((i:Int)+(m:Int)*1).toNat]?).toArray=((xs.toList.drop i).take k).toArray:=by
 have e:(λ(m:Nat)=>xs[((i:Int)+(m:Int)*1).toNat]?)=λm=>xs[i+m]?:=by
  funext m;have:((i:Int)+(m:Int)*1).toNat=i+m:=by omega
  rw[this]
 rw[e];have:=pick_run xs i k;rw[List.filterMap_map] at this;have e2:((λx=>xs[x]?) ∘ λx=>i+x)=λm=>xs[i+m]?:=rfl;rw[e2] at this;rw[this]
theorem getItem_tuple_cut {t sl:Addr}{items:Array Value}{vl vu:Value}{lo hi:Option Int}{Q:Value->Shared->Prop}(ht:IsTup s.heap t items)(hs:s.heap.IsSliceOf sl vl vu .none)(pl:IsPart vl lo)(pu:IsPart vu hi)(hw:¬(sIx items.size 0 lo=0/\sIx items.size items.size hi=items.size))(h:Q (.ref s.heap.objs.size) { s with heap:=s.heap.push { cls:=.type "tuple",data:=.seq ((items.toList.drop (sIx items.size 0 lo)).take (sIx items.size items.size hi-sIx items.size 0 lo)).toArray } })(hsz:items.size<=sizeLine):wpAny (model prog w) A (getItem (.ref t) (.ref sl)) Q E s:=by
 have htake:sizeOk (.seq ((items.toList.drop (sIx items.size 0 lo)).take (sIx items.size items.size hi-sIx items.size 0 lo)).toArray):=by show((items.toList.drop (sIx items.size 0 lo)).take (sIx items.size items.size hi-sIx items.size 0 lo)).toArray.size<=sizeLine;rw[size_toArray,length_take,length_drop,Array.length_toList];omega
 have hj:sIx items.size items.size hi<=items.size:=aJQ _ _ (Nat.le_refl _) hi;obtain⟨os,hos,hcs,hds⟩:=id hs;have hTs:s.TypeIs (.ref sl) "slice":=⟨os,hos,hcs⟩;unfold getItem;try with_reducible refine wpAny_holding ?_
 first|refine wpAny_bind (wpAny_pure ?_)|skip
 refine wpAny_bind (wpAny_sequenceKey ht.typeIs (by decide) ?_);refine wpAny_bind (wpAny_callSpecial?_slot (name:=Str.ofString "__getitem__") ht.typeIs PyProof.Rows.slot_tuple_getitem
  (wpAny_call_entry PyProof.Rows.slot_tuple_getitem ht.typeIs entry_tuple_getitem ?_ (args_tuple_getitem _ _)))
 show wpAny _ _ (Builtin.Tuple.tupleItemsOf (.ref t) >>= _) _ _ s;refine wpAny_bind (tupleItemsOf_ ht ?_);refine wpAny_bind (wpAny_typeOf hTs ?_);rw[if_pos (by decide)];refine wpAny_bind (tN hs pl pu ?_);have hno:¬((((sIx items.size 0 lo:Nat):Int)==0&&(1:Int)==1&&(sIx items.size items.size hi-sIx items.size 0 lo)==items.size)=true):=by intro q;rw[Bool.and_eq_true,Bool.and_eq_true] at q;have q1:((sIx items.size 0 lo:Nat):Int)=0:=eq_of_beq q.1.1;have q2:sIx items.size items.size hi-sIx items.size 0 lo=items.size:=eq_of_beq q.2;exact hw ⟨by omega,by omega⟩
 show wpAny _ _ (if (((sIx items.size 0 lo:Nat):Int)==0&&(1:Int)==1&&(sIx items.size items.size hi-sIx items.size 0 lo)==items.size)=true then _ else _) _ _ s;rw[if_neg hno,aFA];first
  |exact wpAny_bind (m:=Builtin.Tuple.tupleExact _) (wpAny_newObj_type (wpAny_pure ⟨_,rfl,wpAny_pure h⟩) htake)
  |exact wpAny_bind (m:=Builtin.Tuple.tupleExact _) (wpAny_newObj_type (wpAny_bind (wpAny_pure (wpAny_pure ⟨_,rfl,wpAny_pure h⟩))) htake)
  |exact wpAny_bind (wpAny_bind (m:=Builtin.Tuple.tupleExact _) (wpAny_newObj_type (wpAny_pure (wpAny_pure ⟨_,rfl,wpAny_pure h⟩)) htake))
  |exact wpAny_bind (wpAny_bind (m:=Builtin.Tuple.tupleExact _) (wpAny_newObj_type (wpAny_pure ⟨_,rfl,wpAny_pure h⟩) htake))
end
end HT
namespace L2
open PySem PySem.Spec PyProof.Rows
abbrev TO:=St->Hp->(Option Int->Hp->Prop)->Prop
def PO (X:Cx)(e:Option Expr)(t:TO):Prop :=
 ∀(pins:List (Addr×Obj)) (s:Shared) (σ:St) (H:Hp) (Q:Option Int->Hp->Prop),Inv X pins σ H s->t σ H Q ->
  wpAny (model X.prog X.w) X.A (evalPart e X.env) (λu s'=>∃o H',Inv X pins σ H' s'/\IsPart u o/\Q o H') X.xe s
def aG2:TO:=λ_ H Q=>Q none H
def aLK (t:TE):TO:=λσ H Q=>t σ H λx H1=>∃i,x=.int i/\Q (some i) H1
section
variable {X:Cx}{e:Expr}{te:TE}{lo hi:Option Expr}{tl th:TO}{pos p2:Pos}
theorem aGf:PO X none aG2:=by intro pins s σ H Q I h;rw[evalPart_none];exact wpAny_pure ⟨none,H,I,.none,h⟩
theorem aGV (h:PE X e te):PO X (some e) (aLK te):=by intro pins s σ H Q I hw;rw[evalPart_some];refine thn (h pins s σ H _ I hw) λu s1 ⟨x,H1,I1,r1,q1⟩=>?_;obtain⟨i,rfl,q⟩:=q1;obtain⟨t,rfl⟩:=r1;exact⟨some i,H1,I1,.int i t,q⟩
def SlR (X:Cx)(r:V->Option Int->Option Int->Hp->VK->Prop):Prop :=
 ∀(pins:List (Addr×Obj)) (s:Shared) (σ:St) (H:Hp) (x:V) (v vl vu:Value) (lo hi:Option Int) (sl:Addr) (Q:VK),Inv X pins σ H s->bM x v->s.heap.IsSliceOf sl vl vu .none->IsPart vl lo->IsPart vu hi->r x lo hi H Q ->
  ∃T id,typeLookup (.type T) "__getitem__"=pure (some (.builtin id))/\s.TypeIs v T/\wpAny (model X.prog X.w) X.A (getItem v (.ref sl)) (EP X pins σ Q) X.xe s
def tSl (r:V->Option Int->Option Int->Hp->VK->Prop)(te:TE)(tl th:TO):TE:=λσ H Q=>te σ H λx H1=>tl σ H1 λl H2=>th σ H2 λu H3=>r x l u H3 Q
theorem aBn {r:V->Option Int->Option Int->Hp->VK->Prop}(hr:SlR X r)(he:PE X e te)(hl:PO X lo tl)(hu:PO X hi th):PE X (.Subscript e (.Slice lo hi none p2) pos) (tSl r te tl th):=by intro pins s σ H Q I h;refine Subscript_ (thn (he pins s σ H _ I h) λv s1 ⟨x,H1,I1,r1,q1⟩=>?_);refine wpAny_Slice (thn (hl pins s1 σ H1 _ I1 q1) λvl s2 ⟨l,H2,I2,pl,q2⟩=>thn (hu pins s2 σ H2 _ I2 q2) λvu s3 ⟨u,H3,I3,pu,q3⟩=>?_);rw[evalPart_none];refine wpAny_pure ?_;have I4:Inv X pins σ H3 { s3 with heap:=s3.heap.push { cls:=.type "slice",data:=.fields #[vl,vu,.none] } }:=I3.kept (t':=s3.toks) λb ob q=>Heap.get?_push_of_some _ q;obtain⟨T,id,hT,ht,hg⟩:=hr pins { s3 with heap:=s3.heap.push { cls:=.type "slice",data:=.fields #[vl,vu,.none] } } σ H3 x v vl vu l u s3.heap.objs.size Q I4 r1 (Heap.IsSliceOf.new ..) pl pu q3;show wpAny (model X.prog X.w) X.A (subscriptTail e (.Slice lo hi none p2) v (.ref s3.heap.objs.size)) (EP X pins σ Q) X.xe { s3 with heap:=s3.heap.push { cls:=.type "slice",data:=.fields #[vl,vu,.none] } };exact tail_any (ops:=[.ref s3.heap.objs.size,v]) ht hT hg (by with_unfolding_all rfl)
noncomputable def aBF (xs:List V)(lo hi:Option Int):List V:=(xs.drop (HT.sIx xs.length 0 lo)).take (HT.sIx xs.length xs.length hi-HT.sIx xs.length 0 lo)
theorem uM (xs:List V)(lo hi:Option Int):(aBF xs lo hi).length<=xs.length:=by unfold aBF;rw[length_take,length_drop];omega
def aNq (K:Frag):V->Option Int->Option Int->Hp->VK->Prop:=λx lo hi H Q=>∃a xs,x=.ref a/\SqT K H a xs /\
 ¬(HT.sIx xs.length 0 lo=0/\HT.sIx xs.length xs.length hi=xs.length)/\∀p,H p=none->Q (.ref p) (upd H p (.tup (aBF xs lo hi)))
theorem aKv:SlR X (aNq X.K):=by
 intro pins s σ H x v vl vu lo hi sl Q I rx hs pl pu h;obtain⟨a,xs,rfl,hx,hw,q⟩:=h;cases rx;obtain⟨its,r,ht,hz⟩:=I.tuple hx;have hlen:its.toArray.size=xs.length:=by rw[size_toArray];exact r.length.symm
 refine⟨"tuple",_,PyProof.Rows.slot_tuple_getitem.lookup,ht.typeIs,?_⟩;refine HT.getItem_tuple_cut ht hs pl pu (by rw[hlen];exact hw) ?_ (by rw[hlen];exact hz);rw[hlen];refine⟨.ref s.heap.objs.size,_,I.laid (t':=s.toks) (o:=.tup (aBF xs lo hi)) (λb ob q=>Heap.get?_push_of_some _ q) (Nat.le_refl _) ?_,rfl,q _ (I.hok.fresh (Nat.le_refl _))⟩;exact⟨Nat.le_trans (uM xs lo hi) hz,_,(r.drop (HT.sIx xs.length 0 lo)).take (HT.sIx xs.length xs.length hi-HT.sIx xs.length 0 lo),IsTup.new _ _⟩
def aMo (K:Frag):R2:=λx y H Q=>∃a b xs ys,x=.ref a/\y=.ref b/\SqT K H a xs/\SqT K H b ys/\xs≠[]/\xs.length+ys.length<=sizeLine /\
 (ys=[]->Q (.ref a) H)/\(ys≠[]->∀p,H p=none->Q (.ref p) (upd H p (.tup (xs++ys))))
theorem bT.nil_iff {xs:List V}{us:List Value}(r:bT xs us):us=[]↔xs=[]:=by
 cases r with
 |nil=>simp
 |cons _ _=>simp
theorem aCy:OpR X (binaryOp .Add) (aMo X.K):=by intro pins s σ H x y v u Q I rx ry h;obtain⟨a,b,xs,ys,rfl,rfl,ha,hb,hx,hz,q1,q2⟩:=h;cases rx;cases ry;obtain⟨its,r1,p1,_⟩:=I.tuple ha;obtain⟨its2,r2,p2,_⟩:=I.tuple hb;refine HT.cat_tup p1 p2 (λz=>hx (r1.nil_iff.mp z)) (λz=>⟨.ref a,H,I,rfl,q1 (r2.nil_iff.mp z)⟩) (λz=>?_) (by rw[<- r1.length,<- r2.length];exact hz);refine⟨.ref s.heap.objs.size,_,I.laid (t':=s.toks) (o:=.tup (xs++ys)) (λb ob q=>Heap.get?_push_of_some _ q) (Nat.le_refl _) ?_,rfl,q2 (λw=>z (r2.nil_iff.mpr w)) _ (I.hok.fresh (Nat.le_refl _))⟩;exact⟨by rw[length_append];exact hz,_,r1.append r2,IsTup.new _ _⟩
end
noncomputable def ixN (n:Nat)(i:Int):Option Nat:=if 0<=i then (if i<n then some i.toNat else none) else if -(n:Int)<=i then some (i+n).toNat else none
noncomputable def atI {α:Type}(xs:List α)(i:Int):Option α:=(ixN xs.length i).bind λj=>xs[j]?
theorem aCU {n:Nat}{i:Int}{j:Nat}(h:ixN n i=some j):seqIndex? i n=some j/\j<n/\-(n:Int)<=i/\i<n:=by
 unfold ixN at h;by_cases h0:0<=i
 ·rw[if_pos h0] at h;by_cases h1:i<n
  ·rw[if_pos h1] at h;have e:i.toNat=j:=Option.some.inj h;exact⟨by rw[seqIndex_of h0 h1,e],by omega,by omega,h1⟩
  ·rw[if_neg h1] at h;cases h
 ·rw[if_neg h0] at h;by_cases h1:-(n:Int)<=i
  ·rw[if_pos h1] at h;have e:(i+n).toNat=j:=Option.some.inj h;exact⟨by rw[seqIndex_neg (by omega) h1,e],by omega,h1,by omega⟩
  ·rw[if_neg h1] at h;cases h
theorem aCZ {α:Type}{xs:List α}{i:Int}{v:α}(h:atI xs i=some v):∃j,seqIndex? i xs.length=some j/\xs[j]?=some v/\j<xs.length/\-(xs.length:Int)<=i/\i<xs.length:=by
 unfold atI at h;cases e:ixN xs.length i with
 |none=>rw[e] at h;cases h
 |some j =>
  rw[e] at h;obtain⟨h1,h2,h3,h4⟩:=aCU e;exact⟨j,h1,h,h2,h3,h4⟩
theorem mU {α:Type}{xs:List α}{j:Nat}{v:α}(h:xs[j]?=some v):atI xs (j:Int)=some v:=by
 have hj:j<xs.length:=(List.getElem?_eq_some_iff.mp h).1;have e:ixN xs.length (j:Int)=some j:=by unfold ixN;rw[if_pos (by omega),if_pos (by omega)];simp
 unfold atI;rw[e];exact h
theorem aBl {α:Type}(xs:List α)(v:α):atI (xs++[v]) (-1)=some v:=by
 have hl:(xs++[v]).length=xs.length+1:=by simp
 have e:ixN (xs++[v]).length (-1)=some xs.length:=by unfold ixN;rw[hl,if_neg (by decide),if_pos (by omega)];congr 1;omega
 unfold atI;rw[e];show(xs++[v])[xs.length]?=some v;simp
def qY (b:Expr):Prop:=∀o i,subscripted b false o i=operate [o,i] (getItem o i)
def IxR (X:Cx)(r:R2):Prop :=
 ∀(value slice:Expr)(pins:List (Addr×Obj)) (s:Shared) (σ:St) (H:Hp) (x y:V) (v u:Value) (Q:VK),Inv X pins σ H s->bM x v->bM y u->r x y H Q ->
  subscripted slice false v u=operate [v,u] (getItem v u)->wpAny (model X.prog X.w) X.A (subscriptTail value slice v u) (EP X pins σ Q) X.xe s
def MtR (X:Cx)(id:String)(r:V->List V->Hp->VK->Prop):Prop :=
 ∀(pins:List (Addr×Obj)) (s:Shared) (σ:St) (H:Hp) (x:V) (xs:List V) (v:Value) (us:List Value) (Q:VK),Inv X pins σ H s->bM x v->bT xs us->r x xs H Q ->
  wpAny (model X.prog X.w) X.A (call (.builtin id) (v::us)) (EP X pins σ Q) X.xe s
section
variable {X:Cx}{a b:Expr}{ta tb:TE}{pos:Pos}
theorem aLL {r:R2}(hr:IxR X r)(ha:PE X a ta)(hb:PE X b tb)(hs:qY b):PE X (.Subscript a b pos) (tOp r ta tb):=by intro pins s σ H Q I h;exact Subscript_ (aKi ha hb I h λv u s2 x y H2 I2 rx ry q=>hr a b pins s2 σ H2 x y v u Q I2 rx ry q (hs _ _))
def aNh (K:Frag):R2:=λx y H Q=>∃p xs i v,x=.ref p/\y=.int i/\SqL K H p xs/\atI xs i=some v/\Q v H
def aNc (K:Frag):R2:=λx y H Q=>∃p xs i v,x=.ref p/\y=.int i/\SqT K H p xs/\atI xs i=some v/\Q v H
theorem aCC:IxR X (aNh X.K):=by
 intro value slice pins s σ H x y v u Q I rx ry h hs;obtain⟨p,xs,i,z,rfl,rfl,hq,he,q⟩:=h;cases rx;obtain⟨t,rfl⟩:=ry;obtain⟨its,r,pl,hz⟩:=I.list hq;obtain⟨j,h1,h2,h3,h4,h5⟩:=aCZ he;obtain⟨w,ew,rw'⟩:=r.get h2;have hl:=r.length;have hn:=aAp;have fin:EP X pins σ Q w s:=⟨z,H,I,rw',q⟩;by_cases h0:0<=i
 ·have hj:i.toNat=j:=by rw[seqIndex_of h0 h5] at h1;exact Option.some.inj h1
  exact item_listR pl.isList h0 (by omega) (by rw[hj];simpa using ew) fin hs
 ·have hj:(i+(its.toArray.size:Int)).toNat=j:=by rw[seqIndex_neg (by omega) h4] at h1;rw[size_toArray,<- hl];exact Option.some.inj h1
  exact subscriptTail_builtinR (x:=w) pl.isList.typeIs slot_list_getitem.lookup
   (wpAny_getItem_list_neg (Q:=λr s'=>r=w/\EP X pins σ Q r s') pl.isList (by omega) (by rw[size_toArray]<;>omega) (by omega) (by rw[hj];simpa using ew) ⟨rfl,fin⟩) hs
theorem aJu:IxR X (aNc X.K):=by
 intro value slice pins s σ H x y v u Q I rx ry h hs;obtain⟨p,xs,i,z,rfl,rfl,hq,he,q⟩:=h;cases rx;obtain⟨t,rfl⟩:=ry;obtain⟨its,r,pl,hz⟩:=I.tuple hq;obtain⟨j,h1,h2,h3,h4,h5⟩:=aCZ he;obtain⟨w,ew,rw'⟩:=r.get h2;have hl:=r.length;have hn:=aAp;have fin:EP X pins σ Q w s:=⟨z,H,I,rw',q⟩;exact subscriptTail_builtinR (x:=w) pl.typeIs slot_tuple_getitem.lookup
  (getItem_tuple (j:=j) (Q:=λr s'=>r=w/\EP X pins σ Q r s') pl (by omega) (by omega) (by rw[size_toArray,<- hl];exact h1) (by simpa using ew) ⟨rfl,fin⟩) hs
theorem aCk (its:List Value)(n j:Nat)(u:Value):Obj.mapSeq (·.setIfInBounds j u) { cls:=.type "list",data:=.seq its.toArray n } = { cls:=.type "list",data:=.seq (its.set j u).toArray n }:=by simp[Obj.mapSeq]
theorem Inv.lst {pins:List (Addr×Obj)}{σ:St}{H:Hp}{s:Shared}{p:Addr}{xs:List V}(I:Inv X pins σ H s)(h:H p=some (.lst xs)) :
  ∃(its:List Value)(n:Nat),bT xs its/\s.heap.get? p = some { cls:=.type "list",data:=.seq its.toArray n }/\xs.length<=sizeLine:=by
 obtain⟨z,its,n,r,e⟩:=I.hok p _ h;exact⟨its,n,r,e,z⟩
theorem Inv.lstUpd {pins:List (Addr×Obj)}{σ:St}{H:Hp}{s:Shared}{p:Addr}{xs ys:List V}{its its':List Value}{n n':Nat}{f:Obj->Obj}(I:Inv X pins σ H s)(h:H p=some (.lst xs))(ho:s.heap.get? p = some { cls:=.type "list",data:=.seq its.toArray n })(hf:f { cls:=.type "list",data:=.seq its.toArray n } = { cls:=.type "list",data:=.seq its'.toArray n' })(r:bT ys its')(hz:ys.length<=sizeLine)(t:Nat) :
  Inv X pins σ (upd H p (.lst ys)) { s with heap:=s.heap.update p f,toks:=t }:=by
 have e:(s.heap.update p f).get? p = some { cls:=.type "list",data:=.seq its'.toArray n' }:=by rw[Heap.get?_update_self f ho (by rw[hf]<;>rfl),hf]
 refine I.write (x:=p) (e:=p) (by rw[h];trivial) (.inl rfl) (λb u hb q=>(Heap.get?_update_other _ _ (Ne.symm hb)).trans q) ⟨_,e⟩ ?_;exact⟨hz,its',n',r,e⟩
def aLC:V->V->V->Hp->(Hp->Prop)->Prop:=λo i v H Q=>∃p xs k j,o=.ref p/\i=.int k/\H p=some (.lst xs)/\ixN xs.length k=some j/\Q (upd H p (.lst (xs.set j v)))
theorem aEL:aI5 X aLC:=by
 intro pins s σ H o i v ov iv u Q I ro ri rv h;obtain⟨p,xs,k,j,rfl,rfl,hp,hj,q⟩:=h;cases ro;obtain⟨t,rfl⟩:=ri;obtain⟨its,n,r,ho,hz⟩:=I.lst hp;obtain⟨h1,h2,h3,h4⟩:=aCU hj;have hl:=r.length;have hn:=aAp;have I':Inv X pins σ (upd H p (.lst (xs.set j v))) { s with heap:=s.heap.update p (Obj.mapSeq (·.setIfInBounds j u)) } :=
  I.lstUpd hp ho (aCk its n j u) (r.set rv j) (by rw[List.length_set];exact hz) s.toks
 by_cases h0:0<=k
 ·have hk:k.toNat=j:=by rw[seqIndex_of h0 h4] at h1;exact Option.some.inj h1
  exact PySem.W.ki_setAt ho h0 (by omega) (by rw[size_toArray,<- hl];exact h4) (by rw[hk];exact⟨_,I',q⟩)
 ·have hk:(k+(its.toArray.size:Int)).toNat=j:=by rw[seqIndex_neg (by omega) h3] at h1;rw[size_toArray,<- hl];exact Option.some.inj h1
  exact PySem.W.ki_setBack ho (by omega) (by rw[size_toArray,<- hl];exact h3) (by omega) (by rw[hk];exact⟨_,I',q⟩)
theorem aAJ (lo hi:Option Int)(n:Nat):(sliceBounds lo hi none n).1=((HT.sIx n 0 lo:Nat):Int)/\(sliceBounds lo hi none n).2.1=((HT.sIx n n hi:Nat):Int)/\(sliceBounds lo hi none n).2.2=1:=by
 refine⟨?_,?_,rfl⟩
 ·cases lo with
  |none=>simp[sliceBounds,HT.sIx]
  |some i =>
   simp only[sliceBounds,HT.sIx,Option.getD_none,show(1:Int) > 0 by decide,if_true];by_cases h:i<0
   ·simp only[h,if_true]<;>omega
   ·simp only[h,if_false]<;>omega
 ·cases hi with
  |none=>simp[sliceBounds,HT.sIx]
  |some i =>
   simp only[sliceBounds,HT.sIx,Option.getD_none,show(1:Int) > 0 by decide,if_true];by_cases h:i<0
   ·simp only[h,if_true]<;>omega
   ·simp only[h,if_false]<;>omega
theorem xJ (its:List Value)(lo hi:Option Int):slicePick its.toArray lo hi none=((its.drop (HT.sIx its.length 0 lo)).take (HT.sIx its.length its.length hi-HT.sIx its.length 0 lo)).toArray:=by obtain⟨h1,h2,h3⟩:=aAJ lo hi its.toArray.size;unfold slicePick;rw[h1,h2,h3];simp only[sliceRange_one,pick_run,size_toArray]<;>rfl
def aNl (K:Frag):V->Option Int->Option Int->Hp->VK->Prop:=λx lo hi H Q=>∃a xs,x=.ref a/\SqL K H a xs/\∀p,H p=none->Q (.ref p) (upd H p (.lst (aBF xs lo hi)))
theorem aHx:SlR X (aNl X.K):=by intro pins s σ H x v vl vu lo hi sl Q I rx hs pl pu h;obtain⟨a,xs,rfl,hx,q⟩:=h;cases rx;obtain⟨its,r,ht,hz⟩:=I.list hx;have hlen:=r.length;refine⟨"list",_,slot_list_getitem.lookup,ht.isList.typeIs,?_⟩;refine wpAny_getItem_list_slice ht.isList hs pl pu .none (by simp) ?_ (by rw[size_toArray]<;>omega);rw[xJ,<- hlen];refine⟨.ref s.heap.objs.size,_,I.laid (t':=s.toks) (o:=.lst (aBF xs lo hi)) (λb ob q=>Heap.get?_push_of_some _ q) (Nat.le_refl _) ?_,rfl,q _ (I.hok.fresh (Nat.le_refl _))⟩;exact⟨Nat.le_trans (uM xs lo hi) hz,_,0,(r.drop (HT.sIx xs.length 0 lo)).take (HT.sIx xs.length xs.length hi-HT.sIx xs.length 0 lo),Heap.get?_push_size _ rfl⟩
noncomputable def aD4:V->Bool
 |.non=>true
 |.bl _=>true
 |.int _=>true
 |.str _=>true
 |_=>false
noncomputable def eqV:V->V->Bool
 |.non,.non=>true
 |.bl a,.bl b=>a==b
 |.bl a,.int b=>(if a then 1 else 0)==b
 |.int a,.bl b=>a==(if b then 1 else 0)
 |.int a,.int b=>a==b
 |.str a,.str b=>a==b
 |_,_=>false
theorem aFq {A:Around}{s:Shared}{y x:V}{u v:Value}(ry:bM y u)(rx:bM x v)(fy:aD4 y=true)(fx:aD4 x=true):SeqAt.EqAt A s u v (eqV y x):=by
 cases y with
 |non =>
  cases ry;cases x with
  |non=>cases rx;exact SeqAt.EqAt.same _
  |bl b=>cases rx;exact SeqAt.EqAt.none_bool b
  |int b=>obtain⟨t,rfl⟩:=rx;exact SeqAt.EqAt.none_int b t
  |str b=>obtain⟨t,rfl⟩:=rx;exact SeqAt.EqAt.none_str b t
  |_=>exact absurd (show false=true from fx) Bool.false_ne_true
 |bl a =>
  cases ry;cases x with
  |non=>cases rx;exact SeqAt.EqAt.bool_none a
  |bl b=>cases rx;exact SeqAt.EqAt.bool_bool a b
  |int b=>obtain⟨t,rfl⟩:=rx;exact SeqAt.EqAt.bool_int a b t
  |str b=>obtain⟨t,rfl⟩:=rx;exact SeqAt.EqAt.bool_str a b t
  |_=>exact absurd (show false=true from fx) Bool.false_ne_true
 |int a =>
  obtain⟨t',rfl⟩:=ry;cases x with
  |non=>cases rx;exact SeqAt.EqAt.int_none a t'
  |bl b=>cases rx;exact SeqAt.EqAt.int_bool a t' b
  |int b=>obtain⟨t,rfl⟩:=rx;exact SeqAt.EqAt.int_int a t' b t
  |str b=>obtain⟨t,rfl⟩:=rx;exact SeqAt.EqAt.int_str a t' b t
  |_=>exact absurd (show false=true from fx) Bool.false_ne_true
 |str a =>
  obtain⟨t',rfl⟩:=ry;cases x with
  |non=>cases rx;exact SeqAt.EqAt.str_none a t'
  |bl b=>cases rx;exact SeqAt.EqAt.str_bool a t' b
  |int b=>obtain⟨t,rfl⟩:=rx;exact SeqAt.EqAt.str_int a t' b t
  |str b=>obtain⟨t,rfl⟩:=rx;exact SeqAt.EqAt.str_str a t' b t
  |_=>exact absurd (show false=true from fx) Bool.false_ne_true
 |_=>exact absurd (show false=true from fy) Bool.false_ne_true
theorem aAm:kS X (.builtin "len") (λxs H Q=>∃p ys,xs=[.ref p]/\(SqL X.K H p ys∨SqT X.K H p ys)/\Q (.int ys.length) H):=by
 intro pins s σ H xs us Q I r h;obtain⟨p,ys,rfl,hq,q⟩:=h;obtain⟨u,rfl,rx⟩:=zD r;cases rx;have hn:=aAp;rcases hq with hq|hq
 ·obtain⟨its,r',pl,hz⟩:=I.list hq;have hlen:=r'.length;exact Calls.call_len_list pl.isList (by simp only[size_toArray]<;>omega) ⟨.int ys.length,H,I.tok _,⟨s.toks+1,by rw[size_toArray,hlen]⟩,q⟩
 ·obtain⟨its,r',pl,hz⟩:=I.tuple hq;have hlen:=r'.length;exact len_tuple pl (by simp only[size_toArray]<;>omega) ⟨.int ys.length,H,I.tok _,⟨s.toks+1,by rw[size_toArray,hlen]⟩,q⟩
theorem xT:kS X (.type "tuple") (λxs H Q=>∃p ys,xs=[.ref p]/\((SqL X.K H p ys/\∀l,H l=none->Q (.ref l) (upd H l (.tup ys)))∨(SqT X.K H p ys/\Q (.ref p) H))):=by
 intro pins s σ H xs us Q I r h;obtain⟨p,ys,rfl,h⟩:=h;obtain⟨u,rfl,rx⟩:=zD r;cases rx;rcases h with⟨hq,q⟩|⟨hq,q⟩
 ·obtain⟨its,r',pl,hz⟩:=I.list hq;have hlen:=r'.length;refine call_tuple_list pl.isList (λh' kp=>?_) (by simp only[size_toArray]<;>omega);have I1:Inv X pins σ H { s with heap:=h' }:=I.kept (t':=s.toks) kp;have I2:Inv X pins σ (upd H h'.objs.size (.tup ys)) { s with heap:=h'.push { cls:=.type "tuple",data:=.seq its.toArray } } :=
   I1.laid (t':=s.toks) (λb o e=>Heap.get?_push_of_some _ e) (Nat.le_refl _) (show fF X.prog X.w _ _ _ (.tup ys) from⟨hz,its,r',IsTup.new _ _⟩)
  exact⟨.ref h'.objs.size,_,I2,rfl,q _ (I1.hok.fresh (Nat.le_refl _))⟩
 ·obtain⟨its,r',pl,hz⟩:=I.tuple hq;exact call_tuple_same pl ⟨.ref p,H,I,rfl,q⟩
def tyV (K:Frag)(T:String)(x:V)(H:Hp):Prop:=match x with
 |.str _=>T = "str"
 |.int _=>T = "int"
 |.ref p=>(T = "list"/\∃xs,SqL K H p xs)∨(T = "tuple"/\∃o,K.lookup p = some o/\o.cls = .type "tuple"/\o.dict=none) ∨
   (T = "dict"/\((∃kvs,H p = some (.dK kvs)) ∨ ∃kvs,H p = some (.dT kvs)))∨(T = "set"/\∃S n,H p=some (.set S n))
 |_=>False
theorem aIn {pins:List (Addr×Obj)}{σ:St}{H:Hp}{s:Shared}{T:String}{x:V}{v:Value}(I:Inv X pins σ H s)(r:bM x v)(ty:tyV X.K T x H) :
  s.TypeIs v T/\∀a,v=.ref a->∃ob,s.heap.get? a=some ob/\ob.dict=none:=by
 cases x with
 |str z =>
  obtain⟨t,rfl⟩:=r;cases (show T = "str" from ty);exact⟨typeIs_str s z t,λ_ e=>nomatch e⟩
 |int i =>
  obtain⟨t,rfl⟩:=r;cases (show T = "int" from ty);exact⟨typeIs_int s i t,λ_ e=>nomatch e⟩
 |ref p =>
  cases r;rcases ty with⟨rfl,xs,hq⟩|⟨rfl,o,hk,hc,hd⟩|⟨rfl,hk⟩|⟨rfl,S,n,hk⟩
  ·obtain⟨its,_,pl,_⟩:=I.list hq;refine⟨pl.isList.typeIs,λa e=>?_⟩;cases e;obtain⟨o,n,e,c,hd,_⟩:=pl;exact⟨o,e,hd⟩
  ·refine⟨⟨o,I.kIn p o hk,hc⟩,λa e=>?_⟩;cases e;exact⟨o,I.kIn _ o hk,hd⟩
  ·have z:∃o,s.heap.get? p=some o/\o.ExactDict:=by
    rcases hk with⟨kvs,hk⟩|⟨kvs,hk⟩
    ·obtain⟨_,_,_,_,o,_,_,e,ex,_⟩:=I.hok p _ hk;exact⟨o,e,ex⟩
    ·obtain⟨_,_,_,_,o,_,_,e,ex,_⟩:=I.hok p _ hk;exact⟨o,e,ex⟩
   obtain⟨o,e,ex⟩:=z;refine⟨⟨o,e,ex.1⟩,λa e2=>?_⟩;cases e2;exact⟨o,e,ex.2.1⟩
  ·obtain⟨o,_,_,_,e,ex,_⟩:=I.hok p _ hk;refine⟨⟨o,e,ex.1⟩,λa e2=>?_⟩;cases e2;exact⟨o,e,ex.2.1⟩
 |_=>exact False.elim ty
def tBM (K:Frag)(T:String)(r:V->List V->Hp->VK->Prop)(to:TE)(t:TA):TE:=λσ H Q=>to σ H λx H1=>tyV K T x H1/\t σ H1 λxs H2=>r x xs H2 Q
variable {o e:Expr}{es:List Expr}{to:TE}{t:TA}{name:Str}{apos cpos:Pos}{T id:String}{r:V->List V->Hp->VK->Prop}
theorem aMa (pa:PlainAttrs T)(slot:Slot T name id)(hty:typeOf (.builtin id) = pure (.type "method_descriptor"))(hm:MtR X id r)(ho:PE X o to)(ha:PA X (e::es) t)(hbase:attributeBase o name X.env (eval o X.env)=eval o X.env:=by rfl)(hfew:((backTo cpos (starEach (e::es) X.env)).all (λx=>!x.1)&&(backToKw cpos (keywordEach [] X.env)).all (λx=>x.1.isSome)
  &&decide ((e::es).length+([]:List Keyword).length+(if ([]:List Keyword).isEmpty then 0 else 1)<30))=true:=by rfl)(hline:(apos.endLine==cpos.line)=true:=by rfl)(hs:starEach (e::es) X.env=(false,eval e X.env)::starEach es X.env:=by rfl)(hplain:(backTo cpos (starEach es X.env)).any (·.1)=false:=by rfl) :
  PE X (.Call (.Attribute o name apos) (e::es) [] cpos) (tBM X.K T r to t):=by
 intro pins s σ H Q I h;refine wpAny_Call_method_late hbase hfew hline rfl (thn (ho pins s σ H _ I h) λv s1 ⟨x,H1,I1,r1,ty,q1⟩=>?_);obtain⟨h1,h2⟩:=aIn I1 r1 ty;refine⟨T,id,pa,slot,hty,h1,h2,?_⟩;have hA:=ha cpos pins s1 σ H1 _ I1 q1;rw[hs] at hA ⊢;refine Calls.callWith_builtin (by show(false||(backTo cpos (starEach es X.env)).any (·.1))=false;rw[hplain]<;>rfl) (Calls.evalArgs_plain ?_);exact thn hA λus s2 ⟨vs,H2,I2,r2,q2⟩=>hm pins s2 σ H2 x vs v us Q I2 r1 r2 q2
end
def MtM (X:Cx)(id:String)(r:V->List V->Hp->VK->Prop):Prop :=
 ∀(pins:List (Addr×Obj)) (s:Shared) (σ:St) (H:Hp) (x:V) (xs:List V) (v:Value) (us:List Value) (Q:VK),Inv X pins σ H s->bM x v->bT xs us->r x xs H Q ->
  wpAny (model X.prog X.w) X.A (call (.builtin id) (v::us)) (EP X pins σ Q) X.xe s
theorem bT.one:∀{x:V}{us:List Value},bT [x] us->∃u,us=[u]/\bM x u
 |_,_,.cons r .nil=>⟨_,rfl,r⟩
theorem bT.two:∀{x y:V}{us:List Value},bT [x,y] us->∃u v,us=[u,v]/\bM x u/\bM y v
 |_,_,_,.cons r (.cons q .nil)=>⟨_,_,rfl,r,q⟩
section
variable {X:Cx}{pins:List (Addr×Obj)}{σ:St}{H:Hp}{s:Shared}{l b:Addr}{xs ys zs:List V}
theorem Inv.lset {its its':List Value}{n:Nat}{f:Array Value->Array Value}{t':Nat}(I:Inv X pins σ H s)(hH:H l=some (.lst xs))(e:s.heap.get? l = some { cls:=.type "list",data:=.seq its.toArray n })(hf:f its.toArray=its'.toArray)(hv:bT ys its')(hz:ys.length<=sizeLine) :
  Inv X pins σ (upd H l (.lst ys)) { s with heap:=s.heap.update l (Obj.mapSeq f),toks:=t' }:=by
 have q:=PySem.IsL.update e f;rw[hf] at q;refine I.write (x:=l) (e:=l) (by rw[hH];exact trivial) (.inl rfl) (λb' u hb hu=>(Heap.get?_update_other s.heap (Obj.mapSeq f) (Ne.symm hb)).trans hu) ⟨_,q⟩ ?_;exact⟨hz,its',_,hv,q⟩
theorem Inv.lnew {its:List Value}{t':Nat}(I:Inv X pins σ H s)(hv:bT ys its)(hz:ys.length<=sizeLine) :
  Inv X pins σ (upd H s.heap.objs.size (.lst ys)) { s with heap:=s.heap.push { cls:=.type "list",data:=.seq its.toArray },toks:=t' } :=
 I.laid (λ_ _ q=>Heap.get?_push_of_some _ q) (Nat.le_refl _) ⟨hz,its,0,hv,Heap.get?_push_size _ rfl⟩
theorem Inv.fresh (I:Inv X pins σ H s):H s.heap.objs.size=none:=I.hok.fresh (Nat.le_refl _)
theorem Inv.lstM (I:Inv X pins σ H s)(hH:H l = some (.lst xs)):xs.length<=sizeLine/\∃(its:List Value)(n:Nat),bT xs its/\xs.length = its.length/\s.heap.get? l = some { cls:=.type "list",data:=.seq its.toArray n }:=by obtain⟨z,its,n,r,e⟩:=I.hok l _ hH;exact⟨z,its,n,r,r.length,e⟩
end
section
variable {X:Cx}
def aGj:V->List V->Hp->VK->Prop:=λx vs H Q=>∃l xs y,x=.ref l/\vs=[y]/\H l=some (.lst xs)/\xs.length<sizeLine/\Q .non (upd H l (.lst (xs++[y])))
theorem aDS:MtM X "list.append" aGj:=by intro pins s σ H x vs v us Q I rx rv h;obtain⟨l,xs,y,rfl,rfl,hH,hz,q⟩:=h;cases rx;obtain⟨u,rfl,ru⟩:=rv.one;obtain⟨z,its,n,r,hl,e⟩:=I.lstM hH;refine call_meets F.slot_list_append ⟨_,e,rfl⟩ F.entry_list_append (F.args_list_append_2 _ _) (PySem.list_append l its.toArray n u (by rw[size_toArray];omega)) ⟨e,?_⟩;refine⟨.non,_,I.lset (its':=its++[u]) hH e (by simp) (r.append (.cons ru .nil)) ?_,rfl,q⟩;rw[length_append,List.length_singleton];omega
def aM3:R2:=λx y H Q=>∃l b xs zs,x=.ref l/\y=.ref b/\H l=some (.lst xs)/\H b=some (.lst zs)/\xs.length+zs.length<=sizeLine/\∀p,H p=none->Q (.ref p) (upd H p (.lst (xs++zs)))
theorem aKd:OpR X (binaryOp .Add) aM3:=by
 intro pins s σ H x y v u Q I rx ry h;obtain⟨l,b,xs,zs,rfl,rfl,hH,hB,hz,q⟩:=h;cases rx;cases ry;obtain⟨z,its,n,r,hl,e⟩:=I.lstM hH;obtain⟨z2,its2,n2,r2,hl2,e2⟩:=I.lstM hB;refine PySem.P.add_list e e2 ?_ (by rw[size_toArray,size_toArray];omega);have ea:its.toArray++its2.toArray=(its++its2).toArray:=by simp
 rw[ea];exact⟨.ref _,_,I.lnew (t':=s.toks) (r.append r2) (by rw[length_append];omega),rfl,q _ I.fresh⟩
end
section
variable {prog:Program}{w:World}{A:Around}{E:Value->Shared->Prop}{s:Shared}
end
section
variable {X:Cx}
end
end L2
namespace Att
open PySem PySem.W PySem.Calls PyProof.Rows
theorem uT {P:Params}{h:Heap}:∀(ns:List Int)(vs:List Value),WellAll P h vs (ns.map WData.int)->IntsAre vs ns:=by
 intro ns
 induction ns with
 |nil =>
  intro vs w;rw[List.map_nil] at w;cases w;exact .nil
 |cons n ns ih =>
  intro vs w;rw[map_cons] at w;cases w with
  |cons a b =>
   cases a;exact .cons _ _ (ih _ b)
theorem aDd {l:OpenLaw}{n:Nat}(hn:l.most=some n){P:Params}{h:Heap}{args:List WData}{vals:List Value}(hpre:l.row.toRowW.claim.pre args=true)(hwl:WellAll P h vals args) :
  ∃a vs ns,vals = [Value.ref a]/\args = [WData.list (ns.map WData.int)]/\h.get? a = some { cls:=.type "list",data:=.seq vs.toArray }/\IntsAre vs ns/\ns.length<=n:=by
 have hsh:WShape.hasAll [] args [.list .int]=true:=(pre_splitW hpre).1;have hc:l.pre.holds [] { args:=args }=true:=(pre_splitW hpre).2;obtain⟨d,r,rfl,h1,h2⟩:=hasAllW_cons hsh;obtain rfl:=hasAllW_nil h2;obtain⟨xs,rfl,h3⟩:=hasW_list h1;obtain⟨ns,rfl⟩:=items_int h3;have hlen:ns.length<=n:=by
  unfold OpenLaw.pre at hc;have h4:(WTm.not (.lt (.lit (.int (n:Int))) (.len (.arg 0)))).holds [] { args:=[.list (ns.map .int)] }=true:=by have h4:=(holds_andW hc).1;rw[hn] at h4;exact h4
  have h5:=condW_of h4 (w_not (w_lt w_lit (w_len_list (w_arg rfl))));rw[length_map] at h5;refine Nat.le_of_not_lt λq=>?_;have q':(n:Int)<((ns.length:Nat):Int):=by omega
  first
   |(rw[decide_eq_true q'] at h5;exact absurd h5 (by decide))
   |(simp at h5;omega)
 cases hwl with
 |cons w1 w2 =>
  cases w2;cases w1 with
  |list ho hall=>exact⟨_,_,ns,rfl,rfl,ho,uT ns _ hall,hlen⟩
theorem aDw (l:OpenLaw)(args:List WData):l.row.toRowW.claim.post args (.bool true) args=true :=
 postW_of (r:=l.row.toRowW) (X:=(true==true))
  (show WShape.has [] (.bool true) .bool=true by first|rfl|decide|simp[WShape.has,WShape.arms,WShape.armsAll])
  (show(WTm.eq .res (.lit (.bool true))).value [] { args:=args,res:=some (.bool true),after:=args }=some (.bool (true==true)) from w_eq_bool (w_res rfl) w_lit) rfl
theorem attach_call {l:OpenLaw}{n:Nat}{q:Program}{loose:List Str}{XP:(Str->Option Value)->Heap->Prop}{YP:World->Heap->Prop}{d:DefRec}(hn:l.most=some n)(hdf:d.params.defaults=[])(call:∀(w:World)(s₀ s₁:Shared) (mg mb:Str->Option Value) (fa:Addr) (o:Obj) (pm cd doc:Value) (a:Addr) (vs:List Value) (ns:List Int),
   Ground q loose [] XP w s₀ mg mb s₁.heap->YP w s₁.heap ->
   s₁.heap.get? fa=some o->o.data=.func (docDef d.name d.params d.body d.scope pm cd doc)->s₁.heap.CodeRec cd d.name->mg d.name=some (.ref fa) ->
   s₁.heap.get? a = some { cls:=.type "list",data:=.seq vs.toArray }->IntsAre vs ns->ns.length<=n->s₁.gens=#[] ->
   codeAny (model l.prog w) callerA (.call (.ref fa) ⟨[.ref a],[]⟩) (λr s'=>r=.ok (.ret (.bool true))/\OldK s₁.heap s'.heap/\s'.os=s₁.os/\AllBare s'.gens) s₁) :
  WalkO q loose XP YP l.row.toRowW d [] (λf vs=>PySem.call f vs):=by
 intro w s₀ s₁ mg mb G Y fa o pm cd doc dV kV ho hd hcd hD hmg hg args vals as hpre hlay hrd hwl hlo;obtain rfl:dV=.none:=Dflts.none hD hdf;obtain rfl:kV=.none:=Dflts.noKw hD;obtain⟨a,vs,ns,rfl,rfl,hobj,hints,hlen⟩:=aDd hn hpre hwl;refine enter_call (codeAny_mono (call w s₀ s₁ mg mb fa o pm cd doc a vs ns G Y ho (fd_plain hd) hcd hmg hobj hints hlen hg) λr s' hq=>?_);obtain⟨rfl,h2,h3,h4⟩:=hq;exact⟨.inl ⟨.bool true,.bool true,[],rfl,λ_=>rfl,.bool true,aDw l _,λ_=>⟨List.Pairwise.nil,λ_ hm=>(nomatch hm)⟩⟩,h2,h3,h4⟩
section
variable {prog:Program}{w:World}{A:Around}{E:Value->Shared->Prop}{s:Shared}{K:Frag}
end
end Att
namespace L2
open PySem PySem.Spec PyProof.Rows
theorem sQ:∀{vs:List Value}{ns:List Int},IntsAre vs ns->bT (ns.map V.int) vs
 |_,_,.nil=>.nil
 |_,_,.cons n t h=>.cons ⟨t,rfl⟩ (sQ h)
def aIM (H:Hp):Prop:=∀b,H b=none ∨ ∃o xs,H b=some (.frz o (.lst xs))
theorem aFG {P:Program}{w:World}{K:Frag}{mg mb:Str->Option Value}{CX:CXT}{k:Nat}{fa a:Addr}{fd:FuncData}{x:Str}{sp:Sp}{s₁:Shared}{vs:List Value}{ns:List Int}(KX:K.In s₁.heap)(hns:s₁.heap.Ns mainGlobals mg)(hb:s₁.heap.Ns builtinsNs mb)(hbb:∀x:Str,x ≠ "__name__"->mb x=bootBuiltins x)(hlim:s₁.heap.NoLimit)(hg:s₁.gens=#[])(ha:s₁.heap.get? a = some { cls:=.type "list",data:=.seq vs.toArray })(hi:IntsAre vs ns)(hl:ns.length<=sizeLine)(hr:cQ k callerA)(F:∀base:Heap,K.In base->base.Ns mainGlobals mg->kC P w K mg base CX k fa fd [x] sp)(hbind:∀(s:Shared)(u:Value),BindsTo s fd ⟨[u],[]⟩ [(x,u)])(hsp:∀H:Hp,aIM H->SqL K H a (ns.map V.int)->sp [.ref a] H (λv _=>v=.bl true) λ_ _ _=>False)(hCX:∀H e s',CX [] H s₁ (λ_ _ _=>False) e s'->False) :
  codeAny (model P w) callerA (.call (.ref fa) ⟨[.ref a],[]⟩) (λr s'=>r=.ok (.ret (.bool true))/\OldK s₁.heap s'.heap/\s'.os=s₁.os/\AllBare s'.gens) s₁:=by
 have rv:=sQ hi;have lenV:=hi.length;have core:∀H:Hp,aIM H->SqL K H a (ns.map V.int)->HOk P w H s₁.heap->(∀b,H b≠none->b=a)->(H a≠none->K.lookup a=none) ->
   codeAny (model P w) callerA (.call (.ref fa) ⟨[.ref a],[]⟩) (λr s'=>r=.ok (.ret (.bool true))/\OldK s₁.heap s'.heap/\s'.os=s₁.os/\AllBare s'.gens) s₁:=by
  intro H hO hS hok hA hK;have base_of:∀{b:Addr}{o:Obj},s₁.heap.get? b=some o->H b=none->(aAh s₁.heap H).get? b=some o:=λe n=>aE8 e n;have noA:∀{b:Addr}{o:Obj} {es:Array DictEntry} {ep:Nat},s₁.heap.get? b=some o->o.data=.dict es ep->H b=none:=λ{b o es ep} e d=>by
   cases q:H b with
   |none=>rfl
   |some u =>
    have e':b=a:=hA b (by rw[q];simp);subst e';rw[ha] at e;cases e;have d':Data.seq vs.toArray _=Data.dict es ep:=d;cases d'
  have nsK:∀{b:Addr}{m:Str->Option Value},s₁.heap.Ns b m->(aAh s₁.heap H).Ns b m:=λ{b m} ⟨o,es,ep,e,d,r⟩=>⟨o,es,ep,base_of e (noA e d),d,r⟩;have hKb:K.In (aAh s₁.heap H):=λb o e=>base_of (KX b o e) (by
   cases q:H b with
   |none=>rfl
   |some u =>
    have e':b=a:=hA b (by rw[q];simp);subst e';rw[hK (by rw[q];simp)] at e;cases e)
  have hM:Mod K mg (aAh s₁.heap H):=⟨hKb,nsK hns,⟨mb,nsK hb,hbb⟩,let ⟨mc,h1,h2⟩:=hlim;⟨mc,nsK h1,h2⟩⟩;have e0:aCo P w K mg (aAh s₁.heap H) callerA [] s₁ H:=⟨rfl,hM,λb o e=>aGF e,Nat.le_of_eq (aDE _ _),trivial,λb hb=>absurd (show b∈([]:List Addr) from hb) (by simp),hok,.of_eq hg⟩;refine codeAny_mono ((F _ hKb (nsK hns)).run callerA [] s₁ H ⟨[.ref a],[]⟩ [.ref a] [.ref a] _ _ hr e0 (hbind s₁ (.ref a)) (.cons rfl .nil) (hsp H hO hS)) λr s' h=>?_;cases r with
  |error e=>exact(hCX H e s' h).elim
  |ok fl =>
   cases fl with
   |next=>exact False.elim h
   |brk=>exact False.elim h
   |cont=>exact False.elim h
   |ret u =>
    obtain⟨v,H',os,bare,un,hok',r',q⟩:=h;have q':v=.bl true:=q;subst q';obtain rfl:u=Value.bool true:=r';refine⟨rfl,OldK.of_keep λb o e=>?_,os,bare⟩;cases q:H b with
    |none=>exact un.keep b o e q (by intro z;exact absurd (show b∈([]:List Addr) from z) (by simp)) (by simp)
    |some u =>
     rcases hO b with z|⟨ob,xs,z⟩
     ·rw[q] at z;cases z
     ·have z2:=un.frzs b ob _ z;obtain⟨e1,_⟩:=hok b _ z;obtain⟨e2,_⟩:=hok' b _ z2;rw[e] at e1;cases e1;exact e2
 cases hk:K.lookup a with
 |some o =>
  have e:=KX a o hk;rw[ha] at e;cases e;refine core (λ_=>none) (λ_=>.inl rfl) (.inr ⟨_,vs.toArray,_,hk,rfl,rfl,rfl,by rw[size_toArray,lenV];exact hl,by simpa using rv⟩) (λb u z=>by have z':(none:Option HO)=some u:=z;cases z') (λb z=>absurd rfl z) λz=>absurd rfl z
 |none =>
  refine core (λb=>if b = a then some (.frz { cls:=.type "list",data:=.seq vs.toArray } (.lst (ns.map V.int))) else none) (λb=>?_) (.inl (.inr ⟨{ cls:=.type "list",data:=.seq vs.toArray },if_pos rfl⟩)) (λb u z=>?_) (λb z=>?_) λ_=>hk
  ·by_cases hb:b=a
   ·exact .inr ⟨_,_,if_pos hb⟩
   ·exact .inl (if_neg hb)
  ·by_cases hb:b=a
   ·have z':=(if_pos hb).symm.trans z;cases z';subst hb;exact⟨ha,by rw[length_map];exact hl,vs,_,rv,ha⟩
   ·have z':=(if_neg hb).symm.trans z;cases z'
  ·by_cases hb:b=a
   ·exact hb
   ·exact absurd (if_neg hb) z
noncomputable def mJ (s:Stmt):Arguments:=match s with
 |.FunctionDef _ a _ _ _ _ _ _ _ _=>a
 |_=>{ posonlyargs:=[],args:=[],vararg:=none,kwonlyargs:=[],kw_defaults:=[],kwarg:=none,defaults:=[] }
noncomputable def eR (s:Stmt):List Stmt:=match s with
 |.FunctionDef _ _ b _ _ _ _ _ _ _=>b
 |_=>[]
noncomputable def aI (s:Stmt):Scope:=match s with
 |.FunctionDef _ _ _ _ _ _ sc _ _ _=>sc
 |_=>{ kind:=.function,names:=[],isGenerator:=false,isCoroutine:=false }
noncomputable abbrev CX0:CXT:=λ_ _ _ _ _ _=>False
noncomputable abbrev E0:XK:=λ_ _ _=>False
theorem aC3 {X:Cx}:mV CX0 X E0:=λ_ _ _ _ _ _ _ h=>h.elim
structure Fun (K:Frag)(x qual:Str)(st:Stmt)(f:Addr)(fd:FuncData):Prop where
 ex:∃(oc:Value)(od:Option Addr) (kV doc pm:Value) (an:Option Addr) (cdv ct:Value) (osl:Array (Option Value)),
  fd=fnOf x qual (mJ st) (eR st) (aI st) .none kV doc pm an cdv ct/\K.lookup f=some ⟨oc,od,.func fd,osl⟩/\codeIn K cdv qual=true
 kp:keepIn K (.ref f)=true
section
variable {P:Program}{w:World}{K:Frag}{mg:Str->Option Value}{base:Heap}
theorem Fun.ok {x qual:Str}{st:Stmt}{f:Addr}{fd:FuncData}{N ps:List Str}{k:Nat}{sp:Sp}(F:Fun K x qual st f fd)(S:aS N ps (aI st))(len:∀vs H Q E,sp vs H Q E->vs.length=ps.length)(hbody:∀(cdv:Value)(A:Around) (outer:List Env) (s:Shared) (H:Hp) (vs:List V) (Q:VK) (E:XK),cQ k (A.deeper (envOfC qual (aI st) s.heap.objs.size f cdv))->sp vs H Q E ->
   ∃t,PSs (tE CX0 P w K mg base N qual (aI st) f cdv A outer s H E).nox (eR st) t/\t { nx:=λ_ H'=>Q .non H',rt:=Q } (start N vs) H):kC P w K mg base CX0 (k+1) f fd ps sp:=by
 obtain⟨oc,od,kV,doc,pm,an,cdv,ct,osl,rfl,lk,hcd⟩:=F.ex;refine aMc lk hcd S len λA outer s H vs Q E hr hsp=>?_;obtain⟨t,h,q⟩:=hbody cdv A outer s H vs Q E hr hsp;exact⟨t,h.nox,q⟩
theorem Fun.binds {x qual:Str}{st:Stmt}{f:Addr}{fd:FuncData}{ps:List Str}(F:Fun K x qual st f fd)(h:∀(kV doc pm:Value)(an:Option Addr) (cdv ct:Value) (us:List Value),us.length=ps.length->bindArgs (fnOf x qual (mJ st) (eR st) (aI st) .none kV doc pm an cdv ct) ⟨us,[]⟩=pure (ps.zip us)):iK K fd ps []:=by obtain⟨oc,od,kV,doc,pm,an,cdv,ct,osl,rfl,lk,hcd⟩:=F.ex;exact .all (h kV doc pm an cdv ct)
theorem fun_mk {x qual:Str}{st:Stmt}{f:Addr}{oc:Value}{od an:Option Addr}{osl:Array (Option Value)}{kV doc pm cdv ct:Value}(l:K.lookup f=some ⟨oc,od,.func (fnOf x qual (mJ st) (eR st) (aI st) .none kV doc pm an cdv ct),osl⟩)(c:codeIn K cdv qual=true)(k:keepIn K (.ref f)=true):Fun K x qual st f (fnOf x qual (mJ st) (eR st) (aI st) .none kV doc pm an cdv ct):=⟨⟨oc,od,kV,doc,pm,an,cdv,ct,osl,rfl,l,c⟩,k⟩
end
theorem eL {n:Nat}(h:n<=1000):n<sizeLine:=Nat.lt_of_le_of_lt h (by decide)
section
variable {X:Cx}
end
def aDR (H H':Hp):Prop:=∀b o,H b=some o->H' b=some o
theorem aDR.trans {H H1 H2:Hp}(a:aDR H H1)(b:aDR H1 H2):aDR H H2:=λc o h=>b c o (a c o h)
theorem aDR.seq {K:Frag}{H H':Hp}{a:Addr}{xs:List V}(e:aDR H H')(h:SqL K H a xs):SqL K H' a xs:=by
 rcases h with(h|⟨o,h⟩)|h
 ·exact .inl (.inl (e _ _ h))
 ·exact .inl (.inr ⟨o,e _ _ h⟩)
 ·exact .inr h
end L2
set_option maxHeartbeats 4000000
namespace Dd
open PySem PySem.Spec PyProof.Rows L2
inductive D where
 |non|bl (b:Bool)|int (i:Int)|str (x:Str)|tup (xs:List D)|fz (xs:List D)|ref (a:Addr)
def SqX (K:Frag)(H:Hp)(a:Addr)(xs:List V):Prop :=
 (∃o,H a=some (.frz o (.lst xs))) ∨
 ∃(its:Array Value)(n:Nat),K.lookup a = some { cls:=.type "list",data:=.seq its n }/\its.size<=sizeLine/\bT xs its.toList
theorem SqX.sq {K:Frag}{H:Hp}{a:Addr}{xs:List V}(h:SqX K H a xs):SqL K H a xs:=by
 rcases h with⟨o,h⟩|⟨its,n,h,z,r⟩
 ·exact .inl (.inr ⟨o,h⟩)
 ·exact .inr ⟨_,its,n,h,rfl,rfl,rfl,z,r⟩
mutual
def Rep (K:Frag)(H:Hp):D->V->Prop
 |.non,v=>v=.non
 |.bl b,v=>v=.bl b
 |.int i,v=>v=.int i
 |.str x,v=>v=.str x
 |.ref a,v=>v=.ref a
 |.tup ds,v=>∃a xs,v=.ref a/\SqT K H a xs/\bK K H ds xs
 |.fz ds,v=>∃a xs,v=.ref a/\SqX K H a xs/\bK K H ds xs
def bK (K:Frag)(H:Hp):List D->List V->Prop
 |[],vs=>vs=[]
 |d::ds,vs=>∃v r,vs=v::r/\Rep K H d v/\bK K H ds r
end
structure Ext (H H':Hp):Prop where
 tup:∀a xs,H a=some (.tup xs)->H' a=some (.tup xs)
 frz:∀a o u,H a=some (.frz o u)->H' a=some (.frz o u)
theorem Ext.refl (H:Hp):Ext H H:=⟨λ_ _ h=>h,λ_ _ _ h=>h⟩
theorem Ext.trans {H H1 H2:Hp}(a:Ext H H1)(b:Ext H1 H2):Ext H H2:=⟨λc xs h=>b.tup c xs (a.tup c xs h),λc o u h=>b.frz c o u (a.frz c o u h)⟩
theorem Ext.new {H:Hp}{p:Addr}(h:H p=none)(o:HO):Ext H (upd H p o) :=
 ⟨λa xs e=>by rw[aZ (bD e h)];exact e,λa ob u e=>by rw[aZ (bD e h)];exact e⟩
theorem Ext.put {H:Hp}{p:Addr}{xs:List V}(h:H p=some (.lst xs))(o:HO):Ext H (upd H p o) :=
 ⟨λa ys e=>by rw[aZ (nG e h (by intro z;cases z))];exact e,λa ob u e=>by rw[aZ (nG e h (by intro z;cases z))];exact e⟩
section
variable {K:Frag}{H H':Hp}
theorem mI (e:Ext H H'){a:Addr}{xs:List V}(h:SqT K H a xs):SqT K H' a xs:=by
 rcases h with(h|⟨o,h⟩)|h
 ·exact .inl (.inl (e.tup _ _ h))
 ·exact .inl (.inr ⟨o,e.frz _ _ _ h⟩)
 ·exact .inr h
theorem iE (e:Ext H H'){a:Addr}{xs:List V}(h:SqX K H a xs):SqX K H' a xs:=by
 rcases h with⟨o,h⟩|h
 ·exact .inl ⟨o,e.frz _ _ _ h⟩
 ·exact .inr h
mutual
theorem Rep.ext (e:Ext H H'):∀{d:D}{v:V},Rep K H d v->Rep K H' d v
 |.non,_,h=>by unfold Rep at h ⊢;exact h
 |.bl _,_,h=>by unfold Rep at h ⊢;exact h
 |.int _,_,h=>by unfold Rep at h ⊢;exact h
 |.str _,_,h=>by unfold Rep at h ⊢;exact h
 |.ref _,_,h=>by unfold Rep at h ⊢;exact h
 |.tup ds,_,h=>by unfold Rep at h ⊢;obtain⟨a,xs,e1,sq,r⟩:=h;exact⟨a,xs,e1,mI e sq,bK.ext e r⟩
 |.fz ds,_,h=>by unfold Rep at h ⊢;obtain⟨a,xs,e1,sq,r⟩:=h;exact⟨a,xs,e1,iE e sq,bK.ext e r⟩
theorem bK.ext (e:Ext H H'):∀{ds:List D}{vs:List V},bK K H ds vs->bK K H' ds vs
 |[],_,h=>by unfold bK at h ⊢;exact h
 |d::ds,_,h=>by unfold bK at h ⊢;obtain⟨v,r,e1,hv,hr⟩:=h;exact⟨v,r,e1,Rep.ext e hv,bK.ext e hr⟩
end
theorem cA {i:Int}:Rep K H (.int i) (.int i):=by unfold Rep;rfl
theorem dR {b:Bool}:Rep K H (.bl b) (.bl b):=by unfold Rep;rfl
theorem aAc {x:Str}:Rep K H (.str x) (.str x):=by unfold Rep;rfl
theorem aCO:Rep K H .non .non:=by unfold Rep;rfl
theorem gJ {a:Addr}:Rep K H (.ref a) (.ref a):=by unfold Rep;rfl
theorem aW {i:Int}{v:V}(h:Rep K H (.int i) v):v=.int i:=by unfold Rep at h;exact h
theorem cD {b:Bool}{v:V}(h:Rep K H (.bl b) v):v=.bl b:=by unfold Rep at h;exact h
theorem cZ {x:Str}{v:V}(h:Rep K H (.str x) v):v=.str x:=by unfold Rep at h;exact h
theorem dS {v:V}(h:Rep K H .non v):v=.non:=by unfold Rep at h;exact h
theorem aX {a:Addr}{v:V}(h:Rep K H (.ref a) v):v=.ref a:=by unfold Rep at h;exact h
theorem bE {ds:List D}{v:V}(h:Rep K H (.tup ds) v):∃a xs,v=.ref a/\SqT K H a xs/\bK K H ds xs:=by unfold Rep at h;exact h
theorem nZ {ds:List D}{v:V}(h:Rep K H (.fz ds) v):∃a xs,v=.ref a/\SqX K H a xs/\bK K H ds xs:=by unfold Rep at h;exact h
theorem cM {ds:List D}{a:Addr}{xs:List V}(sq:SqT K H a xs)(r:bK K H ds xs):Rep K H (.tup ds) (.ref a):=by unfold Rep;exact⟨a,xs,rfl,sq,r⟩
theorem cL:bK K H [] []:=by unfold bK;rfl
theorem bB {vs:List V}(h:bK K H [] vs):vs=[]:=by unfold bK at h;exact h
theorem bN {d:D}{ds:List D}{v:V}{vs:List V}(h:Rep K H d v)(r:bK K H ds vs):bK K H (d::ds) (v::vs):=by unfold bK;exact⟨v,vs,rfl,h,r⟩
theorem aT {d:D}{ds:List D}{vs:List V}(h:bK K H (d::ds) vs):∃v r,vs=v::r/\Rep K H d v/\bK K H ds r:=by unfold bK at h;exact h
theorem bK.length:∀{ds:List D}{vs:List V},bK K H ds vs->ds.length=vs.length
 |[],_,h=>by rw[bB h];rfl
 |d::ds,_,h=>by obtain⟨v,r,rfl,_,hr⟩:=aT h;rw[length_cons,length_cons,bK.length hr]
theorem bK.get:∀{ds:List D}{vs:List V} {i:Nat} {d:D},bK K H ds vs->ds[i]?=some d->∃v,vs[i]?=some v/\Rep K H d v
 |[],_,i,d,h,e=>by simp at e
 |d0::ds,_,0,d,h,e=>by obtain⟨v,r,rfl,hv,hr⟩:=aT h;simp at e;subst e;exact⟨v,rfl,hv⟩
 |d0::ds,_,i+1,d,h,e=>by obtain⟨v,r,rfl,hv,hr⟩:=aT h;exact bK.get (i:=i) hr (by simpa using e)
theorem bK.getV:∀{ds:List D}{vs:List V} {i:Nat} {v:V},bK K H ds vs->vs[i]?=some v->∃d,ds[i]?=some d/\Rep K H d v
 |[],_,i,v,h,e=>by rw[bB h] at e;simp at e
 |d0::ds,_,0,v,h,e=>by obtain⟨v0,r,rfl,hv,hr⟩:=aT h;simp at e;subst e;exact⟨d0,rfl,hv⟩
 |d0::ds,_,i+1,v,h,e=>by obtain⟨v0,r,rfl,hv,hr⟩:=aT h;exact bK.getV (i:=i) hr (by simpa using e)
theorem bK.set {d:D}{v:V}(h:Rep K H d v):∀{ds:List D}{vs:List V} (i:Nat),bK K H ds vs->bK K H (ds.set i d) (vs.set i v)
 |[],_,i,r=>by rw[bB r];exact cL
 |d0::ds,_,0,r=>by obtain⟨v0,r0,rfl,hv,hr⟩:=aT r;exact bN h hr
 |d0::ds,_,i+1,r=>by obtain⟨v0,r0,rfl,hv,hr⟩:=aT r;exact bN hv (bK.set h i hr)
theorem bK.append:∀{ds es:List D}{vs us:List V},bK K H ds vs->bK K H es us->bK K H (ds++es) (vs++us)
 |[],es,vs,us,h,q=>by rw[bB h];exact q
 |d::ds,es,_,us,h,q=>by obtain⟨v,r,rfl,hv,hr⟩:=aT h;exact bN hv (bK.append hr q)
theorem bK.take:∀{ds:List D}{vs:List V} (n:Nat),bK K H ds vs->bK K H (ds.take n) (vs.take n)
 |ds,vs,0,h=>by rw[List.take_zero,List.take_zero];exact cL
 |[],_,n+1,h=>by rw[bB h];exact cL
 |d::ds,_,n+1,h=>by obtain⟨v,r,rfl,hv,hr⟩:=aT h;exact bN hv (bK.take n hr)
theorem bK.drop:∀{ds:List D}{vs:List V} (n:Nat),bK K H ds vs->bK K H (ds.drop n) (vs.drop n)
 |ds,vs,0,h=>h
 |[],_,n+1,h=>by rw[bB h];exact cL
 |d::ds,_,n+1,h=>by obtain⟨v,r,rfl,hv,hr⟩:=aT h;exact bK.drop n hr
theorem yK:∀(ns:List Int),bK K H (ns.map D.int) (ns.map V.int)
 |[]=>cL
 |n::ns=>bN cA (yK ns)
end
inductive AK where
 |l (a:Addr)|d (a:Addr)|o (a:Addr)
deriving DecidableEq
instance:Coe Addr AK:=⟨AK.l⟩
noncomputable abbrev DM:=AK->Option (List D)
noncomputable def bH (M:DM)(a:Addr)(ds:List D):DM:=λb=>if b=AK.l a then some ds else M b
noncomputable def uQ (M:DM)(a:Addr)(ds:List D):DM:=λb=>if b=AK.d a then some ds else M b
noncomputable def zK (M:DM)(a:Addr)(ds:List D):DM:=λb=>if b=AK.o a then some ds else M b
theorem zL {M:DM}{a b:Addr}{ds:List D}:bH M a ds (.o b)=M (.o b):=if_neg λe=>nomatch e
theorem zW {M:DM}{a b:Addr}{ds:List D}:uQ M a ds (.o b)=M (.o b):=if_neg λe=>nomatch e
theorem fP {M:DM}{a b:Addr}{ds:List D}:zK M a ds (.l b)=M (.l b):=if_neg λe=>nomatch e
theorem nV {M:DM}{a b:Addr}{ds:List D}:zK M a ds (.d b)=M (.d b):=if_neg λe=>nomatch e
theorem gD {M:DM}{a:Addr}{ds:List D}:zK M a ds (.o a)=some ds:=if_pos rfl
theorem aCI {M:DM}{a b:Addr}{ds:List D}(h:b≠a):zK M a ds (.o b)=M (.o b):=if_neg λe=>h (AK.o.inj e)
theorem lY {M:DM}{a:Addr}{b:AK}{ds:List D}(h:b≠AK.o a):zK M a ds b=M b:=if_neg h
theorem aL {M:DM}{a:Addr}{ds:List D}:bH M a ds a=some ds:=if_pos rfl
theorem mM {M:DM}{a b:Addr}{ds:List D}(h:b≠a):bH M a ds b=M b:=if_neg λe=>h (AK.l.inj e)
theorem wA {M:DM}{a:Addr}{b:AK}{ds:List D}(h:b≠AK.l a):bH M a ds b=M b:=if_neg h
theorem aAs {M:DM}{a b:Addr}{ds:List D}:bH M a ds (.d b)=M (.d b):=if_neg λe=>nomatch e
theorem mE {M:DM}{a:Addr}{ds:List D}:uQ M a ds (.d a)=some ds:=if_pos rfl
theorem aCP {M:DM}{a b:Addr}{ds:List D}(h:b≠a):uQ M a ds (.d b)=M (.d b):=if_neg λe=>h (AK.d.inj e)
theorem aBb {M:DM}{a:Addr}{b:AK}{ds:List D}(h:b≠AK.d a):uQ M a ds b=M b:=if_neg h
theorem aAx {M:DM}{a b:Addr}{ds:List D}:uQ M a ds (.l b)=M (.l b):=if_neg λe=>nomatch e
theorem gB {M:DM}{a b:Addr}{o:List D}(h:M a=some o)(h':M b=none):a≠b:=by intro e;subst e;rw[h] at h';cases h'
theorem cU {M:DM}{a b:AK}{o:List D}(h:M a=some o)(h':M b=none):a≠b:=by intro e;subst e;rw[h] at h';cases h'
def sH (a:Addr)(es:List DictEntry):Heap->Prop:=λh=>(a==sysModules) = false/\es.length<=sizeLine/\∃ep,h.get? a = some { cls:=.type "dict",data:=.dict es.toArray ep }
def aHw (K:Frag)(H:Hp)(d:D)(e:DictEntry):Prop:=∃k v kv vv,d=.tup [.int e.hash,k,v]/\bM kv e.key/\Rep K H k kv/\bM vv e.val/\Rep K H v vv
theorem aHw.ext {K:Frag}{H H':Hp}{d:D}{e:DictEntry}(h:aHw K H d e)(x:Ext H H'):aHw K H' d e :=
 let ⟨k,v,kv,vv,a,b,c,f,g⟩:=h;⟨k,v,kv,vv,a,b,c.ext x,f,g.ext x⟩
abbrev tU (K:Frag)(H:Hp)(ds:List D)(es:List DictEntry):Prop:=Paired (aHw K H) ds es
theorem fY {K:Frag}{H H':Hp}{ds:List D}{es:List DictEntry}(h:tU K H ds es)(x:Ext H H'):tU K H' ds es:=Paired.mapP h λ_ _ r=>r.ext x
noncomputable def vA (C:Addr)(gs:List (Str×D)):List D:=.ref C::gs.map λp=>.tup [.str p.1,p.2]
theorem aBE:∀{gs gs':List (Str×D)},(gs.map λp=>D.tup [.str p.1,p.2])=(gs'.map λp=>D.tup [.str p.1,p.2])->gs=gs'
 |[],[],_=>rfl
 |[],_::_,h=>by cases h
 |_::_,[],h=>by cases h
 |a::r,b::r',h=>by have e:=List.cons.inj h;have e1:=List.cons.inj (D.tup.inj e.1);rw[aBE e.2,show a=b from Prod.ext (D.str.inj e1.1) (List.cons.inj e1.2).1]
theorem xC {C C':Addr}{gs gs':List (Str×D)}(h:vA C gs=vA C' gs'):C=C'/\gs=gs' :=
 have h:=List.cons.inj (show(D.ref C::_)=(D.ref C'::_) from h)
 ⟨D.ref.inj h.1,aBE h.2⟩
abbrev pQ (K:Frag)(H:Hp)(gs:List (Str×D))(fs:List (Str×V)):Prop:=Paired (λ(g:Str×D)(f:Str×V)=>g.1=f.1/\Rep K H g.2 f.2) gs fs
theorem iC {K:Frag}{H H':Hp}{gs:List (Str×D)}{fs:List (Str×V)}(h:pQ K H gs fs)(x:Ext H H'):pQ K H' gs fs:=Paired.mapP h λ_ _ r=>⟨r.1,r.2.ext x⟩
structure bO (K:Frag)(M:DM)(H:Hp):Prop where
 l:∀(a:Addr) ds,M (.l a)=some ds->∃xs,H a=some (.lst xs)/\bK K H ds xs
 d:∀(a:Addr) ds,M (.d a)=some ds->∃es,H a=some (.ext (sH a es))/\tU K H ds es
 o:∀(a:Addr) ds,M (.o a)=some ds->∃C dx gs fs,ds=vA C gs/\H a=some (.ins C dx fs)/\pQ K H gs fs
theorem Ext.putX {H:Hp}{p:Addr}{φ:Heap->Prop}(h:H p=some (.ext φ))(o:HO):Ext H (upd H p o) :=
 ⟨λa ys e=>by rw[aZ (nG e h (by intro z;cases z))];exact e,λa ob u e=>by rw[aZ (nG e h (by intro z;cases z))];exact e⟩
section
variable {K:Frag}{H H':Hp}{M M':DM}
theorem bO.fresh (h:bO K M H){p:Addr}(e:H p=none):M p=none:=by
 cases q:M p with
 |none=>rfl
 |some ds=>obtain⟨xs,z,_⟩:=h.l p ds q;rw[e] at z;cases z
theorem bO.freshD (h:bO K M H){p:Addr}(e:H p=none):M (.d p)=none:=by
 cases q:M (.d p) with
 |none=>rfl
 |some ds=>obtain⟨xs,z,_⟩:=h.d p ds q;rw[e] at z;cases z
theorem bO.freshO (h:bO K M H){p:Addr}(e:H p=none):M (.o p)=none:=by
 cases q:M (.o p) with
 |none=>rfl
 |some ds=>obtain⟨_,_,_,_,_,z,_⟩:=h.o p ds q;rw[e] at z;cases z
theorem bO.new (h:bO K M H){p:Addr}(e:H p=none)(o:HO):bO K M (upd H p o) where
 l:=λa ds q=>by obtain⟨xs,z,r⟩:=h.l a ds q;exact⟨xs,by rw[aZ (bD z e)];exact z,r.ext (Ext.new e o)⟩
 d:=λa ds q=>by obtain⟨xs,z,r⟩:=h.d a ds q;exact⟨xs,by rw[aZ (bD z e)];exact z,fY r (Ext.new e o)⟩
 o:=λa ds q=>by obtain⟨C,dx,gs,fs,w,z,r⟩:=h.o a ds q;exact⟨C,dx,gs,fs,w,by rw[aZ (bD z e)];exact z,iC r (Ext.new e o)⟩
theorem bO.lnew (h:bO K M H){p:Addr}(e:H p=none){xs:List V}{ds:List D}(r:bK K H ds xs):bO K (bH M p ds) (upd H p (.lst xs)) where
 l:=λa es q=>by
  by_cases ha:a=p
  ·subst ha;rw[aL] at q;cases q;exact⟨xs,cP,r.ext (Ext.new e _)⟩
  ·rw[mM ha] at q;obtain⟨ys,z,r2⟩:=h.l a es q;exact⟨ys,by rw[aZ ha];exact z,r2.ext (Ext.new e _)⟩
 d:=λa es q=>by rw[aAs] at q;obtain⟨ys,z,r2⟩:=h.d a es q;exact⟨ys,by rw[aZ (bD z e)];exact z,fY r2 (Ext.new e _)⟩
 o:=λa es q=>by rw[zL] at q;obtain⟨C,dx,gs,fs,w,z,r⟩:=h.o a es q;exact⟨C,dx,gs,fs,w,by rw[aZ (bD z e)];exact z,iC r (Ext.new e _)⟩
theorem bO.put (h:bO K M H){p:Addr}{xs0:List V}(e:H p=some (.lst xs0)){xs:List V}{ds:List D}(r:bK K H ds xs):bO K (bH M p ds) (upd H p (.lst xs)) where
 l:=λa es q=>by
  by_cases ha:a=p
  ·subst ha;rw[aL] at q;cases q;exact⟨xs,cP,r.ext (Ext.put e _)⟩
  ·rw[mM ha] at q;obtain⟨ys,z,r2⟩:=h.l a es q;exact⟨ys,by rw[aZ ha];exact z,r2.ext (Ext.put e _)⟩
 d:=λa es q=>by rw[aAs] at q;obtain⟨ys,z,r2⟩:=h.d a es q;exact⟨ys,by rw[aZ (nG z e (by intro z;cases z))];exact z,fY r2 (Ext.put e _)⟩
 o:=λa es q=>by rw[zL] at q;obtain⟨C,dx,gs,fs,w,z,r⟩:=h.o a es q;exact⟨C,dx,gs,fs,w,by rw[aZ (nG z e (by intro z;cases z))];exact z,iC r (Ext.put e _)⟩
theorem bO.knew (h:bO K M H){p:Addr}(e:H p=none){xs:List DictEntry}{ds:List D}(r:tU K H ds xs):bO K (uQ M p ds) (upd H p (.ext (sH p xs))) where
 d:=λa es q=>by
  by_cases ha:a=p
  ·subst ha;rw[mE] at q;cases q;exact⟨xs,cP,fY r (Ext.new e _)⟩
  ·rw[aCP ha] at q;obtain⟨ys,z,r2⟩:=h.d a es q;exact⟨ys,by rw[aZ ha];exact z,fY r2 (Ext.new e _)⟩
 l:=λa es q=>by rw[aAx] at q;obtain⟨ys,z,r2⟩:=h.l a es q;exact⟨ys,by rw[aZ (bD z e)];exact z,r2.ext (Ext.new e _)⟩
 o:=λa es q=>by rw[zW] at q;obtain⟨C,dx,gs,fs,w,z,r⟩:=h.o a es q;exact⟨C,dx,gs,fs,w,by rw[aZ (bD z e)];exact z,iC r (Ext.new e _)⟩
theorem bO.kput (h:bO K M H){p:Addr}{φ:Heap->Prop}(e:H p=some (.ext φ)){xs:List DictEntry}{ds:List D}(r:tU K H ds xs):bO K (uQ M p ds) (upd H p (.ext (sH p xs))) where
 d:=λa es q=>by
  by_cases ha:a=p
  ·subst ha;rw[mE] at q;cases q;exact⟨xs,cP,fY r (Ext.putX e _)⟩
  ·rw[aCP ha] at q;obtain⟨ys,z,r2⟩:=h.d a es q;exact⟨ys,by rw[aZ ha];exact z,fY r2 (Ext.putX e _)⟩
 l:=λa es q=>by rw[aAx] at q;obtain⟨ys,z,r2⟩:=h.l a es q;exact⟨ys,by rw[aZ (nG z e (by intro z;cases z))];exact z,r2.ext (Ext.putX e _)⟩
 o:=λa es q=>by rw[zW] at q;obtain⟨C,dx,gs,fs,w,z,r⟩:=h.o a es q;exact⟨C,dx,gs,fs,w,by rw[aZ (nG z e (by intro z;cases z))];exact z,iC r (Ext.putX e _)⟩
theorem Ext.putI {p C dx:Addr}{fs:List (Str×V)}(h:H p=some (.ins C dx fs))(o:HO):Ext H (upd H p o) :=
 ⟨λa ys e=>by rw[aZ (nG e h (by intro z;cases z))];exact e,λa ob u e=>by rw[aZ (nG e h (by intro z;cases z))];exact e⟩
theorem bO.onew (h:bO K M H){p dx C:Addr}(e:H p=none)(e':H dx=none)(ne:dx≠p):bO K (zK M p (vA C [])) (upd (upd H dx (.own p)) p (.ins C dx [])):=by
 have h1:=h.new e' (.own p);have e1:upd H dx (.own p) p=none:=by rw[aZ (Ne.symm ne)];exact e
 generalize upd H dx (.own p)=H1 at h1 e1;have h2:=h1.new e1 (.ins C dx []);refine⟨λa es q=>?_,λa es q=>?_,λa es q=>?_⟩
 ·rw[fP] at q;exact h2.l a es q
 ·rw[nV] at q;exact h2.d a es q
 ·by_cases ha:a=p
  ·subst ha;rw[gD] at q;cases q;exact⟨C,dx,[],[],rfl,cP,.nil⟩
  ·rw[aCI ha] at q;exact h2.o a es q
theorem bO.oput (h:bO K M H){p dx C:Addr}{fs0 fs:List (Str×V)}{gs:List (Str×D)}(e:H p=some (.ins C dx fs0))(r:pQ K H gs fs):bO K (zK M p (vA C gs)) (upd H p (.ins C dx fs)) where
 l:=λa es q=>by rw[fP] at q;obtain⟨ys,z,r2⟩:=h.l a es q;exact⟨ys,by rw[aZ (nG z e (by intro z;cases z))];exact z,r2.ext (Ext.putI e _)⟩
 d:=λa es q=>by rw[nV] at q;obtain⟨ys,z,r2⟩:=h.d a es q;exact⟨ys,by rw[aZ (nG z e (by intro z;cases z))];exact z,fY r2 (Ext.putI e _)⟩
 o:=λa es q=>by
  by_cases ha:a=p
  ·subst ha;rw[gD] at q;cases q;exact⟨C,dx,gs,fs,rfl,cP,iC r (Ext.putI e _)⟩
  ·rw[aCI ha] at q;obtain⟨C',dx',gs',fs',w,z,r2⟩:=h.o a es q;exact⟨C',dx',gs',fs',w,by rw[aZ ha];exact z,iC r2 (Ext.putI e _)⟩
def bC (M M':DM):Prop:=∀a o,M a=some o->M' a=some o
theorem bC.refl (M:DM):bC M M:=λ_ _ h=>h
theorem bC.trans {M1 M2 M3:DM}(a:bC M1 M2)(b:bC M2 M3):bC M1 M3:=λc o h=>b c o (a c o h)
theorem bC.new {M:DM}{p:Addr}(h:M p=none)(ds:List D):bC M (bH M p ds):=λa o e=>by rw[wA (cU e h)];exact e
theorem bO.sub (h:bO K M' H)(s:bC M M'):bO K M H:=⟨λa ds q=>h.l a ds (s _ ds q),λa ds q=>h.d a ds (s _ ds q),λa ds q=>h.o a ds (s _ ds q)⟩
end
noncomputable abbrev cJ:=List (Option D)
structure fV (K:Frag)(H:Hp)(ρ:cJ)(σ:L2.St):Prop where
 len:ρ.length=σ.length
 get:∀(i:Nat) d,ρ[i]?=some (some d)->∃v,σ[i]?=some (some v)/\Rep K H d v
section
variable {K:Frag}{H H':Hp}{ρ:cJ}{σ:L2.St}
theorem fV.ext (h:fV K H ρ σ)(e:Ext H H'):fV K H' ρ σ:=⟨h.len,λi d q=>let ⟨v,a,b⟩:=h.get i d q;⟨v,a,b.ext e⟩⟩
theorem fV.set (h:fV K H ρ σ){d:D}{v:V}(r:Rep K H d v)(i:Nat):fV K H (ρ.set i (some d)) (σ.set i (some v)):=by
 refine⟨by rw[List.length_set,List.length_set,h.len],λj d' q=>?_⟩;rw[List.getElem?_set] at q;by_cases hij:i=j
 ·subst hij;rw[if_pos rfl] at q;by_cases hl:i<ρ.length
  ·rw[if_pos hl] at q;cases q;exact⟨v,by rw[List.getElem?_set,if_pos rfl,if_pos (by rw[<- h.len];exact hl)],r⟩
  ·rw[if_neg hl] at q;cases q
 ·rw[if_neg hij] at q;obtain⟨u,a,b⟩:=h.get j d' q;exact⟨u,by rw[List.getElem?_set,if_neg hij];exact a,b⟩
end
abbrev DQ:=D->DM->Prop
abbrev DE:=cJ->DM->DQ->Prop
abbrev DT:=cJ->DM->(Bool->DM->Prop)->Prop
abbrev DA:=cJ->DM->(List D->DM->Prop)->Prop
structure iX where
 nx:cJ->DM->Prop
 rt:DQ
 bk:cJ->DM->Prop:=λ_ _=>False
 ct:cJ->DM->Prop:=λ_ _=>False
abbrev DS:=iX->cJ->DM->Prop
abbrev DG:=D->cJ->DM->(cJ->DM->Prop)->Prop
abbrev DGs:=List D->cJ->DM->(cJ->DM->Prop)->Prop
noncomputable def LQ (K:Frag)(H:Hp)(Q:DQ):VK:=λv H'=>∃d M',Rep K H' d v/\bO K M' H'/\Ext H H'/\Q d M'
def LT (K:Frag)(H:Hp)(Q:Bool->DM->Prop):Bool->Hp->Prop:=λb H'=>∃M',bO K M' H'/\Ext H H'/\Q b M'
def LA (K:Frag)(H:Hp)(Q:List D->DM->Prop):List V->Hp->Prop:=λvs H'=>∃ds M',bK K H' ds vs/\bO K M' H'/\Ext H H'/\Q ds M'
def LN (K:Frag)(H:Hp)(Q:cJ->DM->Prop):L2.St->Hp->Prop:=λσ' H'=>∃ρ' M',fV K H' ρ' σ'/\bO K M' H'/\Ext H H'/\Q ρ' M'
structure pV (K:Frag)(H:Hp)(D:iX)(E:wZ):Prop where
 nx:∀σ' H',LN K H D.nx σ' H'->E.nx σ' H'
 rt:∀v H',LQ K H D.rt v H'->E.rt v H'
 bk:∀σ' H',LN K H D.bk σ' H'->E.bk σ' H'
 ct:∀σ' H',LN K H D.ct σ' H'->E.ct σ' H'
def low (K:Frag)(t:DE):TE:=λσ H Q=>∃ρ M Q',fV K H ρ σ/\bO K M H/\t ρ M Q'/\∀v H',LQ K H Q' v H'->Q v H'
def aJ1 (K:Frag)(t:DT):TT:=λσ H Q=>∃ρ M Q',fV K H ρ σ/\bO K M H/\t ρ M Q'/\∀v H',LT K H Q' v H'->Q v H'
def aMf (K:Frag)(t:DA):TA:=λσ H Q=>∃ρ M Q',fV K H ρ σ/\bO K M H/\t ρ M Q'/\∀v H',LA K H Q' v H'->Q v H'
def aDr (K:Frag)(t:DS):TS:=λE σ H=>∃ρ M D,fV K H ρ σ/\bO K M H/\t D ρ M/\pV K H D E
def tG (K:Frag)(g:DG):TG:=λv σ H Q=>∃d ρ M Q',Rep K H d v/\fV K H ρ σ/\bO K M H/\g d ρ M Q'/\∀σ' H',LN K H Q' σ' H'->Q σ' H'
def aLl (K:Frag)(g:DGs):TGs:=λvs σ H Q=>∃ds ρ M Q',bK K H ds vs/\fV K H ρ σ/\bO K M H/\g ds ρ M Q'/\∀σ' H',LN K H Q' σ' H'->Q σ' H'
abbrev PDE (X:Cx)(e:Expr)(t:DE):Prop:=PE X e (low X.K t)
abbrev PDT (X:Cx)(e:Expr)(t:DT):Prop:=PT X e (aJ1 X.K t)
abbrev PDW (X:Cx)(e:Expr)(t:DT):Prop:=PW X e (aJ1 X.K t)
abbrev PDA (X:Cx)(es:List Expr)(t:DA):Prop:=PA X es (aMf X.K t)
abbrev PDS (X:Cx)(st:Stmt)(t:DS):Prop:=PS X st (aDr X.K t)
abbrev nO (X:Cx)(st:List Stmt)(t:DS):Prop:=PSs X st (aDr X.K t)
abbrev PDG (X:Cx)(e:Expr)(g:DG):Prop:=PG X e (tG X.K g)
abbrev aA0 (X:Cx)(es:List Expr)(g:DGs):Prop:=PGs X es (aLl X.K g)
section
variable {K:Frag}{H H1:Hp}
theorem LQ.back {Q:DQ}{v:V}{H2:Hp}(e:Ext H H1)(h:LQ K H1 Q v H2):LQ K H Q v H2:=let ⟨d,M,a,b,c,q⟩:=h;⟨d,M,a,b,e.trans c,q⟩
theorem LT.back {Q:Bool->DM->Prop}{v:Bool}{H2:Hp}(e:Ext H H1)(h:LT K H1 Q v H2):LT K H Q v H2:=let ⟨M,b,c,q⟩:=h;⟨M,b,e.trans c,q⟩
theorem LN.back {Q:cJ->DM->Prop}{v:L2.St}{H2:Hp}(e:Ext H H1)(h:LN K H1 Q v H2):LN K H Q v H2:=let ⟨d,M,a,b,c,q⟩:=h;⟨d,M,a,b,e.trans c,q⟩
theorem pV.at {D:iX}{E:wZ}(h:pV K H D E)(e:Ext H H1):pV K H1 D E :=
 ⟨λs H2 q=>h.nx s H2 (q.back e),λs H2 q=>h.rt s H2 (q.back e),λs H2 q=>h.bk s H2 (q.back e),λs H2 q=>h.ct s H2 (q.back e)⟩
end
section
variable {X:Cx}{e:Expr}{st:Stmt}{sts:List Stmt}
theorem cH {t u:TE}(h:PE X e t)(k:∀σ H Q,u σ H Q->t σ H Q):PE X e u:=λpins s σ H Q I q=>h pins s σ H Q I (k σ H Q q)
theorem aCd {t u:TT}(h:PT X e t)(k:∀σ H Q,u σ H Q->t σ H Q):PT X e u:=λpins s σ H Q I q=>h pins s σ H Q I (k σ H Q q)
theorem aFe {t u:TT}(h:PW X e t)(k:∀σ H Q,u σ H Q->t σ H Q):PW X e u:=λwh pins s σ H Q I q=>h wh pins s σ H Q I (k σ H Q q)
theorem aEz {es:List Expr}{t u:TA}(h:PA X es t)(k:∀σ H Q,u σ H Q->t σ H Q):PA X es u:=λpos pins s σ H Q I q=>h pos pins s σ H Q I (k σ H Q q)
theorem fX {t u:TS}(h:PS X st t)(k:∀D σ H,u D σ H->t D σ H):PS X st u:=λpins s σ H D I q=>h pins s σ H D I (k D σ H q)
theorem zJ {t u:TS}(h:PSs X sts t)(k:∀D σ H,u D σ H->t D σ H):PSs X sts u:=λpins s σ H D I q=>h pins s σ H D I (k D σ H q)
theorem aAM {t u:TG}(h:PG X e t)(k:∀v σ H Q,u v σ H Q->t v σ H Q):PG X e u:=λpins s σ H v w Q I r q=>h pins s σ H v w Q I r (k v σ H Q q)
theorem aC6 {es:List Expr}{t u:TGs}(h:PGs X es t)(k:∀v σ H Q,u v σ H Q->t v σ H Q):PGs X es u:=λpins s σ H v w Q I r q=>h pins s σ H v w Q I r (k v σ H Q q)
end
section
variable {X:Cx}{a b c e:Expr}{es:List Expr}{ta tb tc te:DE}{tA tB:DT}{t:DA}{pos:Pos}
def aBV (i:Nat):DE:=λρ M Q=>match ρ[i]? with
 |some (some d)=>Q d M
 |_=>False
theorem aJo (i:Nat){x:Str}{pos:Pos}(hN:X.N[i]?=some x:=by rfl)(hv:Vis X.env.scope x:=by first|exact Or.inl rfl|exact Or.inr (Or.inl rfl)|exact Or.inr (Or.inr rfl))(hd:(x==("__debug__":Str))=false:=by decide)(hcd:(x==("__classdict__":Str))=false:=by decide):PDE X (.Name x pos) (aBV i) :=
 cH (aJF (i:=i) hN hv hd hcd) λσ H Q ⟨ρ,M,Q',re,hm,q,k⟩=>by
  unfold aBV at q;split at q
  ·rename_i d e;obtain⟨v,e1,r⟩:=re.get i d e;exact⟨v,e1,k v H ⟨d,M,r,hm,.refl H,q⟩⟩
  ·exact q.elim
def dC (d:D):DE:=λ_ M Q=>Q d M
theorem aIg {i j pos}:PDE X (.Constant (.int i) j pos) (dC (.int i)):=cH aKc λσ H Q ⟨ρ,M,Q',re,hm,q,k⟩=>k _ H ⟨_,M,cA,hm,.refl H,q⟩
theorem aMK {i j pos}:PDE X (.Constant (.bool i) j pos) (dC (.bl i)):=cH aMn λσ H Q ⟨ρ,M,Q',re,hm,q,k⟩=>k _ H ⟨_,M,dR,hm,.refl H,q⟩
theorem aIe {x j pos}:PDE X (.Constant (.str x) j pos) (dC (.str x)):=cH aIB λσ H Q ⟨ρ,M,Q',re,hm,q,k⟩=>k _ H ⟨_,M,aAc,hm,.refl H,q⟩
theorem aGN {x:Str}{d:D}{v:V}{u:Value}{pos:Pos}(hg:Gl X x)(hm:X.mg x=some u)(r:bM v u)(hr:∀H,Rep X.K H d v)(hd:(x==("__debug__":Str))=false:=by decide):PDE X (.Name x pos) (dC d) :=
 cH (aGy hg hm r hd) λσ H Q ⟨ρ,M,Q',re,hm,q,k⟩=>k _ H ⟨_,M,hr H,hm,.refl H,q⟩
abbrev D2:=D->D->DM->DQ->Prop
def OpL (K:Frag)(r:R2)(r':D2):Prop:=∀x y H M dx dy Q,Rep K H dx x->Rep K H dy y->bO K M H->r' dx dy M Q->r x y H (LQ K H Q)
def OpD (X:Cx)(f:Value->Value->Sem Value)(r':D2):Prop :=
 OpR X f λx y H Q=>∃dx dy M Q',Rep X.K H dx x/\Rep X.K H dy y/\bO X.K M H/\r' dx dy M Q'/\∀v H',LQ X.K H Q' v H'->Q v H'
theorem aCT {pins:List (Addr×Obj)}{σ:L2.St}{Q Q':VK}{u:Value}{s:Shared}(h:EP X pins σ Q u s)(k:∀v H,Q v H->Q' v H):EP X pins σ Q' u s:=let ⟨v,H,a,b,c⟩:=h;⟨v,H,a,b,k v H c⟩
theorem OpD.of {f:Value->Value->Sem Value}{r:R2}{r':D2}(h:OpR X f r)(l:OpL X.K r r'):OpD X f r':=λpins s σ H x y v u Q I rx ry ⟨dx,dy,M,Q',r1,r2,hm,q,k⟩ =>
 thn (h pins s σ H x y v u _ I rx ry (l x y H M dx dy Q' r1 r2 hm q)) λv s h=>aCT h k
def dOp (r:D2)(ta tb:DE):DE:=λρ M Q=>ta ρ M λx M1=>tb ρ M1 λy M2=>r x y M2 Q
theorem aAE {r':D2}{σ:L2.St}{H:Hp}{Q:VK}{R:V->V->Hp->VK->Prop}(hR:∀x y H1 Q1,(∃dx dy M Q',Rep X.K H1 dx x/\Rep X.K H1 dy y/\bO X.K M H1/\r' dx dy M Q'/\∀v H',LQ X.K H1 Q' v H'->Q1 v H')->R x y H1 Q1)(h:low X.K (dOp r' ta tb) σ H Q):low X.K ta σ H λx H1=>low X.K tb σ H1 λy H2=>R x y H2 Q:=by obtain⟨ρ,M,Q',re,hm,q,k⟩:=h;refine⟨ρ,M,_,re,hm,q,λx H1 ⟨dx,M1,rx,hm1,e1,q1⟩=>⟨ρ,M1,_,re.ext e1,hm1,q1,λy H2 ⟨dy,M2,ry,hm2,e2,q2⟩=>?_⟩⟩;exact hR x y H2 Q ⟨dx,dy,M2,Q',rx.ext e2,ry,hm2,q2,λv H' z=>k v H' (z.back (e1.trans e2))⟩
theorem aMH {op:Operator}{r:D2}(ho:OpD X (binaryOp op) r)(ha:PDE X a ta)(hb:PDE X b tb):PDE X (.BinOp a op b pos) (dOp r ta tb) :=
 cH (aME ho ha hb) λσ H Q h=>aAE (λ_ _ _ _ z=>z) h
theorem aKO {op:CmpOp}{r:D2}(ho:OpD X (compareOp op) r)(ha:PDE X a ta)(hb:PDE X b tb)(hm:behindInMarks op b=false:=by exact zE _):PDE X (.Compare a [op] [b] pos) (dOp r ta tb) :=
 cH (aGw ho ha hb hm) λσ H Q h=>aAE (λ_ _ _ _ z=>z) h
def yZ (t:DE):DT:=λρ M Q=>t ρ M λd M'=>match d with
 |.bl k=>Q k M'
 |_=>False
theorem aBw {σ:L2.St}{H:Hp}{Q:Bool->Hp->Prop}(h:aJ1 X.K (yZ te) σ H Q):low X.K te σ H λx H'=>∃k,x=.bl k/\Q k H':=by
 obtain⟨ρ,M,Q',re,hm,q,k⟩:=h;refine⟨ρ,M,_,re,hm,q,λx H1 ⟨d,M1,rd,hm1,e1,q1⟩=>?_⟩;cases d with
 |bl c=>exact⟨c,cD rd,k c H1 ⟨M1,hm1,e1,q1⟩⟩
 |_=>exact q1.elim
theorem aKn {op:CmpOp}{r:D2}(ho:OpD X (compareOp op) r)(ha:PDE X a ta)(hb:PDE X b tb)(hm:behindInMarks op b=false:=by exact zE _):PDT X (.Compare a [op] [b] pos) (yZ (dOp r ta tb)) :=
 aCd (aHj ho ha hb hm) λσ H Q h=>aAE (R:=λx y H Q1=>∃dx dy M Q',Rep X.K H dx x/\Rep X.K H dy y/\bO X.K M H/\r dx dy M Q'/\∀v H',LQ X.K H Q' v H'->Q1 v H') (λ_ _ _ _ z=>z) (aBw h)
theorem aKL (h:PDE X e te)(he:∀whole,isTrue e X.env whole=(do let v <- whole;standAt e.pos;holding [v] (truthy v)):=by intro _;rfl):PDT X e (yZ te) :=
 aCd (aKo h he) λσ H Q h=>aBw h
def aKz (t u:DT):DT:=λρ M Q=>t ρ M λc M1=>if c=true then u ρ M1 Q else Q false M1
def dOr (t u:DT):DT:=λρ M Q=>t ρ M λc M1=>if c=true then Q true M1 else u ρ M1 Q
def aJG (t:DT):DT:=λρ M Q=>t ρ M λc M1=>Q (!c) M1
variable {bI:List Expr}
theorem aHB (ha:PDT X a tA):PDW X (.BoolOp .And [a] pos) tA:=aF7 ha
theorem aIh (ha:PDT X a tA):PDW X (.BoolOp .Or [a] pos) tA:=aIy ha
theorem aJv (ha:PDT X a tA)(hb:PDW X (.BoolOp .And (b::bI) pos) tB):PDW X (.BoolOp .And (a::b::bI) pos) (aKz tA tB) :=
 aFe (aKg ha hb) λσ H Q ⟨ρ,M,Q',re,hm,q,k⟩=>⟨ρ,M,_,re,hm,q,λc H1 ⟨M1,hm1,e1,q1⟩=>by
  cases c with
  |true=>exact⟨ρ,M1,_,re.ext e1,hm1,q1,λv H' z=>k v H' (z.back e1)⟩
  |false=>exact k false H1 ⟨M1,hm1,e1,q1⟩⟩
theorem aL8 (ha:PDT X a tA)(hb:PDW X (.BoolOp .Or (b::bI) pos) tB):PDW X (.BoolOp .Or (a::b::bI) pos) (dOr tA tB) :=
 aFe (aKV ha hb) λσ H Q ⟨ρ,M,Q',re,hm,q,k⟩=>⟨ρ,M,_,re,hm,q,λc H1 ⟨M1,hm1,e1,q1⟩=>by
  cases c with
  |false=>exact⟨ρ,M1,_,re.ext e1,hm1,q1,λv H' z=>k v H' (z.back e1)⟩
  |true=>exact k true H1 ⟨M1,hm1,e1,q1⟩⟩
theorem aMM (h:PDW X e tA):PDT X e tA:=PW.pt h
theorem aIk (ha:PDT X a tA):PDT X (.UnaryOp .Not a pos) (aJG tA) :=
 aCd (aIr ha) λσ H Q ⟨ρ,M,Q',re,hm,q,k⟩=>⟨ρ,M,_,re,hm,q,λc H1 ⟨M1,hm1,e1,q1⟩=>k (!c) H1 ⟨M1,hm1,e1,q1⟩⟩
def aD1 (ta tb:DE):DE:=λρ M Q=>ta ρ M λx M1=>match x with
 |.bl c=>if c=true then tb ρ M1 Q else Q (.bl false) M1
 |_=>False
def aKA (ta tb:DE):DE:=λρ M Q=>ta ρ M λx M1=>match x with
 |.bl c=>if c=true then Q (.bl true) M1 else tb ρ M1 Q
 |_=>False
def aF3 (ta:DE):DE:=λρ M Q=>ta ρ M λx M1=>match x with
 |.bl c=>Q (.bl (!c)) M1
 |_=>False
theorem aId {op}(h:PDE X a ta):PDE X (.BoolOp op [a] pos) ta:=aIi h
theorem aJT (ha:PDE X a ta)(hb:PDE X (.BoolOp .And (b::bI) pos) tb):PDE X (.BoolOp .And (a::b::bI) pos) (aD1 ta tb) :=
 cH (aKx ha hb) λσ H Q ⟨ρ,M,Q',re,hm,q,k⟩=>⟨ρ,M,_,re,hm,q,λx H1 ⟨d,M1,rd,hm1,e1,q1⟩=>by
  cases d with
  |bl c =>
   refine⟨c,cD rd,?_⟩;cases c with
   |true=>exact⟨ρ,M1,_,re.ext e1,hm1,q1,λv H' z=>k v H' (z.back e1)⟩
   |false=>exact k _ H1 ⟨_,M1,dR,hm1,e1,q1⟩
  |_=>exact q1.elim⟩
theorem aLs (ha:PDE X a ta)(hb:PDE X (.BoolOp .Or (b::bI) pos) tb):PDE X (.BoolOp .Or (a::b::bI) pos) (aKA ta tb) :=
 cH (aMv ha hb) λσ H Q ⟨ρ,M,Q',re,hm,q,k⟩=>⟨ρ,M,_,re,hm,q,λx H1 ⟨d,M1,rd,hm1,e1,q1⟩=>by
  cases d with
  |bl c =>
   refine⟨c,cD rd,?_⟩;cases c with
   |false=>exact⟨ρ,M1,_,re.ext e1,hm1,q1,λv H' z=>k v H' (z.back e1)⟩
   |true=>exact k _ H1 ⟨_,M1,dR,hm1,e1,q1⟩
  |_=>exact q1.elim⟩
theorem aIv (ha:PDE X a ta):PDE X (.UnaryOp .Not a pos) (aF3 ta) :=
 cH (aKQ ha) λσ H Q ⟨ρ,M,Q',re,hm,q,k⟩=>⟨ρ,M,_,re,hm,q,λx H1 ⟨d,M1,rd,hm1,e1,q1⟩=>by
  cases d with
  |bl c=>exact⟨c,cD rd,k _ H1 ⟨_,M1,dR,hm1,e1,q1⟩⟩
  |_=>exact q1.elim⟩
def aJy (t:DT)(ta tb:DE):DE:=λρ M Q=>t ρ M λc M1=>if c=true then ta ρ M1 Q else tb ρ M1 Q
theorem aFt (hc:PDT X c tA)(ha:PDE X a ta)(hb:PDE X b tb):PDE X (.IfExp c a b pos) (aJy tA ta tb) :=
 cH (aFL hc ha hb) λσ H Q ⟨ρ,M,Q',re,hm,q,k⟩=>⟨ρ,M,_,re,hm,q,λc H1 ⟨M1,hm1,e1,q1⟩=>by
  cases c with
  |true=>exact⟨ρ,M1,_,re.ext e1,hm1,q1,λv H' z=>k v H' (z.back e1)⟩
  |false=>exact⟨ρ,M1,_,re.ext e1,hm1,q1,λv H' z=>k v H' (z.back e1)⟩⟩
def nL:DA:=λ_ M Q=>Q [] M
def iM (ta:DE)(tr:DA):DA:=λρ M Q=>ta ρ M λx M1=>tr ρ M1 λxs M2=>Q (x::xs) M2
theorem aFO:PDA X [] nL:=aEz zU λσ H Q ⟨ρ,M,Q',re,hm,q,k⟩=>k [] H ⟨[],M,cL,hm,.refl H,q⟩
theorem aC0 (ha:PDE X e te)(hr:PDA X es t)(hs:starEach (e::es) X.env=(false,eval e X.env)::starEach es X.env:=by rfl):PDA X (e::es) (iM te t) :=
 aEz (rP ha hr hs) λσ H Q ⟨ρ,M,Q',re,hm,q,k⟩=>⟨ρ,M,_,re,hm,q,λx H1 ⟨dx,M1,rx,hm1,e1,q1⟩=>⟨ρ,M1,_,re.ext e1,hm1,q1,λxs H2 ⟨dxs,M2,rxs,hm2,e2,q2⟩ =>
  k _ H2 ⟨dx::dxs,M2,bN (rx.ext e2) rxs,hm2,e1.trans e2,q2⟩⟩⟩
def aIL (t:DA):DE:=λρ M Q=>t ρ M λxs M1=>xs.length<=1000/\Q (.tup xs) M1
def aJk (t:DA):DE:=λρ M Q=>t ρ M λxs M1=>xs.length<=1000/\∀p:Addr,M1 p=none->Q (.ref p) (bH M1 p xs)
theorem aKl {x1}(h:PDA X es t):PDE X (.Tuple es x1 pos) (aIL t) :=
 cH (aJR h) λσ H Q ⟨ρ,M,Q',re,hm,q,k⟩=>⟨ρ,M,_,re,hm,q,λxs H1 ⟨ds,M1,rs,hm1,e1,q1,q2⟩=>⟨by rw[<- rs.length];exact Nat.le_of_lt (eL q1),λp hp =>
  k _ _ ⟨.tup ds,M1,cM (.of cP) (rs.ext (Ext.new hp _)),hm1.new hp _,e1.trans (Ext.new hp _),q2⟩⟩⟩
theorem aJ4 (h:PDA X es t):PDE X (.List es pos) (aJk t) :=
 cH (aKu h) λσ H Q ⟨ρ,M,Q',re,hm,q,k⟩=>⟨ρ,M,_,re,hm,q,λxs H1 ⟨ds,M1,rs,hm1,e1,q1,q2⟩=>⟨by rw[<- rs.length];exact Nat.le_of_lt (eL q1),λp hp =>
  k _ _ ⟨.ref p,_,gJ,hm1.lnew hp rs,e1.trans (Ext.new hp _),q2 p (hm1.fresh hp)⟩⟩⟩
end
section
variable {X:Cx}{st:Stmt}{bI:List Stmt}{t u:DS}{e:Expr}{te:DE}{pos:Pos}
def aER:DS:=λE ρ M=>E.nx ρ M
def aIs (t u:DS):DS:=λE ρ M=>t { E with nx:=u E } ρ M
theorem aGi:nO X [] aER:=zJ aGQ λE σ H ⟨ρ,M,D,re,hm,q,k⟩=>k.nx σ H ⟨ρ,M,re,hm,.refl H,q⟩
theorem aD8 (h1:PDS X st t)(h2:nO X bI u):nO X (st::bI) (aIs t u) :=
 zJ (aBA h1 h2) λE σ H ⟨ρ,M,D,re,hm,q,k⟩=>⟨ρ,M,{ D with nx:=u D },re,hm,q,
  ⟨λσ' H' ⟨ρ',M',re',hm',ex,q'⟩=>⟨ρ',M',D,re',hm',q',k.at ex⟩,k.rt,k.bk,k.ct⟩⟩
theorem aGh (h1:PDS X st t):nO X [st] t:=aHn h1
def aEH (te:DE):DS:=λE ρ M=>te ρ M λ_ M1=>E.nx ρ M1
theorem aGb (he:PDE X e te)(hs:swapsWith e none pos.line X.env=pure false:=by rfl):PDS X (.Expr e pos) (aEH te) :=
 fX (aF9 he hs) λE σ H ⟨ρ,M,D,re,hm,q,k⟩=>⟨ρ,M,_,re,hm,q,λv H1 ⟨d,M1,rd,hm1,ex,q1⟩=>k.nx σ H1 ⟨ρ,M1,re.ext ex,hm1,ex,q1⟩⟩
def aI9 (te:DE):DS:=λE ρ M=>te ρ M E.rt
theorem aH9 (he:PDE X e te):PDS X (.Return (some e) pos) (aI9 te) :=
 fX (aIW he) λE σ H ⟨ρ,M,D,re,hm,q,k⟩=>⟨ρ,M,_,re,hm,q,k.rt⟩
def aKk (c:DT)(t u:DS):DS:=λE ρ M=>c ρ M λb M1=>if b=true then t E ρ M1 else u E ρ M1
theorem aLu {c:Expr}{a b:List Stmt}{tc:DT}(hc:PDT X c tc)(ha:nO X a t)(hb:nO X b u):PDS X (.If c a b pos) (aKk tc t u) :=
 fX (aLv hc ha hb) λE σ H ⟨ρ,M,D,re,hm,q,k⟩=>⟨ρ,M,_,re,hm,q,λb H1 ⟨M1,hm1,ex,q1⟩=>by
  cases b with
  |true=>exact⟨ρ,M1,D,re.ext ex,hm1,q1,k.at ex⟩
  |false=>exact⟨ρ,M1,D,re.ext ex,hm1,q1,k.at ex⟩⟩
def aBR:DS:=λ_ _ _=>False
theorem aEp:PDS X st aBR:=λ_ _ _ _ _ _ ⟨_,_,_,_,_,q,_⟩=>q.elim
end
section
variable {X:Cx}{pos:Pos}{e tg:Expr}{es:List Expr}{te:DE}
def gN (i:Nat):DG:=λd ρ M Q=>Q (ρ.set i (some d)) M
theorem aGk {i:Nat}{x:Str}(hN:X.N.Nodup)(hi:X.N[i]?=some x:=by rfl)(hx:Loc X.env.scope x:=by first|exact Or.inl rfl|exact Or.inr rfl)(hf:X.fn x=true∨X.env.scope.names.lookup x=some .local:=by first|exact .inl rfl|exact .inr rfl|assumption):PDG X (.Name x pos) (gN i) :=
 aAM (aGI (i:=i) hN hi hx hf) λv σ H Q ⟨d,ρ,M,Q',rd,re,hm,q,k⟩=>k _ H ⟨_,M,re.set rd i,hm,.refl H,q⟩
def gNl:DGs:=λds ρ M Q=>match ds with
 |[]=>Q ρ M
 |_=>False
def gCn (t:DG)(u:DGs):DGs:=λds ρ M Q=>match ds with
 |d::r=>t d ρ M λρ' M'=>u r ρ' M' Q
 |[]=>False
theorem aGo:aA0 X [] gNl:=aC6 aGG λv σ H Q ⟨ds,ρ,M,Q',rd,re,hm,q,k⟩=>by
 cases ds with
 |nil=>exact⟨bB rd,k σ H ⟨ρ,M,re,hm,.refl H,q⟩⟩
 |cons _ _=>exact q.elim
theorem aEd {t:DG}{u:DGs}(h1:PDG X e t)(h2:aA0 X es u)(hs:(assignEach (e::es) X.env).map (·.2)=assign e X.env::(assignEach es X.env).map (·.2):=by rfl):aA0 X (e::es) (gCn t u) :=
 aC6 (aFY h1 h2 hs) λv σ H Q ⟨ds,ρ,M,Q',rd,re,hm,q,k⟩=>by
  cases ds with
  |nil=>exact q.elim
  |cons d r =>
   obtain⟨x,xs,rfl,rx,rxs⟩:=aT rd;exact⟨x,xs,rfl,d,ρ,M,_,rx,re,hm,q,λσ' H' ⟨ρ',M',re',hm',ex,q'⟩=>⟨r,ρ',M',Q',rxs.ext ex,re',hm',q',λσ2 H2 z=>k σ2 H2 (z.back ex)⟩⟩
def gT (n:Nat)(t:DGs):DG:=λd ρ M Q=>match d with
 |.tup ds=>ds.length=n/\t ds ρ M Q
 |_=>False
theorem aIp {k:Nat}{t:DGs}{n:Nat}(hc:X.calm=true)(h:aA0 X es t)(hn:(assignEach es X.env).length=n:=by rfl)(hst:(assignEach es X.env).findIdx? (·.1)=none:=by rfl):PDG X (.Tuple es k pos) (gT n t) :=
 aAM (aKp hc h hn hst) λv σ H Q ⟨d,ρ,M,Q',rd,re,hm,q,k⟩=>by
  cases d with
  |tup ds =>
   obtain⟨a,xs,rfl,sq,rs⟩:=bE rd;exact⟨a,xs,rfl,sq,by rw[<- rs.length];exact q.1,ds,ρ,M,Q',rs,re,hm,q.2,k⟩
  |_=>exact q.elim
def aDP (te:DE)(g:DG):DS:=λE ρ M=>te ρ M λx M1=>g x ρ M1 E.nx
theorem aGH {g:DG}{σ:L2.St}{H:Hp}{E:wZ}(h:aDr X.K (aDP te g) E σ H):low X.K te σ H λx H1=>tG X.K g x σ H1 E.nx:=by obtain⟨ρ,M,D,re,hm,q,k⟩:=h;exact⟨ρ,M,_,re,hm,q,λv H1 ⟨d,M1,rd,hm1,ex,q1⟩=>⟨d,ρ,M1,_,rd,re.ext ex,hm1,q1,λσ' H' z=>k.nx σ' H' (z.back ex)⟩⟩
theorem aIw {g:DG}(he:PDE X e te)(hg:PDG X tg g)(hs:swapsWithSole [tg] e pos.line X.env=pure false:=by rfl)(hw:swappedStores [tg] e X.env=pure none:=by rfl)(h1:(assignEach [tg] X.env).map (·.2)=[assign tg X.env]:=by rfl):PDS X (.Assign [tg] e pos) (aDP te g) :=
 fX (aJZ he hg hs hw h1) λE σ H h=>aGH h
theorem aJa {i:Nat}{x:Str}{pos':Pos}(hN:X.N.Nodup)(he:PDE X e te)(hi:X.N[i]?=some x:=by rfl)(hx:Loc X.env.scope x:=by first|exact Or.inl rfl|exact Or.inr rfl)(hs:swapsWith e (some (.Name x pos')) pos.line X.env=pure false:=by rfl)(hf:X.fn x=true∨X.env.scope.names.lookup x=some .local:=by first|exact .inl rfl|exact .inr rfl|assumption) :
  PDS X (.Assign [.Name x pos'] e pos) (aDP te (gN i)) :=
 fX (aIX (i:=i) hN hi hx he hs hf) λE σ H ⟨ρ,M,D,re,hm,q,k⟩=>⟨ρ,M,_,re,hm,q,λv H1 ⟨d,M1,rd,hm1,ex,q1⟩=>k.nx _ H1 ⟨_,M1,(re.ext ex).set rd i,hm1,ex,q1⟩⟩
def aKR (i j:Nat)(ta:DA):DS:=λE ρ M=>ta ρ M λds M1=>match ds with
 |[x,y]=>E.nx ((ρ.set i (some x)).set j (some y)) M1
 |_=>False
theorem aJE {i j:Nat}{x y:Str}{a b:Expr}{ta:DA}{px py pt:Pos}{kt k2 pt2}(hc:X.calm=true)(hN:X.N.Nodup)(ha:PDA X [a,b] ta)(hi:X.N[i]?=some x:=by rfl)(hj:X.N[j]?=some y:=by rfl)(hij:i≠j:=by decide)(hx:X.env.scope.names.lookup x=some .local:=by rfl)(hy:X.env.scope.names.lookup y=some .local:=by rfl)(hw:swappedStores [.Tuple [.Name x px,.Name y py] kt pt] (.Tuple [a,b] k2 pt2) X.env=pure (some [x,y]):=by rfl)(hs:swapsWithSole [.Tuple [.Name x px,.Name y py] kt pt] (.Tuple [a,b] k2 pt2) pos.line X.env=pure false:=by rfl) :
  PDS X (.Assign [.Tuple [.Name x px,.Name y py] kt pt] (.Tuple [a,b] k2 pt2) pos) (aKR i j ta) :=
 fX (aKP (i:=i) (j:=j) hc hN hi hj hij hx hy ha hw hs) λE σ H ⟨ρ,M,D,re,hm,q,k⟩=>⟨ρ,M,_,re,hm,q,λvs H1 ⟨ds,M1,rs,hm1,ex,q1⟩=>by
  match ds,q1 with
  |[d1,d2],q1 =>
   obtain⟨v1,r1,rfl,rv1,rr1⟩:=aT rs;obtain⟨v2,r2,rfl,rv2,rr2⟩:=aT rr1;obtain rfl:=bB rr2;exact⟨v1,v2,rfl,k.nx _ H1 ⟨_,M1,((re.ext ex).set rv1 i).set rv2 j,hm1,ex,q1⟩⟩
  |[],q1=>exact q1.elim
  |[_],q1=>exact q1.elim
  |_::_::_::_,q1=>exact q1.elim⟩
def aF2 (to ti:DE):DG:=λd ρ M Q=>to ρ M λo M1=>ti ρ M1 λi M2=>match o,i with
 |.ref p,.int k=>∃ds j,M2 p=some ds/\ixN ds.length k=some j/\Q ρ (bH M2 p (ds.set j d))
 |_,_=>False
theorem aIC {o i:Expr}{to ti:DE}(ho:PDE X o to)(hi:PDE X i ti)(ha:∀v,assign (.Subscript o i pos) X.env v=(do
   let ov <- holding [v] (eval o X.env)
   let iv <- holding [v,ov] (eval i X.env)
   standAt pos
   holding [v,ov,iv] (setItem ov iv v)
   release [v,ov,iv] []):=by intro _;rfl):PDG X (.Subscript o i pos) (aF2 to ti) :=
 aAM (aE2 ho hi aEL ha) λv σ H Q ⟨d,ρ,M,Q',rd,re,hm,q,k⟩=>⟨ρ,M,_,re,hm,q,λov H1 ⟨dov,M1,rov,hm1,e1,q1⟩=>⟨ρ,M1,_,re.ext e1,hm1,q1,λiv H2 ⟨div,M2,riv,hm2,e2,q2⟩=>by
  cases dov with
  |ref p =>
   cases div with
   |int z =>
    obtain⟨ds,j,hp,hj,q2⟩:=q2;obtain rfl:=aX rov;obtain rfl:=aW riv;obtain⟨xs,hx,rs⟩:=hm2.l p ds hp;exact⟨p,xs,z,j,rfl,rfl,hx,by rw[<- rs.length];exact hj,k _ _ ⟨ρ,_,((re.ext e1).ext e2).ext (Ext.put hx _),hm2.put hx (rs.set ((rd.ext e1).ext e2) j),(e1.trans e2).trans (Ext.put hx _),q2⟩⟩
   |_=>exact q2.elim
  |_=>exact q2.elim⟩⟩
end
section
variable {X:Cx}{pos:Pos}
def aB3 (c:DT)(tb:DS):DS:=λE ρ M=>∃W:Nat->cJ->DM->Prop,(∃m,W m ρ M)/\∀m ρ M,W m ρ M ->
 c ρ M λb M1=>if b=true then tb { E with nx:=λρ' M'=>∃m',m'<m/\W m' ρ' M',ct:=λρ' M'=>∃m',m'<m/\W m' ρ' M',bk:=E.nx } ρ M1 else E.nx ρ M1
theorem aFT {c:Expr}{body:List Stmt}{tc:DT}{tb:DS}(hp:PassesOwn (model X.prog X.w) X.A X.env X.xe)(hc:PDT X c tc)(hb:nO X body tb):PDS X (.While c body [] pos) (aB3 tc tb) :=
 fX (aFB hp hc hb) λE σ H ⟨ρ,M,D,re,hm,⟨W,⟨m0,w0⟩,turn⟩,k⟩=>by
  refine⟨λm σ' H'=>∃ρ' M',fV X.K H' ρ' σ'/\bO X.K M' H'/\Ext H H'/\W m ρ' M',⟨m0,ρ,M,re,hm,.refl H,w0⟩,?_⟩;rintro m σ1 H1 ⟨ρ1,M1,re1,hm1,e1,w1⟩;refine⟨ρ1,M1,_,re1,hm1,turn m ρ1 M1 w1,λb H2 ⟨M2,hm2,e2,q2⟩=>?_⟩;cases b with
  |false=>exact k.nx σ1 H2 ⟨ρ1,M2,re1.ext e2,hm2,e1.trans e2,q2⟩
  |true =>
   refine⟨λσ' H'=>∃m',m'<m/\∃ρ' M',fV X.K H' ρ' σ'/\bO X.K M' H'/\Ext H H'/\W m' ρ' M',λσ' H' z=>z,?_⟩;refine⟨ρ1,M2,_,re1.ext e2,hm2,q2,?_⟩;have ex:=e1.trans e2;exact⟨λσ' H' ⟨ρ',M',a,b,c,m',l,d⟩=>⟨m',l,ρ',M',a,b,ex.trans c,d⟩,λv H' z=>k.rt v H' (z.back ex),λσ' H' z=>k.nx σ' H' (z.back ex),λσ' H' ⟨ρ',M',a,b,c,m',l,d⟩=>⟨m',l,ρ',M',a,b,ex.trans c,d⟩⟩
theorem tK {c:DT}{tb:DS}{E:iX}{ρ:cJ}{M:DM}(Pv:Nat->cJ->DM->Prop)(m0:Nat)(h0:Pv m0 ρ M)(hs:∀m ρ M,Pv m ρ M->c ρ M λb M1=>if b=true then tb { E with nx:=λρ' M'=>∃m',m'<m/\Pv m' ρ' M',ct:=λρ' M'=>∃m',m'<m/\Pv m' ρ' M',bk:=E.nx } ρ M1 else E.nx ρ M1):aB3 c tb E ρ M:=⟨Pv,⟨m0,h0⟩,hs⟩
def dIt (at':Option Addr)(ds:List D)(g:DG)(tb:DS):DS:=λE ρ M=>∃Pv:Nat->cJ->DM->Prop,Pv 0 ρ M /\
 (∀i ρ M,i<=ds.length->Pv i ρ M->∀a,at'=some a->M a=some ds) /\
 (∀i d ρ M,ds[i]?=some d->Pv i ρ M->g d ρ M λρ2 M2=>tb { E with nx:=Pv (i+1),ct:=Pv (i+1),bk:=E.nx } ρ2 M2)/\∀ρ M,Pv ds.length ρ M->E.nx ρ M
def aFQ (tl:DE)(g:DG)(tb:DS):DS:=λE ρ M=>tl ρ M λd M1=>match d with
 |.fz ds=>dIt none ds g tb E ρ M1
 |.ref a=>∃ds,M1 a=some ds/\dIt (some a) ds g tb E ρ M1
 |_=>False
variable {iter tg:Expr}{body:List Stmt}{tl:DE}{g:DG}{tb:DS}
theorem aHU {K:Frag}{a':Option Addr}{ds:List D}{E:wZ}{Dn:iX}{σ:L2.St}{ρ:cJ}{M:DM}{H0 H:Hp}{J:It}(ex0:Ext H0 H)(re:fV K H ρ σ)(hm:bO K M H)(k:pV K H0 Dn E)(h:dIt a' ds g tb Dn ρ M)(seq:∀H',Ext H H'->(∀M',bO K M' H'->(∀a,a'=some a->M' a=some ds)->∃xs,bK K H' ds xs/\(∀i,xs.length<=i->J.stop i H')/\(∀i,i<xs.length->J.go i H')/\∀i x H2,J.yld i H' x H2->H2=H'/\xs[i]?=some x)) :
  ∃W:Nat->Nat->L2.St->Hp->Prop,(∃m,W 0 m σ H)/\∀i m σ H,W i m σ H ->
   (J.stop i H/\E.nx σ H)∨(J.go i H/\∃N:L2.St->Hp->Prop,(∀σ' H',N σ' H'->∃m',m'<m/\W (i+1) m' σ' H')/\∀x H',J.yld i H x H'->tG K g x σ H' λσ2 H2=>aDr K tb { E with nx:=N,ct:=N,bk:=E.nx } σ2 H2):=by
 obtain⟨Pv,p0,hat,step,done⟩:=h;refine⟨λi m σ' H'=>∃ρ' M',fV K H' ρ' σ'/\bO K M' H'/\Ext H H'/\m=ds.length-i/\i<=ds.length/\Pv i ρ' M',⟨ds.length,ρ,M,re,hm,.refl H,rfl,Nat.zero_le _,p0⟩,?_⟩;rintro i m σ1 H1 ⟨ρ1,M1,re1,hm1,e1,rfl,hi,w1⟩;obtain⟨xs,rs,hst,hgo,hy⟩:=seq H1 e1 M1 hm1 (hat i ρ1 M1 hi w1);have hl:=rs.length;by_cases hlt:i<ds.length
 ·refine .inr ⟨hgo i (by omega),λσ' H'=>∃ρ' M',fV K H' ρ' σ'/\bO K M' H'/\Ext H H'/\Pv (i+1) ρ' M',λσ' H' ⟨ρ',M',a,b,c,d⟩=>⟨ds.length-(i+1),by omega,ρ',M',a,b,c,rfl,hlt,d⟩,λx H' y=>?_⟩;obtain⟨rfl,hx⟩:=hy i x H' y;obtain⟨d,hd,rd⟩:=rs.getV hx;refine⟨d,ρ1,M1,_,rd,re1,hm1,step i d ρ1 M1 hd w1,λσ2 H2 ⟨ρ2,M2,re2,hm2,e2,q2⟩=>⟨ρ2,M2,_,re2,hm2,q2,?_⟩⟩;have ex:=e1.trans e2;exact⟨λσ' H' ⟨ρ',M',a,b,c,d⟩=>⟨ρ',M',a,b,ex.trans c,d⟩,λv H' z=>k.rt v H' (z.back (ex0.trans ex)),λσ' H' z=>k.nx σ' H' (z.back (ex0.trans ex)),λσ' H' ⟨ρ',M',a,b,c,d⟩=>⟨ρ',M',a,b,ex.trans c,d⟩⟩
 ·have e:i=ds.length:=by omega
  subst e;exact .inl ⟨hst _ (by omega),k.nx σ1 H1 ⟨ρ1,M1,re1,hm1,ex0.trans e1,done ρ1 M1 w1⟩⟩
def aLi (lo:Int)(n:Nat)(g:DG)(tb:DS):DS:=λE ρ M=>∃Pv:Nat->cJ->DM->Prop,Pv 0 ρ M /\
 (∀i ρ M,i<n->Pv i ρ M->g (.int (lo+i)) ρ M λρ2 M2=>tb { E with nx:=Pv (i+1),ct:=Pv (i+1),bk:=E.nx } ρ2 M2)/\∀ρ M,Pv n ρ M->E.nx ρ M
def aFl (ta:DA)(g:DG)(tb:DS):DS:=λE ρ M=>ta ρ M λds M1=>match ds with
 |[.int j]=>(-(2^62)<=j/\j<2^62)/\aLi 0 j.toNat g tb E ρ M1
 |_=>False
theorem aIq {K:Frag}{lo:Int}{n:Nat}{E:wZ}{Dn:iX}{σ:L2.St}{ρ:cJ}{M:DM}{H0 H:Hp}(ex0:Ext H0 H)(re:fV K H ρ σ)(hm:bO K M H)(k:pV K H0 Dn E)(h:aLi lo n g tb Dn ρ M) :
  ∃W:Nat->Nat->L2.St->Hp->Prop,(∃m,W 0 m σ H)/\∀i m σ H,W i m σ H ->
   ((Itr lo n).stop i H/\E.nx σ H)∨((Itr lo n).go i H/\∃N:L2.St->Hp->Prop,(∀σ' H',N σ' H'->∃m',m'<m/\W (i+1) m' σ' H')/\∀x H',(Itr lo n).yld i H x H'->tG K g x σ H' λσ2 H2=>aDr K tb { E with nx:=N,ct:=N,bk:=E.nx } σ2 H2):=by
 obtain⟨Pv,p0,step,done⟩:=h;refine⟨λi m σ' H'=>∃ρ' M',fV K H' ρ' σ'/\bO K M' H'/\Ext H H'/\m=n-i/\i<=n/\Pv i ρ' M',⟨n,ρ,M,re,hm,.refl H,rfl,Nat.zero_le _,p0⟩,?_⟩;rintro i m σ1 H1 ⟨ρ1,M1,re1,hm1,e1,rfl,hi,w1⟩;by_cases hlt:i<n
 ·refine .inr ⟨hlt,λσ' H'=>∃ρ' M',fV K H' ρ' σ'/\bO K M' H'/\Ext H H'/\Pv (i+1) ρ' M',λσ' H' ⟨ρ',M',a,b,c,d⟩=>⟨n-(i+1),by omega,ρ',M',a,b,c,rfl,hlt,d⟩,λx H' y=>?_⟩;obtain⟨rfl,rfl⟩:=y;refine⟨_,ρ1,M1,_,cA,re1,hm1,step i ρ1 M1 hlt w1,λσ2 H2 ⟨ρ2,M2,re2,hm2,e2,q2⟩=>⟨ρ2,M2,_,re2,hm2,q2,?_⟩⟩;have ex:=e1.trans e2;exact⟨λσ' H' ⟨ρ',M',a,b,c,d⟩=>⟨ρ',M',a,b,ex.trans c,d⟩,λv H' z=>k.rt v H' (z.back (ex0.trans ex)),λσ' H' z=>k.nx σ' H' (z.back (ex0.trans ex)),λσ' H' ⟨ρ',M',a,b,c,d⟩=>⟨ρ',M',a,b,ex.trans c,d⟩⟩
 ·have e:i=n:=by omega
  subst e;exact .inl ⟨Nat.le_refl _,k.nx σ1 H1 ⟨ρ1,M1,re1,hm1,ex0.trans e1,done ρ1 M1 w1⟩⟩
end
section
variable {X:Cx}{pos:Pos}{iter tg:Expr}{body:List Stmt}{tl:DE}{g:DG}{tb:DS}{ta:DA}
theorem aGW (hp:PassesOwn (model X.prog X.w) X.A X.env X.xe)(hc:X.calm=true)(hi:PDE X iter tl)(hg:PDG X tg g)(hb:nO X body tb)(hs:∀x,foldedSetIterable iter X.env x=pure x:=by intro _;rfl):PDS X (.For tg iter body [] pos) (aFQ tl g tb) :=
 fX (aB6 hp hc (aAl hi) hg hb hs) λE σ H ⟨ρ,M,Dn,re,hm,q,k⟩=>⟨ρ,M,_,re,hm,q,λv H1 ⟨d,M1,rd,hm1,ex,q1⟩=>by
  cases d with
  |fz ds =>
   obtain⟨a,xs,rfl,sq,rs⟩:=nZ rd;exact⟨a,rfl,⟨xs,sq.sq⟩,aHU ex (re.ext ex) hm1 k q1 λH' e' M' hm' _=>⟨xs,rs.ext e',λi hi=>⟨xs,(iE e' sq).sq,hi⟩,λi hi=>⟨xs,xs[i],(iE e' sq).sq,by simp[hi]⟩,λi x H2 y=>⟨y.1,y.2 xs (iE e' sq).sq⟩⟩⟩
  |ref a =>
   obtain⟨ds,ha,q1⟩:=q1;obtain rfl:=aX rd;obtain⟨xs,hx,rs⟩:=hm1.l a ds ha;refine⟨a,rfl,⟨xs,.of hx⟩,aHU ex (re.ext ex) hm1 k q1 λH' e' M' hm' hat=>?_⟩;obtain⟨ys,hy,rs'⟩:=hm'.l a ds (hat a rfl);exact⟨ys,rs',λi hi=>⟨ys,.of hy,hi⟩,λi hi=>⟨ys,ys[i],.of hy,by simp[hi]⟩,λi x H2 y=>⟨y.1,y.2 ys (.of hy)⟩⟩
  |_=>exact q1.elim⟩
theorem aGc {a:Expr}{p pos':Pos}(hp:PassesOwn (model X.prog X.w) X.A X.env X.xe)(hc:X.calm = true)(hmg:X.mg "range" = none)(ha:PDA X [a] ta)(hg:PDG X tg g)(hb:nO X body tb)(hgl:Gl X "range":=by rfl)(hse:starEach [a] X.env=[(false,eval a X.env)]:=by rfl)(hs:∀x,foldedSetIterable (.Call (.Name "range" p) [a] [] pos') X.env x = pure x:=by intro _;rfl):PDS X (.For tg (.Call (.Name "range" p) [a] [] pos') body [] pos) (aFl ta g tb) :=
 fX (aB6 hp hc (tL hgl hmg ha hse) hg hb hs) λE σ H ⟨ρ,M,Dn,re,hm,q,k⟩=>⟨ρ,M,_,re,hm,q,λvs H1 ⟨ds,M1,rs,hm1,ex,q1⟩=>by
  rcases ds with _|⟨d,_|⟨d2,r⟩⟩
  ·exact q1.elim
  ·cases d with
   |int j =>
    obtain⟨⟨j1,j2⟩,q1⟩:=q1;obtain⟨v1,r1,rfl,rv1,rr1⟩:=aT rs;obtain rfl:=bB rr1;obtain rfl:=aW rv1;exact⟨j,rfl,j1,j2,aIq ex (re.ext ex) hm1 k q1⟩
   |_=>exact q1.elim
  ·cases d<;>exact q1.elim⟩
end
mutual
noncomputable def eqD:D->D->Bool
 |.tup xs,.tup ys=>iJ xs ys
 |.non,.non=>true
 |.bl a,.bl b=>a==b
 |.bl a,.int b=>(if a then 1 else 0)==b
 |.int a,.bl b=>a==(if b then 1 else 0)
 |.int a,.int b=>a==b
 |.str a,.str b=>a==b
 |_,_=>false
noncomputable def iJ:List D->List D->Bool
 |[],[]=>true
 |x::xs,y::ys=>eqD x y&&iJ xs ys
 |_,_=>false
end
noncomputable def bS:Nat->D->Bool
 |_,.ref _=>false
 |_,.fz _=>false
 |0,.tup _=>false
 |n+1,.tup ds=>ds.all (bS n)
 |_,_=>true
noncomputable def rQ:List D->List D->Nat->Bool
 |x::_,y::_,0=>eqD x y
 |_::xs,_::ys,j+1=>rQ xs ys j
 |_,_,_=>true
theorem wC (n:Nat)(e:Nat->Bool):(range (n+1)).all e=(e 0&&(range n).all λj=>e (j+1)):=by rw[List.range_succ_eq_map,all_cons,all_map];rfl
theorem gY:∀(xs ys:List D),iJ xs ys=((range (min xs.length ys.length)).all (rQ xs ys)&&xs.length==ys.length)
 |[],[]=>by simp[iJ]
 |[],_::_=>by simp[iJ]
 |_::_,[]=>by simp[iJ]
 |x::xs,y::ys=>by
  have ih:=gY xs ys;have e1:min (x::xs).length (y::ys).length=min xs.length ys.length+1:=by simp only[length_cons];omega
  have e2:((x::xs).length==(y::ys).length)=(xs.length==ys.length):=by simp
  rw[e1,e2,wC];show(eqD x y&&iJ xs ys)=((eqD x y&&(range (min xs.length ys.length)).all λj=>rQ xs ys j)&&xs.length==ys.length);rw[ih,Bool.and_assoc]
section
variable {X:Cx}{pins:List (Addr×Obj)}{σ:L2.St}{H:Hp}{s:Shared}
theorem yI {n:Nat}{d:D}(p:bS n d=true)(h:∀xs,d ≠ .tup xs):bS 0 d=true:=by
 cases d with
 |tup xs=>exact absurd rfl (h xs)
 |ref b=>cases n<;>exact absurd p Bool.false_ne_true
 |fz b=>cases n<;>exact absurd p Bool.false_ne_true
 |_=>rfl
theorem rO {d d':D}{v:V}(p:bS 0 d=true)(p':bS 0 d'=true)(r:Rep X.K H d v)(r':Rep X.K H d' v):eqD d d'=true:=by
 cases d<;>cases d'<;>first
  |(exact absurd p Bool.false_ne_true)
  |(exact absurd p' Bool.false_ne_true)
  |(unfold Rep at r r';subst r;cases r'<;>simp[eqD])
theorem vS {d:D}{a:Addr}(p:bS 0 d=true)(r:Rep X.K H d (.ref a)):False:=by
 cases d<;>first
  |(exact absurd p Bool.false_ne_true)
  |(unfold Rep at r;cases r)
theorem aBf {n:Nat}(ih:∀{d d':D}{v:V},bS n d=true->bS n d'=true->Rep X.K H d v->Rep X.K H d' v->eqD d d'=true) :
  ∀{xs ys:List D}{us:List V},xs.all (bS n)=true->ys.all (bS n)=true->bK X.K H xs us->bK X.K H ys us->iJ xs ys=true
 |[],[],_,_,_,_,_=>by simp[iJ]
 |[],_::_,_,_,_,r,r'=>by rw[bB r] at r';obtain⟨_,_,z,_⟩:=aT r';cases z
 |_::_,[],_,_,_,r,r'=>by rw[bB r'] at r;obtain⟨_,_,z,_⟩:=aT r;cases z
 |x::xs,y::ys,_,p1,p2,r,r'=>by obtain⟨v0,r0,rfl,h1,h2⟩:=aT r;obtain⟨v0',r0',e0,h1',h2'⟩:=aT r';cases e0;rw[all_cons,Bool.and_eq_true] at p1 p2;show(eqD x y&&iJ xs ys)=true;rw[ih p1.1 p2.1 h1 h1',aBf ih p1.2 p2.2 h2 h2'];rfl
theorem aC5 (I:Inv X pins σ H s):∀(n:Nat){d d':D} {v:V},bS n d=true->bS n d'=true->Rep X.K H d v->Rep X.K H d' v->eqD d d'=true:=by
 intro n
 induction n with
 |zero=>intro d d' v p p' r r';exact rO p p' r r'
 |succ n ih =>
  intro d d' v p p' r r';by_cases h1:∃xs,d=.tup xs
  ·obtain⟨xs,rfl⟩:=h1;obtain⟨a,us,rfl,sq,rs⟩:=bE r;by_cases h2:∃ys,d'=.tup ys
   ·obtain⟨ys,rfl⟩:=h2;obtain⟨a',us',e1',sq',rs'⟩:=bE r';cases e1';obtain rfl:=I.tuple_inj sq sq';exact aBf ih p p' rs rs'
   ·exact(vS (yI p' λxs e=>h2 ⟨xs,e⟩) r').elim
  ·have p0:=yI p λxs e=>h1 ⟨xs,e⟩;by_cases h2:∃ys,d'=.tup ys
   ·obtain⟨ys,rfl⟩:=h2;obtain⟨a',us',rfl,sq',rs'⟩:=bE r';exact(vS p0 r).elim
   ·exact rO p0 (yI p' λxs e=>h2 ⟨xs,e⟩) r r'
theorem gK (I:Inv X pins σ H s){a:Addr}{xs:List V}(sq:SqT X.K H a xs):∃its:List Value,bT xs its/\s.heap.IsTuple a its.toArray:=let ⟨its,r,p,_⟩:=I.tuple sq;⟨its,r,p⟩
theorem vG {d:D}{v:V}{n:Nat}(h:Rep X.K H d v)(p:bS 0 d=true):aD4 v=true:=by
 cases d with
 |non=>unfold Rep at h;subst h;rfl
 |bl b=>unfold Rep at h;subst h;rfl
 |int b=>unfold Rep at h;subst h;rfl
 |str b=>unfold Rep at h;subst h;rfl
 |tup b=>exact absurd p Bool.false_ne_true
 |ref b=>exact absurd p Bool.false_ne_true
 |fz b=>exact absurd p Bool.false_ne_true
theorem rX {A:Around}{n:Nat}(ih:∀{d d':D}{v v':V} {u u':Value},bS n d=true->bS n d'=true->Rep X.K H d v->Rep X.K H d' v'->bM v u->bM v' u'->SeqAt.EqAt A s u u' (eqD d d')) :
  ∀{xs ys:List D}{us us':List V} {its its':List Value},xs.all (bS n)=true->ys.all (bS n)=true->bK X.K H xs us->bK X.K H ys us'->bT us its->bT us' its'->∀j (h1:j<its.length) (h2:j<its'.length),SeqAt.EqAt A s its[j] its'[j] (rQ xs ys j)
 |[],ys,us,us',its,its',_,_,r1,_,v1,_,j,h1,_=>by rw[bB r1] at v1;cases v1;exact absurd h1 (Nat.not_lt_zero _)
 |_::_,[],us,us',its,its',_,_,_,r2,_,v2,j,_,h2=>by rw[bB r2] at v2;cases v2;exact absurd h2 (Nat.not_lt_zero _)
 |x::xs,y::ys,us,us',its,its',p1,p2,r1,r2,v1,v2,j,h1,h2=>by
  obtain⟨a,ra,rfl,ha,hra⟩:=aT r1;obtain⟨b,rb,rfl,hb,hrb⟩:=aT r2;rw[all_cons,Bool.and_eq_true] at p1 p2;cases v1 with
  |cons q1 w1 =>
   cases v2 with
   |cons q2 w2 =>
    cases j with
    |zero=>exact ih p1.1 p2.1 ha hb q1 q2
    |succ j=>exact rX ih p1.2 p2.2 hra hrb w1 w2 j (Nat.lt_of_succ_lt_succ h1) (Nat.lt_of_succ_lt_succ h2)
theorem aEm {d d':D}{v v':V}(p:bS 0 d=true)(p':bS 0 d'=true)(r:Rep X.K H d v)(r':Rep X.K H d' v'):eqV v v'=eqD d d':=by
 cases d<;>cases d'<;>first
  |(exact absurd p Bool.false_ne_true)
  |(exact absurd p' Bool.false_ne_true)
  |(unfold Rep at r r';subst r;subst r';simp[eqD,eqV])
theorem yC (I:Inv X pins σ H s):∀(n:Nat){A:Around} {d d':D} {v v':V} {u u':Value},A.units+n<cLine->bS n d=true->bS n d'=true->Rep X.K H d v->Rep X.K H d' v'->bM v u->bM v' u'->SeqAt.EqAt A s u u' (eqD d d'):=by
 intro n
 induction n with
 |zero =>
  intro A d d' v v' u u' hu p p' r r' q q';have:=aFq (A:=A) (s:=s) q q' (vG (n:=0) r p) (vG (n:=0) r' p');rw[aEm p p' r r'] at this;exact this
 |succ n ih =>
  intro A d d' v v' u u' hu p p' r r' q q';by_cases h1:∃xs,d=.tup xs
  ·obtain⟨xs,rfl⟩:=h1;obtain⟨a,us,rfl,sq,rs⟩:=bE r;obtain⟨its,rv,ht⟩:=gK I sq;cases q;by_cases h2:∃ys,d'=.tup ys
   ·obtain⟨ys,rfl⟩:=h2;obtain⟨a',us',rfl,sq',rs'⟩:=bE r';obtain⟨its',rv',ht'⟩:=gK I sq';cases q';by_cases hll:a=a'
    ·subst hll;rw[aC5 I (n+1) p p' r r'];exact SeqAt.EqAt.same _
    ·have e1:=rs.length;have e2:=rv.length;have e3:=rs'.length;have e4:=rv'.length;show SeqAt.EqAt A s (.ref a) (.ref a') (iJ xs ys);rw[gY,show xs.length=its.toArray.size by rw[size_toArray];omega,show ys.length=its'.toArray.size by rw[size_toArray];omega];refine SeqAt.EqAt.of_refs hll (SeqAt.RcAt.tuples ht ht' (by omega) λj j1 j2=>?_);have hu':A.in1.units+n<cLine:=by show A.units+1+n<cLine;omega
     have:=rX (A:=A.in1) (s:=s) (λ{d d' v v' u u'} p p' r r' q q'=>ih hu' p p' r r' q q') p p' rs rs' rv rv' j (by simpa using j1) (by simpa using j2);simpa using this
   ·have p0:=yI p' (λxs e=>h2 ⟨xs,e⟩);cases d' with
    |non=>rw[dS r'] at q';cases q';exact SeqAt.EqAt.tuple_none ht (by omega)
    |bl b=>rw[cD r'] at q';cases q';exact SeqAt.EqAt.tuple_bool b ht (by omega)
    |int b=>rw[aW r'] at q';obtain⟨t,rfl⟩:=q';exact SeqAt.EqAt.tuple_int b t ht (by omega)
    |str b=>rw[cZ r'] at q';obtain⟨t,rfl⟩:=q';exact SeqAt.EqAt.tuple_str b t ht (by omega)
    |tup b=>exact absurd p0 Bool.false_ne_true
    |ref b=>exact absurd p0 Bool.false_ne_true
    |fz b=>exact absurd p0 Bool.false_ne_true
  ·have p0:=yI p (λxs e=>h1 ⟨xs,e⟩);by_cases h2:∃ys,d'=.tup ys
   ·obtain⟨ys,rfl⟩:=h2;obtain⟨a',us',rfl,sq',rs'⟩:=bE r';obtain⟨its',rv',ht'⟩:=gK I sq';cases q';cases d with
    |non=>rw[dS r] at q;cases q;exact SeqAt.EqAt.none_tuple ht' (by omega)
    |bl b=>rw[cD r] at q;cases q;exact SeqAt.EqAt.bool_tuple b ht' (by omega)
    |int b=>rw[aW r] at q;obtain⟨t,rfl⟩:=q;exact SeqAt.EqAt.int_tuple b t ht' (by omega)
    |str b=>rw[cZ r] at q;obtain⟨t,rfl⟩:=q;exact SeqAt.EqAt.str_tuple b t ht' (by omega)
    |tup b=>exact absurd p0 Bool.false_ne_true
    |ref b=>exact absurd p0 Bool.false_ne_true
    |fz b=>exact absurd p0 Bool.false_ne_true
   ·have p0':=yI p' (λxs e=>h2 ⟨xs,e⟩);have:=aFq (A:=A) (s:=s) q q' (vG (n:=0) r p0) (vG (n:=0) r' p0');rw[aEm p0 p0' r r'] at this;exact this
theorem aLj (I:Inv X pins σ H s){A:Around}(hu:A.units+60<cLine){d d':D}{v v':V}{u u':Value}(p:bS 60 d=true)(p':bS 60 d'=true)(r:Rep X.K H d v)(r':Rep X.K H d' v')(q:bM v u)(q':bM v' u') :
  SeqAt.RcAt A s u u' (eqD d d')/\SeqAt.RcNeAt A s u u' (!eqD d d'):=by
 have hu0:A.units<cLine:=by omega
 cases d with
 |ref b=>exact absurd p Bool.false_ne_true
 |fz b=>exact absurd p Bool.false_ne_true
 |tup xs =>
  obtain⟨a,us,rfl,sq,rs⟩:=bE r;obtain⟨its,rv,ht⟩:=gK I sq;cases q;cases d' with
  |ref b=>exact absurd p' Bool.false_ne_true
  |fz b=>exact absurd p' Bool.false_ne_true
  |non=>rw[dS r'] at q';cases q';exact⟨SeqAt.RcAt.tuple_none ht hu0,SeqAt.RcNeAt.tuple_none ht hu0⟩
  |bl b=>rw[cD r'] at q';cases q';exact⟨SeqAt.RcAt.tuple_bool b ht hu0,SeqAt.RcNeAt.tuple_bool b ht hu0⟩
  |int b=>rw[aW r'] at q';obtain⟨t,rfl⟩:=q';exact⟨SeqAt.RcAt.tuple_int b t ht hu0,SeqAt.RcNeAt.tuple_int b t ht hu0⟩
  |str b=>rw[cZ r'] at q';obtain⟨t,rfl⟩:=q';exact⟨SeqAt.RcAt.tuple_str b t ht hu0,SeqAt.RcNeAt.tuple_str b t ht hu0⟩
  |tup ys =>
   obtain⟨a',us',rfl,sq',rs'⟩:=bE r';obtain⟨its',rv',ht'⟩:=gK I sq';cases q';have e1:=rs.length;have e2:=rv.length;have e3:=rs'.length;have e4:=rv'.length;have hit:∀j (h1:j<its.toArray.size) (h2:j<its'.toArray.size),SeqAt.EqAt A.in1 s its.toArray[j] its'.toArray[j] (rQ xs ys j):=λj j1 j2=>by
    have hu':A.in1.units+59<cLine:=by show A.units+1+59<cLine;omega
    have:=rX (A:=A.in1) (s:=s) (λ{d d' v v' u u'} p p' r r' q q'=>yC I 59 hu' p p' r r' q q') p p' rs rs' rv rv' j (by simpa using j1) (by simpa using j2);simpa using this
   have hz:eqD (.tup xs) (.tup ys)=((range (min its.toArray.size its'.toArray.size)).all (rQ xs ys)&&its.toArray.size==its'.toArray.size):=by show iJ xs ys=_;rw[gY,show xs.length=its.toArray.size by rw[size_toArray];omega,show ys.length=its'.toArray.size by rw[size_toArray];omega]
   rw[hz];exact⟨SeqAt.RcAt.tuples ht ht' hu0 hit,SeqAt.RcNeAt.tuples ht ht' hu0 hit⟩
 |non =>
  rw[dS r] at q;cases q;cases d' with
  |ref b=>exact absurd p' Bool.false_ne_true
  |fz b=>exact absurd p' Bool.false_ne_true
  |non=>rw[dS r'] at q';cases q';exact⟨SeqAt.RcAt.none_none,SeqAt.RcNeAt.none_none⟩
  |bl b=>rw[cD r'] at q';cases q';exact⟨SeqAt.RcAt.none_bool b,SeqAt.RcNeAt.none_bool b⟩
  |int b=>rw[aW r'] at q';obtain⟨t,rfl⟩:=q';exact⟨SeqAt.RcAt.none_int b t,SeqAt.RcNeAt.none_int b t⟩
  |str b=>rw[cZ r'] at q';obtain⟨t,rfl⟩:=q';exact⟨SeqAt.RcAt.none_str b t,SeqAt.RcNeAt.none_str b t⟩
  |tup ys =>
   obtain⟨a',us',rfl,sq',rs'⟩:=bE r';obtain⟨its',rv',ht'⟩:=gK I sq';cases q';exact⟨SeqAt.RcAt.none_tuple ht' hu0,SeqAt.RcNeAt.none_tuple ht' hu0⟩
 |bl z =>
  rw[cD r] at q;cases q;cases d' with
  |ref b=>exact absurd p' Bool.false_ne_true
  |fz b=>exact absurd p' Bool.false_ne_true
  |non=>rw[dS r'] at q';cases q';exact⟨SeqAt.RcAt.bool_none z,SeqAt.RcNeAt.bool_none z⟩
  |bl b=>rw[cD r'] at q';cases q';exact⟨SeqAt.RcAt.bool_bool z b,SeqAt.RcNeAt.bool_bool z b⟩
  |int b=>rw[aW r'] at q';obtain⟨t,rfl⟩:=q';exact⟨SeqAt.RcAt.bool_int z b t,SeqAt.RcNeAt.bool_int z b t⟩
  |str b=>rw[cZ r'] at q';obtain⟨t,rfl⟩:=q';exact⟨SeqAt.RcAt.bool_str z b t,SeqAt.RcNeAt.bool_str z b t⟩
  |tup ys =>
   obtain⟨a',us',rfl,sq',rs'⟩:=bE r';obtain⟨its',rv',ht'⟩:=gK I sq';cases q';exact⟨SeqAt.RcAt.bool_tuple z ht' hu0,SeqAt.RcNeAt.bool_tuple z ht' hu0⟩
 |int z =>
  rw[aW r] at q;obtain⟨tz,rfl⟩:=q;cases d' with
  |ref b=>exact absurd p' Bool.false_ne_true
  |fz b=>exact absurd p' Bool.false_ne_true
  |non=>rw[dS r'] at q';cases q';exact⟨SeqAt.RcAt.int_none z tz,SeqAt.RcNeAt.int_none z tz⟩
  |bl b=>rw[cD r'] at q';cases q';exact⟨SeqAt.RcAt.int_bool z tz b,SeqAt.RcNeAt.int_bool z tz b⟩
  |int b=>rw[aW r'] at q';obtain⟨t,rfl⟩:=q';exact⟨SeqAt.RcAt.int_int z tz b t,SeqAt.RcNeAt.int_int z tz b t⟩
  |str b=>rw[cZ r'] at q';obtain⟨t,rfl⟩:=q';exact⟨SeqAt.RcAt.int_str z tz b t,SeqAt.RcNeAt.int_str z tz b t⟩
  |tup ys =>
   obtain⟨a',us',rfl,sq',rs'⟩:=bE r';obtain⟨its',rv',ht'⟩:=gK I sq';cases q';exact⟨SeqAt.RcAt.int_tuple z tz ht' hu0,SeqAt.RcNeAt.int_tuple z tz ht' hu0⟩
 |str z =>
  rw[cZ r] at q;obtain⟨tz,rfl⟩:=q;cases d' with
  |ref b=>exact absurd p' Bool.false_ne_true
  |fz b=>exact absurd p' Bool.false_ne_true
  |non=>rw[dS r'] at q';cases q';exact⟨SeqAt.RcAt.str_none z tz,SeqAt.RcNeAt.str_none z tz⟩
  |bl b=>rw[cD r'] at q';cases q';exact⟨SeqAt.RcAt.str_bool z tz b,SeqAt.RcNeAt.str_bool z tz b⟩
  |int b=>rw[aW r'] at q';obtain⟨t,rfl⟩:=q';exact⟨SeqAt.RcAt.str_int z tz b t,SeqAt.RcNeAt.str_int z tz b t⟩
  |str b=>rw[cZ r'] at q';obtain⟨t,rfl⟩:=q';exact⟨SeqAt.RcAt.str_str z tz b t,SeqAt.RcNeAt.str_str z tz b t⟩
  |tup ys =>
   obtain⟨a',us',rfl,sq',rs'⟩:=bE r';obtain⟨its',rv',ht'⟩:=gK I sq';cases q';exact⟨SeqAt.RcAt.str_tuple z tz ht' hu0,SeqAt.RcNeAt.str_tuple z tz ht' hu0⟩
end
section
variable {X:Cx}{a b e o:Expr}{es:List Expr}{ta tb te to:DE}{t:DA}{pos:Pos}
def d2I (C:Int->Int->Prop)(g:Int->Int->D):D2:=λx y M Q=>match x,y with
 |.int i,.int j=>C i j/\Q (g i j) M
 |_,_=>False
def d2J (g:Int->Int->D):D2:=λx y M Q=>match x,y with
 |.int i,.int j=>Q (g i j) M
 |_,_=>False
theorem aGK {f:Value->Value->Sem Value}{C:Int->Int->Prop}{g:Int->Int->D}{g':Int->Int->V}(h:OpR X f (rI C g'))(hg:∀H i j,Rep X.K H (g i j) (g' i j)):OpD X f (d2I C g) :=
 OpD.of h λx y H M dx dy Q rx ry hm q=>by
  cases dx with
  |int i =>
   cases dy with
   |int j=>exact⟨i,j,aW rx,aW ry,q.1,_,M,hg H i j,hm,.refl H,q.2⟩
   |_=>exact q.elim
  |_=>exact q.elim
theorem aFw {f:Value->Value->Sem Value}{g:Int->Int->D}{g':Int->Int->V}(h:OpR X f (rI0 g'))(hg:∀H i j,Rep X.K H (g i j) (g' i j)):OpD X f (d2J g) :=
 OpD.of h λx y H M dx dy Q rx ry hm q=>by
  cases dx with
  |int i =>
   cases dy with
   |int j=>exact⟨i,j,aW rx,aW ry,_,M,hg H i j,hm,.refl H,q⟩
   |_=>exact q.elim
  |_=>exact q.elim
theorem lP:OpD X (binaryOp .Sub) (d2J λi j=>.int (i-j)):=aFw aIK λ_ _ _=>cA
theorem aGZ:OpR X (binaryOp .Mult) (rI IntMulOk λi j=>.int (i*j)):=opI λ_ _ _ _ _ _ _ hc q=>mul_int q hc
theorem bW:OpD X (binaryOp .Mult) (d2I IntMulOk λi j=>.int (i*j)):=aGK aGZ λ_ _ _=>cA
def CFd (i j:Int):Prop:=j≠0/\j.natAbs.log2<9000
theorem aIE:OpR X (binaryOp .FloorDiv) (rI CFd λi j=>.int (i.fdiv j)):=opI λ_ _ _ _ _ _ _ hc q=>floordiv_int hc.1 q (.inl (PyProof.noPylong_of_log2 hc.2))
theorem eQ:OpD X (binaryOp .FloorDiv) (d2I CFd λi j=>.int (i.fdiv j)):=aGK aIE λ_ _ _=>cA
theorem mS:OpD X (binaryOp .Mod) (d2I (λ_ j=>j≠0) λi j=>.int (i.fmod j)):=aGK aGr λ_ _ _=>cA
theorem aD2:OpD X (binaryOp .Pow) (d2I aK4 λi j=>.int (i^j.toNat)):=aGK aJX λ_ _ _=>cA
theorem uK:OpD X (compareOp .Lt) (d2J λi j=>.bl (decide (i<j))):=aFw aK5 λ_ _ _=>dR
theorem aHZ:OpD X (compareOp .LtE) (d2J λi j=>.bl (decide (i<=j))):=aFw aLS λ_ _ _=>dR
theorem aAT:OpD X (compareOp .Gt) (d2J λi j=>.bl (decide (j<i))):=aFw aLI λ_ _ _=>dR
theorem yP:OpD X (compareOp .GtE) (d2J λi j=>.bl (decide (j<=i))):=aFw aLF λ_ _ _=>dR
def aMz:D2:=λx y M Q=>match x,y with
 |.int i,.int j=>Q (.int (i+j)) M
 |.ref a,.ref b=>∃xs ys,M a=some xs/\M b=some ys/\xs.length+ys.length<=1000/\∀p:Addr,M p=none->Q (.ref p) (bH M p (xs++ys))
 |.fz xs,.ref b=>∃ys,M b=some ys/\xs.length+ys.length<=1000/\∀p:Addr,M p=none->Q (.ref p) (bH M p (xs++ys))
 |.tup xs,.tup ys=>xs≠[]/\ys≠[]/\xs.length+ys.length<=1000/\Q (.tup (xs++ys)) M
 |_,_=>False
theorem aEZ {pins:List (Addr×Obj)}{σ:L2.St}{H:Hp}{s:Shared}(I:Inv X pins σ H s){a:Addr}{xs:List V}(h:SqX X.K H a xs):xs.length<=sizeLine/\∃(its:List Value)(n:Nat),bT xs its/\s.heap.get? a = some { cls:=.type "list",data:=.seq its.toArray n }:=by
 rcases h with⟨o,h⟩|⟨its,n,hk,hz,r⟩
 ·obtain⟨_,z,its,n,r,e⟩:=I.hok a _ h;exact⟨z,its,n,r,e⟩
 ·have e:=r.length;simp only[Array.length_toList] at e;exact⟨by omega,its.toList,n,r,by simpa using I.kIn a _ hk⟩
theorem eD:OpD X (binaryOp .Add) aMz:=by
 intro pins s σ H x y v u Q I rx ry ⟨dx,dy,M,Q',r1,r2,hm,q,k⟩;cases dx with
 |int i =>
  cases dy with
  |int j=>exact aJO pins s σ H x y v u Q I rx ry ⟨i,j,aW r1,aW r2,k _ H ⟨_,M,cA,hm,.refl H,q⟩⟩
  |_=>exact q.elim
 |ref a =>
  cases dy with
  |ref b =>
   obtain⟨xs,ys,ha,hb,hl,q⟩:=q;obtain⟨us,hu,ru⟩:=hm.l a xs ha;obtain⟨ws,hw,rw'⟩:=hm.l b ys hb;refine aKd pins s σ H x y v u Q I rx ry ⟨a,b,us,ws,aX r1,aX r2,hu,hw,?_,λp hp=>k _ _ ⟨.ref p,_,gJ,hm.lnew hp (ru.append rw'),Ext.new hp _,q p (hm.fresh hp)⟩⟩;rw[<- ru.length,<- rw'.length];exact Nat.le_of_lt (eL hl)
  |_=>exact q.elim
 |fz xs =>
  cases dy with
  |ref b =>
   obtain⟨ys,hb,hl,q⟩:=q;obtain⟨a,us,rfl,sq,ru⟩:=nZ r1;obtain⟨ws,hw,rw'⟩:=hm.l b ys hb;obtain rfl:=aX r2;cases rx;cases ry;obtain⟨z,its,n,r,e⟩:=aEZ I sq;obtain⟨z2,its2,n2,r3,hl2,e2⟩:=I.lstM hw;have l1:=r.length;have l2:=r3.length;have l3:=ru.length;have l4:=rw'.length;have hz:=eL hl;refine PySem.P.add_list e e2 ?_ (by rw[size_toArray,size_toArray];omega);have ea:its.toArray++its2.toArray=(its++its2).toArray:=by simp
   rw[ea];refine⟨.ref _,_,I.lnew (t':=s.toks) (r.append r3) (by rw[length_append];omega),rfl,k _ _ ⟨.ref _,_,gJ,hm.lnew I.fresh (ru.append rw'),Ext.new I.fresh _,q _ (hm.fresh I.fresh)⟩⟩
  |_=>exact q.elim
 |tup xs =>
  cases dy with
  |tup ys =>
   obtain⟨h1,h2,hl,q⟩:=q;obtain⟨a,us,rfl,sq,ru⟩:=bE r1;obtain⟨b,ws,rfl,sq2,rw'⟩:=bE r2;have l3:=ru.length;have l4:=rw'.length;refine aCy pins s σ H _ _ v u Q I rx ry ?_;have n1:us≠[]:=λz=>by rw[z] at l3;exact h1 (List.length_eq_zero_iff.mp l3)
   have n2:ws≠[]:=λz=>by rw[z] at l4;exact h2 (List.length_eq_zero_iff.mp l4)
   exact⟨a,b,us,ws,rfl,rfl,sq,sq2,n1,by rw[<- l3,<- l4];exact Nat.le_of_lt (eL hl),λz=>absurd z n2,λ_ p hp=>k _ _ ⟨.tup _,M,cM (.of cP) ((ru.append rw').ext (Ext.new hp _)),hm.new hp _,Ext.new hp _,q⟩⟩
  |_=>exact q.elim
 |_=>exact q.elim
def dEq (g:Bool->Bool):D2:=λx y M Q=>match x,y with
 |.ref a,.ref b=>∃xs ys,M a=some xs/\M b=some ys/\(a≠b)/\xs.all (bS 59)=true/\ys.all (bS 59)=true/\Q (.bl (g (iJ xs ys))) M
 |x,y=>bS 60 x=true/\bS 60 y=true/\Q (.bl (g (eqD x y))) M
theorem aFF {pins:List (Addr×Obj)}{σ:L2.St}{H:Hp}{s:Shared}(I:Inv X pins σ H s){A:Around}(hu:A.units+60<cLine){a b:Addr}{us ws:List V}{xs ys:List D}(ha:H a=some (.lst us))(hb:H b=some (.lst ws))(ru:bK X.K H xs us)(rw':bK X.K H ys ws)(p:xs.all (bS 59)=true)(p':ys.all (bS 59)=true):SeqAt.RcAt A s (.ref a) (.ref b) (iJ xs ys)/\SeqAt.RcNeAt A s (.ref a) (.ref b) (!iJ xs ys):=by
 obtain⟨z,its,n,r,hl,e⟩:=I.lstM ha;obtain⟨z2,its2,n2,r3,hl2,e2⟩:=I.lstM hb;have i1:s.heap.IsList a its.toArray:=⟨_,e,rfl,_,rfl⟩;have i2:s.heap.IsList b its2.toArray:=⟨_,e2,rfl,_,rfl⟩;have l3:=ru.length;have l4:=rw'.length;have hu0:A.units<cLine:=by omega
 by_cases hz:its.toArray.size=its2.toArray.size
 ·have hz':=hz;rw[size_toArray,size_toArray] at hz';have hit:∀j (h1:j<its.toArray.size) (h2:j<its2.toArray.size),SeqAt.EqAt A.in1 s its.toArray[j] its2.toArray[j] (rQ xs ys j):=λj j1 j2=>by
   have hu':A.in1.units+59<cLine:=by show A.units+1+59<cLine;omega
   have:=rX (A:=A.in1) (s:=s) (λ{d d' v v' u u'} p p' r r' q q'=>yC I 59 hu' p p' r r' q q') p p' ru rw' r r3 j (by simpa using j1) (by simpa using j2);simpa using this
  have hz2:iJ xs ys=(range its.toArray.size).all (rQ xs ys):=by rw[gY,show min xs.length ys.length=its.toArray.size by rw[size_toArray];omega,show(xs.length==ys.length)=true by simp;omega,Bool.and_true]
  rw[hz2];exact⟨SeqAt.RcAt.lists i1 i2 hz hu0 hit,SeqAt.RcNeAt.lists i1 i2 hz hu0 hit⟩
 ·have hz':=hz;rw[size_toArray,size_toArray] at hz';have hz2:iJ xs ys=false:=by rw[gY,show(xs.length==ys.length)=false by simp;omega,Bool.and_false]
  rw[hz2];exact⟨SeqAt.RcAt.lists_lengths i1 i2 (by simpa using hz) hu0,SeqAt.RcNeAt.lists_lengths i1 i2 (by simpa using hz) hu0⟩
theorem aEw (hu:X.A.units+60<cLine):OpD X (compareOp .Eq) (dEq id)/\OpD X (compareOp .NotEq) (dEq not):=by
 have key:∀{pins:List (Addr×Obj)}{s:Shared} {σ:L2.St} {H:Hp} {x y:V} {v u:Value} {dx dy:D} {M:DM} {Q':DQ} {g:Bool->Bool},Inv X pins σ H s->bM x v->bM y u->Rep X.K H dx x->Rep X.K H dy y->bO X.K M H->dEq g dx dy M Q' ->
   ∃b,SeqAt.RcAt X.A s v u b/\SeqAt.RcNeAt X.A s v u (!b)/\Q' (.bl (g b)) M:=by
  intro pins s σ H x y v u dx dy M Q' g I rx ry r1 r2 hm q;have gen:bS 60 dx=true->bS 60 dy=true->Q' (.bl (g (eqD dx dy))) M->∃b,SeqAt.RcAt X.A s v u b/\SeqAt.RcNeAt X.A s v u (!b)/\Q' (.bl (g b)) M:=λp p' q=>let ⟨h1,h2⟩:=aLj I hu p p' r1 r2 rx ry;⟨_,h1,h2,q⟩
  cases dx with
  |ref a =>
   cases dy with
   |ref b =>
    obtain⟨xs,ys,ha,hb,_,p,p',q⟩:=q;obtain⟨us,hu',ru⟩:=hm.l a xs ha;obtain⟨ws,hw,rw'⟩:=hm.l b ys hb;obtain rfl:=aX r1;obtain rfl:=aX r2;cases rx;cases ry;obtain⟨h1,h2⟩:=aFF I hu hu' hw ru rw' p p';exact⟨_,h1,h2,q⟩
   |_=>exact gen q.1 q.2.1 q.2.2
  |_=>exact gen q.1 q.2.1 q.2.2
 refine⟨λpins s σ H x y v u Q I rx ry ⟨dx,dy,M,Q',r1,r2,hm,q,k⟩=>?_,λpins s σ H x y v u Q I rx ry ⟨dx,dy,M,Q',r1,r2,hm,q,k⟩=>?_⟩
 ·obtain⟨b,h1,_,q⟩:=key I rx ry r1 r2 hm q;exact h1 X.prog X.w X.xe _ ⟨.bl b,H,I,rfl,k _ H ⟨.bl b,M,dR,hm,.refl H,q⟩⟩
 ·obtain⟨b,_,h2,q⟩:=key I rx ry r1 r2 hm q;exact h2 X.prog X.w X.xe _ ⟨.bl (!b),H,I,rfl,k _ H ⟨.bl (!b),M,dR,hm,.refl H,q⟩⟩
theorem bR {k:Nat}(hr:cQ k X.A):OpD X (compareOp .Eq) (dEq id):=(aEw (by have:=hr.un;omega)).1
theorem nJ {k:Nat}(hr:cQ k X.A):OpD X (compareOp .NotEq) (dEq not):=(aEw (by have:=hr.un;omega)).2
def aIz (ta:DE):DE:=λρ M Q=>ta ρ M λx M1=>match x with
 |.int i=>Q (.int (-i)) M1
 |_=>False
theorem aJ6 (ha:PDE X a ta):PDE X (.UnaryOp .USub a pos) (aIz ta) :=
 cH (aLr aH8 ha) λσ H Q ⟨ρ,M,Q',re,hm,q,k⟩=>⟨ρ,M,_,re,hm,q,λx H1 ⟨d,M1,rd,hm1,ex,q1⟩=>by
  cases d with
  |int i=>exact⟨i,aW rd,k _ H1 ⟨_,M1,cA,hm1,ex,q1⟩⟩
  |_=>exact q1.elim⟩
def jC:D2:=λx y M Q=>match x,y with
 |.tup ds,.int i=>match atI ds i with
  |some d=>Q d M
  |none=>False
 |.fz ds,.int i=>match atI ds i with
  |some d=>Q d M
  |none=>False
 |.ref a,.int i=>∃ds d,M a=some ds/\atI ds i=some d/\Q d M
 |_,_=>False
theorem vP {K:Frag}{H:Hp}{ds:List D}{xs:List V}{i:Int}{d:D}(r:bK K H ds xs)(h:atI ds i=some d):∃v,atI xs i=some v/\Rep K H d v:=by
 unfold atI at h ⊢;rw[<- r.length];cases e:ixN ds.length i with
 |none=>rw[e] at h;cases h
 |some j =>
  rw[e] at h;exact r.get h
theorem ixd:IxR X λx y H Q=>∃dx dy M Q',Rep X.K H dx x/\Rep X.K H dy y/\bO X.K M H/\jC dx dy M Q'/\∀v H',LQ X.K H Q' v H'->Q v H':=by
 intro value slice pins s σ H x y v u Q I rx ry ⟨dx,dy,M,Q',r1,r2,hm,q,k⟩ hs;cases dx with
 |tup ds =>
  cases dy with
  |int i =>
   obtain⟨a,us,rfl,sq,ru⟩:=bE r1;obtain rfl:=aW r2;cases e:atI ds i with
   |none=>exact absurd q (by show ¬(match atI ds i with|some d=>Q' d M|none=>False);rw[e];exact id)
   |some d =>
    have q':Q' d M:=by have z:(match atI ds i with|some d=>Q' d M|none=>False):=q;rw[e] at z;exact z
    obtain⟨w,hw,rw'⟩:=vP ru e;exact aJu value slice pins s σ H _ _ v u Q I rx ry ⟨a,us,i,w,rfl,rfl,sq,hw,k _ H ⟨d,M,rw',hm,.refl H,q'⟩⟩ hs
  |_=>exact q.elim
 |fz ds =>
  cases dy with
  |int i =>
   obtain⟨a,us,rfl,sq,ru⟩:=nZ r1;obtain rfl:=aW r2;cases e:atI ds i with
   |none=>exact absurd q (by show ¬(match atI ds i with|some d=>Q' d M|none=>False);rw[e];exact id)
   |some d =>
    have q':Q' d M:=by have z:(match atI ds i with|some d=>Q' d M|none=>False):=q;rw[e] at z;exact z
    obtain⟨w,hw,rw'⟩:=vP ru e;exact aCC value slice pins s σ H _ _ v u Q I rx ry ⟨a,us,i,w,rfl,rfl,sq.sq,hw,k _ H ⟨d,M,rw',hm,.refl H,q'⟩⟩ hs
  |_=>exact q.elim
 |ref a =>
  cases dy with
  |int i =>
   obtain⟨ds,d,ha,e,q'⟩:=q;obtain rfl:=aX r1;obtain rfl:=aW r2;obtain⟨us,hu,ru⟩:=hm.l a ds ha;obtain⟨w,hw,rw'⟩:=vP ru e;exact aCC value slice pins s σ H _ _ v u Q I rx ry ⟨a,us,i,w,rfl,rfl,.of hu,hw,k _ H ⟨d,M,rw',hm,.refl H,q'⟩⟩ hs
  |_=>exact q.elim
 |_=>exact q.elim
theorem aLD (ha:PDE X a ta)(hb:PDE X b tb)(hs:qY b:=by exact λ_ _=>rfl):PDE X (.Subscript a b pos) (dOp jC ta tb) :=
 cH (aLL ixd ha hb hs) λσ H Q h=>aAE (λ_ _ _ _ z=>z) h
abbrev DO:=cJ->DM->(Option Int->DM->Prop)->Prop
def aAH (K:Frag)(t:DO):TO:=λσ H Q=>∃ρ M Q',fV K H ρ σ/\bO K M H/\t ρ M Q'/\∀i H',(∃M',bO K M' H'/\Ext H H'/\Q' i M')->Q i H'
noncomputable def aJz:DO:=λ_ M Q=>Q none M
noncomputable def dPt (t:DE):DO:=λρ M Q=>t ρ M λx M1=>match x with
 |.int i=>Q (some i) M1
 |_=>False
theorem aGs:PO X none (aAH X.K aJz):=λpins s σ H Q I ⟨ρ,M,Q',re,hm,q,k⟩=>aGf pins s σ H Q I (k none H ⟨M,hm,.refl H,q⟩)
theorem aG4 (h:PDE X e te):PO X (some e) (aAH X.K (dPt te)):=λpins s σ H Q I ⟨ρ,M,Q',re,hm,q,k⟩=>aGV h pins s σ H Q I ⟨ρ,M,_,re,hm,q,λv H1 ⟨d,M1,rd,hm1,ex,q1⟩=>by
 cases d with
 |int i=>exact⟨i,aW rd,k (some i) H1 ⟨M1,hm1,ex,q1⟩⟩
 |_=>exact q1.elim⟩
noncomputable def cutD (xs:List D)(lo hi:Option Int):List D:=(xs.drop (HT.sIx xs.length 0 lo)).take (HT.sIx xs.length xs.length hi-HT.sIx xs.length 0 lo)
theorem xD {K:Frag}{H:Hp}{ds:List D}{xs:List V}(r:bK K H ds xs)(lo hi:Option Int):bK K H (cutD ds lo hi) (aBF xs lo hi):=by unfold cutD aBF;rw[r.length];exact(r.drop _).take _
def aL6 (x:D)(lo hi:Option Int)(M:DM)(Q:DQ):Prop:=match x with
 |.fz ds=>∀p:Addr,M p=none->Q (.ref p) (bH M p (cutD ds lo hi))
 |.ref a=>∃ds,M a=some ds/\∀p:Addr,M p=none->Q (.ref p) (bH M p (cutD ds lo hi))
 |_=>False
def dSl (te:DE)(tl th:DO):DE:=λρ M Q=>te ρ M λx M1=>tl ρ M1 λl M2=>th ρ M2 λh M3=>aL6 x l h M3 Q
variable {lo hi:Option Expr}{tl th:DO}{p2:Pos}
theorem aE1 (he:PDE X e te)(hl:PO X lo (aAH X.K tl))(hu:PO X hi (aAH X.K th)):PDE X (.Subscript e (.Slice lo hi none p2) pos) (dSl te tl th) :=
 cH (aBn aHx he hl hu) λσ H Q ⟨ρ,M,Q',re,hm,q,k⟩=>⟨ρ,M,_,re,hm,q,λv H1 ⟨d,M1,rd,hm1,e1,q1⟩=>⟨ρ,M1,_,re.ext e1,hm1,q1,λl H2 ⟨M2,hm2,e2,q2⟩=>⟨ρ,M2,_,(re.ext e1).ext e2,hm2,q2,λh H3 ⟨M3,hm3,e3,q3⟩=>by
  have rd3:=(rd.ext e2).ext e3;have ex:=(e1.trans e2).trans e3;cases d with
  |fz ds =>
   obtain⟨a,us,rfl,sq,ru⟩:=nZ rd3;exact⟨a,us,rfl,sq.sq,λp hp=>k _ _ ⟨.ref p,_,gJ,hm3.lnew hp (xD ru l h),ex.trans (Ext.new hp _),q3 p (hm3.fresh hp)⟩⟩
  |ref a =>
   obtain⟨ds,ha,q3⟩:=q3;obtain rfl:=aX rd;obtain⟨us,hu,ru⟩:=hm3.l a ds ha;exact⟨a,us,rfl,.of hu,λp hp=>k _ _ ⟨.ref p,_,gJ,hm3.lnew hp (xD ru l h),ex.trans (Ext.new hp _),q3 p (hm3.fresh hp)⟩⟩
  |_=>exact q3.elim⟩⟩⟩
abbrev DSp:=List D->DM->DQ->Prop
def pT (K:Frag)(sp:DSp):Sp:=λvs H Q _=>∃ds M Q',bK K H ds vs/\bO K M H/\sp ds M Q'/\∀v H',LQ K H Q' v H'->Q v H'
def nF (sp:DSp)(t:DA):DE:=λρ M Q=>t ρ M λds M1=>sp ds M1 Q
variable {CX:CXT}{k:Nat}{f:Addr}{fd:FuncData}{ps:List Str}{sp:DSp}{E:XK}{x:Str}{p:Pos}
theorem aHs (F:kC X.prog X.w X.K X.mg X.base CX k f fd ps (pT X.K sp))(hr:cQ k X.A)(hm:X.mg x=some (.ref f))(hk:keepIn X.K (.ref f)=true)(hb:iK X.K fd ps [])(hx:mV CX X E)(ha:PDA X (e::es) t)(hg:Gl X x:=by rfl)(hdb:(x==("__debug__":Str))=false:=by decide)(he:starEach (e::es) X.env=(false,eval e X.env)::starEach es X.env:=by rfl)(hpl:(backTo pos (starEach es X.env)).any (·.1)=false:=by rfl) :
  PDE X (.Call (.Name x p) (e::es) [] pos) (nF sp t) :=
 cH (aHp F hr hg hm hk hb .nil hx ha hdb he hpl) λσ H Q ⟨ρ,M,Q',re,hm,q,k⟩=>⟨ρ,M,_,re,hm,q,λvs H1 ⟨ds,M1,rs,hm1,ex,q1⟩=>⟨ds,M1,Q',by rw[append_nil];exact rs,hm1,q1,λv H' z=>k v H' (z.back ex)⟩⟩
theorem aFc (F:kC X.prog X.w X.K X.mg X.base CX k f fd ps (pT X.K sp))(hr:cQ k X.A)(hm:X.mg x=some (.ref f))(hk:keepIn X.K (.ref f)=true)(hb:iK X.K fd ps [])(hx:mV CX X E)(hg:Gl X x:=by rfl)(hdb:(x==("__debug__":Str))=false:=by decide):PDE X (.Call (.Name x p) [] [] pos) (nF sp nL) :=
 cH (aEx F hr hg hm hk hb .nil hx hdb) λσ H Q ⟨ρ,M,Q',re,hm,q,k⟩=>⟨[],M,Q',cL,hm,q,k⟩
def gH (X:Cx)(fv:Value)(r:DSp):Prop:=kS X fv λvs H Q=>∃ds M Q',bK X.K H ds vs/\bO X.K M H/\r ds M Q'/\∀v H',LQ X.K H Q' v H'->Q v H'
theorem gH.of {fv:Value}{r:List V->Hp->VK->Prop}{r':DSp}(h:kS X fv r)(l:∀vs H M ds Q,bK X.K H ds vs->bO X.K M H->r' ds M Q->r vs H (LQ X.K H Q)):gH X fv r':=λpins s σ H xs us Q I rs ⟨ds,M,Q',r1,hm,q,k⟩ =>
 thn (h pins s σ H xs us _ I rs (l xs H M ds Q' r1 hm q)) λv s h=>aCT h k
theorem aFD {r:DSp}{σ:L2.St}{H:Hp}{Q:VK}(h:low X.K (nF r t) σ H Q):aMf X.K t σ H λvs H1=>∃ds M Q',bK X.K H1 ds vs/\bO X.K M H1/\r ds M Q'/\∀v H',LQ X.K H1 Q' v H'->Q v H':=by obtain⟨ρ,M,Q',re,hm,q,k⟩:=h;exact⟨ρ,M,_,re,hm,q,λvs H1 ⟨ds,M1,rs,hm1,ex,q1⟩=>⟨ds,M1,Q',rs,hm1,q1,λv H' z=>k v H' (z.back ex)⟩⟩
theorem aEo {id:String}{r:DSp}(hc:gH X (.builtin id) r)(hm:X.mg x = none)(ha:PDA X (e :: es) t)(hv:bootBuiltins x = some (.builtin id):=by rfl)(hg:Gl X x:=by rfl)(hn:x ≠ "__name__":=by decide)(hdb:(x==("__debug__":Str))=false:=by decide)(he:starEach (e::es) X.env=(false,eval e X.env)::starEach es X.env:=by rfl)(hpl:(backTo pos (starEach es X.env)).any (·.1)=false:=by rfl):PDE X (.Call (.Name x p) (e::es) [] pos) (nF r t) :=
 cH (wK hc hg hm hv ha hn hdb he hpl) λσ H Q h=>aFD h
theorem aDy {T:String}{r:DSp}(hc:gH X (.type T) r)(hm:X.mg x = none)(ha:PDA X (e :: es) t)(hv:bootBuiltins x = some (.type T):=by rfl)(hg:Gl X x:=by rfl)(hn:x ≠ "__name__":=by decide)(hdb:(x==("__debug__":Str))=false:=by decide)(he:starEach (e::es) X.env=(false,eval e X.env)::starEach es X.env:=by rfl)(hpl:(backTo pos (starEach es X.env)).any (·.1)=false:=by rfl):PDE X (.Call (.Name x p) (e::es) [] pos) (nF r t) :=
 cH (xY hc hg hm hv ha hn hdb he hpl) λσ H Q h=>aFD h
end
section
variable {X:Cx}{a b e o:Expr}{es:List Expr}{ta tb te to:DE}{t:DA}{pos:Pos}
def aLO:DSp:=λds M Q=>match ds with
 |[.int i]=>Q (.int (if i<0 then -i else i)) M
 |_=>False
theorem iR {K:Frag}{H:Hp}{d:D}{vs:List V}(h:bK K H [d] vs):∃v,vs=[v]/\Rep K H d v:=by obtain⟨v,r,rfl,rv,rr⟩:=aT h;obtain rfl:=bB rr;exact⟨v,rfl,rv⟩
theorem aID {K:Frag}{H:Hp}{d d2:D}{vs:List V}(h:bK K H [d,d2] vs):∃v v2,vs=[v,v2]/\Rep K H d v/\Rep K H d2 v2:=by obtain⟨v,r,rfl,rv,rr⟩:=aT h;obtain⟨v2,rfl,rv2⟩:=iR rr;exact⟨v,v2,rfl,rv,rv2⟩
theorem aI0:gH X (.builtin "abs") aLO:=gH.of aEh λvs H M ds Q rs hm q=>by
 rcases ds with _|⟨d,_|⟨d2,r⟩⟩
 ·exact q.elim
 ·cases d with
  |int i =>
   obtain⟨v,rfl,rv⟩:=iR rs;obtain rfl:=aW rv;exact⟨i,rfl,_,M,cA,hm,.refl H,q⟩
  |_=>exact q.elim
 ·cases d<;>exact q.elim
def aLB:DSp:=λds M Q=>match ds with
 |[.int i]=>Q (.int i) M
 |[.bl k]=>Q (.int (if k then 1 else 0)) M
 |_=>False
theorem aFu:gH X (.type "int") aLB:=gH.of aDf λvs H M ds Q rs hm q=>by
 rcases ds with _|⟨d,_|⟨d2,r⟩⟩
 ·exact q.elim
 ·cases d with
  |int i =>
   obtain⟨v,rfl,rv⟩:=iR rs;obtain rfl:=aW rv;exact .inl ⟨i,rfl,_,M,cA,hm,.refl H,q⟩
  |bl i =>
   obtain⟨v,rfl,rv⟩:=iR rs;obtain rfl:=cD rv;exact .inr ⟨i,rfl,_,M,cA,hm,.refl H,q⟩
  |_=>exact q.elim
 ·cases d<;>exact q.elim
def uX:DSp:=λds M Q=>match ds with
 |[.tup xs]=>Q (.int xs.length) M
 |[.fz xs]=>Q (.int xs.length) M
 |[.ref a]=>∃xs,M a=some xs/\Q (.int xs.length) M
 |_=>False
theorem eW:gH X (.builtin "len") uX:=gH.of aAm λvs H M ds Q rs hm q=>by
 rcases ds with _|⟨d,_|⟨d2,r⟩⟩
 ·exact q.elim
 ·cases d with
  |tup xs =>
   obtain⟨v,rfl,rv⟩:=iR rs;obtain⟨a,us,rfl,sq,ru⟩:=bE rv;exact⟨a,us,rfl,.inr sq,_,M,by rw[<- ru.length];exact cA,hm,.refl H,q⟩
  |fz xs =>
   obtain⟨v,rfl,rv⟩:=iR rs;obtain⟨a,us,rfl,sq,ru⟩:=nZ rv;exact⟨a,us,rfl,.inl sq.sq,_,M,by rw[<- ru.length];exact cA,hm,.refl H,q⟩
  |ref a =>
   obtain⟨v,rfl,rv⟩:=iR rs;obtain rfl:=aX rv;obtain⟨xs,ha,q⟩:=q;obtain⟨us,hu,ru⟩:=hm.l a xs ha;exact⟨a,us,rfl,.inl (.of hu),_,M,by rw[<- ru.length];exact cA,hm,.refl H,q⟩
  |_=>exact q.elim
 ·cases d<;>exact q.elim
def aKs:DSp:=λds M Q=>match ds with
 |[.tup xs]=>Q (.tup xs) M
 |[.ref a]=>∃xs,M a=some xs/\Q (.tup xs) M
 |_=>False
theorem vT:gH X (.type "tuple") aKs:=gH.of xT λvs H M ds Q rs hm q=>by
 rcases ds with _|⟨d,_|⟨d2,r⟩⟩
 ·exact q.elim
 ·cases d with
  |tup xs =>
   obtain⟨v,rfl,rv⟩:=iR rs;obtain⟨a,us,rfl,sq,ru⟩:=bE rv;exact⟨a,us,rfl,.inr ⟨sq,_,M,cM sq ru,hm,.refl H,q⟩⟩
  |ref a =>
   obtain⟨v,rfl,rv⟩:=iR rs;obtain rfl:=aX rv;obtain⟨xs,ha,q⟩:=q;obtain⟨us,hu,ru⟩:=hm.l a xs ha;exact⟨a,us,rfl,.inl ⟨.of hu,λp hp=>⟨.tup xs,M,cM (.of cP) (ru.ext (Ext.new hp _)),hm.new hp _,Ext.new hp _,q⟩⟩⟩
  |_=>exact q.elim
 ·cases d<;>exact q.elim
def aAL (to te:DE):DE:=λρ M Q=>to ρ M λx M1=>match x with
 |.ref p=>(∃ds,M1 p=some ds)/\iM te nL ρ M1 λys M2=>∃ds y,ys=[y]/\M2 p=some ds/\ds.length<1000/\Q .non (bH M2 p (ds++[y]))
 |_=>False
theorem aDM {apos cpos:Pos}(ho:PDE X o to)(he:PDE X e te)(hse:starEach [e] X.env=(false,eval e X.env)::starEach [] X.env:=by rfl)(hbase:attributeBase o "append" X.env (eval o X.env)=eval o X.env:=by rfl)(hfew:((backTo cpos (starEach [e] X.env)).all (λx=>!x.1)&&(backToKw cpos (keywordEach [] X.env)).all (λx=>x.1.isSome)
  &&decide ([e].length+([]:List Keyword).length+(if ([]:List Keyword).isEmpty then 0 else 1)<30))=true:=by rfl)(hline:(apos.endLine==cpos.line)=true:=by rfl)(hplain:(backTo cpos (starEach [] X.env)).any (·.1)=false:=by rfl) :
  PDE X (.Call (.Attribute o "append" apos) [e] [] cpos) (aAL to te) :=
 cH (aMa PySem.F.plainAttrs_list PySem.F.slot_list_append PySem.F.type_list_append aDS ho (aC0 he aFO hse) hbase hfew hline hse hplain) λσ H Q ⟨ρ,M,Q',re,hm,q,k⟩=>⟨ρ,M,_,re,hm,q,λv H1 ⟨d,M1,rd,hm1,e1,q1⟩=>by
  cases d with
  |ref p =>
   obtain rfl:=aX rd;obtain⟨⟨ds0,h0⟩,q1⟩:=q1;obtain⟨us0,hu0,_⟩:=hm1.l p ds0 h0;refine⟨.inl ⟨rfl,us0,.of hu0⟩,ρ,M1,_,re.ext e1,hm1,q1,λvs H2 ⟨dvs,M2,rs,hm2,e2,ds,y,ey,hp,hl,q2⟩=>?_⟩;subst ey;obtain⟨w,rfl,rw'⟩:=iR rs;obtain⟨us,hu,ru⟩:=hm2.l p ds hp;exact⟨p,us,w,rfl,rfl,hu,by rw[<- ru.length];exact eL (Nat.le_of_lt hl),k _ _ ⟨.non,_,aCO,hm2.put hu (ru.append (bN rw' cL)),(e1.trans e2).trans (Ext.put hu _),q2⟩⟩
  |_=>exact q1.elim⟩
noncomputable def tyD:D->Option String
 |.non=>some "NoneType"
 |.bl _=>some "bool"
 |.int _=>some "int"
 |.str _=>some "str"
 |.tup _=>some "tuple"
 |.fz _=>some "list"
 |.ref _=>none
theorem tyT {K:Frag}{H:Hp}{s:Shared}{pins:List (Addr×Obj)}{σ:L2.St}(I:Inv X pins σ H s){a:Addr}{xs:List V}(sq:SqT X.K H a xs):∃o,s.heap.get? a = some o/\o.cls = .type "tuple":=by obtain⟨its,_,⟨o,h1,h2,_⟩,_⟩:=I.tuple sq;exact⟨o,h1,h2⟩
theorem aLf {K:Frag}{H:Hp}{s:Shared}{pins:List (Addr×Obj)}{σ:L2.St}{A:Around}{E:Value->Shared->Prop}{Q:Value->Shared->Prop}{c:Value}{d:D}{v:V}{u:Value}{T:String}{k:Bool}(I:Inv X pins σ H s)(rd:Rep X.K H d v)(rv:bM v u)(ty:tyD d=some T)(e:kitOne X.K (.type T) c = some k)(h:∀tk,Q (.bool k) { s with toks:=tk }):wpAny (model X.prog X.w) A (call (.builtin "isinstance") [u,c]) Q E s:=by
 cases d with
 |non=>cases ty;rw[dS rd] at rv;exact mC I rv (.non) e h
 |bl b=>cases ty;rw[cD rd] at rv;exact mC I rv (.bl b) e h
 |int b=>cases ty;rw[aW rd] at rv;exact mC I rv (.int b) e h
 |str b=>cases ty;rw[cZ rd] at rv;exact mC I rv (.str b) e h
 |ref b=>cases ty
 |tup b =>
  cases ty;obtain⟨a,us,rfl,sq,ru⟩:=bE rd;cases rv;obtain⟨o,h1,h2⟩:=tyT (K:=K) I sq;exact kia_one PySem.W.kitx_tuple I.kIn ⟨o,h1,h2⟩ e (λz=>nomatch z) h
 |fz b =>
  cases ty;obtain⟨a,us,rfl,sq,ru⟩:=nZ rd;cases rv;obtain⟨z,its,n,r,e1⟩:=aEZ I sq;exact kia_one kitx_list I.kIn ⟨_,e1,rfl⟩ e (λz=>nomatch z) h
def dIs (K:Frag)(c:Value)(te:DE):DE:=λρ M Q=>te ρ M λd M1=>(∃T k,tyD d = some T/\kitOne K (.type T) c = some k/\Q (.bl k) M1)∨(∃(p:Addr)(xs:List D) (k:Bool),d = .ref p/\M1 p = some xs/\kitOne K (.type "list") c=some k/\Q (.bl k) M1)
theorem aGn {T:String}{x:Str}{p p2:Pos}(he:PDE X e te)(hm:X.mg "isinstance" = none)(hmx:X.mg x = none)(hv:bootBuiltins x = some (.type T):=by rfl)(hg:Gl X "isinstance":=by rfl)(hgx:Gl X x:=by rfl)(hn:x ≠ "__name__":=by decide)(hdb:(x==("__debug__":Str))=false:=by decide)(hse:starEach [e,.Name x p2] X.env=(false,eval e X.env)::starEach [.Name x p2] X.env:=by rfl)(hse2:starEach [.Name x p2] X.env=(false,eval (.Name x p2) X.env)::starEach [] X.env:=by rfl)(hpl:(backTo pos (starEach [.Name x p2] X.env)).any (·.1)=false:=by rfl) :
  PDE X (.Call (.Name "isinstance" p) [e,.Name x p2] [] pos) (dIs X.K (.type T) te):=by
 have hc:kS X (.builtin "isinstance") λvs H Q=>∃d M Q' v,vs = [v,.ty T]/\Rep X.K H d v/\bO X.K M H/\((∃T' k,tyD d = some T'/\kitOne X.K (.type T') (.type T) = some k/\Q' (.bl k) M)∨(∃(p:Addr)(xs:List D) (k:Bool),d = .ref p/\M p = some xs/\kitOne X.K (.type "list") (.type T)=some k/\Q' (.bl k) M))/\∀v H',LQ X.K H Q' v H'->Q v H':=by
  intro pins s σ H xs us Q I rs ⟨d,M,Q',v,e1,rd,hm,q,k⟩;subst e1;obtain⟨u1,u2,rfl,rv,rt⟩:=rs.two;cases rt;rcases q with⟨T',b,ty,e2,q⟩|⟨p,ys,b,rfl,hp,e2,q⟩
  ·exact aLf (K:=X.K) I rd rv ty e2 λtk=>⟨.bl b,H,I.tok tk,rfl,k _ H ⟨_,M,dR,hm,.refl H,q⟩⟩
  ·obtain rfl:=aX rd;obtain⟨us,hu,ru⟩:=hm.l p ys hp;exact mC I rv (.lst hu) e2 λtk=>⟨.bl b,H,I.tok tk,rfl,k _ H ⟨_,M,dR,hm,.refl H,q⟩⟩
 refine cH (wK hc hg hm rfl (rP he (rP (aGR hgx hmx hv (v:=.ty T) rfl hn hdb) zU hse2) hse) (by decide) (by decide) hse hpl) λσ H Q ⟨ρ,M,Q',re,hm,q,k⟩=>?_;exact⟨ρ,M,_,re,hm,q,λv H1 ⟨d,M1,rd,hm1,ex,q1⟩=>⟨d,M1,Q',v,rfl,rd,hm1,q1,λv H' z=>k v H' (z.back ex)⟩⟩
end
noncomputable def jT (N:List Str)(ds:List D):cJ:=ds.map some++List.replicate (N.length-ds.length) none
noncomputable def Dn (Q:DQ):DQ:=λd M=>∃M',bC M' M/\Q d M'
section
variable {P:Program}{w:World}{K:Frag}{mg:Str->Option Value}{base:Heap}
theorem aCm {H:Hp}{ds:List D}{vs:List V}(r:bK K H ds vs)(N:List Str):fV K H (jT N ds) (L2.start N vs):=by
 have hl:=r.length;refine⟨by unfold jT L2.start;simp only[length_append,length_map,List.length_replicate,hl],λi d q=>?_⟩;unfold jT at q;unfold L2.start;by_cases hi:i<ds.length
 ·rw[getElem?_append_left (by simpa using hi),getElem?_map] at q;rw[getElem?_append_left (by simpa[<- hl] using hi),getElem?_map];cases e:ds[i]? with
  |none=>rw[e] at q;cases q
  |some d' =>
   rw[e] at q;cases q;obtain⟨v,e2,rv⟩:=r.get e;exact⟨v,by rw[e2];rfl,rv⟩
 ·rw[getElem?_append_right (by simpa using hi),List.getElem?_replicate] at q;split at q<;>cases q
theorem Fun.okD {x qual:Str}{st:Stmt}{f:Addr}{fd:FuncData}{N ps:List Str}{k:Nat}{sp:DSp}(F:L2.Fun K x qual st f fd)(S:aS N ps (aI st))(len:∀ds M Q,sp ds M Q->ds.length=ps.length)(hbody:∀(cdv:Value)(A:Around) (outer:List Env) (s:Shared) (H:Hp) (ds:List D) (M:DM) (Q:DQ) (E:XK),cQ k (A.deeper (envOfC qual (aI st) s.heap.objs.size f cdv))->sp ds M Q ->
   ∃t,nO (tE CX0 P w K mg base N qual (aI st) f cdv A outer s H E).nox (eR st) t/\t { nx:=λ_ M'=>Dn Q .non M',rt:=Dn Q } (jT N ds) M):kC P w K mg base CX0 (k+1) f fd ps (pT K sp):=by
 refine F.ok S (λvs H Q E ⟨ds,M,Q',rs,hm,q,_⟩=>by rw[<- rs.length];exact len ds M Q' q) λcdv A outer s H vs Q E hr ⟨ds,M,Q',rs,hm,q,k'⟩=>?_;obtain⟨t,h1,h2⟩:=hbody cdv A outer s H ds M Q' E hr q;have fin:∀v H',LQ K H (Dn Q') v H'->Q v H':=λv H' ⟨d,M1,rd,hm1,ex,M2,sub,q2⟩=>k' v H' ⟨d,M2,rd,hm1.sub sub,ex,q2⟩;refine⟨_,h1,jT N ds,M,_,aCm rs N,hm,h2,⟨λσ' H' ⟨ρ',M',_,hm',ex,q'⟩=>fin _ H' ⟨.non,M',aCO,hm',ex,q'⟩,fin,λσ' H' ⟨_,_,_,_,_,z⟩=>z.elim,λσ' H' ⟨_,_,_,_,_,z⟩=>z.elim⟩⟩
end
theorem aDj {P:Program}{w:World}{K:Frag}{mg mb:Str->Option Value}{CX:CXT}{k:Nat}{fa a:Addr}{fd:FuncData}{x:Str}{sp:Sp}{s₁:Shared}{vs:List Value}{ns:List Int}(KX:K.In s₁.heap)(hns:s₁.heap.Ns mainGlobals mg)(hb:s₁.heap.Ns builtinsNs mb)(hbb:∀x:Str,x ≠ "__name__"->mb x=bootBuiltins x)(hlim:s₁.heap.NoLimit)(hg:s₁.gens=#[])(ha:s₁.heap.get? a = some { cls:=.type "list",data:=.seq vs.toArray })(hi:IntsAre vs ns)(hl:ns.length<=sizeLine)(hr:cQ k callerA)(F:∀base:Heap,K.In base->base.Ns mainGlobals mg->kC P w K mg base CX k fa fd [x] sp)(hbind:∀(s:Shared)(u:Value),BindsTo s fd ⟨[u],[]⟩ [(x,u)])(hsp:∀H:Hp,aIM H->SqX K H a (ns.map V.int)->sp [.ref a] H (λv _=>v=.bl true) λ_ _ _=>False)(hCX:∀H e s',CX [] H s₁ (λ_ _ _=>False) e s'->False) :
  codeAny (model P w) callerA (.call (.ref fa) ⟨[.ref a],[]⟩) (λr s'=>r=.ok (.ret (.bool true))/\OldK s₁.heap s'.heap/\s'.os=s₁.os/\AllBare s'.gens) s₁:=by
 have rv:=sQ hi;have lenV:=hi.length;refine aFG (ns:=ns) (sp:=λvs H Q E=>SqX K H a (ns.map V.int)/\sp vs H Q E) KX hns hb hbb hlim hg ha hi hl hr (λbase h1 h2=>(F base h1 h2).imp λ_ _ _ _ z=>z.2) hbind (λH hO hS=>?_) hCX;have sx:SqX K H a (ns.map V.int):=by
  rcases hS with(h|h)|⟨o,its,n,hk,hc,hd,hs,hz,r⟩
  ·rcases hO a with z|⟨o,xs,z⟩
   ·rw[h] at z;cases z
   ·rw[h] at z;cases z
  ·exact .inl h
  ·have e:=KX a o hk;rw[ha] at e;cases e;cases hs;exact .inr ⟨_,_,hk,hz,r⟩
 exact⟨sx,hsp H hO sx⟩
theorem walk_ofD {l:PySem.W.OpenLaw}{n k:Nat}{q:Program}{loose:List Str}{XP:(Str->Option Value)->Heap->Prop}{YP:World->Heap->Prop}{d:DefRec}{K:Params->Frag}{sp:DSp}{x:Str}(hn:l.most=some n)(hn2:n<=sizeLine)(hdf:d.params.defaults=[])(hr:cQ k callerA)(hY:∀(w:World)(h:Heap),YP w h->(K w.params).In h)(F:∀(w:World)(mg:Str->Option Value) (fa:Addr) (h:Heap),(K w.params).In h->h.Ns mainGlobals mg->mg d.name=some (.ref fa) ->
   ∃fd:FuncData,(∀(s:Shared)(u:Value),BindsTo s fd ⟨[u],[]⟩ [(x,u)]) /\
    ∀base:Heap,(K w.params).In base->base.Ns mainGlobals mg->kC l.prog w (K w.params) mg base CX0 k fa fd [x] (pT (K w.params) sp))(hsp:∀(ns:List Int),ns.length<=n->∀M,sp [.fz (ns.map D.int)] M λd _=>d=.bl true) :
  PySem.W.WalkO q loose XP YP l.row.toRowW d [] (λf vs=>PySem.call f vs):=by
 refine Att.attach_call hn hdf λw s₀ s₁ mg mb fa o pm cd doc a vs ns G Y ho hd hcd hmg hobj hints hlen hg=>?_;have KX:=hY w _ Y;obtain⟨fd,hb,hF⟩:=F w mg fa _ KX G.T.g hmg;refine aDj KX G.T.g G.T.b G.T.builtins G.T.nolimit hg hobj hints (Nat.le_trans hlen hn2) hr hF hb (λH hO hS=>?_) λH e s' h=>h;refine⟨[.fz (ns.map D.int)],λ_=>none,_,bN (by unfold Rep;exact⟨a,_,rfl,hS,yK ns⟩) cL,⟨(λ_ _ z=>by cases z),(λ_ _ z=>by cases z),(λ_ _ z=>by cases z)⟩,hsp ns hlen _,λv H' z=>?_⟩;obtain⟨d,M',rd,_,_,e⟩:=z;have e':d=.bl true:=e;subst e';exact cD rd
def cK (K:Frag)(mg:Str->Option Value)(x:Str)(st:Stmt)(ps:List Str):Prop:=∃f fd,L2.Fun K x x st f fd/\mg x=some (.ref f)/\iK K fd ps []
def Has (P:Program)(w:World)(K:Frag)(mg:Str->Option Value)(base:Heap)(k:Nat)(x:Str)(ps:List Str)(sp:DSp):Prop :=
 ∃f fd,kC P w K mg base CX0 k f fd ps (pT K sp)/\mg x=some (.ref f)/\keepIn K (.ref f)=true/\iK K fd ps []
def xU (K:Frag)(mg:Str->Option Value)(x:Str)(d:D):Prop:=∃u v,mg x=some u/\bM v u/\∀H,Rep K H d v
section
variable {P:Program}{w:World}{K:Frag}{mg:Str->Option Value}{base:Heap}
theorem Has.mk {x:Str}{st:Stmt}{N ps:List Str}{k:Nat}{sp:DSp}(h:cK K mg x st ps)(S:aS N ps (aI st))(len:∀ds M Q,sp ds M Q->ds.length=ps.length)(hbody:∀(f:Addr)(cdv:Value) (A:Around) (outer:List Env) (s:Shared) (H:Hp) (ds:List D) (M:DM) (Q:DQ) (E:XK),cQ k (A.deeper (envOfC x (aI st) s.heap.objs.size f cdv))->sp ds M Q ->
   ∃t,nO (tE CX0 P w K mg base N x (aI st) f cdv A outer s H E).nox (eR st) t/\t { nx:=λ_ M'=>Dn Q .non M',rt:=Dn Q } (jT N ds) M):Has P w K mg base (k+1) x ps sp:=by
 obtain⟨f,fd,F,hm,hb⟩:=h;exact⟨f,fd,Fun.okD F S len λcdv A outer s H ds M Q E hr q=>hbody f cdv A outer s H ds M Q E hr q,hm,F.kp,hb⟩
end
section
variable {X:Cx}{a b c e:Expr}{es:List Expr}{ta tb te:DE}{t:DA}{pos p:Pos}{x:Str}{ps:List Str}{sp:DSp}{k j:Nat}
theorem aFj (h:Has X.prog X.w X.K X.mg X.base k x ps sp)(hr:cQ j X.A)(hkj:k<=j)(ha:PDA X (e::es) t)(hg:Gl X x:=by rfl)(hdb:(x==("__debug__":Str))=false:=by decide)(he:starEach (e::es) X.env=(false,eval e X.env)::starEach es X.env:=by rfl)(hpl:(backTo pos (starEach es X.env)).any (·.1)=false:=by rfl) :
  PDE X (.Call (.Name x p) (e::es) [] pos) (nF sp t):=by
 obtain⟨f,fd,F,hm,hk,hb⟩:=h;exact aHs F (hr.mono hkj) hm hk hb aC3 ha hg hdb he hpl
theorem aDp (h:Has X.prog X.w X.K X.mg X.base k x ps sp)(hr:cQ j X.A)(hkj:k<=j)(hg:Gl X x:=by rfl)(hdb:(x==("__debug__":Str))=false:=by decide):PDE X (.Call (.Name x p) [] [] pos) (nF sp nL):=by obtain⟨f,fd,F,hm,hk,hb⟩:=h;exact aFc F (hr.mono hkj) hm hk hb aC3 hg hdb
theorem aE5 {d:D}(h:xU X.K X.mg x d)(hg:Gl X x:=by rfl)(hd:(x==("__debug__":Str))=false:=by decide):PDE X (.Name x pos) (dC d):=by obtain⟨u,v,hm,rv,hr⟩:=h;exact aGN hg hm rv hr hd
def aGD (i:Nat)(te:DE)(g:Int->Int->Int):DS:=λE ρ M=>match ρ[i]? with
 |some (some (.int z))=>te ρ M λy M1=>match y with
  |.int j=>E.nx (ρ.set i (some (.int (g z j)))) M1
  |_=>False
 |_=>False
theorem aHf {i:Nat}{op:Operator}{g:Int->Int->Int}{pos':Pos}(ho:PIp X op (ipI g))(hN:X.N.Nodup)(he:PDE X e te)(hi:X.N[i]?=some x:=by rfl)(hx:Loc X.env.scope x:=by first|exact Or.inl rfl|exact Or.inr rfl)(hf:X.fn x=true∨X.env.scope.names.lookup x=some .local:=by first|exact .inl rfl|exact .inr rfl|assumption) :
  PDS X (.AugAssign (.Name x pos') op e pos) (aGD i te g) :=
 fX (aJB (i:=i) hN hi hx he ho hf) λE σ H ⟨ρ,M,Dn,re,hm,q,k⟩=>by
  unfold aGD at q;split at q
  ·rename_i z e1;obtain⟨v,e2,rv⟩:=re.get i _ e1;obtain rfl:=aW rv;refine⟨_,e2,ρ,M,_,re,hm,q,λw H1 ⟨d,M1,rd,hm1,ex,q1⟩=>?_⟩;cases d with
   |int j=>exact⟨z,j,rfl,aW rd,k.nx _ H1 ⟨_,M1,(re.ext ex).set cA i,hm1,ex,q1⟩⟩
   |_=>exact q1.elim
  ·exact q.elim
end
theorem dif {c A B:Prop}[Decidable c](h1:c->A)(h2:¬c->B):if decide c=true then A else B:=by
 by_cases h:c
 ·rw[decide_eq_true h];exact h1 h
 ·rw[decide_eq_false h];exact h2 h
theorem nE {b:Bool}{A B:Prop}(h1:b=true->A)(h2:b=false->B):if b=true then A else B:=by
 cases b
 ·exact h2 rfl
 ·exact h1 rfl
section
variable {prog:Program}{w:World}{A:Around}{E:Value->Shared->Prop}{s:Shared}
theorem wR {h h':Heap}{it t:Addr}{items:Array Value}(ht:h.IsList t items)(hs:Heap.SameBut it h h')(hne:t≠it):h'.IsList t items:=by obtain⟨o,e,r⟩:=ht;exact⟨o,(hs.2 t hne).trans e,r⟩
theorem tT {h:Heap}{t:Addr}{items:Array Value}(ht:h.IsList t items)(o:Obj):(h.push o).IsList t items:=by obtain⟨o',e,r⟩:=ht;exact⟨o',Heap.get?_push_of_some _ e,r⟩
theorem yQ {it t:Addr}{items:Array Value}(hne:t≠it):∀(n i:Nat)(s:Shared) (Q:List Value->Shared->Prop),s.heap.IsListIter it t i->s.heap.IsList t items->i+n<=items.size ->
  (∀h',h'.IsListIter it t (i+n)->Heap.SameBut it s.heap h'->Q ((items.toList.drop i).take n) { s with heap:=h' })->wpAny (model prog w) A (draw (.ref it) n) Q E s
 |0,i,s,Q,hit,_,_,hQ=>by show wpAny _ _ (pure []) Q E s;exact wpAny_pure (by simpa using hQ s.heap hit (Heap.SameBut.refl ..))
 |n+1,i,s,Q,hit,ht,hle,hQ=>by
  have hlt:i<items.size:=by omega
  show wpAny _ _ (pyNext (.ref it) >>= _) Q E s;refine wpAny_bind (wpAny_pyNext_list_item hit ht (x:=items[i]) (by simp[hlt]) λh₁ hit₁ hs₁=>?_);refine wpAny_bind (wpAny_holding (yQ hne n (i+1) _ _ hit₁ (wR ht hs₁ hne) (by omega) λh₂ hit₂ hs₂=>wpAny_pure ?_));have hd:items.toList.drop i=items[i]::items.toList.drop (i+1):=by simp[List.drop_eq_getElem_cons,hlt]
  have:=hQ h₂ (by rw[show i+(n+1)=i+1+n by omega];exact hit₂) (hs₁.trans hs₂);rw[hd,List.take_succ_cons] at this;exact this
theorem sR {t:Addr}{items:Array Value}{Q:List Value->Shared->Prop}(hh:A.handled=none)(ht:s.heap.IsList t items)(hQ:∀h',Heap.ExtBut s.heap.objs.size s.heap h'->Q items.toList { s with heap:=h' }):wpAny (model prog w) A (unpackItems (.ref t) items.size none) Q E s:=by
 have hlt:t≠s.heap.objs.size:=by obtain⟨o,ho,_⟩:=ht;exact Nat.ne_of_lt (Heap.lt_size ho)
 unfold unpackItems;refine wpAny_bind ?_
 ·unfold notIterableAtAll;refine wpAny_bind (wpAny_specialOf ht.typeIs slot_list_iter.lookup ?_);refine wpAny_pure ?_;simp only[Bool.false_eq_true,if_false];refine wpAny_bind (wpAny_holding (wpAny_pyIter_list ht ?_));refine wpAny_bind (wpAny_holding (yQ hlt items.size 0 _ _ ⟨_,Heap.get?_push_size _ rfl,rfl,rfl⟩ (tT ht _) (by omega) λh₁ hit₁ hs₁=>?_));have hall:List.take items.size (drop 0 items.toList)=items.toList:=by rw[List.drop_zero];exact List.take_of_length_le (by simp)
  rw[hall];rw[if_neg (by simp)];have ht₁:h₁.IsList t items:=wR (tT ht _) hs₁ hlt;refine wpAny_bind (wpAny_holding (wpAny_pyNext_list_end hh hit₁ ht₁ (by simp) λh₂ he₂=>?_));simp only[Option.isSome_none,Bool.false_eq_true,if_false];refine wpAny_pure (hQ h₂ λb o hb e=>he₂ b o hb (hs₁.extBut b o hb (Heap.get?_push_of_some _ e)))
theorem sG {env:Env}{elts:List Expr}{x1}{pos:Pos}{t:Addr}{items:Array Value}{Q:Unit->Shared->Prop}(hh:A.handled=none)(ht:s.heap.IsList t items)(hn:(assignEach elts env).length=items.size)(hstar:(assignEach elts env).findIdx? (·.1)=none)(h:∀h',Heap.ExtBut s.heap.objs.size s.heap h'->wpAny (model prog w) A (assignInOrder ((assignEach elts env).map (·.2)) items.toList) Q E { s with heap:=h' }) :
  wpAny (model prog w) A (assign (.Tuple elts x1 pos) env (.ref t)) Q E s:=by
 rw[assign_Tuple];refine wpAny_bind (wpAny_standAt ?_);unfold unpack;rw[hn,hstar];exact wpAny_bind (wpAny_holding (sR hh ht h))
end
section
variable {X:Cx}{pos:Pos}{e a b:Expr}{es:List Expr}{te ta tb:DE}
def gU (n:Nat)(t:DGs):DG:=λd ρ M Q=>match d with
 |.tup ds=>ds.length=n/\t ds ρ M Q
 |.ref a=>∃ds,M a=some ds/\ds.length=n/\t ds ρ M Q
 |_=>False
theorem aIU {k:Nat}{t:DGs}{n:Nat}(hc:X.calm=true)(h:aA0 X es t)(hn:(assignEach es X.env).length=n:=by rfl)(hst:(assignEach es X.env).findIdx? (·.1)=none:=by rfl):PDG X (.Tuple es k pos) (gU n t):=by
 intro pins s σ H v u Q I r ⟨d,ρ,M,Q',rd,re,hm,q,k'⟩;cases d with
 |tup ds=>exact aIp hc h hn hst pins s σ H v u Q I r ⟨.tup ds,ρ,M,Q',rd,re,hm,q,k'⟩
 |ref p =>
  obtain⟨ds,hp,hl,q⟩:=q;obtain rfl:=aX rd;cases r;obtain⟨us,hu,ru⟩:=hm.l p ds hp;obtain⟨z,its,nn,rv,hlen,e1⟩:=I.lstM hu;have l1:=ru.length;refine sG (I.ok.hd hc) ⟨_,e1,rfl,_,rfl⟩ (by rw[hn,size_toArray];omega) hst λh' hx=>?_;have I1:Inv X pins σ H { s with heap:=h' }:=I.kept (t':=s.toks) λb o e=>hx b o (Nat.ne_of_lt (Heap.lt_size e)) e;exact h pins _ σ H us _ Q I1 (by simpa using rv) ⟨ds,ρ,M,Q',ru,re,hm,q,k'⟩
 |_=>exact q.elim
end
section
variable {M:DM}{Q:DQ}{g:Bool->Bool}{ds:List D}{i:Int}{a:Addr}{α:Type}{x0 x1 x2 x3 x4 x5:α}{l:List α}
theorem ixT:jC (.tup ds) (.int i) M Q=(match atI ds i with|some d=>Q d M|none=>False):=rfl
theorem ixF:jC (.fz ds) (.int i) M Q=(match atI ds i with|some d=>Q d M|none=>False):=rfl
theorem aNF:jC (.ref a) (.int i) M Q=(∃ds d,M a=some ds/\atI ds i=some d/\Q d M):=rfl
theorem aJV:atI [x0] 0=some x0:=rfl
theorem aKC:atI [x0] (-1)=some x0:=rfl
theorem aJJ:atI [x0,x1] 0=some x0:=rfl
theorem aH6:atI [x0,x1] 1=some x1:=rfl
theorem aKG:atI [x0,x1] (-1)=some x1:=rfl
theorem aIZ:atI [x0,x1,x2] 0=some x0:=rfl
theorem aJN:atI [x0,x1,x2] 1=some x1:=rfl
theorem aJ7:atI [x0,x1,x2] 2=some x2:=rfl
theorem aJx:atI [x0,x1,x2] (-1)=some x2:=rfl
theorem aI2:atI [x0,x1,x2,x3] 0=some x0:=rfl
theorem aI3:atI [x0,x1,x2,x3] 1=some x1:=rfl
theorem aJH:atI [x0,x1,x2,x3] 2=some x2:=rfl
theorem aKt:atI [x0,x1,x2,x3] 3=some x3:=rfl
theorem aI4:atI [x0,x1,x2,x3] (-1)=some x3:=rfl
theorem aJY:atI [x0,x1,x2,x3,x4] 0=some x0:=rfl
theorem aJK:atI [x0,x1,x2,x3,x4] 1=some x1:=rfl
theorem aKS:atI [x0,x1,x2,x3,x4] 2=some x2:=rfl
theorem aIl:atI [x0,x1,x2,x3,x4] 3=some x3:=rfl
theorem aIV:atI [x0,x1,x2,x3,x4] 4=some x4:=rfl
theorem aJw:atI [x0,x1,x2,x3,x4] (-1)=some x4:=rfl
theorem aJe:atI [x0,x1,x2,x3,x4,x5] 0=some x0:=rfl
theorem aKH:atI [x0,x1,x2,x3,x4,x5] 1=some x1:=rfl
theorem aJU:atI [x0,x1,x2,x3,x4,x5] 2=some x2:=rfl
theorem aIc:atI [x0,x1,x2,x3,x4,x5] 3=some x3:=rfl
theorem aIx:atI [x0,x1,x2,x3,x4,x5] 4=some x4:=rfl
theorem aKN:atI [x0,x1,x2,x3,x4,x5] 5=some x5:=rfl
theorem aKD:atI [x0,x1,x2,x3,x4,x5] (-1)=some x5:=rfl
theorem aJj {n:Nat}{t:DGs}{ρ:cJ}{R:cJ->DM->Prop}:gU n t (.tup ds) ρ M R=(ds.length=n/\t ds ρ M R):=rfl
theorem aJc {n:Nat}{t:DGs}{ρ:cJ}{R:cJ->DM->Prop}:gU n t (.ref a) ρ M R=(∃ds,M a=some ds/\ds.length=n/\t ds ρ M R):=rfl
theorem cE {i j:Int}:dEq g (.int i) (.int j) M Q=Q (.bl (g (decide (i=j)))) M:=by
 show(bS 60 (.int i)=true/\bS 60 (.int j)=true/\Q (.bl (g (eqD (.int i) (.int j)))) M)=_;have e:eqD (.int i) (.int j)=decide (i=j):=by show(i==j)=_;by_cases h:i=j<;>simp[h]
 rw[e];exact propext ⟨λh=>h.2.2,λh=>⟨rfl,rfl,h⟩⟩
theorem aQ {x y:Str}:dEq g (.str x) (.str y) M Q=Q (.bl (g (decide (x=y)))) M:=by
 show(bS 60 (.str x)=true/\bS 60 (.str y)=true/\Q (.bl (g (eqD (.str x) (.str y)))) M)=_;have e:eqD (.str x) (.str y)=decide (x=y):=by show(x==y)=_;by_cases h:x=y<;>simp[h]
 rw[e];exact propext ⟨λh=>h.2.2,λh=>⟨rfl,rfl,h⟩⟩
def isK (K:Frag)(c:Value)(d:D)(M:DM)(Q:DQ):Prop:=(∃T k,tyD d = some T/\kitOne K (.type T) c = some k/\Q (.bl k) M)∨(∃(p:Addr)(xs:List D) (k:Bool),d = .ref p/\M p = some xs/\kitOne K (.type "list") c=some k/\Q (.bl k) M)
theorem aKT {K:Frag}{c:Value}{te:DE}{ρ:cJ}:dIs K c te ρ M Q=te ρ M λd M1=>isK K c d M1 Q:=rfl
theorem aAe {K:Frag}{c:Value}{p:Addr}{xs:List D}{k:Bool}(h:M p = some xs)(e:kitOne K (.type "list") c=some k)(q:Q (.bl k) M):isK K c (.ref p) M Q:=.inr ⟨p,xs,k,rfl,h,e,q⟩
end
end Dd
namespace L2
open PySem PySem.Spec PyProof.Rows
noncomputable def clo (cells:List (Str×Addr)):List (Str×NameKind)->List (Str×Addr)->List (Str×Addr)
 |[],cs=>cs
 |(n,k)::r,cs=>clo cells r (if k == .free then (n,(cells.lookup n).getD 0)::cs else cs)
noncomputable def aBg (env:Env)(x:Str×NameKind)(r:List (Str×Addr)):Sem (ForInStep (List (Str×Addr))) :=
 if (x.2==NameKind.free)=true then do let a <- cellOf env x.1;pure (ForInStep.yield ((x.1,a)::r)) else pure (ForInStep.yield r)
theorem aA9 {env:Env}:∀(names:List (Str×NameKind)) (cs:List (Str×Addr)),(∀y∈names,y.2=.free->∃c,env.cells.lookup y.1=some c)->(forIn names cs (aBg env):Sem (List (Str×Addr)))=pure (clo env.cells names cs)
 |[],cs,_=>rfl
 |(n,k)::r,cs,hh=>by
  rw[List.forIn_cons];have ih:=λcs=>aA9 (env:=env) r cs λz hz=>hh z (mem_cons_of_mem _ hz);cases hk:k==NameKind.free with
  |true =>
   have hf:k=.free:=by simpa using hk
   obtain⟨c,hc⟩:=hh (n,k) mem_cons_self hf;have hc:env.cells.lookup n=some c:=hc;have e:aBg env (n,k) cs=pure (ForInStep.yield ((n,c)::cs)):=by unfold aBg;rw[if_pos hk];show(cellOf env n >>= _)=_;unfold cellOf;rw[hc];rfl
   rw[e];refine Eq.trans (b:=(forIn r ((n,c)::cs) (aBg env):Sem (List (Str×Addr)))) rfl ?_;rw[ih];show _=pure (clo env.cells r (if k == .free then (n,(env.cells.lookup n).getD 0)::cs else cs));rw[hk,if_pos rfl,hc];rfl
  |false =>
   have e:aBg env (n,k) cs=pure (ForInStep.yield cs):=by unfold aBg;rw[if_neg (by rw[hk];decide)]
   rw[e];refine Eq.trans (b:=(forIn r cs (aBg env):Sem (List (Str×Addr)))) rfl ?_;rw[ih];show _=pure (clo env.cells r (if k == .free then (n,(env.cells.lookup n).getD 0)::cs else cs));rw[hk,if_neg (by decide)]
theorem aAX {scope:Scope}{env:Env}(h:∀y∈scope.names,y.2=.free->∃c,env.cells.lookup y.1=some c):closureFor scope env=pure (clo env.cells scope.names []):=by have e:closureFor scope env=((forIn scope.names [] (aBg env):Sem (List (Str×Addr))) >>= λcs=>pure cs):=rfl;rw[e,aA9 _ _ h];rfl
theorem aCH {cells:List (Str×Addr)}{x:Str}{c:Addr}:∀{names:List (Str×NameKind)}{cs:List (Str×Addr)},(∀y∈names,y.2=.free->∃c,cells.lookup y.1=some c)->(cs.lookup x=some c->cells.lookup x=some c)->(clo cells names cs).lookup x=some c->cells.lookup x=some c
 |[],cs,_,h,e=>h e
 |(n,k)::r,cs,hh,h,e=>by
  unfold clo at e;refine aCH (λy hy=>hh y (mem_cons_of_mem _ hy)) (λe2=>?_) e;cases hk:k==NameKind.free with
  |false=>rw[hk,if_neg (by decide)] at e2;exact h e2
  |true =>
   rw[hk,if_pos rfl] at e2;have hk':k=.free:=by simpa using hk
   obtain⟨c',hc'⟩:=hh (n,k) mem_cons_self hk';have hc':cells.lookup n=some c':=hc';rw[lookup_cons] at e2;cases hx:x==n with
   |true =>
    rw[hx] at e2;have:x=n:=by simpa using hx
    subst this;rw[hc'] at e2 ⊢;exact e2
   |false=>rw[hx] at e2;exact h e2
theorem zN {cells:List (Str×Addr)}{x:Str}:∀{names:List (Str×NameKind)}{cs:List (Str×Addr)},((x,NameKind.free)∈names ∨ ∃c,cs.lookup x=some c)->∃c,(clo cells names cs).lookup x=some c
 |[],cs,h=>by
  rcases h with h|h
  ·exact nomatch h
  ·exact h
 |(n,k)::r,cs,h=>by
  unfold clo;refine zN ?_;have ins:∀{v:Addr},(∃c,cs.lookup x=some c)->∃c,((n,v)::cs).lookup x=some c:=λ{v} ⟨c,e⟩=>by
   rw[lookup_cons];cases x==n with
   |true=>exact⟨_,rfl⟩
   |false=>exact⟨c,e⟩
  rcases h with h|h
  ·rcases List.mem_cons.mp h with e|e
   ·cases e;refine .inr ⟨_,by rw[if_pos (by rfl),lookup_cons,beq_self_eq_true]⟩
   ·exact .inl e
  ·cases hk:k==NameKind.free with
   |true=>rw[if_pos rfl];exact .inr (ins h)
   |false=>rw[if_neg (by decide)];exact .inr h
theorem uJ {g:Str->NameKind->NameKind}{x:Str}:∀{names:List (Str×NameKind)},(names.map λp=>(p.1,g p.1 p.2)).lookup x=(names.lookup x).map (g x)
 |[]=>rfl
 |(n,k)::r=>by
  rw[map_cons,lookup_cons,lookup_cons];cases hx:x==n with
  |true =>
   have:x=n:=by simpa using hx
   subst this;rfl
  |false=>exact uJ
theorem pB {scope:Scope}{env:Env}{x:Str}:(relabel scope env).names.lookup x=(scope.names.lookup x).map λk=>if (k==NameKind.free&&env.scope.kind == .function&&env.kindOf x==some .cell)=true then .cell else k:=by rw[<- uJ (g:=λx k=>if (k==NameKind.free&&env.scope.kind == .function&&env.kindOf x==some .cell)=true then .cell else k)];unfold relabel;dsimp only;congr 1;refine List.map_congr_left λp _=>?_;obtain⟨n,k⟩:=p;dsimp only;split<;>rfl
noncomputable abbrev Cx.blk (X:Cx)(N':List Str)(scope:Scope)(C:Addr)(s:Shared)(H:Hp)(fp:List Addr)(pins:List (Addr×Obj)):Cx :=
 { X with N:=N',s₀:=s,H₀:=H,env:=compEnvC scope (clo X.env.cells scope.names []) C X.env,outer:=X.stack,ex:=fp,fn:=λ_=>false,pn:=X.pn++pins,xe:=λ_ _=>False }
structure eY (X:Cx)(N':List Str)(fr:List (Option Nat))(scope:Scope):Prop where
 kind:scope.kind=.function
 nocell:∀y∈scope.names,y.2 ≠ .cell
 names:∀y∈scope.names,y.2=.local->scope.names.lookup y.1=some .local
 free:∀y∈scope.names,y.2=.free->X.env.scope.names.lookup y.1=some .cell
 len:fr.length=N'.length
 at':∀(i j:Nat)(x:Str),N'[i]?=some x->fr[i]?=some (some j)->X.N[j]?=some x/\scope.names.lookup x=some .free
structure gW (oN:List Str)(osc:Scope)(N':List Str)(fr:List (Option Nat))(scope:Scope):Prop where
 kind:scope.kind=.function
 nocell:∀y∈scope.names,y.2 ≠ .cell
 names:∀y∈scope.names,y.2=.local->scope.names.lookup y.1=some .local
 free:∀y∈scope.names,y.2=.free->osc.names.lookup y.1=some .cell
 len:fr.length=N'.length
 at':∀p∈N'.zip fr,∀j∈p.2,oN[j]?=some p.1/\scope.names.lookup p.1=some .free
theorem gW.scope {X:Cx}{oN:List Str}{osc:Scope}{N':List Str}{fr:List (Option Nat)}{scope:Scope}(B:gW oN osc N' fr scope)(hN:X.N=oN)(ho:X.env.scope=osc):eY X N' fr scope:=by
 subst hN ho;refine⟨B.kind,B.nocell,B.names,B.free,B.len,λi j x h1 h2=>?_⟩;have:(x,some j)∈N'.zip fr:=by refine mem_of_getElem? (i:=i) ?_;rw[List.getElem?_zip_eq_some];exact⟨h1,h2⟩
 exact B.at' _ this j rfl
noncomputable def rE (fr:List (Option Nat))(σ:St):St:=fr.map λo=>match o with
 |some j=>(σ[j]?).join
 |none=>none
section
variable {X:Cx}{pins:List (Addr×Obj)}{σ:St}{H:Hp}{s:Shared}{N':List Str}{fr:List (Option Nat)}{scope:Scope}{C:Addr}{fp:List Addr}
theorem eY.hasC (S:eY X N' fr scope)(ok:X.Ok):∀y∈scope.names,y.2=.free->∃c,X.env.cells.lookup y.1=some c:=λy hy e=>ok.has y.1 (.inl (S.free y hy e))
theorem eY.sub (S:eY X N' fr scope)(ok:X.Ok){x:Str}{c:Addr}(h:(clo X.env.cells scope.names []).lookup x=some c):X.env.cells.lookup x=some c:=aCH (S.hasC ok) (λz=>by cases z) h
theorem aCE (S:eY X N' fr scope)(I:Inv X pins σ H s){h':Heap}{m:Str->Option Value}(k:∀x c v,(clo X.env.cells scope.names []).lookup x=some c->s.heap.IsCell c v->h'.IsCell c v) :
  ∀(i:Nat)(x:Str) (v:V),N'[i]?=some x->(rE fr σ)[i]?=some (some v)->∃u,bM v u/\aMe (compEnvC scope (clo X.env.cells scope.names []) C X.env) h' m x u:=by
 intro i x v hx hv;unfold rE at hv;rw[getElem?_map] at hv;cases hf:fr[i]? with
 |none=>rw[hf] at hv;cases hv
 |some o =>
  rw[hf] at hv;cases o with
  |none=>cases hv
  |some j =>
   have hv:(σ[j]?).join=some v:=Option.some.inj hv;obtain⟨hN,hfree⟩:=S.at' i j x hx hf;have hσ:σ[j]?=some (some v):=by
    cases e:σ[j]? with
    |none=>rw[e] at hv;cases hv
    |some o=>rw[e] at hv;rw[show o=some v from hv]
   have hmem:(x,NameKind.free)∈scope.names:=PySem.mem_of_lookup hfree;have hcell:=S.free _ hmem rfl;obtain⟨mm,_,hl⟩:=I.loc;obtain⟨u,r,l⟩:=hl j x v hN hσ (.inr (.inl hcell));refine⟨u,r,.inr ⟨.inl ?_,?_⟩⟩
   ·show(relabel scope X.env).names.lookup x=some .cell;rw[pB,hfree];have h1:X.env.scope.kind=.function:=I.ok.kind;have h2:X.env.kindOf x=some .cell:=hcell;rw[h1,h2];rfl
   ·rcases l with⟨k1,_⟩|⟨_,c,e,z⟩
    ·have:X.env.scope.names.lookup x=some .local:=k1;rw[hcell] at this;cases this
    ·obtain⟨c',e'⟩:=zN (cells:=X.env.cells) (x:=x) (names:=scope.names) (cs:=[]) (.inl hmem);have e2:=S.sub I.ok e';rw[e] at e2;cases e2;exact⟨c,e',k x c _ e' z⟩
theorem aG6 (S:eY X N' fr scope)(I:Inv X pins σ H s)(hf:∀b∈fp,xP X pins H b)(ho:∀b∈fp,∃o,s.heap.get? b=some o){s1:Shared}{m:Str->Option Value}(hos:s1.os=s.os)(hg:s1.gens=s.gens)(hC:s.heap.objs.size<=C)(k:∀b o,s.heap.get? b=some o->s1.heap.get? b=some o)(hn:s1.heap.Ns C m) :
  Inv (X.blk N' scope C s H fp pins) [] (rE fr σ) H s1:=by
 have lt:∀b o,s.heap.get? b=some o->b≠C:=λb o e=>Nat.ne_of_lt (Nat.lt_of_lt_of_le (Heap.lt_size e) hC);have stk:∀b,b≠X.env.locals->b∉X.fs->b∉frs X.stack:=λb h1 h2 hb=>(List.mem_cons.mp (I.stkSub b hb)).elim h1 h2;have cellK:∀x c v,(clo X.env.cells scope.names []).lookup x=some c->s.heap.IsCell c v->s1.heap.IsCell c v:=λx c v _ ⟨o,e,d⟩=>⟨o,k c o e,d⟩;refine⟨⟨I.ok.mod,S.kind,I.ok.glob,I.ok.blt,hC,λx y c h1 h2=>I.ok.inj x y c (S.sub I.ok h1) (S.sub I.ok h2),λx hx=>?_,(λx c z=>by cases z),I.ok.hd,I.ok.frames,.inl rfl,λb hb=>?_,I.bs,Nat.le_trans I.ok.bsz I.sz,λb o e hb=>?_,λb hb=>?_,I.stack,I.stkFree⟩,
  hos,by rw[hg];exact I.bare,Un.kept k,⟨m,hn,λi x v h1 h2 _=>aCE S I cellK i x v h1 h2⟩,λx c e=>?_,I.hok.fresh hC,λx c e=>I.freeC x c (S.sub I.ok e),λp hp=>?_,I.hok.kept k,?_⟩
 ·have hx:(relabel scope X.env).names.lookup x=some .cell∨(relabel scope X.env).names.lookup x=some .free:=hx;rw[pB] at hx;have hfree:(x,NameKind.free)∈scope.names:=by
   cases e:scope.names.lookup x with
   |none=>rw[e] at hx;rcases hx with z|z<;>cases z
   |some kk =>
    rw[e] at hx;have hm:=PySem.mem_of_lookup e;cases kk with
    |free=>exact hm
    |cell=>exact absurd rfl (S.nocell _ hm)
    |_=>rcases hx with z|z<;>cases z
  exact zN (.inl hfree)
 ·obtain⟨o,e⟩:=ho b hb;obtain⟨_,_,_,_,f4,_⟩:=hf b hb;exact⟨lt b o e,λx c z=>f4 x c (S.sub I.ok z)⟩
 ·obtain⟨_,_,_,f3,_⟩:=hf b hb;rcases f3 with z|z
  ·exact I.ok.noex b o e z
  ·exact absurd (Nat.lt_of_lt_of_le (Heap.lt_size e) (Nat.le_trans I.ok.bsz z)) (Nat.lt_irrefl _)
 ·obtain⟨_,f1,f2,_⟩:=hf b hb;exact stk b f1 f2
 ·obtain⟨v,z⟩:=I.cell x c (S.sub I.ok e);exact⟨v,cellK x c v e z⟩
 ·rw[append_nil] at hp;obtain⟨e,n,ne,nf,d⟩:=I.pin p hp;exact⟨k p.1 p.2 e,n,lt p.1 p.2 e,stk p.1 ne nf,d⟩
 ·unfold rE;rw[length_map];exact S.len
theorem aDh (S:eY X N' fr scope){s1:Shared}{H1:Hp}{σ1:St}{pl:List (Addr×Obj)}(I:Inv X pins σ H s)(J:Inv (X.blk N' scope C s H fp pins) pl σ1 H1 s1):Inv (X.blk N' scope C s H fp pins) pl (rE fr σ) H1 s1:=by
 obtain⟨m,hn,_⟩:=id J.loc;refine⟨J.ok,J.os,J.bare,J.base,⟨m,hn,λi x v h1 h2 _=>aCE S I (λx c v e z=>?_) i x v h1 h2⟩,J.cell,J.free,J.freeC,J.pin,J.hok,?_⟩
 ·obtain⟨o,eo,d⟩:=z;have e':=S.sub I.ok e;have hfree:=I.freeC x c e';have nex:c∉fp:=λhb=>(J.ok.exf c hb).2 x c e rfl;by_cases hfs:c∈frs X.stack
  ·obtain⟨sl,q⟩:=J.base.slot c o eo hfree hfs nex;exact⟨_,q,d⟩
  ·exact⟨o,J.base.keep c o eo hfree hfs nex,d⟩
 ·unfold rE;rw[length_map];exact S.len
end
section
variable {prog:Program}{w:World}{A:Around}{R:Result->Shared->Prop}{s:Shared}
theorem nP {elt target iter:Expr}{scope:Scope}{pos:Pos}{it acc:Value}{env:Env}(I:Nat->Shared->Prop)(turn:∀n s,I n s->wpAny (model prog w) A (pyNext it) (λr s₁=>match r with
   |none=>R (.ok .next) s₁
   |some v=>wpAny (model prog w) A (letOwnedTupleGo target it v) (λ_ s₁'=>wpAny (model prog w) A (assign target env v) (λ_ s₂=>wpAny (model prog w) A (eval elt env) (λx s₃ =>
     wpAny (model prog w) A (call (.builtin "list.append") [acc,x]) (λ_ s₄=>∃m,m<n/\I m s₄) (λ_ _=>False) s₃)
     (λ_ _=>False) s₂) (λ_ _=>False) s₁') (λ_ _=>False) s₁) (λ_ _=>False) s)(n:Nat)(h:I n s):codeAny (model prog w) A (.compLoop (.ListComp elt [⟨target,iter,[],0⟩] scope pos) 0 it acc env) R s:=by
 refine codeAny_loop rfl I (λn s hI=>?_) n h;show wpAny _ _ ((compTurn (.ListComp elt [⟨target,iter,[],0⟩] scope pos) 0 it acc env).onRaise (λx=>do noteFrame x env;theTreesLotGoes x)) _ _ s;refine wpAny_noted ?_;rw[compTurn_list1];refine wpAny_bind (wpAny_standAt (wpAny_bind (wpAny_mono (turn n s hI) (λr s₁ h₁=>?_) λ_ _ h'=>h'.elim)));cases r with
 |none=>exact wpAny_pure h₁
 |some v =>
  exact wpAny_bind (wpAny_mono h₁ (λ_ s₁' h₁'=>wpAny_bind (wpAny_mono h₁' (λ_ s₂ h₂=>wpAny_bind (wpAny_bind (wpAny_mono h₂ (λx s₃ h₃=>wpAny_bind (wpAny_mono h₃
   (λ_ s₄ h₄=>wpAny_pure (wpAny_pure ⟨rfl,h₄⟩)) λ_ _ h'=>h'.elim)) λ_ _ h'=>h'.elim))) λ_ _ h'=>h'.elim)) λ_ _ h'=>h'.elim)
end
theorem Inv.track {X:Cx}{pins:List (Addr×Obj)}{σ:St}{H:Hp}{s:Shared}{d:Addr}{ys:List V}(I:Inv X pins σ H s)(hn:H d=none)(hs:X.s₀.heap.objs.size<=d)(hL:d≠X.env.locals)(hc:∀x c,X.env.cells.lookup x=some c->c≠d)(hp:∀p∈X.pn++pins,p.1≠d)(new:fF X.prog X.w (upd H d (.lst ys)) s.heap d (.lst ys)):Inv X pins σ (upd H d (.lst ys)) s:=by
 have ne0:∀b o,X.s₀.heap.get? b=some o->b≠d:=λb o e=>Nat.ne_of_lt (Nat.lt_of_lt_of_le (Heap.lt_size e) hs);refine⟨I.ok,I.os,I.bare,⟨I.base.keep,I.base.slot,λb o e n hx=>?_,I.base.there,λb xs e=>?_,λb o u e=>?_,λb ps e=>?_⟩,I.loc,I.cell,?_,λx c e=>?_,λp hpp=>?_,λb u e=>?_,I.len⟩
 ·rw[aZ (ne0 b o e)];exact I.base.free b o e n hx
 ·have:=I.base.tups b xs e;rw[aZ (bD this hn)];exact this
 ·have:=I.base.frzs b o u e;rw[aZ (bD this hn)];exact this
 ·obtain⟨more,q⟩:=I.base.tbls b ps e;exact⟨more,by rw[aZ (bD q hn)];exact q⟩
 ·rw[aZ (Ne.symm hL)];exact I.free
 ·rw[aZ (hc x c e)];exact I.freeC x c e
 ·obtain⟨e,n,r⟩:=I.pin p hpp;exact⟨e,by rw[aZ (hp p hpp)];exact n,r⟩
 ·by_cases hb:b=d
  ·subst hb;rw[cP] at e;cases e;exact new
  ·rw[aZ hb] at e;exact(I.hok b u e).stay (λc v _ q=>q) (λc q=>by rw[aZ (bD q hn)];exact q) λc xs q=>by rw[aZ (bD q hn)];exact q
def tLc (wi:TI)(fr:List (Option Nat))(g:TG)(te:TE):TE:=λσ H Q=>wi σ H λJ H1=>∃W:Nat->Nat->List V->Hp->Prop,(∃m,W 0 m [] H1)/\∀i m ys H,W i m ys H ->
 (J.stop i H/\ys.length<=sizeLine/\∀p,H p=none->Q (.ref p) (upd H p (.lst ys))) ∨
 (J.go i H/\ys.length<=sizeLine/\∀x H',J.yld i H x H'->g x (rE fr σ) H' λσ2 H2=>te σ2 H2 λy H3=>∃m',m'<m/\W (i+1) m' (ys++[y]) H3)
structure CF (X:Cx)(pins:List (Addr×Obj))(H:Hp)(C:Addr):Prop where
 none:H C=none
 loc:C≠X.env.locals
 sz:X.s₀.heap.objs.size<=C
 cel:∀x c,X.env.cells.lookup x=some c->c≠C
 pin:∀p∈X.pn++pins,p.1≠C
theorem aC2 {X:Cx}{elt iter tg:Expr}{scope:Scope}{pos pos2:Pos}{N':List Str}{fr:List (Option Nat)}{wi:TI}{g:TG}{te:TE}(S:eY X N' fr scope)(hc:X.calm=true)(hi:PI X tg iter wi)(hg:∀C s H fp pins,PG (X.blk N' scope C s H fp pins) tg g)(he:∀C s H fp pins,PE (X.blk N' scope C s H fp pins) elt te)(hs:∀x,foldedSetIterable iter X.env x=pure x){pins:List (Addr×Obj)}{s:Shared}{σ:St}{H:Hp}{Q:VK}(I:Inv X pins σ H s)(h:tLc wi fr g te σ H Q)(use:Option (Value->Sem Unit))(Post:Value->Shared->Prop)(fin:∀D C H' s4 m,Inv X pins σ H' s4->s4.heap.Ns C m->CF X pins H' C->Q (.ref D) H'->compPost (model X.prog X.w) X.A X.xe use Post (.ref D) C (.ok .next) s4) :
  wpAny (model X.prog X.w) X.A (comprehension (.ListComp elt [⟨tg,iter,[],0⟩] scope pos) scope X.env pos2 (newList []) false (eval iter X.env) use) Post X.xe s:=by
 refine wpAny_comprehension_free (use:=use) rfl hs (aAX (S.hasC I.ok)) S.kind S.names ?_;show wpAny _ _ (eval iter X.env) _ _ s;refine thn (hi pins s σ H _ I h) λv s1 h1=>thn h1 λitv s2 h2=>?_;obtain⟨it,fp,tn,J,H2,e,I2,T,st2,f2,W,⟨m0,w0⟩,turn⟩:=h2;subst e;refine wpAny_newObj_type (wpAny_newFunctionEnv S.nocell (by intro y hy;simp at hy) (λh₁ hns₁ hsb₁=>?_) S.kind);dsimp only at hns₁ hsb₁ ⊢;generalize hHp:s2.heap.push { cls:=.type "list",dict:=none,data:=.seq ([]:List Value).toArray }=HP at hns₁ hsb₁ ⊢;have hC:HP.objs.size=s2.heap.objs.size+1:=by rw[<- hHp,Heap.size_push]
 generalize hCe:HP.objs.size=C at hns₁ hsb₁ ⊢;generalize hDe:s2.heap.objs.size=D at hC ⊢;have hDC:D≠C:=by omega
 have hCle:s2.heap.objs.size<=C:=by omega
 have old:∀b o,s2.heap.get? b=some o->h₁.get? b=some o:=λb o e=>hsb₁.extBut b o (Nat.ne_of_lt (Nat.lt_of_lt_of_le (Heap.lt_size e) hCle)) (Heap.get?_push_of_some _ (hHp ▸ Heap.get?_push_of_some _ e));have hD1:h₁.PlainList D #[]:=⟨_,by refine hsb₁.extBut _ _ hDC (Heap.get?_push_of_some _ ?_);rw[<- hHp,<- hDe];exact Heap.get?_push_size _ rfl⟩
 have ltf:∀b∈fp,b<D:=λb hb=>by obtain⟨o,e,_⟩:=T.obj _ _ st2 b hb;exact Nat.lt_of_lt_of_eq (Heap.lt_size e) hDe
 have J0:=aG6 (s1:={ s2 with heap:=h₁,toks:=s2.toks+([]:List (Str×Value)).length }) S I2 f2 (λb hb=>let ⟨o,e,_⟩:=T.obj _ _ st2 b hb;⟨o,e⟩) rfl rfl hCle old hns₁;have ltC:∀b,b<D->b≠C:=λb hb=>Nat.ne_of_lt (Nat.lt_of_lt_of_le hb (by rw[<- hDe];exact hCle));have old2:∀b o,s2.heap.get? b=some o->b<D:=λb o e=>Nat.lt_of_lt_of_eq (Heap.lt_size e) hDe;have neD:∀b o,s2.heap.get? b=some o->b≠D:=λb o e=>Nat.ne_of_lt (old2 b o e);have hDs:s2.heap.objs.size<=D:=Nat.le_of_eq hDe;have hDfs:D∉frs X.stack:=λhb=>by
  rcases List.mem_cons.mp (I2.stkSub D hb) with z|z
  ·have:=I2.lt;rw[<- z] at this;exact absurd (Nat.lt_of_lt_of_le this hDs) (Nat.lt_irrefl _)
  ·exact I2.nofs hDs z
 have cellD:∀x c,X.env.cells.lookup x=some c->c≠D/\c≠C:=λx c e=>by obtain⟨v,o,ho,_⟩:=I2.cell x c e;exact⟨neD c o ho,ltC c (old2 c o ho)⟩
 have pinD:∀p∈X.pn++pins,p.1≠D/\p.1≠C:=λp hp=>by have e:=(I2.pin p hp).1;exact⟨neD _ _ e,ltC _ (old2 _ _ e)⟩
 have fpok:∀(pl:List (Addr×Obj)) (H':Hp),(∀b∈fp,H' b=none)->(∀p∈pl,∀b∈fp,p.1≠b)->∀b∈fp,xP (X.blk N' scope C s2 H2 fp pins) pl H' b:=λpl H' hn hpl b hb=>by
  refine⟨hn b hb,ltC b (ltf b hb),J0.ok.exfs b hb,.inl hb,(J0.ok.exf b hb).2,λp hp=>?_⟩;rcases List.mem_append.mp hp with z|z
  ·exact(f2 b hb).2.2.2.2.2 p z
  ·exact hpl p z b hb
 have loop:codeAny (model X.prog X.w) X.A (.compLoop (.ListComp elt [⟨tg,iter,[],0⟩] scope pos) 0 (.ref it) (.ref D) (compEnvC scope (clo X.env.cells scope.names []) C X.env))
   (compPost (model X.prog X.w) X.A X.xe use Post (.ref D) C) { s2 with heap:=h₁,toks:=s2.toks+([]:List (Str×Value)).length }:=by
  refine nP (λn s'=>∃i H' ys its,Inv (X.blk N' scope C s2 H2 fp pins) [] (rE fr σ) H' s'/\tn i s'.heap/\(∀b∈fp,H' b=none)/\s'.heap.PlainList D its/\H' D=none/\bT ys its.toList/\W i n ys H') ?_ m0
   ⟨0,H2,[],#[],J0,T.keep _ _ _ st2 λb hb o e=>old b o e,λb hb=>(f2 b hb).1,hD1,I2.hok.fresh hDs,.nil,w0⟩
  rintro n s3 ⟨i,H3,ys,its,I3,st3,fr3,⟨nn,pl3⟩,hD3,rv3,w3⟩;have I3p:Inv (X.blk N' scope C s2 H2 fp pins) [(D,{ cls:=.type "list",data:=.seq its nn })] (rE fr σ) H3 s3:=I3.pins_of λp hp=>by have e:=List.mem_singleton.mp hp;subst e;exact⟨pl3,hD3,hDC,hDfs,λv z=>by cases z⟩
  have pf:∀p∈[((D,{ cls:=.type "list",data:=.seq its nn }):Addr×Obj)],∀b∈fp,p.1≠b:=λp hp b hb=>by have e:=List.mem_singleton.mp hp;subst e;exact(Nat.ne_of_lt (ltf b hb)).symm
  rcases turn i n ys H3 w3 with⟨stop,hz,q⟩|⟨go,hz,step⟩
  ·refine thn (T.done (X.blk N' scope C s2 H2 fp pins) rfl rfl rfl hc i _ s3 _ H3 (λ_ _=>False) I3p (fpok _ H3 fr3 pf) st3 stop) λr s4 ⟨hr,I4⟩=>?_;subst hr;obtain⟨mm,hn4,_⟩:=id I4.loc;have pD:=(I4.pin _ (mem_append_right _ mem_cons_self)).1;have IX:Inv X pins σ H3 s4:=I2.call' I4.os I4.base I4.hok I4.bare λb hb=>⟨(f2 b hb).2.2.2.1,(f2 b hb).2.1,(f2 b hb).2.2.2.2.1,(f2 b hb).2.2.2.2.2⟩;have CL:C≠X.env.locals:=(Nat.ne_of_lt (Nat.lt_of_lt_of_le I2.lt hCle)).symm;have DL:D≠X.env.locals:=(Nat.ne_of_lt (Nat.lt_of_lt_of_le I2.lt hDs)).symm;refine fin D C (upd H3 D (.lst ys)) s4 mm (IX.track hD3 (Nat.le_trans I2.sz hDs) DL (λx c e=>(cellD x c e).1) (λp hp=>(pinD p hp).1) ⟨hz,its.toList,nn,rv3,pD⟩) hn4 ⟨by rw[aZ (Ne.symm hDC)];exact I4.free,CL,Nat.le_trans I2.sz hCle,λx c e=>(cellD x c e).2,λp hp=>(pinD p hp).2⟩ (q D hD3)
  ·refine thn (T.item (X.blk N' scope C s2 H2 fp pins) rfl rfl rfl hc i _ s3 _ H3 (λ_ _=>False) I3p (fpok _ H3 fr3 pf) st3 go) λr s4 ⟨u,hr,h4⟩=>?_;subst hr;refine thn h4 λ_ s5 ⟨x,H5,I5,r5,y5,st5,fr5⟩=>?_;have I5':=I5.pinned (fpok _ H5 fr5 pf) (T.obj _ _ st5);refine thn (hg C s2 H2 fp pins _ s5 _ H5 x u _ I5' r5 (step x H5 y5)) λ_ s6 ⟨σ6,H6,I6,q6⟩=>?_;refine thn (he C s2 H2 fp pins _ s6 σ6 H6 _ I6 q6) λyv s7 ⟨y,H7,I7,ry,m',hm,w7⟩=>?_;obtain⟨pD,nD,_⟩:=I7.pin _ (mem_append_right _ (mem_append_left _ mem_cons_self));have lz:its.size<=sizeLine:=by
    have e:ys.length=its.size:=by rw[rv3.length];simp
    rw[<- e];exact hz
   refine wpAny_list_append_plain (hsz:=lz) ⟨nn,pD⟩ λh8 pl8 sb8=>?_;have I7a:Inv (X.blk N' scope C s2 H2 fp pins) [] σ6 H7 s7:=I7.pins_of λp hp=>nomatch hp;have I8:Inv (X.blk N' scope C s2 H2 fp pins) [] σ6 H7 { s7 with heap:=h8,toks:=s7.toks }:=I7a.turned (it:=D) (λb o hb e=>sb8.extBut b o hb e) nD hDC (.inr hDs) (λx c e=>(cellD x c (S.sub I2.ok e)).1) λp hp=>by rw[append_nil] at hp;exact(pinD p hp).1
   refine⟨m',hm,i+1,H7,ys++[y],its.push yv,aDh S I2 I8,?_,λb hb=>?_,pl8,nD,?_,w7⟩
   ·refine T.keep _ _ _ st5 λb hb o e=>sb8.extBut b o (Nat.ne_of_lt (ltf b hb)) (I7.pin (b,o) (mem_append_right _ (mem_append_right _ (mN hb e)))).1
   ·obtain⟨o,e,d⟩:=T.obj _ _ st5 b hb;exact(I7.pin (b,o) (mem_append_right _ (mem_append_right _ (mN hb e)))).2.1
   ·rw[Array.toList_push];exact rv3.append (.cons ry .nil)
 exact codeAny_compStart_list loop (T.self _ _ _ _ _ (T.keep _ _ _ st2 λb hb o e=>old b o e) loop)
theorem aFr {X:Cx}{elt iter tg:Expr}{scope:Scope}{pos:Pos}{N':List Str}{fr:List (Option Nat)}{wi:TI}{g:TG}{te:TE}(S:eY X N' fr scope)(hc:X.calm=true)(hi:PI X tg iter wi)(hg:∀C s H fp pins,PG (X.blk N' scope C s H fp pins) tg g)(he:∀C s H fp pins,PE (X.blk N' scope C s H fp pins) elt te)(hs:∀x,foldedSetIterable iter X.env x=pure x:=by intro _;rfl) :
  PE X (.ListComp elt [⟨tg,iter,[],0⟩] scope pos) (tLc wi fr g te):=by
 intro pins s σ H Q I h;rw[eval_ListComp];refine aC2 S hc hi hg he hs I h none (EP X pins σ Q) λD C H' s4 m J hn F q=>⟨m,hn,λh' sb=>?_⟩;exact⟨.ref D,H',J.turned (t':=s4.toks) (it:=C) (λb o hb e=>sb.extBut b o hb e) F.none F.loc (.inr F.sz) F.cel F.pin,rfl,q⟩
theorem wO {X:Cx}{elt iter tg:Expr}{scope:Scope}{pos spos py:Pos}{N':List Str}{fr:List (Option Nat)}{wi:TI}{g:TG}{te:TE}{i:Nat}{y:Str}(S:eY X N' fr scope)(hc:X.calm=true)(hN:X.N.Nodup)(hi:PI X tg iter wi)(hg:∀C s H fp pins,PG (X.blk N' scope C s H fp pins) tg g)(he:∀C s H fp pins,PE (X.blk N' scope C s H fp pins) elt te)(hy:X.N[i]?=some y)(hx:Loc X.env.scope y)(hsw:swapsWith (.ListComp elt [⟨tg,iter,[],0⟩] scope pos) (some (.Name y py)) spos.line X.env=pure true)(hf:X.fn y=true∨X.env.scope.names.lookup y=some .local)(hs:∀x,foldedSetIterable iter X.env x=pure x) :
  PS X (.Assign [.Name y py] (.ListComp elt [⟨tg,iter,[],0⟩] scope pos) spos) (λD σ H=>tLc wi fr g te σ H λv H'=>D.nx (σ.set i (some v)) H'):=by
 intro pins s σ H D I h;rw[exec_Assign_Name_used _ _ _ _ hsw];refine wpAny_bind (wpAny_standAt (wpAny_bind ?_));show wpAny _ X.A (do let _ <- comprehension (.ListComp elt [⟨tg,iter,[],0⟩] scope pos) scope X.env _ (newList []) false (eval iter X.env) (some (assign (.Name y py) X.env))) _ _ s;refine wpAny_bind (wpAny_mono (aC2 S hc hi hg he hs I h (some (assign (.Name y py) X.env)) (λ_ s'=>SP X pins D .next s') λD' C H' s4 m J hn F q=>?_) (λ_ s' hq=>wpAny_pure (wpAny_pure hq)) λ_ _ e=>e);show wpAny _ X.A (assign (.Name y py) X.env (.ref D')) _ _ s4;refine wpAny_assign_Name (yU J hN hy hx (v:=.ref D') rfl (λs5 I5 ⟨a,sb,ha⟩=>?_) hf);have hCa:C≠a:=by
  rcases ha with rfl|ha
  ·exact F.loc
  ·exact(F.cel y a ha).symm
 refine⟨m,hn.sameBut sb hCa,λh' sb'=>?_⟩;exact⟨_,H',I5.turned (t':=s5.toks) (it:=C) (λb o hb e=>sb'.extBut b o hb e) F.none F.loc (.inr F.sz) F.cel F.pin,q⟩
end L2
namespace Dd
open PySem PySem.Spec PyProof.Rows L2
noncomputable def tM (fr:List (Option Nat))(ρ:cJ):cJ:=fr.map λo=>match o with
 |some j=>(ρ[j]?).join
 |none=>none
section
variable {K:Frag}{H:Hp}{ρ:cJ}{σ:L2.St}
theorem aBt (re:fV K H ρ σ)(fr:List (Option Nat)):fV K H (tM fr ρ) (rE fr σ):=by
 refine⟨by unfold tM rE;rw[length_map,length_map],λi d e=>?_⟩;unfold tM at e;unfold rE;rw[getElem?_map] at e ⊢;cases hf:fr[i]? with
 |none=>rw[hf] at e;cases e
 |some o =>
  rw[hf] at e;cases o with
  |none=>cases e
  |some j =>
   have e:(ρ[j]?).join=some d:=Option.some.inj e;have e2:ρ[j]?=some (some d):=by
    cases h:ρ[j]? with
    |none=>rw[h] at e;cases e
    |some o=>rw[h] at e;rw[show o=some d from e]
   obtain⟨v,hv,r⟩:=re.get j d e2;refine⟨v,?_,r⟩;show some (σ[j]?).join=some (some v);rw[hv];rfl
end
def xK (at':Option Addr)(ds:List D)(ρ0:cJ)(g:DG)(te:DE)(M:DM)(Q:DQ):Prop:=ds.length<=1000/\∃Pv:Nat->List D->DM->Prop,Pv 0 [] M /\
 (∀i ys M,i<=ds.length->Pv i ys M->∀a,at'=some a->M a=some ds) /\
 (∀i d ys M,ds[i]?=some d->Pv i ys M->g d ρ0 M λρ2 M2=>te ρ2 M2 λy M3=>Pv (i+1) (ys++[y]) M3) /\
 ∀ys M,ys.length=ds.length->Pv ds.length ys M->∀p:Addr,M p=none->Q (.ref p) (bH M p ys)
def aH4 (lo:Int)(n:Nat)(ρ0:cJ)(g:DG)(te:DE)(M:DM)(Q:DQ):Prop:=n<=1000/\∃Pv:Nat->List D->DM->Prop,Pv 0 [] M /\
 (∀(i:Nat) ys M,i<n->Pv i ys M->g (.int (lo+i)) ρ0 M λρ2 M2=>te ρ2 M2 λy M3=>Pv (i+1) (ys++[y]) M3) /\
 ∀ys M,ys.length=n->Pv n ys M->∀p:Addr,M p=none->Q (.ref p) (bH M p ys)
def aEv (tl:DE)(fr:List (Option Nat))(g:DG)(te:DE):DE:=λρ M Q=>tl ρ M λd M1=>match d with
 |.fz ds=>xK none ds (tM fr ρ) g te M1 Q
 |.ref a=>∃ds,M1 a=some ds/\xK (some a) ds (tM fr ρ) g te M1 Q
 |_=>False
def aEs (tl:DE)(fr:List (Option Nat))(g:DG)(te:DE):DE:=λρ M Q=>tl ρ M λd M1=>match d with
 |.tup ds=>xK none ds (tM fr ρ) g te M1 Q
 |_=>False
def aFs (ta:DA)(fr:List (Option Nat))(g:DG)(te:DE):DE:=λρ M Q=>ta ρ M λds M1=>match ds with
 |[.int j]=>(-(2^62)<=j/\j<2^62)/\aH4 0 j.toNat (tM fr ρ) g te M1 Q
 |_=>False
section
variable {X:Cx}{g:DG}{te:DE}
theorem tJ {K:Frag}{a':Option Addr}{ds:List D}{fr:List (Option Nat)}{σ:L2.St}{ρ:cJ}{M:DM}{H0 H:Hp}{J:It}{Q:VK}{Q':DQ}(ex0:Ext H0 H)(re:fV K H ρ σ)(hm:bO K M H)(h:xK a' ds (tM fr ρ) g te M Q')(kq:∀v H',LQ K H0 Q' v H'->Q v H')(seq:∀H',Ext H H'->(∀M',bO K M' H'->(∀a,a'=some a->M' a=some ds)->∃xs,bK K H' ds xs/\(∀i,xs.length<=i->J.stop i H')/\(∀i,i<xs.length->J.go i H')/\∀i x H2,J.yld i H' x H2->H2=H'/\xs[i]?=some x)) :
  ∃W:Nat->Nat->List V->Hp->Prop,(∃m,W 0 m [] H)/\∀i m ys H,W i m ys H ->
   (J.stop i H/\ys.length<=sizeLine/\∀p,H p=none->Q (.ref p) (upd H p (.lst ys))) ∨
   (J.go i H/\ys.length<=sizeLine/\∀x H',J.yld i H x H'->tG K g x (rE fr σ) H' λσ2 H2=>low K te σ2 H2 λy H3=>∃m',m'<m/\W (i+1) m' (ys++[y]) H3):=by
 obtain⟨hl,Pv,p0,hat,step,done⟩:=h;refine⟨λi m ysV H'=>∃ys M',bK K H' ys ysV/\bO K M' H'/\Ext H H'/\m=ds.length-i/\i<=ds.length/\ys.length=i/\Pv i ys M',⟨ds.length,[],M,cL,hm,.refl H,rfl,Nat.zero_le _,rfl,p0⟩,?_⟩;rintro i m ysV H1 ⟨ys,M1,ry,hm1,e1,rfl,hi,ly,w1⟩;obtain⟨xs,rs,hst,hgo,hy⟩:=seq H1 e1 M1 hm1 (hat i ys M1 hi w1);have hll:=rs.length;have lz:ysV.length<=sizeLine:=by rw[<- ry.length];exact Nat.le_of_lt (eL (by omega))
 by_cases hlt:i<ds.length
 ·refine .inr ⟨hgo i (by omega),lz,λx H' y=>?_⟩;obtain⟨rfl,hx⟩:=hy i x H' y;obtain⟨d,hd,rd⟩:=rs.getV hx;refine⟨d,tM fr ρ,M1,_,rd,aBt (re.ext e1) fr,hm1,step i d ys M1 hd w1,λσ2 H2 ⟨ρ2,M2,re2,hm2,e2,q2⟩=>?_⟩;refine⟨ρ2,M2,_,re2,hm2,q2,λv H3 ⟨dy,M3,rdy,hm3,e3,q3⟩=>?_⟩;exact⟨ds.length-(i+1),by omega,ys++[dy],M3,(ry.ext (e2.trans e3)).append (bN rdy cL),hm3,(e1.trans e2).trans e3,rfl,hlt,by rw[length_append,ly];rfl,q3⟩
 ·have e:i=ds.length:=by omega
  subst e;exact .inl ⟨hst _ (by omega),lz,λp hp=>kq _ _ ⟨.ref p,_,gJ,hm1.lnew hp ry,(ex0.trans e1).trans (Ext.new hp _),done ys M1 ly w1 p (hm1.fresh hp)⟩⟩
theorem aCB {K:Frag}{lo:Int}{n:Nat}{fr:List (Option Nat)}{σ:L2.St}{ρ:cJ}{M:DM}{H0 H:Hp}{Q:VK}{Q':DQ}(ex0:Ext H0 H)(re:fV K H ρ σ)(hm:bO K M H)(h:aH4 lo n (tM fr ρ) g te M Q')(kq:∀v H',LQ K H0 Q' v H'->Q v H') :
  ∃W:Nat->Nat->List V->Hp->Prop,(∃m,W 0 m [] H)/\∀i m ys H,W i m ys H ->
   ((Itr lo n).stop i H/\ys.length<=sizeLine/\∀p,H p=none->Q (.ref p) (upd H p (.lst ys))) ∨
   ((Itr lo n).go i H/\ys.length<=sizeLine/\∀x H',(Itr lo n).yld i H x H'->tG K g x (rE fr σ) H' λσ2 H2=>low K te σ2 H2 λy H3=>∃m',m'<m/\W (i+1) m' (ys++[y]) H3):=by
 obtain⟨hl,Pv,p0,step,done⟩:=h;refine⟨λi m ysV H'=>∃ys M',bK K H' ys ysV/\bO K M' H'/\Ext H H'/\m=n-i/\i<=n/\ys.length=i/\Pv i ys M',⟨n,[],M,cL,hm,.refl H,rfl,Nat.zero_le _,rfl,p0⟩,?_⟩;rintro i m ysV H1 ⟨ys,M1,ry,hm1,e1,rfl,hi,ly,w1⟩;have lz:ysV.length<=sizeLine:=by rw[<- ry.length];exact Nat.le_of_lt (eL (by omega))
 by_cases hlt:i<n
 ·refine .inr ⟨hlt,lz,λx H' y=>?_⟩;obtain⟨rfl,rfl⟩:=y;refine⟨_,tM fr ρ,M1,_,cA,aBt (re.ext e1) fr,hm1,step i ys M1 hlt w1,λσ2 H2 ⟨ρ2,M2,re2,hm2,e2,q2⟩=>?_⟩;refine⟨ρ2,M2,_,re2,hm2,q2,λv H3 ⟨dy,M3,rdy,hm3,e3,q3⟩=>?_⟩;exact⟨n-(i+1),by omega,ys++[dy],M3,(ry.ext (e2.trans e3)).append (bN rdy cL),hm3,(e1.trans e2).trans e3,rfl,hlt,by rw[length_append,ly];rfl,q3⟩
 ·have e:i=n:=by omega
  subst e;exact .inl ⟨Nat.le_refl _,lz,λp hp=>kq _ _ ⟨.ref p,_,gJ,hm1.lnew hp ry,(ex0.trans e1).trans (Ext.new hp _),done ys M1 ly w1 p (hm1.fresh hp)⟩⟩
variable {elt iter tg:Expr}{scope:Scope}{pos:Pos}{N':List Str}{fr:List (Option Nat)}{tl:DE}{ta:DA}{oN:List Str}{osc:Scope}
theorem aJ8 (B:gW oN osc N' fr scope)(hc:X.calm=true)(hi:PDE X iter tl)(hg:∀C s H fp pins,PG (X.blk N' scope C s H fp pins) tg (tG X.K g))(he:∀C s H fp pins,PE (X.blk N' scope C s H fp pins) elt (low X.K te))(hN:X.N=oN:=by rfl)(ho:X.env.scope=osc:=by rfl)(hs:∀x,foldedSetIterable iter X.env x=pure x:=by intro _;rfl) :
  PDE X (.ListComp elt [⟨tg,iter,[],0⟩] scope pos) (aEv tl fr g te) :=
 cH (aFr (B.scope hN ho) hc (aAl hi) hg he hs) λσ H Q ⟨ρ,M,Q',re,hm,q,k⟩=>⟨ρ,M,_,re,hm,q,λv H1 ⟨d,M1,rd,hm1,ex,q1⟩=>by
  cases d with
  |fz ds =>
   obtain⟨a,xs,rfl,sq,rs⟩:=nZ rd;exact⟨a,rfl,⟨xs,sq.sq⟩,tJ ex (re.ext ex) hm1 q1 k λH' e' M' hm' _=>⟨xs,rs.ext e',λi hi=>⟨xs,(iE e' sq).sq,hi⟩,λi hi=>⟨xs,xs[i],(iE e' sq).sq,by simp[hi]⟩,λi x H2 y=>⟨y.1,y.2 xs (iE e' sq).sq⟩⟩⟩
  |ref a =>
   obtain⟨ds,ha,q1⟩:=q1;obtain rfl:=aX rd;obtain⟨xs,hx,rs⟩:=hm1.l a ds ha;refine⟨a,rfl,⟨xs,.of hx⟩,tJ ex (re.ext ex) hm1 q1 k λH' e' M' hm' hat=>?_⟩;obtain⟨ys,hy,rs'⟩:=hm'.l a ds (hat a rfl);exact⟨ys,rs',λi hi=>⟨ys,.of hy,hi⟩,λi hi=>⟨ys,ys[i],.of hy,by simp[hi]⟩,λi x H2 y=>⟨y.1,y.2 ys (.of hy)⟩⟩
  |_=>exact q1.elim⟩
theorem aKf (B:gW oN osc N' fr scope)(hc:X.calm=true)(hi:PDE X iter tl)(hg:∀C s H fp pins,PG (X.blk N' scope C s H fp pins) tg (tG X.K g))(he:∀C s H fp pins,PE (X.blk N' scope C s H fp pins) elt (low X.K te))(hN:X.N=oN:=by rfl)(ho:X.env.scope=osc:=by rfl)(hs:∀x,foldedSetIterable iter X.env x=pure x:=by intro _;rfl) :
  PDE X (.ListComp elt [⟨tg,iter,[],0⟩] scope pos) (aEs tl fr g te) :=
 cH (aFr (B.scope hN ho) hc (aEB hi) hg he hs) λσ H Q ⟨ρ,M,Q',re,hm,q,k⟩=>⟨ρ,M,_,re,hm,q,λv H1 ⟨d,M1,rd,hm1,ex,q1⟩=>by
  cases d with
  |tup ds =>
   obtain⟨a,xs,rfl,sq,rs⟩:=bE rd;exact⟨a,rfl,⟨xs,sq⟩,tJ ex (re.ext ex) hm1 q1 k λH' e' M' hm' _=>⟨xs,rs.ext e',λi hi=>⟨xs,mI e' sq,hi⟩,λi hi=>⟨xs,xs[i],mI e' sq,by simp[hi]⟩,λi x H2 y=>⟨y.1,y.2 xs (mI e' sq)⟩⟩⟩
  |_=>exact q1.elim⟩
theorem aIH {a:Expr}{p pos':Pos}(B:gW oN osc N' fr scope)(hc:X.calm = true)(hmg:X.mg "range" = none)(ha:PDA X [a] ta)(hg:∀C s H fp pins,PG (X.blk N' scope C s H fp pins) tg (tG X.K g))(he:∀C s H fp pins,PE (X.blk N' scope C s H fp pins) elt (low X.K te))(hN:X.N = oN:=by rfl)(ho:X.env.scope = osc:=by rfl)(hgl:Gl X "range":=by rfl)(hse:starEach [a] X.env=[(false,eval a X.env)]:=by rfl)(hs:∀x,foldedSetIterable (.Call (.Name "range" p) [a] [] pos') X.env x=pure x:=by intro _;rfl) :
  PDE X (.ListComp elt [⟨tg,.Call (.Name "range" p) [a] [] pos',[],0⟩] scope pos) (aFs ta fr g te) :=
 cH (aFr (B.scope hN ho) hc (tL hgl hmg ha hse) hg he hs) λσ H Q ⟨ρ,M,Q',re,hm,q,k⟩=>⟨ρ,M,_,re,hm,q,λvs H1 ⟨ds,M1,rs,hm1,ex,q1⟩=>by
  rcases ds with _|⟨d,_|⟨d2,r⟩⟩
  ·exact q1.elim
  ·cases d with
   |int j =>
    obtain⟨⟨j1,j2⟩,q1⟩:=q1;obtain⟨v1,r1,rfl,rv1,rr1⟩:=aT rs;obtain rfl:=bB rr1;obtain rfl:=aW rv1;exact⟨j,rfl,j1,j2,aCB ex (re.ext ex) hm1 q1 k⟩
   |_=>exact q1.elim
  ·cases d<;>exact q1.elim⟩
def qJ (i:Nat)(t:DE):DS:=λE ρ M=>t ρ M λx M1=>E.nx (ρ.set i (some x)) M1
theorem aDg {i:Nat}{y:Str}{spos py:Pos}(B:gW oN osc N' fr scope)(hc:X.calm=true)(hNd:X.N.Nodup)(hi:PDE X iter tl)(hg:∀C s H fp pins,PG (X.blk N' scope C s H fp pins) tg (tG X.K g))(he:∀C s H fp pins,PE (X.blk N' scope C s H fp pins) elt (low X.K te))(hy:X.N[i]?=some y:=by rfl)(hx:Loc X.env.scope y:=by first|exact Or.inl rfl|exact Or.inr rfl)(hsw:swapsWith (.ListComp elt [⟨tg,iter,[],0⟩] scope pos) (some (.Name y py)) spos.line X.env=pure true:=by rfl)(hf:X.fn y=true∨X.env.scope.names.lookup y=some .local:=by first|exact .inl rfl|exact .inr rfl|assumption)(hN:X.N=oN:=by rfl)(ho:X.env.scope=osc:=by rfl)(hs:∀x,foldedSetIterable iter X.env x=pure x:=by intro _;rfl) :
  PDS X (.Assign [.Name y py] (.ListComp elt [⟨tg,iter,[],0⟩] scope pos) spos) (qJ i (aEv tl fr g te)) :=
 fX (wO (i:=i) (B.scope hN ho) hc hNd (aAl hi) hg he hy hx hsw hf hs) λE σ H ⟨ρ,M,D,re,hm,q,kk⟩=>⟨ρ,M,_,re,hm,q,λv H1 ⟨d,M1,rd,hm1,ex,q1⟩=>by
  have k:∀v H',LQ X.K H (λx M1=>D.nx (ρ.set i (some x)) M1) v H'->E.nx (σ.set i (some v)) H':=λv H' ⟨d,M',rd',hm',e',q'⟩=>kk.nx _ H' ⟨_,M',(re.ext e').set rd' i,hm',e',q'⟩;cases d with
  |fz ds =>
   obtain⟨a,xs,rfl,sq,rs⟩:=nZ rd;exact⟨a,rfl,⟨xs,sq.sq⟩,tJ ex (re.ext ex) hm1 q1 k λH' e' M' hm' _=>⟨xs,rs.ext e',λi hi=>⟨xs,(iE e' sq).sq,hi⟩,λi hi=>⟨xs,xs[i],(iE e' sq).sq,by simp[hi]⟩,λi x H2 y=>⟨y.1,y.2 xs (iE e' sq).sq⟩⟩⟩
  |ref a =>
   obtain⟨ds,ha,q1⟩:=q1;obtain rfl:=aX rd;obtain⟨xs,hx,rs⟩:=hm1.l a ds ha;refine⟨a,rfl,⟨xs,.of hx⟩,tJ ex (re.ext ex) hm1 q1 k λH' e' M' hm' hat=>?_⟩;obtain⟨ys,hy,rs'⟩:=hm'.l a ds (hat a rfl);exact⟨ys,rs',λi hi=>⟨ys,.of hy,hi⟩,λi hi=>⟨ys,ys[i],.of hy,by simp[hi]⟩,λi x H2 y=>⟨y.1,y.2 ys (.of hy)⟩⟩
  |_=>exact q1.elim⟩
theorem aDk {i:Nat}{y:Str}{spos py:Pos}(B:gW oN osc N' fr scope)(hc:X.calm=true)(hNd:X.N.Nodup)(hi:PDE X iter tl)(hg:∀C s H fp pins,PG (X.blk N' scope C s H fp pins) tg (tG X.K g))(he:∀C s H fp pins,PE (X.blk N' scope C s H fp pins) elt (low X.K te))(hy:X.N[i]?=some y:=by rfl)(hx:Loc X.env.scope y:=by first|exact Or.inl rfl|exact Or.inr rfl)(hsw:swapsWith (.ListComp elt [⟨tg,iter,[],0⟩] scope pos) (some (.Name y py)) spos.line X.env=pure true:=by rfl)(hf:X.fn y=true∨X.env.scope.names.lookup y=some .local:=by first|exact .inl rfl|exact .inr rfl|assumption)(hN:X.N=oN:=by rfl)(ho:X.env.scope=osc:=by rfl)(hs:∀x,foldedSetIterable iter X.env x=pure x:=by intro _;rfl) :
  PDS X (.Assign [.Name y py] (.ListComp elt [⟨tg,iter,[],0⟩] scope pos) spos) (qJ i (aEs tl fr g te)) :=
 fX (wO (i:=i) (B.scope hN ho) hc hNd (aEB hi) hg he hy hx hsw hf hs) λE σ H ⟨ρ,M,D,re,hm,q,kk⟩=>⟨ρ,M,_,re,hm,q,λv H1 ⟨d,M1,rd,hm1,ex,q1⟩=>by
  have k:∀v H',LQ X.K H (λx M1=>D.nx (ρ.set i (some x)) M1) v H'->E.nx (σ.set i (some v)) H':=λv H' ⟨d,M',rd',hm',e',q'⟩=>kk.nx _ H' ⟨_,M',(re.ext e').set rd' i,hm',e',q'⟩;cases d with
  |tup ds =>
   obtain⟨a,xs,rfl,sq,rs⟩:=bE rd;exact⟨a,rfl,⟨xs,sq⟩,tJ ex (re.ext ex) hm1 q1 k λH' e' M' hm' _=>⟨xs,rs.ext e',λi hi=>⟨xs,mI e' sq,hi⟩,λi hi=>⟨xs,xs[i],mI e' sq,by simp[hi]⟩,λi x H2 y=>⟨y.1,y.2 xs (mI e' sq)⟩⟩⟩
  |_=>exact q1.elim⟩
theorem aDe {a:Expr}{p pos':Pos}{i:Nat}{y:Str}{spos py:Pos}(B:gW oN osc N' fr scope)(hc:X.calm = true)(hNd:X.N.Nodup)(hmg:X.mg "range"=none)(ha:PDA X [a] ta)(hg:∀C s H fp pins,PG (X.blk N' scope C s H fp pins) tg (tG X.K g))(he:∀C s H fp pins,PE (X.blk N' scope C s H fp pins) elt (low X.K te))(hy:X.N[i]?=some y:=by rfl)(hx:Loc X.env.scope y:=by first|exact Or.inl rfl|exact Or.inr rfl)(hsw:swapsWith (.ListComp elt [⟨tg,.Call (.Name "range" p) [a] [] pos',[],0⟩] scope pos) (some (.Name y py)) spos.line X.env = pure true:=by rfl)(hf:X.fn y = true∨X.env.scope.names.lookup y = some .local:=by first|exact .inl rfl|exact .inr rfl|assumption)(hN:X.N = oN:=by rfl)(ho:X.env.scope = osc:=by rfl)(hgl:Gl X "range":=by rfl)(hse:starEach [a] X.env=[(false,eval a X.env)]:=by rfl)(hs:∀x,foldedSetIterable (.Call (.Name "range" p) [a] [] pos') X.env x=pure x:=by intro _;rfl) :
  PDS X (.Assign [.Name y py] (.ListComp elt [⟨tg,.Call (.Name "range" p) [a] [] pos',[],0⟩] scope pos) spos) (qJ i (aFs ta fr g te)) :=
 fX (wO (i:=i) (B.scope hN ho) hc hNd (tL hgl hmg ha hse) hg he hy hx hsw hf hs) λE σ H ⟨ρ,M,D,re,hm,q,kk⟩=>⟨ρ,M,_,re,hm,q,λvs H1 ⟨ds,M1,rs,hm1,ex,q1⟩=>by
  have k:∀v H',LQ X.K H (λx M1=>D.nx (ρ.set i (some x)) M1) v H'->E.nx (σ.set i (some v)) H':=λv H' ⟨d,M',rd',hm',e',q'⟩=>kk.nx _ H' ⟨_,M',(re.ext e').set rd' i,hm',e',q'⟩;rcases ds with _|⟨d,_|⟨d2,r⟩⟩
  ·exact q1.elim
  ·cases d with
   |int j =>
    obtain⟨⟨j1,j2⟩,q1⟩:=q1;obtain⟨v1,r1,rfl,rv1,rr1⟩:=aT rs;obtain rfl:=bB rr1;obtain rfl:=aW rv1;exact⟨j,rfl,j1,j2,aCB ex (re.ext ex) hm1 q1 k⟩
   |_=>exact q1.elim
  ·cases d<;>exact q1.elim⟩
end
end Dd
namespace L2
open PySem PySem.Spec PyProof.Rows
variable {X:Cx}
theorem wB (hc:X.calm = true):kS X (.builtin "all") (λxs H Q=>∃(p:Addr)(bs:List Bool),xs=[.ref p]/\SqL X.K H p (bs.map V.bl)/\Q (.bl (bs.all id)) H):=by
 intro pins s σ H xs us Q I r h;obtain⟨p,bs,rfl,hq,q⟩:=h;obtain⟨u,rfl,rx⟩:=zD r;cases rx;obtain⟨its,r',pl,hz⟩:=I.list hq;have hl:=pl.isList;have hlt:p<s.heap.objs.size:=by obtain⟨_,e,_⟩:=hl;exact Heap.lt_size e
 have hg:∀(i:Nat)(v:Value),its.toArray[i]?=some v->∃b,bs[i]?=some b/\v=Value.bool b:=λi v e=>by
  obtain⟨x,hx,rv⟩:∃x,(bs.map V.bl)[i]?=some x/\bM x v:=by
   have:=r'.length;have hi:i<its.length:=by have:=(Array.getElem?_eq_some_iff.mp e).1;simpa using this
   have hi':i<(bs.map V.bl).length:=by omega
   obtain⟨w,hw,rw'⟩:=r'.get (i:=i) (getElem?_eq_getElem hi');have:w=v:=by
    have e':its[i]?=some v:=by simpa using e
    rw[e'] at hw;exact(Option.some.inj hw).symm
   subst this;exact⟨_,getElem?_eq_getElem hi',rw'⟩
  rw[getElem?_map] at hx;cases hb:bs[i]? with
  |none=>rw[hb] at hx;cases hx
  |some b=>rw[hb] at hx;cases hx;cases rv;exact⟨b,rfl,rfl⟩
 refine call_all_walk (wpAny_pyIter_list hl ?_);refine⟨s.heap.objs.size,[s.heap.objs.size,p],[s.heap.objs.size],its.toArray.size,_,_,λi=>(bs[i]?).getD true,rfl,Walks.list (A:=X.A.in1) (I.ok.hd hc) _ p (Nat.ne_of_lt hlt) its.toArray,
  ⟨⟨_,Heap.get?_push_size _ rfl,rfl,rfl⟩,hl.push _⟩,λi v s' Q' E' hP hQ=>?_,λh' tk hk=>?_⟩
 ·obtain⟨b,e,rfl⟩:=hg i v hP;simp only[e,Option.getD_some] at hQ;exact wpAny_truthy_bool hQ
 ·have e:((range its.toArray.size).all λi=>(bs[i]?).getD true)=bs.all id:=by have l1:=r'.length;rw[length_map] at l1;rw[size_toArray,<- l1];exact LSm.range_all bs
  rw[e];exact⟨.bl (bs.all id),H,I.kept (t':=tk) (LSm.kept_iter hk),rfl,q⟩
end L2
namespace Dd
open PySem PySem.Spec PyProof.Rows L2
variable {X:Cx}
def aLR:DSp:=λds M Q=>match ds with
 |[.ref a]=>∃bs:List Bool,M a=some (bs.map D.bl)/\Q (.bl (bs.all id)) M
 |_=>False
theorem aBG {K:Frag}{H:Hp}:∀{bs:List Bool}{vs:List V},bK K H (bs.map D.bl) vs->vs=bs.map V.bl
 |[],_,h=>bB h
 |b::bs,_,h=>by obtain⟨v,r,rfl,hv,hr⟩:=aT h;rw[cD hv,aBG hr];rfl
theorem aCb (hc:X.calm = true):gH X (.builtin "all") aLR:=gH.of (wB hc) λvs H M ds Q rs hm q=>by
 rcases ds with _|⟨d,_|⟨d2,r⟩⟩
 ·exact q.elim
 ·cases d with
  |ref a =>
   obtain⟨v,rfl,rv⟩:=iR rs;obtain rfl:=aX rv;obtain⟨bs,ha,q⟩:=q;obtain⟨us,hu,ru⟩:=hm.l a _ ha;obtain rfl:=aBG ru;exact⟨a,bs,rfl,.of hu,_,M,dR,hm,.refl H,q⟩
  |_=>exact q.elim
 ·cases d<;>exact q.elim
section
variable {g:DG}{te:DE}{tb:DS}{Q:DQ}{ρ0:cJ}
def itT (d:D)(ρ0:cJ)(g:DG)(te:DE)(M:DM)(Q:DQ):Prop:=match d with
 |.tup ds=>xK none ds ρ0 g te M Q
 |_=>False
theorem aGS {tl:DE}{fr:List (Option Nat)}{ρ:cJ}{M:DM}:aEs tl fr g te ρ M Q=tl ρ M λd M1=>itT d (tM fr ρ) g te M1 Q:=rfl
theorem nA {ds:List D}{M:DM}:itT (.tup ds) ρ0 g te M Q=xK none ds ρ0 g te M Q:=rfl
def goC (g:DG)(te:DE)(ρ0:cJ)(Q:DQ):List D->List D->DM->Prop
 |[],ys,M=>∀p:Addr,M p=none->Q (.ref p) (bH M p ys)
 |d::r,ys,M=>g d ρ0 M λρ2 M2=>te ρ2 M2 λy M3=>goC g te ρ0 Q r (ys++[y]) M3
theorem lK {ds:List D}{M:DM}(hl:ds.length<=1000)(h:goC g te ρ0 Q ds [] M):xK none ds ρ0 g te M Q:=by
 refine⟨hl,λi ys M=>goC g te ρ0 Q (ds.drop i) ys M,h,λ_ _ _ _ _ a e=>(by cases e),λi d ys M hd hp=>?_,λys M _ hp p hn=>?_⟩
 ·obtain⟨hi,e⟩:=List.getElem?_eq_some_iff.mp hd;have hp:goC g te ρ0 Q (ds.drop i) ys M:=hp;rw[List.drop_eq_getElem_cons hi,e] at hp;exact hp
 ·have hp:goC g te ρ0 Q (ds.drop ds.length) ys M:=hp;rw[List.drop_length] at hp;exact hp p hn
def goR (lo:Int)(g:DG)(tb:DS)(E:iX):Nat->Nat->cJ->DM->Prop
 |0,_,ρ,M=>E.nx ρ M
 |n+1,i,ρ,M=>g (.int (lo+i)) ρ M λρ2 M2=>tb { E with nx:=goR lo g tb E n (i+1),ct:=goR lo g tb E n (i+1),bk:=E.nx } ρ2 M2
end
section
variable {e:Expr}{te:DE}{pos:Pos}
end
section
variable {X:Cx}{e:Expr}{te:DE}{pos p2:Pos}{lo hi:Option Expr}{tl th:DO}
def aH5 (x:D)(lo hi:Option Int)(M:DM)(Q:DQ):Prop:=match x with
 |.tup ds=>¬(HT.sIx ds.length 0 lo=0/\HT.sIx ds.length ds.length hi=ds.length)/\Q (.tup (cutD ds lo hi)) M
 |_=>False
def aKK (te:DE)(tl th:DO):DE:=λρ M Q=>te ρ M λx M1=>tl ρ M1 λl M2=>th ρ M2 λh M3=>aH5 x l h M3 Q
theorem aDc (he:PDE X e te)(hl:PO X lo (aAH X.K tl))(hu:PO X hi (aAH X.K th)):PDE X (.Subscript e (.Slice lo hi none p2) pos) (aKK te tl th) :=
 cH (aBn aKv he hl hu) λσ H Q ⟨ρ,M,Q',re,hm,q,k⟩=>⟨ρ,M,_,re,hm,q,λv H1 ⟨d,M1,rd,hm1,e1,q1⟩=>⟨ρ,M1,_,re.ext e1,hm1,q1,λl H2 ⟨M2,hm2,e2,q2⟩=>⟨ρ,M2,_,(re.ext e1).ext e2,hm2,q2,λh H3 ⟨M3,hm3,e3,q3⟩=>by
  have rd3:=(rd.ext e2).ext e3;have ex:=(e1.trans e2).trans e3;cases d with
  |tup ds =>
   obtain⟨a,us,rfl,sq,ru⟩:=bE rd3;have l1:=ru.length;refine⟨a,us,rfl,sq,by rw[<- l1];exact q3.1,λp hp=>k _ _ ⟨.tup _,M3,cM (.of cP) ((xD ru l h).ext (Ext.new hp _)),hm3.new hp _,ex.trans (Ext.new hp _),q3.2⟩⟩
  |_=>exact q3.elim⟩⟩⟩
theorem xF {K:Frag}{H:Hp}:∀{ns:List Int}{vs:List V} {its:List Value},bK K H (ns.map D.int) vs->bT vs its->IntsAre its ns
 |[],_,_,h,r=>by rw[bB h] at r;cases r;exact .nil
 |n::ns,_,_,h,r=>by
  obtain⟨v,rr,rfl,hv,hr⟩:=aT h;rw[aW hv] at r;cases r with
  |cons q w =>
   obtain⟨t,rfl⟩:=q;exact .cons _ _ (xF hr w)
theorem wH {K:Frag}{H:Hp}:∀{ns:List Str}{vs:List V} {its:List Value},bK K H (ns.map D.str) vs->bT vs its->StrsAre its ns
 |[],_,_,h,r=>by rw[bB h] at r;cases r;exact .nil
 |n::ns,_,_,h,r=>by
  obtain⟨v,rr,rfl,hv,hr⟩:=aT h;rw[cZ hv] at r;cases r with
  |cons q w =>
   obtain⟨t,rfl⟩:=q;exact .cons _ _ (wH hr w)
end
end Dd
namespace L2
open PySem PySem.Spec PyProof.Rows
open PySem.AutoSeq1 (wpAny_loadPart')
section
variable {X:Cx}{a n:Expr}{ta:TE}{tn:TA}{pos:Pos}
end
end L2
namespace Dd
open PySem PySem.Spec PyProof.Rows L2
section
variable {X:Cx}{a n:Expr}{ta:DE}{tn:DA}{pos p pos':Pos}
end
section
variable {X:Cx}{a b c e o:Expr}{es:List Expr}{ta tb tc te to:DE}{pos:Pos}
def aAk (r r':D2)(ta tb tc:DE):DE:=λρ M Q=>ta ρ M λx M1=>tb ρ M1 λy M2=>r x y M2 λz M3=>match z with
 |.bl k=>if k=true then tc ρ M3 λw M4=>r' y w M4 Q else Q (.bl false) M3
 |_=>False
theorem aC9 {r r':D2}{σ:L2.St}{H:Hp}{Q:VK}(h:low X.K (aAk r r' ta tb tc) σ H Q) :
  aFX (λx y H Q=>∃dx dy M Q',Rep X.K H dx x/\Rep X.K H dy y/\bO X.K M H/\r dx dy M Q'/\∀v H',LQ X.K H Q' v H'->Q v H') (λx y H Q=>∃dx dy M Q',Rep X.K H dx x/\Rep X.K H dy y/\bO X.K M H/\r' dx dy M Q'/\∀v H',LQ X.K H Q' v H'->Q v H') (low X.K ta) (low X.K tb) (low X.K tc) σ H Q:=by
 obtain⟨ρ,M,Q',re,hm,q,k⟩:=h;refine⟨ρ,M,_,re,hm,q,λx H1 ⟨dx,M1,rx,hm1,e1,q1⟩=>⟨ρ,M1,_,re.ext e1,hm1,q1,λy H2 ⟨dy,M2,ry,hm2,e2,q2⟩=>⟨dx,dy,M2,_,rx.ext e2,ry,hm2,q2,λz H3 ⟨dz,M3,rz,hm3,e3,q3⟩=>?_⟩⟩⟩;cases dz with
 |bl k' =>
  refine⟨k',cD rz,?_⟩;cases k' with
  |false=>exact k _ H3 ⟨.bl false,M3,dR,hm3,(e1.trans e2).trans e3,q3⟩
  |true=>exact⟨ρ,M3,_,((re.ext e1).ext e2).ext e3,hm3,q3,λw H4 ⟨dw,M4,rw',hm4,e4,q4⟩=>⟨dy,dw,M4,Q',(ry.ext e3).ext e4,rw',hm4,q4,λv H' zz=>k v H' (zz.back (((e1.trans e2).trans e3).trans e4))⟩⟩
 |_=>exact q3.elim
theorem aD9 {op op':CmpOp}{r r':D2}(ho:OpD X (compareOp op) r)(ho':OpD X (compareOp op') r')(ha:PDE X a ta)(hb:PDE X b tb)(hc:PDE X c tc)(hm:lastMarks [op,op'] [b,c]=false:=by with_unfolding_all rfl):PDE X (.Compare a [op,op'] [b,c] pos) (aAk r r' ta tb tc) :=
 cH (aEr ho ho' ha hb hc hm) λσ H Q h=>aC9 h
def aEt (g:Int->Int->Int):DSp:=λds M Q=>match ds with
 |[.int i,.int j]=>Q (.int (g i j)) M
 |_=>False
theorem aHb {g:Int->Int->Int}{fv:Value}(h:kS X fv (λxs H Q=>∃i j,xs=[.int i,.int j]/\Q (.int (g i j)) H)):gH X fv (aEt g):=gH.of h λvs H M ds Q rs hm q=>by
 rcases ds with _|⟨d,_|⟨d2,_|⟨d3,r⟩⟩⟩
 ·exact q.elim
 ·cases d<;>exact q.elim
 ·cases d with
  |int i =>
   cases d2 with
   |int j =>
    obtain⟨v,v2,rfl,rv,rv2⟩:=aID rs;obtain rfl:=aW rv;obtain rfl:=aW rv2;exact⟨i,j,rfl,_,M,cA,hm,.refl H,q⟩
   |_=>exact q.elim
  |_=>exact q.elim
 ·cases d<;>first|exact q.elim|(cases d2<;>exact q.elim)
def aL5:DSp:=aEt λi j=>if j > i then j else i
theorem aIo (hc:X.calm = true):gH X (.builtin "max") aL5:=aHb (aDm hc)
end
theorem aIm (n:Nat):HT.sIx (n+1) 0 (some 1)=1/\HT.sIx (n+1) (n+1) none=n+1:=by
 constructor
 ·unfold HT.sIx;simp
 ·rfl
theorem aED {x:D}{xs:List D}:cutD (x::xs) (some 1) none=xs:=by unfold cutD;rw[length_cons,(aIm _).1,(aIm _).2];simp
theorem nM {x:D}{xs:List D}{M:DM}{Q:DQ}(q:Q (.tup xs) M):aH5 (.tup (x::xs)) (some 1) none M Q:=by refine⟨?_,by rw[aED];exact q⟩;rw[length_cons,(aIm _).1];rintro⟨h,_⟩;exact absurd h (by decide)
theorem ifF {b:Bool}{A B:Prop}(h:b=false)(q:B):if b=true then A else B:=by subst h;exact q
theorem ifT {b:Bool}{A B:Prop}(h:b=true)(q:A):if b=true then A else B:=by subst h;exact q
end Dd
set_option maxHeartbeats 400000
namespace L2
open PySem PySem.Spec PyProof.Rows
end L2
namespace Dd
open PySem PySem.Spec PyProof.Rows L2
section
variable {X:Cx}{e k:Expr}{te tk:DE}{pos p2:Pos}
end
end Dd
namespace Zp
open PySem PySem.Spec PyProof.Rows
section
variable {prog:Program}{w:World}{A:Around}{E:Value->Shared->Prop}{s:Shared}
end
end Zp
namespace L2
open PySem PySem.Spec PyProof.Rows
theorem Inv.turnedT {X:Cx}{pins:List (Addr×Obj)}{σ:St}{H:Hp}{s:Shared}{h':Heap}{fp:List Addr}{p:Addr}{xs:List V}{its:List Value}(I:Inv X pins σ H s)(k:∀b o,b∉fp->s.heap.get? b=some o->h'.get? b=some o)(hf:∀b∈fp,xP X pins H b)(hp:s.heap.objs.size<=p)(hz:xs.length<=sizeLine)(hv:bT xs its)(ht:IsTup h' p its.toArray)(th:∀b∈fp,∃o,h'.get? b=some o) :
  Inv X pins σ (upd H p (.tup xs)) { s with heap:=h' }:=by
 have hn:H p=none:=I.hok.fresh hp;have nf:∀b u,H b=some u->b∉fp:=λb u e hb=>by rw[(hf b hb).1] at e;cases e
 have np:∀b o,s.heap.get? b=some o->b≠p:=λb o e=>Nat.ne_of_lt (Nat.lt_of_lt_of_le (Heap.lt_size e) hp);refine I.step (g':=s.gens) (d':=s.drawn) (t':=s.toks) (ch:=fp) (λb hb=>⟨(hf b hb).2.2.2.1,(hf b hb).2.1,(hf b hb).2.2.2.2.1,(hf b hb).2.2.2.2.2⟩) (λb o _ _ hc e _=>k b o hc e) (λb o _ _ hc e _=>⟨o.slots,k b o hc e⟩) (λb o _ e n=>by rw[aZ (np b o e)];exact n)
  (λb o hc e=>⟨o,k b o hc e⟩) (λb ys e=>by rw[aZ (bD e hn)];exact e) (λb o u e=>by rw[aZ (bD e hn)];exact e) (λb ps e=>⟨#[],by rw[aZ (bD e hn),e];simp⟩) (λm hm=>?_) (λb u e=>?_) I.bare
 ·obtain⟨o,es,ep,ho,r⟩:=hm;exact⟨o,es,ep,k _ o (λhb=>(hf _ hb).2.1 rfl) ho,r⟩
 ·by_cases hb:b=p
  ·subst hb;rw[cP] at e;cases e;exact⟨hz,its,hv,ht⟩
  ·rw[aZ hb] at e;refine(I.hok b u e).stay (λc v hc q=>k c v ?_ q) (λc q=>by rw[aZ (bD q hn)];exact q) λc xs q=>by rw[aZ (bD q hn)];exact q
   rcases hc with z|z
   ·rw[z];exact nf b u e
   ·exact nf c _ z
theorem Inv.turnedL {X:Cx}{pins:List (Addr×Obj)}{σ:St}{H:Hp}{s:Shared}{h':Heap}{fp:List Addr}(I:Inv X pins σ H s)(k:∀b o,b∉fp->s.heap.get? b=some o->h'.get? b=some o)(hf:∀b∈fp,xP X pins H b) :
  Inv X pins σ H { s with heap:=h' }:=by
 have nf:∀b u,H b=some u->b∉fp:=λb u e hb=>by rw[(hf b hb).1] at e;cases e
 refine I.step (g':=s.gens) (d':=s.drawn) (t':=s.toks) (ch:=fp) (λb hb=>⟨(hf b hb).2.2.2.1,(hf b hb).2.1,(hf b hb).2.2.2.2.1,(hf b hb).2.2.2.2.2⟩) (λb o _ _ hc e _=>k b o hc e) (λb o _ _ hc e _=>⟨o.slots,k b o hc e⟩) (λb o _ e n=>n)
  (λb o hc e=>⟨o,k b o hc e⟩) (λb ys e=>e) (λb o u e=>e) (λb ps e=>⟨#[],by rw[e];simp⟩) (λm hm=>?_) (λb u e=>?_) I.bare
 ·obtain⟨o,es,ep,ho,r⟩:=hm;exact⟨o,es,ep,k _ o (λhb=>(hf _ hb).2.1 rfl) ho,r⟩
 ·refine(I.hok b u e).stay (λc v hc q=>k c v ?_ q) (λc q=>q) λc xs q=>q;rcases hc with z|z
  ·rw[z];exact nf b u e
  ·exact nf c _ z
end L2
namespace Dd
open PySem PySem.Spec PyProof.Rows L2
section
variable {X:Cx}{pos:Pos}{iter tg:Expr}{body:List Stmt}{tl:DE}{g:DG}{tb:DS}{ta:DA}
end
end Dd
set_option maxHeartbeats 1000000
namespace Dd
open PySem PySem.Spec PyProof.Rows L2
section
variable {X:Cx}{pins:List (Addr×Obj)}{σ:L2.St}{H H':Hp}{s:Shared}{h':Heap}
end
def Tr (h:Heap)(e:Addr)(cls:Value)(T:Addr)(fl:Value):Prop :=
 ∃oe vs oT ts,h.get? e=some oe/\(oe.cls=cls/\oe.dict=none)/\oe.data=.fields vs/\vs[1]?=some (.ref T)/\T≠e/\h.get? T=some oT/\oT.data=.fields ts/\ts[3]?=some fl
section
variable {X:Cx}{pins:List (Addr×Obj)}{σ:L2.St}{H:Hp}{s:Shared}{M:Model}{A:Around}{E:Value->Shared->Prop}{e T:Addr}{cls:Value}
end
noncomputable def CXr (P:Program)(w:World):CXT:=λouter H s E e s'=>∃(a:Addr)(cls:Value) (T:Addr) (H':Hp),e=Value.ref a/\s'.os=s.os/\AllBare s'.gens/\Un (frs outer) [] H H' s.heap s'.heap/\HOk P w H' s'.heap /\
 Tr s'.heap a cls T .none/\s.heap.get? a=none/\s.heap.get? T=none/\H' a=none/\H' T=none/\E cls none H'
section
variable {X:Cx}{x:Str}{V:DM->Prop}{e:Expr}{es:List Expr}{t:DA}{np cpos pos:Pos}
end
section
variable {P:Program}{w:World}{K:Frag}{mg:Str->Option Value}{base:Heap}
end
section
variable {X:Cx}{pins:List (Addr×Obj)}{σ:L2.St}{H:Hp}{s:Shared}{a:Addr}{o:Obj}
end
noncomputable def iX.un (D:iX)(j:Nat):iX:={ nx:=λρ M=>D.nx (ρ.set j none) M,rt:=D.rt,bk:=λρ M=>D.bk (ρ.set j none) M,ct:=λρ M=>D.ct (ρ.set j none) M }
section
variable {X:Cx}{a:Expr}{e:Expr}{es:List Expr}{t:DA}{x f n cm:Str}{ps:List Str}{sp:DSp}{cond:List D->DM->Prop}{C Cm:Addr}{k1 k2 k i j:Nat}{ts:Addr->DS}{b0:Stmt}{suite:List Stmt}{px pf pc pa pcm ph pos:Pos}
end
section
open PySem.W PySem.Calls
end
section
variable {X:Cx}{n c:Str}{C Cc a:Addr}{o:Obj}{p p1 p2 pos:Pos}{j:Nat}
end
section
open PySem.W PySem.Calls
variable {prog:Program}{w:World}{A:Around}{E:Value->Shared->Prop}{s:Shared}{K:Frag}{x C D:Addr}{ox:Obj}
end
section
variable {X:Cx}{a C:Addr}{o:Obj}
end
section
open PySem.SeqAt
open PySem.AutoSeq1 (wpAny_loadPart')
open PySem.MeetsSeq PySem.MeetsSeq2 PySem.MeetsSeq3
end
section
variable {X:Cx}{j:Nat}
theorem aHY {K:Frag}{H:Hp}{a b:Int}{xs:List V}{its:List Value}(r:bK K H [.int a,.int b] xs)(v:bT xs its):∃t u,its=[.int a t,.int b u]:=by
 obtain⟨v1,r1,rfl,h1,r1'⟩:=aT r;obtain rfl:=aW h1;obtain⟨v2,r2,rfl,h2,r2'⟩:=aT r1';obtain rfl:=aW h2;obtain rfl:=bB r2';cases v with
 |cons q1 w1 =>
  cases w1 with
  |cons q2 w2 =>
   cases w2;obtain⟨t,rfl⟩:=q1;obtain⟨u,rfl⟩:=q2;exact⟨t,u,rfl⟩
end
def aH7 (t u:DS):DS:=λD ρ M=>∃R:cJ->DM->Prop,t { D with nx:=R } ρ M/\∀ρ' M',R ρ' M'->u D ρ' M'
section
variable {X:Cx}{st:Stmt}{bI:List Stmt}{t u:DS}
theorem aGY (h1:PDS X st t)(h2:nO X bI u):nO X (st::bI) (aH7 t u) :=
 zJ (aBA h1 h2) λE σ H ⟨ρ,M,D,re,hm,⟨R,q,k2⟩,k⟩ =>
  ⟨ρ,M,{ D with nx:=R },re,hm,q,⟨λσ' H' ⟨ρ',M',re',hm',ex,r⟩=>⟨ρ',M',D,re',hm',k2 ρ' M' r,k.at ex⟩,k.rt,k.bk,k.ct⟩⟩
end
section
variable {X:Cx}{e:Expr}{es:List Expr}{t:DA}{x f cm:Str}{ps:List Str}{sp:DSp}{cond:List D->DM->Prop}{C Cm:Addr}{k1 k2 k i:Nat}{ts:DS}{b0:Stmt}{suite:List Stmt}{px pf pc pa pcm ph pos:Pos}
end
@[irreducible] def ZE (X:Cx)(e:Expr)(t:DE):Prop:=PDE X e t
theorem ZE.o {X:Cx}{e:Expr}{t:DE}(h:ZE X e t):PDE X e t:=by unfold ZE at h;exact h
theorem ZE.i {X:Cx}{e:Expr}{t:DE}(h:PDE X e t):ZE X e t:=by unfold ZE;exact h
@[irreducible] def ZT (X:Cx)(e:Expr)(t:DT):Prop:=PDT X e t
theorem ZT.o {X:Cx}{e:Expr}{t:DT}(h:ZT X e t):PDT X e t:=by unfold ZT at h;exact h
theorem ZT.i {X:Cx}{e:Expr}{t:DT}(h:PDT X e t):ZT X e t:=by unfold ZT;exact h
@[irreducible] def ZW (X:Cx)(e:Expr)(t:DT):Prop:=PDW X e t
theorem ZW.o {X:Cx}{e:Expr}{t:DT}(h:ZW X e t):PDW X e t:=by unfold ZW at h;exact h
theorem ZW.i {X:Cx}{e:Expr}{t:DT}(h:PDW X e t):ZW X e t:=by unfold ZW;exact h
@[irreducible] def ZA (X:Cx)(e:List Expr)(t:DA):Prop:=PDA X e t
theorem ZA.o {X:Cx}{e:List Expr}{t:DA}(h:ZA X e t):PDA X e t:=by unfold ZA at h;exact h
theorem ZA.i {X:Cx}{e:List Expr}{t:DA}(h:PDA X e t):ZA X e t:=by unfold ZA;exact h
@[irreducible] def ZS (X:Cx)(e:Stmt)(t:DS):Prop:=PDS X e t
theorem ZS.o {X:Cx}{e:Stmt}{t:DS}(h:ZS X e t):PDS X e t:=by unfold ZS at h;exact h
theorem ZS.i {X:Cx}{e:Stmt}{t:DS}(h:PDS X e t):ZS X e t:=by unfold ZS;exact h
@[irreducible] def ZSs (X:Cx)(e:List Stmt)(t:DS):Prop:=nO X e t
theorem ZSs.o {X:Cx}{e:List Stmt}{t:DS}(h:ZSs X e t):nO X e t:=by unfold ZSs at h;exact h
theorem ZSs.i {X:Cx}{e:List Stmt}{t:DS}(h:nO X e t):ZSs X e t:=by unfold ZSs;exact h
@[irreducible] def ZG (X:Cx)(e:Expr)(t:DG):Prop:=PDG X e t
theorem ZG.o {X:Cx}{e:Expr}{t:DG}(h:ZG X e t):PDG X e t:=by unfold ZG at h;exact h
theorem ZG.i {X:Cx}{e:Expr}{t:DG}(h:PDG X e t):ZG X e t:=by unfold ZG;exact h
@[irreducible] def ZGs (X:Cx)(e:List Expr)(t:DGs):Prop:=aA0 X e t
theorem ZGs.o {X:Cx}{e:List Expr}{t:DGs}(h:ZGs X e t):aA0 X e t:=by unfold ZGs at h;exact h
theorem ZGs.i {X:Cx}{e:List Expr}{t:DGs}(h:aA0 X e t):ZGs X e t:=by unfold ZGs;exact h
@[irreducible] def ZO (X:Cx)(e:Option Expr)(t:DO):Prop:=PO X e (aAH X.K t)
theorem ZO.o {X:Cx}{e:Option Expr}{t:DO}(h:ZO X e t):PO X e (aAH X.K t):=by unfold ZO at h;exact h
theorem ZO.i {X:Cx}{e:Option Expr}{t:DO}(h:PO X e (aAH X.K t)):ZO X e t:=by unfold ZO;exact h
section
variable {K:Frag}{H H':Hp}
end
section
variable {K:Frag}{H H':Hp}{M M':DM}
end
section
variable {K:Frag}{H H':Hp}{ρ:cJ}{σ:L2.St}
end
section
variable {K:Frag}{H H1:Hp}
end
section
variable {X:Cx}{e:Expr}{st:Stmt}{sts:List Stmt}
end
section
variable {X:Cx}{a b c e:Expr}{es:List Expr}{ta tb tc te:DE}{tA tB:DT}{t:DA}{pos:Pos}
theorem aB (i:Nat){x:Str}{pos:Pos}(hN:X.N[i]?=some x:=by rfl)(hv:Vis X.env.scope x:=by first|exact Or.inl rfl|exact Or.inr (Or.inl rfl)|exact Or.inr (Or.inr rfl))(hd:(x==("__debug__":Str))=false:=by decide)(hcd:(x==("__classdict__":Str))=false:=by decide):ZE X (.Name x pos) (aBV i):=.i (aJo i hN hv hd hcd)
theorem aC {i j pos}:ZE X (.Constant (.int i) j pos) (dC (.int i)):=.i (aIg (i:=i) (j:=j) (pos:=pos))
theorem dG {i j pos}:ZE X (.Constant (.bool i) j pos) (dC (.bl i)):=.i (aMK (i:=i) (j:=j) (pos:=pos))
theorem bG {x j pos}:ZE X (.Constant (.str x) j pos) (dC (.str x)):=.i (aIe)
theorem aM {op:Operator}{r:D2}(ho:OpD X (binaryOp op) r)(ha:ZE X a ta)(hb:ZE X b tb):ZE X (.BinOp a op b pos) (dOp r ta tb):=.i (aMH (op:=op) ho ha.o hb.o)
theorem cN {op:CmpOp}{r:D2}(ho:OpD X (compareOp op) r)(ha:ZE X a ta)(hb:ZE X b tb)(hm:behindInMarks op b=false:=by exact zE _):ZE X (.Compare a [op] [b] pos) (dOp r ta tb):=.i (aKO (op:=op) ho ha.o hb.o hm)
theorem aR {op:CmpOp}{r:D2}(ho:OpD X (compareOp op) r)(ha:ZE X a ta)(hb:ZE X b tb)(hm:behindInMarks op b=false:=by exact zE _):ZT X (.Compare a [op] [b] pos) (yZ (dOp r ta tb)):=.i (aKn (op:=op) ho ha.o hb.o hm)
theorem dW (h:ZE X e te)(he:∀whole,isTrue e X.env whole=(do let v <- whole;standAt e.pos;holding [v] (truthy v)):=by intro _;rfl):ZT X e (yZ te):=.i (aKL h.o he)
variable {bI:List Expr}
theorem jS (ha:ZT X a tA):ZW X (.BoolOp .And [a] pos) tA:=.i (aHB ha.o)
theorem gG (ha:ZT X a tA):ZW X (.BoolOp .Or [a] pos) tA:=.i (aIh ha.o)
theorem kJ (ha:ZT X a tA)(hb:ZW X (.BoolOp .And (b::bI) pos) tB):ZW X (.BoolOp .And (a::b::bI) pos) (aKz tA tB):=.i (aJv ha.o hb.o)
theorem iA (ha:ZT X a tA)(hb:ZW X (.BoolOp .Or (b::bI) pos) tB):ZW X (.BoolOp .Or (a::b::bI) pos) (dOr tA tB):=.i (aL8 ha.o hb.o)
theorem gX (h:ZW X e tA):ZT X e tA:=.i (aMM h.o)
theorem fA (ha:ZT X a tA):ZT X (.UnaryOp .Not a pos) (aJG tA):=.i (aIk ha.o)
theorem fC {op}(h:ZE X a ta):ZE X (.BoolOp op [a] pos) ta:=.i (aId (op:=op) h.o)
theorem eT (ha:ZE X a ta)(hb:ZE X (.BoolOp .And (b::bI) pos) tb):ZE X (.BoolOp .And (a::b::bI) pos) (aD1 ta tb):=.i (aJT ha.o hb.o)
theorem aEl (ha:ZE X a ta)(hb:ZE X (.BoolOp .Or (b::bI) pos) tb):ZE X (.BoolOp .Or (a::b::bI) pos) (aKA ta tb):=.i (aLs ha.o hb.o)
theorem sJ (ha:ZE X a ta):ZE X (.UnaryOp .Not a pos) (aF3 ta):=.i (aIv ha.o)
theorem yL (hc:ZT X c tA)(ha:ZE X a ta)(hb:ZE X b tb):ZE X (.IfExp c a b pos) (aJy tA ta tb):=.i (aFt hc.o ha.o hb.o)
theorem aD :ZA X [] nL:=.i (aFO)
theorem aA (ha:ZE X e te)(hr:ZA X es t)(hs:starEach (e::es) X.env=(false,eval e X.env)::starEach es X.env:=by rfl):ZA X (e::es) (iM te t):=.i (aC0 ha.o hr.o hs)
theorem aK {x1}(h:ZA X es t):ZE X (.Tuple es x1 pos) (aIL t):=.i (aKl h.o)
theorem dZ (h:ZA X es t):ZE X (.List es pos) (aJk t):=.i (aJ4 h.o)
end
section
variable {X:Cx}{st:Stmt}{bI:List Stmt}{t u:DS}{e:Expr}{te:DE}{pos:Pos}
theorem aP :ZSs X [] aER:=.i (aGi)
theorem aF (h1:ZS X st t)(h2:ZSs X bI u):ZSs X (st::bI) (aIs t u):=.i (aD8 h1.o h2.o)
theorem aH (h1:ZS X st t):ZSs X [st] t:=.i (aGh h1.o)
theorem aEI (he:ZE X e te)(hs:swapsWith e none pos.line X.env=pure false:=by rfl):ZS X (.Expr e pos) (aEH te):=.i (aGb he.o hs)
theorem aJ (he:ZE X e te):ZS X (.Return (some e) pos) (aI9 te):=.i (aH9 he.o)
theorem bA {c:Expr}{a b:List Stmt}{tc:DT}(hc:ZT X c tc)(ha:ZSs X a t)(hb:ZSs X b u):ZS X (.If c a b pos) (aKk tc t u):=.i (aLu hc.o ha.o hb.o)
theorem aDn :ZS X st aBR:=.i (aEp)
end
section
variable {X:Cx}{pos:Pos}{e tg:Expr}{es:List Expr}{te:DE}
theorem aO {i:Nat}{x:Str}(hN:X.N.Nodup)(hi:X.N[i]?=some x:=by rfl)(hx:Loc X.env.scope x:=by first|exact Or.inl rfl|exact Or.inr rfl)(hf:X.fn x=true∨X.env.scope.names.lookup x=some .local:=by first|exact .inl rfl|exact .inr rfl|assumption):ZG X (.Name x pos) (gN i):=.i (aGk (i:=i) hN hi hx hf)
theorem cW :ZGs X [] gNl:=.i (aGo)
theorem aV {t:DG}{u:DGs}(h1:ZG X e t)(h2:ZGs X es u)(hs:(assignEach (e::es) X.env).map (·.2)=assign e X.env::(assignEach es X.env).map (·.2):=by rfl):ZGs X (e::es) (gCn t u):=.i (aEd h1.o h2.o hs)
theorem dF {g:DG}(he:ZE X e te)(hg:ZG X tg g)(hs:swapsWithSole [tg] e pos.line X.env=pure false:=by rfl)(hw:swappedStores [tg] e X.env=pure none:=by rfl)(h1:(assignEach [tg] X.env).map (·.2)=[assign tg X.env]:=by rfl):ZS X (.Assign [tg] e pos) (aDP te g):=.i (aIw he.o hg.o hs hw h1)
theorem aU {i:Nat}{x:Str}{pos':Pos}(hN:X.N.Nodup)(he:ZE X e te)(hi:X.N[i]?=some x:=by rfl)(hx:Loc X.env.scope x:=by first|exact Or.inl rfl|exact Or.inr rfl)(hs:swapsWith e (some (.Name x pos')) pos.line X.env=pure false:=by rfl)(hf:X.fn x=true∨X.env.scope.names.lookup x=some .local:=by first|exact .inl rfl|exact .inr rfl|assumption):ZS X (.Assign [.Name x pos'] e pos) (aDP te (gN i)):=.i (aJa (i:=i) hN he.o hi hx hs hf)
theorem aCL {i j:Nat}{x y:Str}{a b:Expr}{ta:DA}{px py pt:Pos}{kt k2 pt2}(hc:X.calm=true)(hN:X.N.Nodup)(ha:ZA X [a,b] ta)(hi:X.N[i]?=some x:=by rfl)(hj:X.N[j]?=some y:=by rfl)(hij:i≠j:=by decide)(hx:X.env.scope.names.lookup x=some .local:=by rfl)(hy:X.env.scope.names.lookup y=some .local:=by rfl)(hw:swappedStores [.Tuple [.Name x px,.Name y py] kt pt] (.Tuple [a,b] k2 pt2) X.env=pure (some [x,y]):=by rfl)(hs:swapsWithSole [.Tuple [.Name x px,.Name y py] kt pt] (.Tuple [a,b] k2 pt2) pos.line X.env=pure false:=by rfl):ZS X (.Assign [.Tuple [.Name x px,.Name y py] kt pt] (.Tuple [a,b] k2 pt2) pos) (aKR i j ta):=.i (aJE (i:=i) (j:=j) hc hN ha.o hi hj hij hx hy hw hs)
theorem aCK {o i:Expr}{to ti:DE}(ho:ZE X o to)(hi:ZE X i ti)(ha:∀v,assign (.Subscript o i pos) X.env v=(do
   let ov <- holding [v] (eval o X.env)
   let iv <- holding [v,ov] (eval i X.env)
   standAt pos
   holding [v,ov,iv] (setItem ov iv v)
   release [v,ov,iv] []):=by intro _;rfl):ZG X (.Subscript o i pos) (aF2 to ti):=.i (aIC ho.o hi.o ha)
end
section
variable {X:Cx}{pos:Pos}
theorem tD {c:Expr}{body:List Stmt}{tc:DT}{tb:DS}(hp:PassesOwn (model X.prog X.w) X.A X.env X.xe)(hc:ZT X c tc)(hb:ZSs X body tb):ZS X (.While c body [] pos) (aB3 tc tb):=.i (aFT hp hc.o hb.o)
variable {iter tg:Expr}{body:List Stmt}{tl:DE}{g:DG}{tb:DS}
end
section
variable {X:Cx}{pos:Pos}{iter tg:Expr}{body:List Stmt}{tl:DE}{g:DG}{tb:DS}{ta:DA}
theorem rZ (hp:PassesOwn (model X.prog X.w) X.A X.env X.xe)(hc:X.calm=true)(hi:ZE X iter tl)(hg:ZG X tg g)(hb:ZSs X body tb)(hs:∀x,foldedSetIterable iter X.env x=pure x:=by intro _;rfl):ZS X (.For tg iter body [] pos) (aFQ tl g tb):=.i (aGW hp hc hi.o hg.o hb.o hs)
theorem vR {a:Expr}{p pos':Pos}(hp:PassesOwn (model X.prog X.w) X.A X.env X.xe)(hc:X.calm = true)(hmg:X.mg "range" = none)(ha:ZA X [a] ta)(hg:ZG X tg g)(hb:ZSs X body tb)(hgl:Gl X "range":=by rfl)(hse:starEach [a] X.env = [(false,eval a X.env)]:=by rfl)(hs:∀x,foldedSetIterable (.Call (.Name "range" p) [a] [] pos') X.env x = pure x:=by intro _;rfl):ZS X (.For tg (.Call (.Name "range" p) [a] [] pos') body [] pos) (aFl ta g tb):=.i (aGc hp hc hmg ha.o hg.o hb.o hgl hse hs)
end
section
variable {X:Cx}{pins:List (Addr×Obj)}{σ:L2.St}{H:Hp}{s:Shared}
end
section
variable {X:Cx}{a b e o:Expr}{es:List Expr}{ta tb te to:DE}{t:DA}{pos:Pos}
theorem dM (ha:ZE X a ta):ZE X (.UnaryOp .USub a pos) (aIz ta):=.i (aJ6 ha.o)
theorem aG (ha:ZE X a ta)(hb:ZE X b tb)(hs:qY b:=by exact λ_ _=>rfl):ZE X (.Subscript a b pos) (dOp jC ta tb):=.i (aLD ha.o hb.o hs)
theorem oZ :ZO X none aJz:=.i (aGs)
theorem jU (h:ZE X e te):ZO X (some e) (dPt te):=.i (aG4 h.o)
variable {lo hi:Option Expr}{tl th:DO}{p2:Pos}
theorem aDJ (he:ZE X e te)(hl:ZO X lo tl)(hu:ZO X hi th):ZE X (.Subscript e (.Slice lo hi none p2) pos) (dSl te tl th):=.i (aE1 he.o hl.o hu.o)
variable {CX:CXT}{k:Nat}{f:Addr}{fd:FuncData}{ps:List Str}{sp:DSp}{E:XK}{x:Str}{p:Pos}
theorem bV {id:String}{r:DSp}(hc:gH X (.builtin id) r)(hm:X.mg x = none)(ha:ZA X (e :: es) t)(hv:bootBuiltins x = some (.builtin id):=by rfl)(hg:Gl X x:=by rfl)(hn:x ≠ "__name__":=by decide)(hdb:(x==("__debug__":Str))=false:=by decide)(he:starEach (e::es) X.env=(false,eval e X.env)::starEach es X.env:=by rfl)(hpl:(backTo pos (starEach es X.env)).any (·.1)=false:=by rfl):ZE X (.Call (.Name x p) (e::es) [] pos) (nF r t):=.i (aEo (id:=id) hc hm ha.o hv hg hn hdb he hpl)
theorem jM {T:String}{r:DSp}(hc:gH X (.type T) r)(hm:X.mg x = none)(ha:ZA X (e :: es) t)(hv:bootBuiltins x = some (.type T):=by rfl)(hg:Gl X x:=by rfl)(hn:x ≠ "__name__":=by decide)(hdb:(x==("__debug__":Str))=false:=by decide)(he:starEach (e::es) X.env=(false,eval e X.env)::starEach es X.env:=by rfl)(hpl:(backTo pos (starEach es X.env)).any (·.1)=false:=by rfl):ZE X (.Call (.Name x p) (e::es) [] pos) (nF r t):=.i (aDy (T:=T) hc hm ha.o hv hg hn hdb he hpl)
end
section
variable {X:Cx}{a b e o:Expr}{es:List Expr}{ta tb te to:DE}{t:DA}{pos:Pos}
theorem aCf {apos cpos:Pos}(ho:ZE X o to)(he:ZE X e te)(hse:starEach [e] X.env = (false,eval e X.env) :: starEach [] X.env:=by rfl)(hbase:attributeBase o "append" X.env (eval o X.env)=eval o X.env:=by rfl)(hfew:((backTo cpos (starEach [e] X.env)).all (λx=>!x.1)&&(backToKw cpos (keywordEach [] X.env)).all (λx=>x.1.isSome)
  &&decide ([e].length+([]:List Keyword).length+(if ([]:List Keyword).isEmpty then 0 else 1)<30)) = true:=by rfl)(hline:(apos.endLine==cpos.line) = true:=by rfl)(hplain:(backTo cpos (starEach [] X.env)).any (·.1) = false:=by rfl):ZE X (.Call (.Attribute o "append" apos) [e] [] cpos) (aAL to te):=.i (aDM ho.o he.o hse hbase hfew hline hplain)
theorem jY {T:String}{x:Str}{p p2:Pos}(he:ZE X e te)(hm:X.mg "isinstance" = none)(hmx:X.mg x = none)(hv:bootBuiltins x = some (.type T):=by rfl)(hg:Gl X "isinstance":=by rfl)(hgx:Gl X x:=by rfl)(hn:x ≠ "__name__":=by decide)(hdb:(x==("__debug__":Str)) = false:=by decide)(hse:starEach [e,.Name x p2] X.env = (false,eval e X.env) :: starEach [.Name x p2] X.env:=by rfl)(hse2:starEach [.Name x p2] X.env = (false,eval (.Name x p2) X.env) :: starEach [] X.env:=by rfl)(hpl:(backTo pos (starEach [.Name x p2] X.env)).any (·.1) = false:=by rfl):ZE X (.Call (.Name "isinstance" p) [e,.Name x p2] [] pos) (dIs X.K (.type T) te):=.i (aGn (T:=T) he.o hm hmx hv hg hgx hn hdb hse hse2 hpl)
end
section
variable {P:Program}{w:World}{K:Frag}{mg:Str->Option Value}{base:Heap}
end
section
variable {P:Program}{w:World}{K:Frag}{mg:Str->Option Value}{base:Heap}
end
section
variable {X:Cx}{a b c e:Expr}{es:List Expr}{ta tb te:DE}{t:DA}{pos p:Pos}{x:Str}{ps:List Str}{sp:DSp}{k j:Nat}
theorem aE (h:Has X.prog X.w X.K X.mg X.base k x ps sp)(hr:cQ j X.A)(hkj:k<=j)(ha:ZA X (e::es) t)(hg:Gl X x:=by rfl)(hdb:(x==("__debug__":Str))=false:=by decide)(he:starEach (e::es) X.env=(false,eval e X.env)::starEach es X.env:=by rfl)(hpl:(backTo pos (starEach es X.env)).any (·.1)=false:=by rfl):ZE X (.Call (.Name x p) (e::es) [] pos) (nF sp t):=.i (aFj h hr hkj ha.o hg hdb he hpl)
theorem qU (h:Has X.prog X.w X.K X.mg X.base k x ps sp)(hr:cQ j X.A)(hkj:k<=j)(hg:Gl X x:=by rfl)(hdb:(x==("__debug__":Str))=false:=by decide):ZE X (.Call (.Name x p) [] [] pos) (nF sp nL):=.i (aDp h hr hkj hg hdb)
theorem pJ {d:D}(h:xU X.K X.mg x d)(hg:Gl X x:=by rfl)(hd:(x==("__debug__":Str))=false:=by decide):ZE X (.Name x pos) (dC d):=.i (aE5 h hg hd)
theorem aBc {i:Nat}{op:Operator}{g:Int->Int->Int}{pos':Pos}(ho:PIp X op (ipI g))(hN:X.N.Nodup)(he:ZE X e te)(hi:X.N[i]?=some x:=by rfl)(hx:Loc X.env.scope x:=by first|exact Or.inl rfl|exact Or.inr rfl)(hf:X.fn x=true∨X.env.scope.names.lookup x=some .local:=by first|exact .inl rfl|exact .inr rfl|assumption):ZS X (.AugAssign (.Name x pos') op e pos) (aGD i te g):=.i (aHf (i:=i) (op:=op) ho hN he.o hi hx hf)
end
section
variable {prog:Program}{w:World}{A:Around}{E:Value->Shared->Prop}{s:Shared}
end
section
variable {X:Cx}{pos:Pos}{e a b:Expr}{es:List Expr}{te ta tb:DE}
theorem dI {k:Nat}{t:DGs}{n:Nat}(hc:X.calm=true)(h:ZGs X es t)(hn:(assignEach es X.env).length=n:=by rfl)(hst:(assignEach es X.env).findIdx? (·.1)=none:=by rfl):ZG X (.Tuple es k pos) (gU n t):=.i (aIU (n:=n) hc h.o hn hst)
end
section
variable {M:DM}{Q:DQ}{g:Bool->Bool}{ds:List D}{i:Int}{a:Addr}{α:Type}{x0 x1 x2 x3 x4 x5:α}{l:List α}
end
section
variable {K:Frag}{H:Hp}{ρ:cJ}{σ:L2.St}
end
section
variable {X:Cx}{g:DG}{te:DE}
variable {elt iter tg:Expr}{scope:Scope}{pos:Pos}{N':List Str}{fr:List (Option Nat)}{tl:DE}{ta:DA}{oN:List Str}{osc:Scope}
theorem pE (B:gW oN osc N' fr scope)(hc:X.calm=true)(hi:ZE X iter tl)(hg:∀C s H fp pins,ZG (X.blk N' scope C s H fp pins) tg g)(he:∀C s H fp pins,ZE (X.blk N' scope C s H fp pins) elt te)(hN:X.N=oN:=by rfl)(ho:X.env.scope=osc:=by rfl)(hs:∀x,foldedSetIterable iter X.env x=pure x:=by intro _;rfl):ZE X (.ListComp elt [⟨tg,iter,[],0⟩] scope pos) (aEv tl fr g te):=.i (aJ8 B hc hi.o (λC s H fp pins=>(hg C s H fp pins).o) (λC s H fp pins=>(he C s H fp pins).o) hN ho hs)
theorem aCJ (B:gW oN osc N' fr scope)(hc:X.calm=true)(hi:ZE X iter tl)(hg:∀C s H fp pins,ZG (X.blk N' scope C s H fp pins) tg g)(he:∀C s H fp pins,ZE (X.blk N' scope C s H fp pins) elt te)(hN:X.N=oN:=by rfl)(ho:X.env.scope=osc:=by rfl)(hs:∀x,foldedSetIterable iter X.env x=pure x:=by intro _;rfl):ZE X (.ListComp elt [⟨tg,iter,[],0⟩] scope pos) (aEs tl fr g te):=.i (aKf B hc hi.o (λC s H fp pins=>(hg C s H fp pins).o) (λC s H fp pins=>(he C s H fp pins).o) hN ho hs)
theorem aCA {a:Expr}{p pos':Pos}(B:gW oN osc N' fr scope)(hc:X.calm = true)(hmg:X.mg "range" = none)(ha:ZA X [a] ta)(hg:∀C s H fp pins,ZG (X.blk N' scope C s H fp pins) tg g)(he:∀C s H fp pins,ZE (X.blk N' scope C s H fp pins) elt te)(hN:X.N = oN:=by rfl)(ho:X.env.scope = osc:=by rfl)(hgl:Gl X "range":=by rfl)(hse:starEach [a] X.env = [(false,eval a X.env)]:=by rfl)(hs:∀x,foldedSetIterable (.Call (.Name "range" p) [a] [] pos') X.env x = pure x:=by intro _;rfl):ZE X (.ListComp elt [⟨tg,.Call (.Name "range" p) [a] [] pos',[],0⟩] scope pos) (aFs ta fr g te):=.i (aIH B hc hmg ha.o (λC s H fp pins=>(hg C s H fp pins).o) (λC s H fp pins=>(he C s H fp pins).o) hN ho hgl hse hs)
theorem aBS {i:Nat}{y:Str}{spos py:Pos}(B:gW oN osc N' fr scope)(hc:X.calm=true)(hNd:X.N.Nodup)(hi:ZE X iter tl)(hg:∀C s H fp pins,ZG (X.blk N' scope C s H fp pins) tg g)(he:∀C s H fp pins,ZE (X.blk N' scope C s H fp pins) elt te)(hy:X.N[i]?=some y:=by rfl)(hx:Loc X.env.scope y:=by first|exact Or.inl rfl|exact Or.inr rfl)(hsw:swapsWith (.ListComp elt [⟨tg,iter,[],0⟩] scope pos) (some (.Name y py)) spos.line X.env=pure true:=by rfl)(hf:X.fn y=true∨X.env.scope.names.lookup y=some .local:=by first|exact .inl rfl|exact .inr rfl|assumption)(hN:X.N=oN:=by rfl)(ho:X.env.scope=osc:=by rfl)(hs:∀x,foldedSetIterable iter X.env x=pure x:=by intro _;rfl):ZS X (.Assign [.Name y py] (.ListComp elt [⟨tg,iter,[],0⟩] scope pos) spos) (qJ i (aEv tl fr g te)):=.i (aDg (i:=i) B hc hNd hi.o (λC s H fp pins=>(hg C s H fp pins).o) (λC s H fp pins=>(he C s H fp pins).o) hy hx hsw hf hN ho hs)
theorem aBQ {i:Nat}{y:Str}{spos py:Pos}(B:gW oN osc N' fr scope)(hc:X.calm=true)(hNd:X.N.Nodup)(hi:ZE X iter tl)(hg:∀C s H fp pins,ZG (X.blk N' scope C s H fp pins) tg g)(he:∀C s H fp pins,ZE (X.blk N' scope C s H fp pins) elt te)(hy:X.N[i]?=some y:=by rfl)(hx:Loc X.env.scope y:=by first|exact Or.inl rfl|exact Or.inr rfl)(hsw:swapsWith (.ListComp elt [⟨tg,iter,[],0⟩] scope pos) (some (.Name y py)) spos.line X.env=pure true:=by rfl)(hf:X.fn y=true∨X.env.scope.names.lookup y=some .local:=by first|exact .inl rfl|exact .inr rfl|assumption)(hN:X.N=oN:=by rfl)(ho:X.env.scope=osc:=by rfl)(hs:∀x,foldedSetIterable iter X.env x=pure x:=by intro _;rfl):ZS X (.Assign [.Name y py] (.ListComp elt [⟨tg,iter,[],0⟩] scope pos) spos) (qJ i (aEs tl fr g te)):=.i (aDk (i:=i) B hc hNd hi.o (λC s H fp pins=>(hg C s H fp pins).o) (λC s H fp pins=>(he C s H fp pins).o) hy hx hsw hf hN ho hs)
theorem vO {a:Expr}{p pos':Pos}{i:Nat}{y:Str}{spos py:Pos}(B:gW oN osc N' fr scope)(hc:X.calm = true)(hNd:X.N.Nodup)(hmg:X.mg "range" = none)(ha:ZA X [a] ta)(hg:∀C s H fp pins,ZG (X.blk N' scope C s H fp pins) tg g)(he:∀C s H fp pins,ZE (X.blk N' scope C s H fp pins) elt te)(hy:X.N[i]? = some y:=by rfl)(hx:Loc X.env.scope y:=by first|exact Or.inl rfl|exact Or.inr rfl)(hsw:swapsWith (.ListComp elt [⟨tg,.Call (.Name "range" p) [a] [] pos',[],0⟩] scope pos) (some (.Name y py)) spos.line X.env = pure true:=by rfl)(hf:X.fn y = true∨X.env.scope.names.lookup y = some .local:=by first|exact .inl rfl|exact .inr rfl|assumption)(hN:X.N = oN:=by rfl)(ho:X.env.scope = osc:=by rfl)(hgl:Gl X "range":=by rfl)(hse:starEach [a] X.env = [(false,eval a X.env)]:=by rfl)(hs:∀x,foldedSetIterable (.Call (.Name "range" p) [a] [] pos') X.env x = pure x:=by intro _;rfl):ZS X (.Assign [.Name y py] (.ListComp elt [⟨tg,.Call (.Name "range" p) [a] [] pos',[],0⟩] scope pos) spos) (qJ i (aFs ta fr g te)):=.i (aDe (i:=i) B hc hNd hmg ha.o (λC s H fp pins=>(hg C s H fp pins).o) (λC s H fp pins=>(he C s H fp pins).o) hy hx hsw hf hN ho hgl hse hs)
end
variable {X:Cx}
section
variable {g:DG}{te:DE}{tb:DS}{Q:DQ}{ρ0:cJ}
end
section
variable {e:Expr}{te:DE}{pos:Pos}
end
section
variable {X:Cx}{e:Expr}{te:DE}{pos p2:Pos}{lo hi:Option Expr}{tl th:DO}
theorem jL (he:ZE X e te)(hl:ZO X lo tl)(hu:ZO X hi th):ZE X (.Subscript e (.Slice lo hi none p2) pos) (aKK te tl th):=.i (aDc he.o hl.o hu.o)
end
section
variable {X:Cx}{a n:Expr}{ta:DE}{tn:DA}{pos p pos':Pos}
end
section
variable {X:Cx}{a b c e o:Expr}{es:List Expr}{ta tb tc te to:DE}{pos:Pos}
theorem aDo {op op':CmpOp}{r r':D2}(ho:OpD X (compareOp op) r)(ho':OpD X (compareOp op') r')(ha:ZE X a ta)(hb:ZE X b tb)(hc:ZE X c tc)(hm:lastMarks [op,op'] [b,c]=false:=by with_unfolding_all rfl):ZE X (.Compare a [op,op'] [b,c] pos) (aAk r r' ta tb tc):=.i (aD9 (op:=op) (op':=op') ho ho' ha.o hb.o hc.o hm)
end
section
variable {X:Cx}{e k:Expr}{te tk:DE}{pos p2:Pos}
end
section
variable {X:Cx}{pos:Pos}{iter tg:Expr}{body:List Stmt}{tl:DE}{g:DG}{tb:DS}{ta:DA}
end
section
variable {X:Cx}{x:Str}{V:DM->Prop}{e:Expr}{es:List Expr}{t:DA}{np cpos pos:Pos}
end
section
variable {P:Program}{w:World}{K:Frag}{mg:Str->Option Value}{base:Heap}
end
section
variable {X:Cx}{pins:List (Addr×Obj)}{σ:L2.St}{H:Hp}{s:Shared}{a:Addr}{o:Obj}
end
section
variable {X:Cx}{a:Expr}{e:Expr}{es:List Expr}{t:DA}{x f n cm:Str}{ps:List Str}{sp:DSp}{cond:List D->DM->Prop}{C Cm:Addr}{k1 k2 k i j:Nat}{ts:Addr->DS}{b0:Stmt}{suite:List Stmt}{px pf pc pa pcm ph pos:Pos}
end
section
end
section
variable {X:Cx}{n c:Str}{C Cc a:Addr}{o:Obj}{p p1 p2 pos:Pos}{j:Nat}
end
section
variable {prog:Program}{w:World}{A:Around}{E:Value->Shared->Prop}{s:Shared}{K:Frag}{x C D:Addr}{ox:Obj}
end
section
variable {X:Cx}{a C:Addr}{o:Obj}
end
section
end
section
variable {X:Cx}{j:Nat}
end
section
variable {X:Cx}{st:Stmt}{bI:List Stmt}{t u:DS}
theorem oB (h1:ZS X st t)(h2:ZSs X bI u):ZSs X (st::bI) (aH7 t u):=.i (aGY h1.o h2.o)
end
section
variable {X:Cx}{e:Expr}{es:List Expr}{t:DA}{x f cm:Str}{ps:List Str}{sp:DSp}{cond:List D->DM->Prop}{C Cm:Addr}{k1 k2 k i:Nat}{ts:DS}{b0:Stmt}{suite:List Stmt}{px pf pc pa pcm ph pos:Pos}
end
section
variable {P:Program}{w:World}{K:Frag}{mg:Str->Option Value}{base:Heap}
theorem Fun.okZ {x qual:Str}{st:Stmt}{f:Addr}{fd:FuncData}{N ps:List Str}{k:Nat}{sp:DSp}(F:L2.Fun K x qual st f fd)(S:aS N ps (aI st))(len:∀ds M Q,sp ds M Q->ds.length=ps.length)(hbody:∀(cdv:Value)(A:Around) (outer:List Env) (s:Shared) (H:Hp) (ds:List D) (M:DM) (Q:DQ) (E:XK),cQ k (A.deeper (envOfC qual (aI st) s.heap.objs.size f cdv))->sp ds M Q ->
   ∃t,ZSs (tE CX0 P w K mg base N qual (aI st) f cdv A outer s H E).nox (eR st) t/\t { nx:=λ_ M'=>Dn Q .non M',rt:=Dn Q } (jT N ds) M):kC P w K mg base CX0 (k+1) f fd ps (pT K sp) :=
 Fun.okD F S len λcdv A outer s H ds M Q E hr h=>let ⟨t,h1,h2⟩:=hbody cdv A outer s H ds M Q E hr h;⟨t,h1.o,h2⟩
theorem Has.mkZ {x:Str}{st:Stmt}{N ps:List Str}{k:Nat}{sp:DSp}(h:cK K mg x st ps)(S:aS N ps (aI st))(len:∀ds M Q,sp ds M Q->ds.length=ps.length)(hbody:∀(f:Addr)(cdv:Value) (A:Around) (outer:List Env) (s:Shared) (H:Hp) (ds:List D) (M:DM) (Q:DQ) (E:XK),cQ k (A.deeper (envOfC x (aI st) s.heap.objs.size f cdv))->sp ds M Q ->
   ∃t,ZSs (tE CX0 P w K mg base N x (aI st) f cdv A outer s H E).nox (eR st) t/\t { nx:=λ_ M'=>Dn Q .non M',rt:=Dn Q } (jT N ds) M):Has P w K mg base (k+1) x ps sp :=
 Has.mk h S len λf cdv A outer s H ds M Q E hr h=>let ⟨t,h1,h2⟩:=hbody f cdv A outer s H ds M Q E hr h;⟨t,h1.o,h2⟩
end
section
variable {P:Program}{w:World}{K:Frag}{mg:Str->Option Value}{base:Heap}
end
end Dd
namespace Mz
open PySem
def Bd (n:Nat)(x:Int):Prop:=x.natAbs<2^n
theorem Bd.mono {m n:Nat}{x:Int}(h:Bd m x)(l:m<=n):Bd n x:=Nat.lt_of_lt_of_le h (Nat.pow_le_pow_right (by decide) l)
theorem Bd.neg {n:Nat}{x:Int}(h:Bd n x):Bd n (-x):=by unfold Bd at *;rw[Int.natAbs_neg];exact h
theorem Bd.add {m:Nat}{x y:Int}(h:Bd m x)(h2:Bd m y):Bd (m+1) (x+y):=by unfold Bd at *;have:=Int.natAbs_add_le x y;rw[Nat.pow_succ];omega
theorem Bd.sub {m:Nat}{x y:Int}(h:Bd m x)(h2:Bd m y):Bd (m+1) (x-y):=by rw[Int.sub_eq_add_neg];exact h.add h2.neg
theorem Bd.mul {m n:Nat}{x y:Int}(h:Bd m x)(h2:Bd n y):Bd (m+n) (x*y):=by unfold Bd at *;rw[Int.natAbs_mul,Nat.pow_add];exact Nat.mul_lt_mul'' h h2
theorem Bd.of {n:Nat}{x:Int}(h1:-(2^n:Nat)<x)(h2:x<(2^n:Nat)):Bd n x:=by unfold Bd;omega
theorem Bd.log {n:Nat}{x:Int}(h:Bd n x)(h0:0<n):x.natAbs.log2<n:=by
 rcases Nat.eq_zero_or_pos x.natAbs with e|e
 ·rw[e];simpa using h0
 ·exact(Nat.log2_lt (Nat.ne_of_gt e)).mpr h
theorem Bd.bits {n:Nat}{x:Int}(h:Bd n x):Builtin.Int.intBits x<=n+1:=by
 unfold Builtin.Int.intBits;split
 ·exact Nat.zero_le _
 ·rcases Nat.eq_zero_or_pos n with e|e
  ·subst e;have:x.natAbs<1:=h;have:x.natAbs=0:=by omega
   rw[this];decide
  ·have:=h.log e;omega
theorem dD {m n:Nat}{x y:Int}(h:Bd m x)(h2:Bd n y)(l:m+n<=100000000:=by decide):IntMulOk x y:=IntMulOk.of_le h.bits h2.bits (by omega)
theorem wW {x y:Int}(h:Bd 63 x):IntMulOk x y:=IntMulOk.of_left (by have:=h.bits;omega)
theorem qN {x y:Int}(h:Bd 63 y):IntMulOk x y:=IntMulOk.of_right (by have:=h.bits;omega)
theorem aG7 {a b:Int}(h:b≠0):(a.fmod b).natAbs<b.natAbs:=by
 rcases Int.lt_or_lt_of_ne h with hb|hb
 ·have e:=Int.fmod_eq_emod (a:=a) (b:=b);have h1:=Int.emod_nonneg a h;have h2:=Int.emod_lt_of_neg a hb;by_cases hd:b∣a
  ·rw[if_pos (.inr hd)] at e;have:=Int.emod_eq_zero_of_dvd hd;omega
  ·rw[if_neg (by omega)] at e;have h3:a % b≠0:=λz=>hd (Int.dvd_of_emod_eq_zero z);omega
 ·have h1:=Int.fmod_nonneg_of_pos a hb;have h2:=Int.fmod_lt_of_pos a hb;omega
theorem aFn (a b:Int):Int.gcd b (a.fmod b)=Int.gcd a b:=by rw[Int.fmod_def,Int.mul_comm b,Int.gcd_sub_mul_right_right,Int.gcd_comm]
noncomputable def sg (t b:Int):Int:=if b<0 then -(Int.gcd t b:Int) else (Int.gcd t b:Int)
noncomputable def fT (t b:Int):Int:=t.fdiv (sg t b)
noncomputable def fB (t b:Int):Int:=b.fdiv (sg t b)
theorem kP {t b:Int}(h:b≠0):0<Int.gcd t b:=Nat.pos_of_ne_zero λz=>h (Int.gcd_eq_zero_iff.mp z).2
theorem aLZ {t b:Int}(h:b≠0):sg t b≠0:=by have:=kP (t:=t) h;unfold sg;split<;>omega
theorem oC (t b:Int):sg t b∣t:=by
 have h:=Int.gcd_dvd_left t b;unfold sg;split
 ·exact Int.neg_dvd.mpr h
 ·exact h
theorem oW (t b:Int):sg t b∣b:=by
 have h:=Int.gcd_dvd_right t b;unfold sg;split
 ·exact Int.neg_dvd.mpr h
 ·exact h
theorem aIA {t b:Int}(h:b≠0):fT t b*sg t b=t:=by unfold fT;rw[Int.fdiv_eq_ediv_of_dvd (oC t b)];exact Int.ediv_mul_cancel (oC t b)
theorem aEa {t b:Int}(h:b≠0):fB t b*sg t b=b:=by unfold fB;rw[Int.fdiv_eq_ediv_of_dvd (oW t b)];exact Int.ediv_mul_cancel (oW t b)
theorem aJt {t b:Int}(h:b≠0):0<fB t b:=by
 have e:=aEa (t:=t) h;have hg:=kP (t:=t) h;rcases Int.lt_trichotomy (fB t b) 0 with z|z|z
 ·exfalso;unfold sg at e;split at e
  ·rename_i hb;have:=Int.mul_pos_of_neg_of_neg z (show -(Int.gcd t b:Int)<0 by omega);omega
  ·rename_i hb;have:=Int.mul_neg_of_neg_of_pos z (show 0<(Int.gcd t b:Int) by omega);omega
 ·rw[z] at e;omega
 ·exact z
theorem aJ0 {t b:Int}(h:b≠0):fT t b*b=fB t b*t:=by
 have e1:=aIA (t:=t) h;have e2:=aEa (t:=t) h;have:fT t b*(fB t b*sg t b)=fB t b*(fT t b*sg t b):=by grind
 rw[e1,e2] at this;exact this
theorem xZ (t b:Int):(sg t b).natAbs=Int.gcd t b:=by unfold sg;split<;>simp
theorem aNA {t b:Int}(h:b≠0):Int.gcd (fT t b) (fB t b)=1:=by unfold fT fB;rw[Int.fdiv_eq_ediv_of_dvd (oC t b),Int.fdiv_eq_ediv_of_dvd (oW t b),Int.gcd_ediv (oC t b) (oW t b),xZ];exact Nat.div_self (kP h)
theorem Bd.fT {n:Nat}{t b:Int}(h:Bd n t):Bd n (fT t b):=by unfold Bd at *;unfold Mz.fT;rw[Int.fdiv_eq_ediv_of_dvd (oC t b)];exact Nat.lt_of_le_of_lt (Int.natAbs_ediv_le_natAbs _ _) h
theorem Bd.fB {n:Nat}{t b:Int}(h:Bd n b):Bd n (fB t b):=by unfold Bd at *;unfold Mz.fB;rw[Int.fdiv_eq_ediv_of_dvd (oW t b)];exact Nat.lt_of_le_of_lt (Int.natAbs_ediv_le_natAbs _ _) h
theorem Bd.sg {n:Nat}{t b:Int}(h:Bd n b)(h0:b≠0):Bd n (sg t b):=by unfold Bd at *;rw[xZ];have:=Nat.le_of_dvd (by omega) (Int.natAbs_dvd_natAbs.mpr (Int.gcd_dvd_right t b));simp at this;omega
theorem xA {a b c:Int}(h:b∣a*c)(g:Int.gcd b a=1):b∣c:=by
 have h':b.natAbs∣a.natAbs*c.natAbs:=by rw[<- Int.natAbs_mul];exact Int.natAbs_dvd_natAbs.mpr h
 exact Int.natAbs_dvd_natAbs.mp (Nat.Coprime.dvd_of_dvd_mul_left g h')
theorem pS {t b t' b':Int}(h:0<b)(h':0<b')(g:Int.gcd t b=1)(g':Int.gcd t' b'=1)(e:t*b'=t'*b):t=t'/\b=b':=by
 have d1:b∣b':=by have:b∣t*b':=⟨t',by rw[e];exact Int.mul_comm _ _⟩;exact xA this (by rw[Int.gcd_comm];exact g)
 have d2:b'∣b:=by have:b'∣t'*b:=⟨t,by rw[<- e];exact Int.mul_comm _ _⟩;exact xA this (by rw[Int.gcd_comm];exact g')
 have e1:b=b':=Int.le_antisymm (Int.le_of_dvd h' d1) (Int.le_of_dvd h d2);subst e1;exact⟨Int.eq_of_mul_eq_mul_right (by omega) e,rfl⟩
theorem den_pos (q:Rat):(0:Int)<(q.den:Int):=by have:=q.den_pos;omega
theorem eF (q:Rat):(q.den:Int)≠0:=by have:=q.den_pos;omega
theorem wI (q:Rat):((q.den:Int):Rat)≠0:=by
 intro h;have:(q.den:Int)=0:=by exact_mod_cast h
 exact eF q this
theorem aHA (q:Rat):(q.num:Rat)/((q.den:Int):Rat)=q:=by have h:=Rat.num_divInt_den q;rw[Rat.divInt_eq_div] at h;exact h
theorem gO (q:Rat):(q.num:Rat)=q*((q.den:Int):Rat):=by have h:=aHA q;have h2:=wI q;grind
theorem aCz {t b:Int}(h:b≠0):fT t b=((t:Rat)/(b:Rat)).num/\fB t b=((((t:Rat)/(b:Rat)).den:Nat):Int):=by
 have hb:(b:Rat)≠0:=by exact_mod_cast h
 refine pS (aJt h) (den_pos _) (aNA h) ?_ ?_
 ·have:=((t:Rat)/(b:Rat)).reduced;unfold Nat.Coprime at this;rw[<- this];rfl
 ·have e1:=aJ0 (t:=t) h;have e2:=gO ((t:Rat)/(b:Rat));have e3:((fT t b:Int):Rat)*b=(fB t b:Int)*(t:Rat):=by rw[<- Rat.intCast_mul,<- Rat.intCast_mul,e1]
  have e4:((fT t b:Int):Rat)*((((t:Rat)/(b:Rat)).den:Int):Rat)=((((t:Rat)/(b:Rat)).num:Int):Rat)*(fB t b:Int):=by rw[e2];grind
  rw[<- Rat.intCast_mul,<- Rat.intCast_mul] at e4;exact Rat.intCast_inj.mp e4
def BQ (n:Nat)(q:Rat):Prop:=Bd n q.num/\Bd n (q.den:Int)
theorem BQ.mono {m n:Nat}{q:Rat}(h:BQ m q)(l:m<=n):BQ n q:=⟨h.1.mono l,h.2.mono l⟩
theorem BQ.make {n:Nat}{t b:Int}(h:b≠0)(h1:Bd n t)(h2:Bd n b):BQ n ((t:Rat)/(b:Rat)):=by obtain⟨e1,e2⟩:=aCz (t:=t) h;exact⟨e1 ▸ h1.fT,e2 ▸ h2.fB⟩
theorem aMT (p q:Rat):(((p.num*q.den+q.num*p.den:Int)):Rat)/((p.den*q.den:Int):Rat)=p+q:=by have h1:=wI p;have h2:=wI q;have e1:=gO p;have e2:=gO q;rw[Rat.intCast_add,Rat.intCast_mul,Rat.intCast_mul,Rat.intCast_mul,e1,e2];grind
theorem aMO (p q:Rat):(((p.num*q.den-q.num*p.den:Int)):Rat)/((p.den*q.den:Int):Rat)=p-q:=by have h1:=wI p;have h2:=wI q;have e1:=gO p;have e2:=gO q;rw[Rat.intCast_sub,Rat.intCast_mul,Rat.intCast_mul,Rat.intCast_mul,e1,e2];grind
theorem aNm (p q:Rat):(((p.num*q.num:Int)):Rat)/((p.den*q.den:Int):Rat)=p*q:=by have h1:=wI p;have h2:=wI q;have e1:=gO p;have e2:=gO q;rw[Rat.intCast_mul,Rat.intCast_mul,e1,e2];grind
theorem BQ.add {m n:Nat}{p q:Rat}(h:BQ m p)(h2:BQ n q):BQ (m+n+1) (p+q):=by rw[<- aMT];exact .make (Int.mul_ne_zero (eF p) (eF q)) ((h.1.mul h2.2).add ((h2.1.mul h.2).mono (by omega))) ((h.2.mul h2.2).mono (by omega))
theorem BQ.sub {m n:Nat}{p q:Rat}(h:BQ m p)(h2:BQ n q):BQ (m+n+1) (p-q):=by rw[<- aMO];exact .make (Int.mul_ne_zero (eF p) (eF q)) ((h.1.mul h2.2).sub ((h2.1.mul h.2).mono (by omega))) ((h.2.mul h2.2).mono (by omega))
theorem BQ.mul {m n:Nat}{p q:Rat}(h:BQ m p)(h2:BQ n q):BQ (m+n) (p*q):=by rw[<- aNm];exact .make (Int.mul_ne_zero (eF p) (eF q)) (h.1.mul h2.1) (h.2.mul h2.2)
theorem BQ.neg {m:Nat}{p:Rat}(h:BQ m p):BQ m (-p):=⟨by rw[Rat.neg_num];exact h.1.neg,by rw[Rat.neg_den];exact h.2⟩
theorem BQ.int {m:Nat}{z:Int}(h:Bd m z)(h0:0<m):BQ m (z:Rat):=⟨by rw[Rat.num_intCast];exact h,by rw[Rat.den_intCast];unfold Bd;exact Nat.one_lt_two_pow (by omega)⟩
theorem ltQ (p q:Rat):(p.num*q.den<q.num*p.den)↔p<q:=(Rat.lt_iff p q).symm
theorem aCD {q:Rat}:0<q.num↔0<q:=by have:=Rat.lt_iff 0 q;simp at this;exact this.symm
theorem aHX {t b:Int}{q:Rat}(hb:0<b)(hg:Int.gcd t b=1)(e:(t:Rat)=q*(b:Rat)):t=q.num/\b=(q.den:Int):=by
 refine pS hb (den_pos q) hg ?_ ?_
 ·have:=q.reduced;unfold Nat.Coprime at this;rw[<- this];rfl
 ·have e2:=gO q;have:((t*(q.den:Int):Int):Rat)=((q.num*b:Int):Rat):=by rw[Rat.intCast_mul,Rat.intCast_mul,e,e2];grind
  exact Rat.intCast_inj.mp this
theorem mK {a b c:Int}(h:Int.gcd a b=1)(h2:Int.gcd a c=1):Int.gcd a (b*c)=1:=by unfold Int.gcd at *;rw[Int.natAbs_mul];exact Nat.Coprime.mul_right h h2
theorem dO {a b:Int}(h:Int.gcd a b=1):Int.gcd b a=1:=by rw[Int.gcd_comm];exact h
theorem kU {a a' b:Int}(h:a∣a')(h2:Int.gcd a' b=1):Int.gcd a b=1:=by unfold Int.gcd at *;exact Nat.Coprime.coprime_dvd_left (Int.natAbs_dvd_natAbs.mpr h) h2
theorem red (q:Rat):Int.gcd q.num (q.den:Int)=1:=by have:=q.reduced;unfold Nat.Coprime at this;rw[<- this];rfl
theorem pC {x y:Int}(h:y≠0):∃a b:Int,x=(Int.gcd x y:Int)*a/\y=(Int.gcd x y:Int)*b/\Int.gcd a b=1/\x.fdiv (Int.gcd x y:Int)=a/\y.fdiv (Int.gcd x y:Int)=b:=by
 have hp:0<Int.gcd x y:=kP h;obtain⟨a,ha⟩:=Int.gcd_dvd_left x y;obtain⟨b,hb⟩:=Int.gcd_dvd_right x y;have e1:x.fdiv (Int.gcd x y:Int)=a:=by rw[Int.fdiv_eq_ediv_of_dvd (Int.gcd_dvd_left x y)];exact Int.ediv_eq_of_eq_mul_right (by omega) ha
 have e2:y.fdiv (Int.gcd x y:Int)=b:=by rw[Int.fdiv_eq_ediv_of_dvd (Int.gcd_dvd_right x y)];exact Int.ediv_eq_of_eq_mul_right (by omega) hb
 refine⟨a,b,ha,hb,?_,e1,e2⟩;rw[<- e1,<- e2,Int.fdiv_eq_ediv_of_dvd (Int.gcd_dvd_left x y),Int.fdiv_eq_ediv_of_dvd (Int.gcd_dvd_right x y),Int.gcd_ediv (Int.gcd_dvd_left x y) (Int.gcd_dvd_right x y)];simp;exact Nat.div_self hp
theorem aNE (p q:Rat):∀g a t l:Int,g=(Int.gcd p.den q.den:Int)->a=(p.den:Int).fdiv g->t=p.num*(q.den:Int).fdiv g+q.num*a->l=(Int.gcd t g:Int) ->
  g≠0/\l≠0/\g∣(p.den:Int)/\l∣g/\t.fdiv l=(p+q).num/\a*(q.den:Int).fdiv l=((p+q).den:Int):=by
 intro g a t l hg ha ht hl;have d1:=den_pos p;have d2:=den_pos q;obtain⟨a',b,e1,e2,cab,f1,f2⟩:=pC (x:=p.den) (y:=q.den) (eF q);rw[<- hg] at e1 e2 f1 f2;rw[f1] at ha;subst ha;rw[f2] at ht;have g0:0<g:=by have:=kP (t:=(p.den:Int)) (eF q);omega
 have a0:0<a:=by
  rcases Int.lt_trichotomy a 0 with z|z|z
  ·have:=Int.mul_neg_of_pos_of_neg g0 z;omega
  ·subst z;omega
  ·exact z
 have b0:0<b:=by
  rcases Int.lt_trichotomy b 0 with z|z|z
  ·have:=Int.mul_neg_of_pos_of_neg g0 z;omega
  ·subst z;omega
  ·exact z
 obtain⟨t',g',e3,e4,ctg,f3,f4⟩:=pC (x:=t) (y:=g) (by omega);rw[<- hl] at e3 e4 f3 f4;have l0:0<l:=by have:=kP (t:=t) (b:=g) (by omega);omega
 have g'0:0<g':=by
  rcases Int.lt_trichotomy g' 0 with z|z|z
  ·have:=Int.mul_neg_of_pos_of_neg l0 z;omega
  ·subst z;omega
  ·exact z
 have f5:(q.den:Int).fdiv l=g'*b:=by
  have e:(q.den:Int)=l*(g'*b):=by rw[e2,e4];grind
  rw[Int.fdiv_eq_ediv_of_dvd ⟨_,e⟩];exact Int.ediv_eq_of_eq_mul_right (by omega) e
 refine⟨by omega,by omega,⟨a,e1⟩,⟨g',e4⟩,?_⟩;rw[f3,f5];have ca:Int.gcd t a=1:=by have c1:Int.gcd p.num a=1:=dO (kU ⟨g,by rw[e1];grind⟩ (dO (red p)));have:Int.gcd a (p.num*b)=1:=mK (dO c1) cab;rw[ht,Int.gcd_comm,Int.gcd_add_mul_right_right];exact this
 have cb:Int.gcd t b=1:=by have c1:Int.gcd q.num b=1:=dO (kU ⟨g,by rw[e2];grind⟩ (dO (red q)));have:Int.gcd b (q.num*a)=1:=mK (dO c1) (dO cab);rw[ht,Int.gcd_comm,Int.add_comm,Int.gcd_add_mul_right_right];exact this
 have hd:t'∣t:=⟨l,by rw[e3];grind⟩;refine aHX (q:=p+q) (Int.mul_pos a0 (Int.mul_pos g'0 b0)) (mK (kU hd ca) (mK ctg (kU hd cb))) ?_;have n1:=gO p;have n2:=gO q;have r1:=wI p;have r2:=wI q;have k1:((p.den:Int):Rat)=(l:Rat)*g'*a:=by rw[e1,e4,Rat.intCast_mul,Rat.intCast_mul]
 have k2:((q.den:Int):Rat)=(l:Rat)*g'*b:=by rw[e2,e4,Rat.intCast_mul,Rat.intCast_mul]
 have k3:(l:Rat)*t'=(p.num:Rat)*b+(q.num:Rat)*a:=by rw[<- Rat.intCast_mul,<- e3,ht,Rat.intCast_add,Rat.intCast_mul,Rat.intCast_mul]
 have k4:(l:Rat)≠0:=λz=>by
                     have:l=0:=by exact_mod_cast z
                     omega
 rw[n1,n2,k1,k2] at k3;rw[Rat.intCast_mul,Rat.intCast_mul];have:(l:Rat)*(t':Rat)=l*((p+q)*((a:Rat)*(g'*b))):=by rw[k3];grind
 grind
theorem aMS (p q:Rat):∀f r:Int,f=(Int.gcd p.num q.den:Int)->r=(Int.gcd q.num p.den:Int) ->
  f≠0/\r≠0/\f∣(q.den:Int)/\r∣(p.den:Int)/\p.num.fdiv f*q.num.fdiv r=(p*q).num/\(p.den:Int).fdiv r*(q.den:Int).fdiv f=((p*q).den:Int):=by
 intro f r hf hr;have d1:=den_pos p;have d2:=den_pos q;obtain⟨x,v,e1,e2,c1,f1,f2⟩:=pC (x:=p.num) (y:=q.den) (eF q);obtain⟨y,u,e3,e4,c2,f3,f4⟩:=pC (x:=q.num) (y:=p.den) (eF p);rw[<- hf] at e1 e2 f1 f2;rw[<- hr] at e3 e4 f3 f4;have f0:0<f:=by have:=kP (t:=p.num) (eF q);omega
 have r0:0<r:=by have:=kP (t:=q.num) (eF p);omega
 have v0:0<v:=by
  rcases Int.lt_trichotomy v 0 with z|z|z
  ·have:=Int.mul_neg_of_pos_of_neg f0 z;omega
  ·subst z;omega
  ·exact z
 have u0:0<u:=by
  rcases Int.lt_trichotomy u 0 with z|z|z
  ·have:=Int.mul_neg_of_pos_of_neg r0 z;omega
  ·subst z;omega
  ·exact z
 refine⟨by omega,by omega,⟨v,e2⟩,⟨u,e4⟩,?_⟩;rw[f1,f2,f3,f4];have cxu:Int.gcd x u=1:=kU ⟨f,by rw[e1];grind⟩ (dO (kU ⟨r,by rw[e4];grind⟩ (dO (red p))));have cyv:Int.gcd y v=1:=kU ⟨r,by rw[e3];grind⟩ (dO (kU ⟨f,by rw[e2];grind⟩ (dO (red q))));refine aHX (q:=p*q) (Int.mul_pos u0 v0) ?_ ?_
 ·exact dO (mK (dO (mK cxu c1)) (dO (mK c2 cyv)))
 have n1:=gO p;have n2:=gO q;have r1:=wI p;have r2:=wI q;have k1:((p.den:Int):Rat)=(r:Rat)*u:=by rw[e4,Rat.intCast_mul]
 have k2:((q.den:Int):Rat)=(f:Rat)*v:=by rw[e2,Rat.intCast_mul]
 have k3:(p.num:Rat)=(f:Rat)*x:=by rw[e1,Rat.intCast_mul]
 have k4:(q.num:Rat)=(r:Rat)*y:=by rw[e3,Rat.intCast_mul]
 have k5:(f:Rat)≠0:=λz=>by
                     have:f=0:=by exact_mod_cast z
                     omega
 have k6:(r:Rat)≠0:=λz=>by
                     have:r=0:=by exact_mod_cast z
                     omega
 rw[Rat.intCast_mul,Rat.intCast_mul];have:(f:Rat)*r*((x:Rat)*y)=f*r*((p*q)*((u:Rat)*v)):=by
  have z1:(f:Rat)*x=p*(r*u):=by rw[<- k3,<- k1];exact n1
  have z2:(r:Rat)*y=q*(f*v):=by rw[<- k4,<- k2];exact n2
  grind
 grind
theorem Bd.dvd {n:Nat}{x y:Int}(h:Bd n y)(d:x∣y)(h0:y≠0):Bd n x:=by unfold Bd at *;have:=Nat.le_of_dvd (by omega) (Int.natAbs_dvd_natAbs.mpr d);omega
theorem Bd.fdiv {n:Nat}{x y:Int}(h:Bd n x)(d:y∣x):Bd n (x.fdiv y):=by unfold Bd at *;rw[Int.fdiv_eq_ediv_of_dvd d];exact Nat.lt_of_le_of_lt (Int.natAbs_ediv_le_natAbs _ _) h
noncomputable def sgn (q:Rat):Int:=if 0<q then 1 else if q<0 then -1 else 0
noncomputable def aY (ax ay bx by' px py:Rat):Rat:=(bx-ax)*(py-ay)-(by'-ay)*(px-ax)
theorem aHd {z F:Rat}(hF:0<F):sgn (z*F)=sgn z:=by
 unfold sgn;rcases (show z<0∨z=0∨0<z by grind) with c|c|c
 ·have:=Rat.mul_pos (show 0 < -z by grind) hF;rw[if_neg (by grind),if_pos (by grind),if_neg (by grind),if_pos c]
 ·subst c;rw[if_neg (by grind),if_neg (by grind),if_neg (by grind),if_neg (by grind)]
 ·have:=Rat.mul_pos c hF;rw[if_pos this,if_pos c]
noncomputable def uu (t:Rat):Rat:=(1-t*t)/(1+t*t)
noncomputable def vv (t:Rat):Rat:=(t+t)/(1+t*t)
noncomputable def fW (t x y:Rat):Rat:=uu t*x-vv t*y
noncomputable def fR (t x y:Rat):Rat:=vv t*x+uu t*y
theorem uD (t:Rat):0<=t*t:=by
 rcases (show t<0∨t=0∨0<t by grind) with c|c|c
 ·have:=Rat.mul_pos (show 0 < -t by grind) (show 0 < -t by grind);grind
 ·subst c;grind
 ·have:=Rat.mul_pos c c;grind
theorem gE (t:Rat):1+t*t≠0:=by have:=uD t;grind
theorem aFZ {x y:Rat}(h:¬(x=0/\y=0)):x*x+y*y≠0:=by
 have h1:=uD x;have h2:=uD y;intro z;have e1:x*x=0:=by grind
 have e2:y*y=0:=by grind
 exact h ⟨by grind,by grind⟩
theorem uv1 (t:Rat):1+uu t=2/(1+t*t):=by have:=gE t;unfold uu;grind
theorem aB2 {t x y:Rat}(h:¬(x=0/\y=0)):x*x+y*y+(x*fW t x y+y*fR t x y)≠0/\(x*fR t x y-y*fW t x y)/(x*x+y*y+(x*fW t x y+y*fR t x y))=t:=by
 have h1:=gE t;have h2:=aFZ h;have e1:x*x+y*y+(x*fW t x y+y*fR t x y)=(x*x+y*y)*(2/(1+t*t)):=by rw[<- uv1];unfold fW fR;grind
 have e2:x*fR t x y-y*fW t x y=(x*x+y*y)*((t+t)/(1+t*t)):=by unfold fW fR vv;grind
 rw[e1,e2];constructor
 ·intro z;have:(2:Rat)/(1+t*t)≠0:=by grind
  grind
 ·grind
noncomputable def SS (x y p q:Rat):Rat:=x*x+y*y+(x*p+y*q)
noncomputable def LL (x y p q:Rat):Rat:=x*q-y*p
theorem sq0 {a:Rat}(h:a*a=0):a=0:=by grind
theorem aM7 {a b:Rat}(h:a*a+b*b=0):a=0/\b=0:=by have h1:=uD a;have h2:=uD b;exact⟨sq0 (by grind),sq0 (by grind)⟩
theorem aKy {x y:Rat}(h0:¬(x=0/\y=0)):0<x*x+y*y:=by have h1:=uD x;have h2:=uD y;have h3:=aFZ h0;grind
theorem aHL {x y p q:Rat}(h0:¬(x=0/\y=0))(hc:p*p+q*q=x*x+y*y) :
  (SS x y p q=0/\p = -x/\q = -y)∨(SS x y p q≠0/\∃t,LL x y p q/SS x y p q=t/\p=fW t x y/\q=fR t x y):=by
 by_cases hS:SS x y p q=0
 ·left;have e:(x+p)*(x+p)+(y+q)*(y+q)=0:=by unfold SS at hS;grind
  obtain⟨a,b⟩:=aM7 e;exact⟨hS,by grind,by grind⟩
 ·right;refine⟨hS,_,rfl,?_⟩;have hN:=aKy h0;have hN':x*x+y*y≠0:=by grind
  generalize ht:LL x y p q/SS x y p q=t;have e1:LL x y p q=t*SS x y p q:=by grind
  have h1:=gE t;have key:SS x y p q*SS x y p q*(1+t*t)=2*(x*x+y*y)*SS x y p q:=by
   have:SS x y p q*SS x y p q*(1+t*t)=SS x y p q*SS x y p q+LL x y p q*LL x y p q:=by rw[e1];grind
   rw[this];unfold SS LL;grind
  have k2:SS x y p q*(1+t*t)=2*(x*x+y*y):=by grind
  have k3:(x*x+y*y)*uu t=x*p+y*q:=by
   have a1:uu t*(1+t*t)=1-t*t:=by unfold uu;grind
   have a2:(x*x+y*y)*uu t*(1+t*t)=(x*p+y*q)*(1+t*t):=by
    have:x*p+y*q=SS x y p q-(x*x+y*y):=by unfold SS;grind
    grind
   grind
  have k4:(x*x+y*y)*vv t=LL x y p q:=by
   have a1:vv t*(1+t*t)=t+t:=by unfold vv;grind
   have a2:(x*x+y*y)*vv t*(1+t*t)=LL x y p q*(1+t*t):=by rw[e1];grind
   grind
  unfold fW fR LL at *;constructor
  ·have:(x*x+y*y)*p=(x*x+y*y)*(uu t*x-vv t*y):=by grind
   grind
  ·have:(x*x+y*y)*q=(x*x+y*y)*(vv t*x+uu t*y):=by grind
   grind
noncomputable def eN (x y p q u v:Rat):Bool:=if p=x/\q=y then !decide (u=x/\v=y) else decide (sgn (aY x y p q u v)=1)
theorem aJD (t x y:Rat):LL x y (fW t x y) (fR t x y)=(x*x+y*y)*vv t:=by unfold LL fW fR;grind
theorem aEF {t x y:Rat}(h0:¬(x=0/\y=0)):(fW t x y=x/\fR t x y=y)↔t=0:=by
 constructor
 ·intro ⟨a,b⟩;have e:=aJD t x y;rw[a,b] at e;have hN:=aKy h0;have hz:(x*x+y*y)*vv t=0:=by rw[<- e];unfold LL;grind
  have:vv t=0:=by
   rcases Rat.mul_eq_zero.mp hz with z|z
   ·grind
   ·exact z
  have h1:=gE t;unfold vv at this;grind
 ·rintro rfl;have e1:uu 0=1:=by unfold uu;grind
  have e2:vv 0=0:=by unfold vv;grind
  unfold fW fR;rw[e1,e2];constructor<;>grind
theorem aG3 {z:Rat}:sgn z=1↔0<z:=by
 unfold sgn;constructor
 ·intro h;by_cases c:0<z
  ·exact c
  ·rw[if_neg c] at h;split at h<;>cases h
 ·intro h;rw[if_pos h]
noncomputable def rq (x y:Rat):Nat->Rat×Rat
 |0=>(x,y)
 |n+1=>(-(rq x y n).2,(rq x y n).1)
theorem aCM {B:Nat}{x y:Rat}(h1:BQ B x)(h2:BQ B y):∀n,BQ B (rq x y n).1/\BQ B (rq x y n).2
 |0=>⟨h1,h2⟩
 |n+1=>⟨(aCM h1 h2 n).2.neg,(aCM h1 h2 n).1⟩
noncomputable def ldX (px:Rat)(t h:Int)(s x y:Rat):Rat:=(rq x ((h:Rat)*y) t.toNat).1*s+px
noncomputable def ldY (py:Rat)(t h:Int)(s x y:Rat):Rat:=(rq x ((h:Rat)*y) t.toNat).2*s+py
noncomputable def tb (t h u:Int):Int:=(t+h*u).fmod 4
end Mz
namespace Dd
open PySem PySem.Spec PyProof.Rows L2 Mz
noncomputable def FQ (q:Rat):D:=.tup [.int q.num,.int (q.den:Int)]
theorem aHa {t b:Int}(h:b≠0):(D.tup [.int (fT t b),.int (fB t b)])=FQ ((t:Rat)/(b:Rat)):=by obtain⟨e1,e2⟩:=aCz (t:=t) h;rw[e1,e2];rfl
def eB:DSp:=λds M Q=>∃a b,ds=[.int a,.int b]/\Q (.int (Int.gcd a b:Int)) M
def wN (g:Rat->Rat->D)(C:Rat->Prop:=λ_=>True):DSp:=λds M Q=>∃p q m n,ds=[FQ p,FQ q]/\C q/\BQ m p/\BQ n q/\m+n<=8998/\Q (g p q) M
def rS:DSp:=wN λp q=>FQ (p+q)
def oK:DSp:=wN λp q=>FQ (p-q)
def jN:DSp:=wN λp q=>FQ (p*q)
def aBD:DSp:=wN λp q=>.bl (decide (p<q))
theorem vC {g:Rat->Rat->D}{C:Rat->Prop}(ds:List D)(M:DM)(Q:DQ)(h:wN g C ds M Q):ds.length=2:=by obtain⟨a,b,m,n,rfl,_⟩:=h;rfl
theorem aBs {n:Nat}{x y z:Int}(h:Bd n y)(l:n<=9000)(d:z∣y)(h0:y≠0)(hz:z≠0):CFd x z:=⟨hz,by
 rcases Nat.eq_zero_or_pos n with e|e
 ·subst e;have:y.natAbs<1:=h;omega
 ·exact Nat.lt_of_lt_of_le ((h.dvd d h0).log e) l⟩
theorem zS (q:Rat):(D.tup [.int (-q.num),.int (q.den:Int)])=FQ (-q):=by unfold FQ;rw[Rat.neg_num,Rat.neg_den]
noncomputable def PQ (x y:Rat):D:=.tup [FQ x,FQ y]
def sZ:DSp:=λds M Q=>∃x y u v,ds=[PQ x y,PQ u v]/\BQ 4400 x/\BQ 4400 y/\BQ 4400 u/\BQ 4400 v/\Q (PQ (x-u) (y-v)) M
def cV:DSp:=λds M Q=>∃x y u v,ds=[PQ x y,PQ u v]/\BQ 4400 x/\BQ 4400 y/\BQ 4400 u/\BQ 4400 v/\Q (PQ (x+u) (y+v)) M
theorem vV (p q:Rat):eqD (FQ p) (FQ q)=decide (p=q):=by
 show(p.num==q.num&&((p.den:Int)==(q.den:Int)&&true))=decide (p=q);by_cases h:p=q
 ·subst h;simp
 ·rw[decide_eq_false h];by_cases h1:p.num=q.num
  ·have h2:¬((p.den:Int)=(q.den:Int)):=λz=>h (Rat.ext h1 (by exact_mod_cast z));simp[h1,h2]
  ·simp[h1]
theorem zV (x y u v:Rat):eqD (PQ x y) (PQ u v)=(decide (x=u)&&decide (y=v)):=by show(eqD (FQ x) (FQ u)&&(eqD (FQ y) (FQ v)&&true))=_;rw[vV,vV,Bool.and_true]
def eZ:DSp:=λds M Q=>∃x y,ds=[PQ x y]/\BQ 900 x/\BQ 900 y/\∀X Y d:Int,0<d->(X:Rat)=x*(d:Rat)->(Y:Rat)=y*(d:Rat)->Bd 1800 X->Bd 1800 Y->Bd 1800 d->Q (.tup [.int X,.int Y,.int d]) M
def vF:DSp:=λds M Q=>∃z:Int,ds=[.int z]/\Q (.int (sgn (z:Rat))) M
theorem aKj {d:Int}(h:0<d):(0:Rat)<(d:Rat):=by exact_mod_cast h
def vK:DSp:=λds M Q=>∃ax ay bx by' px py,ds=[PQ ax ay,PQ bx by',PQ px py]/\BQ 900 ax/\BQ 900 ay/\BQ 900 bx/\BQ 900 by'/\BQ 900 px/\BQ 900 py/\Q (.int (sgn (aY ax ay bx by' px py))) M
noncomputable def bef (x y u v:Rat):Bool:=if x=u then decide (y<v) else decide (x<u)
def sV:DSp:=λds M Q=>∃x y u v,ds=[PQ x y,PQ u v]/\BQ 4400 x/\BQ 4400 y/\BQ 4400 u/\BQ 4400 v/\Q (.bl (bef x y u v)) M
def FdN (M:DM)(a:Addr)(n:Nat):Prop:=∃(c k f:Int),M a=some [.int c,.int k,.int f]/\0<=k/\k<=n
structure Adv (M M':DM)(a:Addr):Prop where
 l:∀b:Addr,b≠a->M' (.l b)=M (.l b)
 d:∀b:Addr,M' (.d b)=M (.d b)
 o:∀b:Addr,M' (.o b)=M (.o b)
instance {M M':DM}{a:Addr}:CoeFun (Adv M M' a) (λ_=>∀b:Addr,b≠a->M' (.l b)=M (.l b)):=⟨Adv.l⟩
theorem Adv.trans {M M1 M2:DM}{a:Addr}(h:Adv M M1 a)(h2:Adv M1 M2 a):Adv M M2 a:=⟨λb n=>(h2.l b n).trans (h.l b n),λb=>(h2.d b).trans (h.d b),λb=>(h2.o b).trans (h.o b)⟩
theorem Adv.ak {M M':DM}{a:Addr}(h:Adv M M' a){b:AK}(n:b≠AK.l a):M' b=M b:=by
 cases b with
 |l b=>exact h.l b λe=>n (congrArg AK.l e)
 |d b=>exact h.d b
 |o b=>exact h.o b
theorem Adv.put {M:DM}{a:Addr}{ds:List D}:Adv M (bH M a ds) a:=⟨λ_ n=>mM n,λ_=>aAs,λ_=>zL⟩
theorem FdN.mono {M:DM}{a:Addr}{m n:Nat}(h:FdN M a m)(l:m<=n):FdN M a n:=by obtain⟨c,k,f,e,h0,h1⟩:=h;exact⟨c,k,f,e,h0,by omega⟩
def tR:DSp:=λds M Q=>∃c,ds=[.int c]/\∀(p:Addr) M',M p=none->FdN M' p 0->Adv M M' p->Q (.ref p) M'
def cI:DSp:=λds M Q=>∃a many n,ds=[.ref a,.int many]/\FdN M a n/\n<=100000/\0<many/\Bd 8999 many/\∀r M',0<=r->r<many->FdN M' a (n+1)->Adv M M' a->Q (.int r) M'
def qZ (B c:Nat)(Pd:D->Prop):DSp:=λds M Q=>∃a n,ds=[.ref a]/\FdN M a n/\n<=B/\∀d M',Pd d->FdN M' a (n+c)->Adv M M' a->Q d M'
theorem tI {B c:Nat}{Pd:D->Prop}(ds:List D)(M:DM)(Q:DQ)(h:qZ B c Pd ds M Q):ds.length=1:=by obtain⟨a,n,rfl,_⟩:=h;rfl
def IsF (B:Nat)(d:D):Prop:=∃q,d=FQ q/\BQ B q
def IsP (B:Nat)(d:D):Prop:=∃x y,d=PQ x y/\BQ B x/\BQ B y
theorem aE4 (z:Int):FQ (z:Rat)=.tup [.int z,.int 1]:=by unfold FQ;rw[Rat.num_intCast,Rat.den_intCast];rfl
theorem bdk {x:Int}(h:x.natAbs<2^220):Bd 8999 x:=Bd.mono (m:=220) h (by decide)
theorem aL9 {x:Int}(h1:-(10^62)<=x)(h2:x<=10^62):Bd 210 x:=by
 unfold Bd;have:(2:Nat)^210=1645504557321206042154969182557350504982735865633579863348609024:=by decide
 omega
theorem aHu {xs:List D}{lo hi:Option Int}{d:D}(h:d∈cutD xs lo hi):d∈xs:=List.mem_of_mem_drop (List.mem_of_mem_take h)
noncomputable def aLq:D:=.tup [.int 1,.int 1]
theorem bq1:BQ 1 1:=⟨by unfold Bd;decide,by unfold Bd;decide⟩
theorem aJM {x y:Rat}{g:DG}{te:DE}{Q:DQ}{ρ0:cJ}{M:DM}:itT (PQ x y) ρ0 g te M Q=xK none [FQ x,FQ y] ρ0 g te M Q:=rfl
theorem aI1 {q:Rat}{g:DG}{te:DE}{Q:DQ}{ρ0:cJ}{M:DM}:itT (FQ q) ρ0 g te M Q=xK none [.int q.num,.int (q.den:Int)] ρ0 g te M Q:=rfl
theorem aLk {q:Rat}{M:DM}{Q:DQ}:jC (FQ q) (.int 0) M Q=Q (.int q.num) M:=rfl
theorem aK1 {q:Rat}{M:DM}{Q:DQ}:jC (FQ q) (.int 1) M Q=Q (.int (q.den:Int)) M:=rfl
theorem aLw {x y:Rat}{M:DM}{Q:DQ}:jC (PQ x y) (.int 0) M Q=Q (FQ x) M:=rfl
theorem aL2 {x y:Rat}{M:DM}{Q:DQ}:jC (PQ x y) (.int 1) M Q=Q (FQ y) M:=rfl
theorem aMl {x y:Rat}{n:Nat}{t:DGs}{ρ:cJ}{M:DM}{R:cJ->DM->Prop}:gU n t (PQ x y) ρ M R=(([FQ x,FQ y]:List D).length=n/\t [FQ x,FQ y] ρ M R):=rfl
theorem aMu {q:Rat}{n:Nat}{t:DGs}{ρ:cJ}{M:DM}{R:cJ->DM->Prop}:gU n t (FQ q) ρ M R=(([.int q.num,.int (q.den:Int)]:List D).length=n/\t [.int q.num,.int (q.den:Int)] ρ M R):=rfl
theorem aIu {g:Bool->Bool}{p q:Rat}{M:DM}{Q:DQ}:dEq g (FQ p) (FQ q) M Q=Q (.bl (g (decide (p=q)))) M:=by show(bS 60 (FQ p)=true/\bS 60 (FQ q)=true/\Q (.bl (g (eqD (FQ p) (FQ q)))) M)=_;rw[vV];exact propext ⟨λh=>h.2.2,λh=>⟨rfl,rfl,h⟩⟩
theorem lE {g:Bool->Bool}{x y u v:Rat}{M:DM}{Q:DQ}:dEq g (PQ x y) (PQ u v) M Q=Q (.bl (g (decide (x=u/\y=v)))) M:=by
 show(bS 60 (PQ x y)=true/\bS 60 (PQ u v)=true/\Q (.bl (g (eqD (PQ x y) (PQ u v)))) M)=_;have e:(decide (x=u)&&decide (y=v))=decide (x=u/\y=v):=by by_cases h1:x=u<;>by_cases h2:y=v<;>simp[h1,h2]
 rw[zV,e];exact propext ⟨λh=>h.2.2,λh=>⟨rfl,rfl,h⟩⟩
noncomputable def aMG:D:=.tup [.tup [.int 0,.int 1],.tup [.int 0,.int 1]]
noncomputable def FR (px py:Rat)(t h:Int)(s:Rat):D:=.tup [PQ px py,.int t,.int h,FQ s]
theorem aMd {px py s:Rat}{i h:Int}{n:Nat}{t:DGs}{ρ:cJ}{M:DM}{R:cJ->DM->Prop}:gU n t (FR px py i h s) ρ M R=(([PQ px py,.int i,.int h,FQ s]:List D).length=n/\t [PQ px py,.int i,.int h,FQ s] ρ M R):=rfl
theorem aLg {px py s:Rat}{t h:Int}{M:DM}{Q:DQ}:jC (FR px py t h s) (.int 0) M Q=Q (PQ px py) M:=rfl
theorem aMx {px py s:Rat}{t h:Int}{M:DM}{Q:DQ}:jC (FR px py t h s) (.int 1) M Q=Q (.int t) M:=rfl
theorem aMB {px py s:Rat}{t h:Int}{M:DM}{Q:DQ}:jC (FR px py t h s) (.int 2) M Q=Q (.int h) M:=rfl
theorem aK6 {px py s:Rat}{t h:Int}{M:DM}{Q:DQ}:jC (FR px py t h s) (.int 3) M Q=Q (FQ s) M:=rfl
theorem aKm (px py s px' py' s':Rat)(t h t' h':Int):eqD (FR px py t h s) (FR px' py' t' h' s')=decide (px=px'/\py=py'/\t=t'/\h=h'/\s=s'):=by show(eqD (PQ px py) (PQ px' py')&&(t==t'&&(h==h'&&(eqD (FQ s) (FQ s')&&true))))=_;rw[zV,vV];by_cases h1:px=px'<;>by_cases h2:py=py'<;>by_cases h3:t=t'<;>by_cases h4:h=h'<;>by_cases h5:s=s'<;>simp[h1,h2,h3,h4,h5]
theorem aKh {g:Bool->Bool}{px py s px' py' s':Rat}{t h t' h':Int}{M:DM}{Q:DQ}:dEq g (FR px py t h s) (FR px' py' t' h' s') M Q=Q (.bl (g (decide (px=px'/\py=py'/\t=t'/\h=h'/\s=s')))) M:=by show(bS 60 (FR px py t h s)=true/\bS 60 (FR px' py' t' h' s')=true/\Q (.bl (g (eqD (FR px py t h s) (FR px' py' t' h' s')))) M)=_;rw[aKm];exact propext ⟨λz=>z.2.2,λz=>⟨rfl,rfl,z⟩⟩
def aHS (n:Nat)(L:List D):Prop:=L.length=n/\∀d∈L,∃z:Int,d=.int z/\0<=z/\z<1000000
theorem aHS.at {n:Nat}{L:List D}(h:aHS n L){i:Nat}(hi:i<n):∃z:Int,atI L (i:Int)=some (.int z)/\0<=z/\z<1000000:=by
 have hl:i<L.length:=by rw[h.1];exact hi
 obtain⟨z,e,z0,z1⟩:=h.2 L[i] (getElem_mem hl);exact⟨z,mU (by rw[getElem?_eq_getElem hl,e]),z0,z1⟩
theorem aHD {x y:Rat}{M:DM}{Q:DQ}:uX [PQ x y] M Q=Q (.int 2) M:=rfl
theorem aHo {q:Rat}{M:DM}{Q:DQ}:uX [FQ q] M Q=Q (.int 2) M:=rfl
theorem aHF {px py s:Rat}{t h:Int}{M:DM}{Q:DQ}:uX [FR px py t h s] M Q=Q (.int 4) M:=rfl
theorem aFV {a:Addr}{M:DM}{Q:DQ}:uX [.ref a] M Q=∃xs,M a=some xs/\Q (.int (xs.length:Int)) M:=rfl
section
variable {M:DM}{Q:DQ}{a b c d e f:D}
theorem aJC {i:Int}:aLO [.int i] M Q=Q (.int (if i<0 then -i else i)) M:=rfl
theorem aHK {xs:List D}:uX [.fz xs] M Q=Q (.int xs.length) M:=rfl
theorem aHg:uX [.tup []] M Q=Q (.int 0) M:=rfl
theorem aHG:uX [.tup [a]] M Q=Q (.int 1) M:=rfl
theorem aHe:uX [.tup [a,b]] M Q=Q (.int 2) M:=rfl
theorem aHl:uX [.tup [a,b,c]] M Q=Q (.int 3) M:=rfl
theorem aHh:uX [.tup [a,b,c,d]] M Q=Q (.int 4) M:=rfl
theorem aHt:uX [.tup [a,b,c,d,e]] M Q=Q (.int 5) M:=rfl
end
def lV (px py:Rat)(t h:Int)(s:Rat)(B:Nat):Prop:=BQ B px/\BQ B py/\0<=t/\t<4/\(h=1∨h = -1)/\0<s/\BQ B s
structure Fm where
 (px py:Rat) (t h:Int) (s:Rat)
noncomputable def Fm.one:Fm:=⟨0,0,0,1,1⟩
theorem lV.mono {px py s:Rat}{t h:Int}{B C:Nat}(f:lV px py t h s B)(l:B<=C):lV px py t h s C:=⟨f.1.mono l,f.2.1.mono l,f.2.2.1,f.2.2.2.1,f.2.2.2.2.1,f.2.2.2.2.2.1,f.2.2.2.2.2.2.mono l⟩
section
variable {X:Cx}{pins:List (Addr×Obj)}{σ:L2.St}{H:Hp}{s:Shared}{M:DM}
end
def aLc (g:Bool->Bool):D2:=λx y M Q=>match x,y with
 |.int k,.tup ys=>∃ns:List Int,ys=ns.map D.int/\Q (.bl (g (ns.any (·==k)))) M
 |.str k,.tup ys=>∃ns:List Str,ys=ns.map D.str/\Q (.bl (g (ns.any (·==k)))) M
 |_,_=>False
section
variable {X:Cx}
theorem aKb:OpD X (compareOp .In) (aLc id):=λpins s σ H x y v u Q I rx ry ⟨dx,dy,M,Q',r1,r2,hm,q,k⟩=>by
 cases dx with
 |int z =>
  cases dy with
  |tup ys =>
   obtain⟨ns,rfl,q⟩:=q;obtain rfl:=aW r1;obtain⟨a,us,rfl,sq,ru⟩:=bE r2;obtain⟨its,rv,ht⟩:=gK I sq;obtain⟨t,rfl⟩:=rx;cases ry;exact in_tuple_ints ht (xF ru rv) ⟨.bl _,H,I,rfl,k _ H ⟨_,M,dR,hm,.refl H,q⟩⟩
  |_=>exact q.elim
 |str z =>
  cases dy with
  |tup ys =>
   obtain⟨ns,rfl,q⟩:=q;obtain rfl:=cZ r1;obtain⟨a,us,rfl,sq,ru⟩:=bE r2;obtain⟨its,rv,ht⟩:=gK I sq;obtain⟨t,rfl⟩:=rx;cases ry;exact in_tuple_strs ht (wH ru rv) ⟨.bl _,H,I,rfl,k _ H ⟨_,M,dR,hm,.refl H,q⟩⟩
  |_=>exact q.elim
 |_=>cases dy<;>exact q.elim
end
end Dd
namespace L2
open PySem PySem.Spec PyProof.Rows
section
variable {prog:Program}{w:World}{A:Around}{R:Result->Shared->Prop}{s:Shared}
end
end L2
namespace Dd
open PySem PySem.Spec PyProof.Rows L2
section
variable {X:Cx}{g:DG}{tc:DT}{te:DE}
variable {elt iter tg cnd:Expr}{scope:Scope}{pos:Pos}{N':List Str}{fr:List (Option Nat)}{tl:DE}{ta:DA}{oN:List Str}{osc:Scope}
end
open Mz
section
variable {X:Cx}{o e f:Expr}{to te tf:DE}
end
section
variable {X:Cx}{pins:List (Addr×Obj)}{σ:L2.St}{H:Hp}{s:Shared}
theorem aHE (I:Inv X pins σ H s){x y u v:Rat}{w:V}(h:Rep X.K H (PQ x y) w)(h':Rep X.K H (PQ u v) w):x=u/\y=v:=by have:=aC5 I 60 (d:=PQ x y) (d':=PQ u v) rfl rfl h h';rw[zV,Bool.and_eq_true] at this;exact⟨of_decide_eq_true this.1,of_decide_eq_true this.2⟩
noncomputable def ptE (K:Frag)(H:Hp)(u v:Rat)(y:Value):Bool:=@decide (∃w p q,bM w y/\Rep K H (PQ p q) w/\p=u/\q=v) (Classical.propDecidable _)
theorem vM {K:Frag}{H:Hp}{x y:Rat}{w:V}(h:Rep K H (PQ x y) w):∃b,w=.ref b:=by obtain⟨a,xs,rfl,_⟩:=bE h;exact⟨a,rfl⟩
theorem aFJ (I:Inv X pins σ H s){u v p q:Rat}{w:V}{y:Value}(r:bM w y)(h:Rep X.K H (PQ p q) w):ptE X.K H u v y=decide (p=u/\q=v):=by
 unfold ptE;obtain⟨b,rfl⟩:=vM h;cases r;by_cases c:p=u/\q=v
 ·rw[decide_eq_true c];exact @decide_eq_true _ (Classical.propDecidable _) ⟨.ref b,p,q,rfl,h,c.1,c.2⟩
 ·rw[decide_eq_false c];refine @decide_eq_false _ (Classical.propDecidable _) ?_;rintro⟨w',p',q',r',h',e1,e2⟩;obtain⟨b',rfl⟩:=vM h';cases r';obtain⟨z1,z2⟩:=aHE I h h';exact c ⟨z1.trans e1,z2.trans e2⟩
theorem aEN (I:Inv X pins σ H s){u v:Rat}:∀{pts:List (Rat×Rat)}{us:List V} {its:List Value},bK X.K H (pts.map λp=>PQ p.1 p.2) us->bT us its->its.any (ptE X.K H u v)=pts.any λp=>decide (p.1=u/\p.2=v)
 |[],us,its,r,rv=>by rw[bB r] at rv;cases rv;rfl
 |p::pts,us,its,r,rv=>by
  obtain⟨w,rr,rfl,hw,hr⟩:=aT r;cases rv with
  |cons q ws=>rw[any_cons,any_cons,aFJ I q hw,aEN I hr ws]
theorem aET (I:Inv X pins σ H s){A:Around}(hu:A.units+60<cLine){u v:Rat}{wx:V}{x:Value}(rx:bM wx x)(hx:Rep X.K H (PQ u v) wx):∀{pts:List (Rat×Rat)}{us:List V} {its:List Value},bK X.K H (pts.map λp=>PQ p.1 p.2) us->bT us its->∀y∈its,SeqAt.EqAt A s y x (ptE X.K H u v y)
 |[],us,its,r,rv,y,hy=>by rw[bB r] at rv;cases rv;exact nomatch hy
 |p::pts,us,its,r,rv,y,hy=>by
  obtain⟨w,rr,rfl,hw,hr⟩:=aT r;cases rv with
  |cons q ws =>
   rcases List.mem_cons.mp hy with rfl|hy
   ·have:=yC I 60 hu (d:=PQ p.1 p.2) (d':=PQ u v) rfl rfl hw hx q rx;rw[zV] at this;rw[aFJ I q hw];have e:(decide (p.1=u)&&decide (p.2=v))=decide (p.1=u/\p.2=v):=by by_cases h1:p.1=u<;>by_cases h2:p.2=v<;>simp[h1,h2]
    rw[<- e];exact this
   ·exact aET I hu rx hx hr ws y hy
end
section
variable {X:Cx}{o:Expr}{to:DE}
end
section
variable {X:Cx}{g:DG}{tc:DT}{te:DE}
variable {elt iter tg cnd:Expr}{scope:Scope}{pos:Pos}{N':List Str}{fr:List (Option Nat)}{tl:DE}{ta:DA}{oN:List Str}{osc:Scope}
end
section
variable {X:Cx}{o e f:Expr}{to te tf:DE}
end
section
variable {X:Cx}{pins:List (Addr×Obj)}{σ:L2.St}{H:Hp}{s:Shared}
end
section
variable {X:Cx}{o:Expr}{to:DE}
end
section
variable {P:Program}{w:World}{K:Frag}{mg:Str->Option Value}{base:Heap}
end
section
variable {X:Cx}{n x:Str}{C a:Addr}{o:Obj}{p p1 pos:Pos}{j k k':Nat}{sp:Addr->DM->DQ->Prop}
end
section
open PySem.SeqAt
open PySem.AutoSeq1 (wpAny_loadPart')
open PySem.MeetsSeq PySem.MeetsSeq2 PySem.MeetsSeq3
end
section
variable {prog:Program}{w:World}{A:Around}{E:Value->Shared->Prop}{s:Shared}
end
section
variable {X:Cx}{j:Nat}
end
theorem us0 {us:List Value}(h:us.length=0):us=[]:=List.length_eq_zero_iff.mp h
theorem us1 {us:List Value}(h:us.length=1):∃a,us=[a]:=List.length_eq_one_iff.mp h
theorem us2 {us:List Value}(h:us.length=2):∃a b,us=[a,b]:=by
 cases us with
 |nil=>cases h
 |cons a r=>obtain⟨b,rfl⟩:=us1 (us:=r) (Nat.succ.inj h);exact⟨a,b,rfl⟩
theorem us3 {us:List Value}(h:us.length=3):∃a b c,us=[a,b,c]:=by
 cases us with
 |nil=>cases h
 |cons a r=>obtain⟨b,c,rfl⟩:=us2 (us:=r) (Nat.succ.inj h);exact⟨a,b,c,rfl⟩
theorem us4 {us:List Value}(h:us.length=4):∃a b c d,us=[a,b,c,d]:=by
 cases us with
 |nil=>cases h
 |cons a r=>obtain⟨b,c,d,rfl⟩:=us3 (us:=r) (Nat.succ.inj h);exact⟨a,b,c,d,rfl⟩
noncomputable instance aNI:DecidableEq D:=λa b=>Classical.propDecidable (a=b)
noncomputable def iP:Nat->D->Bool
 |_,.int _=>true
 |_,.str _=>true
 |n+1,.tup ds=>ds.all (iP n)
 |_,_=>false
mutual
noncomputable def eV (w:World):D->Int
 |.int i=>aII w (.inl i)
 |.str x=>aII w (.inr x)
 |.tup ds=>reduceHash (Builtin.Tuple.tupleHashOf (kA w ds))
 |_=>0
noncomputable def kA (w:World):List D->List Int
 |[]=>[]
 |d::ds=>eV w d::kA w ds
end
mutual
noncomputable def lC:D->Nat
 |.tup ds=>fM ds+1
 |_=>1
noncomputable def fM:List D->Nat
 |[]=>0
 |d::ds=>lC d+fM ds
end
mutual
def IsK (h:Heap):D->Value->Prop
 |.int i,v=>∃t,v=.int i t
 |.str x,v=>∃t,v=.str x t
 |.tup ds,v=>∃a its,v=.ref a/\IsTup h a its/\fQ h ds its.toList
 |_,_=>False
def fQ (h:Heap):List D->List Value->Prop
 |[],vs=>vs=[]
 |d::ds,vs=>∃v r,vs=v::r/\IsK h d v/\fQ h ds r
end
theorem gF {h:Heap}{vs:List Value}(x:fQ h [] vs):vs=[]:=by unfold fQ at x;exact x
theorem cO {h:Heap}{d:D}{ds:List D}{vs:List Value}(x:fQ h (d::ds) vs):∃v r,vs=v::r/\IsK h d v/\fQ h ds r:=by unfold fQ at x;exact x
theorem dL {h:Heap}{ds:List D}{v:Value}(x:IsK h (.tup ds) v):∃a its,v=.ref a/\IsTup h a its/\fQ h ds its.toList:=by unfold IsK at x;exact x
theorem dA {h:Heap}{i:Int}{v:Value}(x:IsK h (.int i) v):∃t,v=.int i t:=by unfold IsK at x;exact x
theorem eK {h:Heap}{i:Str}{v:Value}(x:IsK h (.str i) v):∃t,v=.str i t:=by unfold IsK at x;exact x
theorem sC {n:Nat}{ds:List D}(h:iP n (.tup ds)=true):∃m,n=m+1/\ds.all (iP m)=true:=by
 cases n with
 |zero=>exact absurd h Bool.false_ne_true
 |succ m=>exact⟨m,rfl,h⟩
theorem pW (w:World):∀ds:List D,kA w ds=ds.map (eV w)
 |[]=>by unfold kA;rfl
 |d::ds=>by unfold kA;rw[pW w ds];rfl
theorem oH (d:D):∀ds:List D,fM (ds++[d])=fM ds+lC d
 |[]=>by show fM [d]=_;unfold fM;unfold fM;omega
 |e::ds=>by show fM (e::(ds++[d]))=_;unfold fM;rw[oH d ds];omega
section
variable {prog:Program}{w:World}
theorem aAA:∀(n:Nat){A:Around} {E:Value->Shared->Prop} {s:Shared} {d:D} {v:Value} {Q:Int->Shared->Prop},iP n d=true->A.units+n<cLine->IsK s.heap d v ->
  Q (eV w d) { s with toks:=s.toks+lC d }->wpAny (model prog w) A (pyHash v) Q E s:=by
 intro n
 induction n with
 |zero =>
  intro A E s d v Q hk hu hi q;cases d with
  |int i=>obtain⟨t,rfl⟩:=dA hi;exact wpAny_pyHash_int q
  |str i=>obtain⟨t,rfl⟩:=eK hi;exact wpAny_pyHash_str q
  |_=>exact absurd hk Bool.false_ne_true
 |succ n ih =>
  intro A E s d v Q hk hu hi q;cases d with
  |int i=>obtain⟨t,rfl⟩:=dA hi;exact wpAny_pyHash_int q
  |str i=>obtain⟨t,rfl⟩:=eK hi;exact wpAny_pyHash_str q
  |tup ds =>
   obtain⟨a,its,rfl,ht,hs⟩:=dL hi;obtain⟨o,ho,hc,m,hd⟩:=ht;have hT:s.TypeIs (.ref a) "tuple":=⟨o,ho,hc⟩;unfold pyHash pyHashByItsType;refine wpAny_bind (wpAny_cRoomFor_or (.inr (by omega)) ?_);refine wpAny_bind (wpAny_specialOf hT F.slot_tuple_hash.lookup ?_);show wpAny _ _ (if (some (Value.builtin "tuple.__hash__")==some Value.none)=true then _ else _) Q E s;rw[if_neg (by rw[beq_builtin_none];exact Bool.false_ne_true)];refine wpAny_bind (wpAny_specialOf hT F.slot_tuple_hash.lookup ?_);show wpAny _ _ (callSpecialIfBoundUnlessNone? (.ref a) "__hash__" _ >>= _) Q E s;refine wpAny_bind (wpAny_callSpecialIfBoundUnlessNone?_slot hT F.slot_tuple_hash (wpAny_call_entry F.slot_tuple_hash hT F.entry_tuple_hash ?_ (F.args_tuple_hash_1 _)));obtain⟨n',en,hk⟩:=sC hk;cases en;show wpAny _ _ (Builtin.Tuple.tupleItemsOf (.ref a) >>= _) _ _ s;refine wpAny_bind (wpAny_tupleItemsOf ho hd ?_);refine wpAny_bind ?_;rw[<- Array.forIn_toList];refine wpAny_forIn_list _ (λbI (b:Array Int) s'=>∃done left,ds=done++left/\fQ s.heap left bI/\b.toList=kA w done/\s' = { s with toks:=s.toks+fM done }) _ ?_ ?_ _ _ ⟨[],ds,rfl,hs,by unfold kA;rfl,by unfold fM;rfl⟩
   ·rintro x bI b s' ⟨done,left,e1,hl,hb,rfl⟩;cases left with
    |nil=>exact nomatch gF hl
    |cons d1 left =>
     obtain⟨x',r',e2,h1,hl⟩:=cO hl;cases e2;have hk1:iP n d1=true:=List.all_eq_true.mp hk d1 (by rw[e1];exact mem_append_right _ mem_cons_self);refine wpAny_bind (ih (s:={ s with toks:=s.toks+fM done }) hk1 (by show A.units+1+n<cLine;omega) h1 ?_);refine wpAny_pure ⟨done++[d1],left,by rw[e1,List.append_assoc];rfl,hl,?_,?_⟩
     ·rw[pW,map_append,<- pW,<- hb];simp
     ·rw[oH,Nat.add_assoc]
   ·rintro b s' ⟨done,left,e1,hl,hb,rfl⟩;have:left=[]:=by
     cases left with
     |nil=>rfl
     |cons d1 left=>obtain⟨_,_,z,_⟩:=cO hl;exact nomatch z
    subst this;rw[append_nil] at e1;subst e1;show wpAny _ _ (retInt (Builtin.Tuple.tupleHashOf b.toList)) _ _ _;rw[hb];refine wpAny_ret_mkInt ?_;unfold eV lC at q;generalize Builtin.Tuple.tupleHashOf (kA w ds)=z at q ⊢;show wpAny _ _ (if (decide (-(2:Int)^63<=z)&&decide (z<2^63))=true then _ else _) Q E _;unfold reduceHash at q;by_cases hr:(decide (-(2:Int)^63<=z)&&decide (z<2^63))=true
    ·rw[if_pos hr] at q ⊢;exact wpAny_pure (by simpa[Nat.add_assoc] using q)
    ·rw[if_neg hr] at q ⊢;exact wpAny_bind (wpAny_rule (wpAny_pure (by simpa[Nat.add_assoc] using q)))
  |_=>exact absurd hk Bool.false_ne_true
theorem wM:∀(n m:Nat){A:Around} {E:Value->Shared->Prop} {s:Shared} {d:D} {v:Value} {Q:Bool->Shared->Prop},n<=m->iP n d=true->IsK s.heap d v->Q true s->wpAny (model prog w) A (eqIsQuiet m v) Q E s:=by
 intro n
 induction n with
 |zero =>
  intro m A E s d v Q hm hk hi q;cases d with
  |int i=>obtain⟨t,rfl⟩:=dA hi;rw[eqIsQuiet_byValue m rfl];exact wpAny_pure q
  |str i=>obtain⟨t,rfl⟩:=eK hi;rw[eqIsQuiet_byValue m rfl];exact wpAny_pure q
  |_=>exact absurd hk Bool.false_ne_true
 |succ n ih =>
  intro m A E s d v Q hm hk hi q;cases d with
  |int i=>obtain⟨t,rfl⟩:=dA hi;rw[eqIsQuiet_byValue m rfl];exact wpAny_pure q
  |str i=>obtain⟨t,rfl⟩:=eK hi;rw[eqIsQuiet_byValue m rfl];exact wpAny_pure q
  |tup ds =>
   obtain⟨a,its,rfl,ht,hs⟩:=dL hi;obtain⟨o,ho,hc,k,hd⟩:=ht;have hT:s.TypeIs (.ref a) "tuple":=⟨o,ho,hc⟩;obtain⟨n',en,hk⟩:=sC hk;cases en;cases m with
   |zero=>omega
   |succ m =>
    unfold eqIsQuiet;refine wpAny_bind (wpAny_specialOf hT F.slot_tuple_eq.lookup ?_);show wpAny _ _ (isInstance (.ref a) (.type "tuple") >>= _) _ _ s;refine wpAny_bind (wpAny_isInstance hT isSubtype_tuple_tuple ?_);simp only[Bool.not_true,Bool.false_eq_true,if_false];refine wpAny_bind (wpAny_seqItems ho hd ?_);refine wpAny_bind ?_;show wpAny _ _ (forIn its _ _) _ _ s;rw[<- Array.forIn_toList];refine wpAny_forIn_list _ (λbI r s'=>r.1=none/\s'=s/\∃left,left.all (iP n)=true/\fQ s.heap left bI) _ ?_ ?_ _ _ ⟨rfl,rfl,ds,hk,hs⟩
    ·rintro x bI r s' ⟨hr,rfl,left,hl,hx⟩;cases left with
     |nil=>exact nomatch gF hx
     |cons d1 left =>
      obtain⟨x',r',e2,h1,hx⟩:=cO hx;cases e2;rw[all_cons,Bool.and_eq_true] at hl;refine wpAny_bind (ih m (by omega) hl.1 h1 ?_);simp only[Bool.not_true,Bool.false_eq_true,if_false];exact wpAny_pure ⟨rfl,rfl,left,hl.2,hx⟩
    ·rintro⟨r1,r2⟩ s' ⟨hr,rfl,_⟩;simp only at hr;subst hr;exact wpAny_pure q
  |_=>exact absurd hk Bool.false_ne_true
end
mutual
theorem vB:∀{n:Nat}{x y:D},iP n x=true->iP n y=true->eqD x y=decide (x=y)
 |n,.int i,y,h,h'=>by
  cases y with
  |int j=>simp[eqD];exact Bool.eq_iff_iff.mpr (by rw[beq_iff_eq,decide_eq_true_eq])
  |str j=>simp[eqD]
  |tup j=>simp[eqD]
  |_=>cases n<;>exact absurd h' Bool.false_ne_true
 |n,.str i,y,h,h'=>by
  cases y with
  |int j=>simp[eqD]
  |str j=>simp[eqD];exact Bool.eq_iff_iff.mpr (by rw[beq_iff_eq,decide_eq_true_eq])
  |tup j=>simp[eqD]
  |_=>cases n<;>exact absurd h' Bool.false_ne_true
 |n,.tup ds,y,h,h'=>by
  obtain⟨m,rfl,h⟩:=sC h;cases y with
  |int j=>simp[eqD]
  |str j=>simp[eqD]
  |tup es =>
   have:=aAW h h';show iJ ds es=_;rw[this];simp
  |_=>exact absurd h' Bool.false_ne_true
 |n,.non,y,h,h'=>by cases n<;>exact absurd h Bool.false_ne_true
 |n,.bl _,y,h,h'=>by cases n<;>exact absurd h Bool.false_ne_true
 |n,.fz _,y,h,h'=>by cases n<;>exact absurd h Bool.false_ne_true
 |n,.ref _,y,h,h'=>by cases n<;>exact absurd h Bool.false_ne_true
theorem aAW:∀{n:Nat}{xs ys:List D},xs.all (iP n)=true->ys.all (iP n)=true->iJ xs ys=decide (xs=ys)
 |n,[],ys,h,h'=>by cases ys<;>simp[iJ]
 |n,x::xs,ys,h,h'=>by
  cases ys with
  |nil=>simp[iJ]
  |cons y ys =>
   rw[all_cons,Bool.and_eq_true] at h h';show(eqD x y&&iJ xs ys)=_;rw[vB h.1 h'.1,aAW h.2 h'.2];by_cases e1:x=y<;>by_cases e2:xs=ys<;>simp[e1,e2]
end
mutual
theorem IsK.inj {h:Heap}:∀{x y:D}{v:Value},IsK h x v->IsK h y v->x=y
 |.int i,y,v,a,b=>by
  obtain⟨t,rfl⟩:=dA a;cases y with
  |int j=>obtain⟨t,e⟩:=dA b;cases e;rfl
  |str j=>obtain⟨t,e⟩:=eK b;exact nomatch e
  |tup j=>obtain⟨_,_,e,_⟩:=dL b;exact nomatch e
  |_=>unfold IsK at b;exact b.elim
 |.str i,y,v,a,b=>by
  obtain⟨t,rfl⟩:=eK a;cases y with
  |int j=>obtain⟨t,e⟩:=dA b;exact nomatch e
  |str j=>obtain⟨t,e⟩:=eK b;cases e;rfl
  |tup j=>obtain⟨_,_,e,_⟩:=dL b;exact nomatch e
  |_=>unfold IsK at b;exact b.elim
 |.tup ds,y,v,a,b=>by
  obtain⟨p,its,rfl,ht,hs⟩:=dL a;cases y with
  |int j=>obtain⟨t,e⟩:=dA b;exact nomatch e
  |str j=>obtain⟨t,e⟩:=eK b;exact nomatch e
  |tup es =>
   obtain⟨q,its',e,ht',hs'⟩:=dL b;cases e;obtain⟨o,ho,_,_,hd⟩:=ht;obtain⟨o',ho',_,_,hd'⟩:=ht';rw[ho] at ho';cases ho';rw[hd] at hd';cases hd';rw[fQ.inj hs hs']
  |_=>unfold IsK at b;exact b.elim
 |.non,y,v,a,b=>by unfold IsK at a;exact a.elim
 |.bl _,y,v,a,b=>by unfold IsK at a;exact a.elim
 |.fz _,y,v,a,b=>by unfold IsK at a;exact a.elim
 |.ref _,y,v,a,b=>by unfold IsK at a;exact a.elim
theorem fQ.inj {h:Heap}:∀{xs ys:List D}{vs:List Value},fQ h xs vs->fQ h ys vs->xs=ys
 |[],ys,vs,a,b=>by
  cases ys with
  |nil=>rfl
  |cons y ys=>obtain⟨_,_,e,_⟩:=cO b;rw[gF a] at e;exact nomatch e
 |x::xs,ys,vs,a,b=>by
  obtain⟨v,r,rfl,a1,a2⟩:=cO a;cases ys with
  |nil=>exact nomatch gF b
  |cons y ys =>
   obtain⟨v',r',e,b1,b2⟩:=cO b;cases e;rw[IsK.inj a1 b1,fQ.inj a2 b2]
end
mutual
theorem IsK.keep {h h':Heap}(k:∀a its,IsTup h a its->IsTup h' a its):∀{x:D}{v:Value},IsK h x v->IsK h' x v
 |.int _,_,a=>by unfold IsK at a ⊢;exact a
 |.str _,_,a=>by unfold IsK at a ⊢;exact a
 |.tup ds,_,a=>by obtain⟨p,its,rfl,ht,hs⟩:=dL a;unfold IsK;exact⟨p,its,rfl,k p its ht,fQ.keep k hs⟩
 |.non,_,a=>by unfold IsK at a;exact a.elim
 |.bl _,_,a=>by unfold IsK at a;exact a.elim
 |.fz _,_,a=>by unfold IsK at a;exact a.elim
 |.ref _,_,a=>by unfold IsK at a;exact a.elim
theorem fQ.keep {h h':Heap}(k:∀a its,IsTup h a its->IsTup h' a its):∀{xs:List D}{vs:List Value},fQ h xs vs->fQ h' xs vs
 |[],_,a=>by unfold fQ at a ⊢;exact a
 |x::xs,_,a=>by obtain⟨v,r,rfl,a1,a2⟩:=cO a;unfold fQ;exact⟨v,r,rfl,a1.keep k,fQ.keep k a2⟩
end
theorem yY {A:Around}{s:Shared}{n:Nat}(ih:∀{d d':D}{u u':Value},iP n d=true->iP n d'=true->IsK s.heap d u->IsK s.heap d' u'->SeqAt.EqAt A s u u' (eqD d d')) :
  ∀{xs ys:List D}{its its':List Value},xs.all (iP n)=true->ys.all (iP n)=true->fQ s.heap xs its->fQ s.heap ys its'->∀j (h1:j<its.length) (h2:j<its'.length),SeqAt.EqAt A s its[j] its'[j] (rQ xs ys j)
 |[],ys,its,its',_,_,r1,_,j,h1,_=>by rw[gF r1] at h1;exact absurd h1 (Nat.not_lt_zero _)
 |_::_,[],its,its',_,_,_,r2,j,_,h2=>by rw[gF r2] at h2;exact absurd h2 (Nat.not_lt_zero _)
 |x::xs,y::ys,its,its',p1,p2,r1,r2,j,h1,h2=>by
  obtain⟨a,ra,rfl,ha,hra⟩:=cO r1;obtain⟨b,rb,rfl,hb,hrb⟩:=cO r2;rw[all_cons,Bool.and_eq_true] at p1 p2;cases j with
  |zero=>exact ih p1.1 p2.1 ha hb
  |succ j=>exact yY ih p1.2 p2.2 hra hrb j (Nat.lt_of_succ_lt_succ h1) (Nat.lt_of_succ_lt_succ h2)
theorem fQ.length {h:Heap}:∀{xs:List D}{vs:List Value},fQ h xs vs->xs.length=vs.length
 |[],_,a=>by rw[gF a];rfl
 |x::xs,_,a=>by obtain⟨v,r,rfl,_,a2⟩:=cO a;rw[length_cons,length_cons,fQ.length a2]
theorem aES:∀(n:Nat){A:Around} {s:Shared} {d d':D} {u u':Value},A.units+n<cLine->iP n d=true->iP n d'=true->IsK s.heap d u->IsK s.heap d' u'->SeqAt.EqAt A s u u' (eqD d d'):=by
 intro n
 induction n with
 |zero =>
  intro A s d d' u u' hu p p' r r';cases d with
  |int i =>
   obtain⟨t,rfl⟩:=dA r;cases d' with
   |int j=>obtain⟨t',rfl⟩:=dA r';exact SeqAt.EqAt.int_int i t j t'
   |str j=>obtain⟨t',rfl⟩:=eK r';exact SeqAt.EqAt.int_str i t j t'
   |_=>exact absurd p' Bool.false_ne_true
  |str i =>
   obtain⟨t,rfl⟩:=eK r;cases d' with
   |int j=>obtain⟨t',rfl⟩:=dA r';exact SeqAt.EqAt.str_int i t j t'
   |str j=>obtain⟨t',rfl⟩:=eK r';exact SeqAt.EqAt.str_str i t j t'
   |_=>exact absurd p' Bool.false_ne_true
  |_=>exact absurd p Bool.false_ne_true
 |succ n ih =>
  intro A s d d' u u' hu p p' r r';cases d with
  |int i =>
   obtain⟨t,rfl⟩:=dA r;cases d' with
   |int j=>obtain⟨t',rfl⟩:=dA r';exact SeqAt.EqAt.int_int i t j t'
   |str j=>obtain⟨t',rfl⟩:=eK r';exact SeqAt.EqAt.int_str i t j t'
   |tup j=>obtain⟨b,its,rfl,ht,_⟩:=dL r';exact SeqAt.EqAt.int_tuple i t ht (by omega)
   |_=>exact absurd p' Bool.false_ne_true
  |str i =>
   obtain⟨t,rfl⟩:=eK r;cases d' with
   |int j=>obtain⟨t',rfl⟩:=dA r';exact SeqAt.EqAt.str_int i t j t'
   |str j=>obtain⟨t',rfl⟩:=eK r';exact SeqAt.EqAt.str_str i t j t'
   |tup j=>obtain⟨b,its,rfl,ht,_⟩:=dL r';exact SeqAt.EqAt.str_tuple i t ht (by omega)
   |_=>exact absurd p' Bool.false_ne_true
  |tup xs =>
   have r0:=r;obtain⟨a,its,rfl,ht,hs⟩:=dL r;cases d' with
   |int j=>obtain⟨t',rfl⟩:=dA r';exact SeqAt.EqAt.tuple_int j t' ht (by omega)
   |str j=>obtain⟨t',rfl⟩:=eK r';exact SeqAt.EqAt.tuple_str j t' ht (by omega)
   |tup ys =>
    have r0':=r';obtain⟨a',its',rfl,ht',hs'⟩:=dL r';by_cases hll:a=a'
    ·subst hll;rw[vB p p',decide_eq_true (r0.inj r0')];exact SeqAt.EqAt.same _
    ·have e1:=hs.length;have e2:=hs'.length;show SeqAt.EqAt A s (.ref a) (.ref a') (iJ xs ys);rw[gY,show xs.length=its.size by simpa using e1,show ys.length=its'.size by simpa using e2];refine SeqAt.EqAt.of_refs hll (SeqAt.RcAt.tuples ht ht' (by omega) λj j1 j2=>?_);have hu':A.in1.units+n<cLine:=by show A.units+1+n<cLine;omega
     have:=yY (A:=A.in1) (s:=s) (λ{d d' u u'} p p' r r'=>ih hu' p p' r r') p p' hs hs' j (by simpa using j1) (by simpa using j2);simpa using this
   |_=>exact absurd p' Bool.false_ne_true
  |_=>exact absurd p Bool.false_ne_true
noncomputable def sN (prog:Program)(w:World):HeapKind prog w D where
 is:=λh k a=>iP 6 k=true/\IsK h k (.ref a)
 hash:=eV w
 draws:=lC
 room:=λA=>A.units+6<cLine
 inj:=λx y=>x.2.inj y.2
 keeps:=λx ho hd hs=>⟨x.1,x.2.keep λa its ⟨o,h1,h2,n,h3⟩=>⟨o,(hs.2 a (λe=>by subst e;rw[h1] at ho;cases ho;rw[h3] at hd;exact nomatch hd)).trans h1,h2,n,h3⟩⟩
 pyHash:=λhu hk h=>aAA 6 hk.1 hu hk.2 h
 eqBool:=λhu hx hy h=>aES 6 hu hx.1 hy.1 hx.2 hy.2 _ _ _ _ (by rw[vB hx.1 hy.1];exact h)
 quiet:=λhk h=>wM 6 8 (by decide) hk.1 hk.2 h
section
variable {prog:Program}{w:World}{A:Around}{E:Value->Shared->Prop}{s:Shared}{it d:Addr}{i ep:Nat}{es:Array DictEntry}
end
noncomputable def sO (w:World)(kvs:List (D×D)):List D:=kvs.map λp=>.tup [.int (eV w p.1),p.1,p.2]
structure TK (kvs:List (D×D)):Prop where
 key:∀p∈kvs,(∃ds,p.1=.tup ds)/\iP 6 p.1=true
 nd:(kvs.map (·.1)).Nodup
noncomputable def qI (kvs:List (D×D))(k v:D):List (D×D):=if k∈kvs.map (·.1) then kvs.map (λp=>if p.1=k then (p.1,v) else p) else kvs++[(k,v)]
noncomputable def uC (kvs:List (D×D))(k:D):Option D:=(kvs.find? λp=>decide (p.1=k)).map (·.2)
theorem TK.nil:TK []:=⟨(λ_ h=>(nomatch h)),List.nodup_nil⟩
theorem yB {kvs:List (D×D)}{k v:D}:(qI kvs k v).map (·.1)=if k∈kvs.map (·.1) then kvs.map (·.1) else kvs.map (·.1)++[k]:=by
 unfold qI;split
 ·rw[List.map_map];exact List.map_congr_left λp _=>by show(if p.1=k then (p.1,v) else p).1=p.1;split<;>rfl
 ·rw[map_append];rfl
theorem TK.put {kvs:List (D×D)}(h:TK kvs){k v:D}(hk:(∃ds,k=.tup ds)/\iP 6 k=true):TK (qI kvs k v):=by
 refine⟨λp hp=>?_,?_⟩
 ·have:p.1∈(qI kvs k v).map (·.1):=List.mem_map.mpr ⟨p,hp,rfl⟩;rw[yB] at this;have g:p.1∈kvs.map (·.1)∨p.1=k:=by
   split at this
   ·exact .inl this
   ·rcases List.mem_append.mp this with z|z
    ·exact .inl z
    ·exact .inr (by simpa using z)
  rcases g with g|g
  ·obtain⟨q,hq,e⟩:=List.mem_map.mp g;rw[<- e];exact h.key q hq
  ·rw[g];exact hk
 ·rw[yB];split
  ·exact h.nd
  ·rename_i n;rw[List.nodup_append];refine⟨h.nd,by simp,λx hx y hy=>?_⟩;rw[List.mem_singleton] at hy;subst hy;exact λe=>n (e ▸ hx)
theorem aEf {kvs:List (D×D)}{k v:D}:(qI kvs k v).length<=kvs.length+1:=by
 unfold qI;split
 ·rw[length_map];omega
 ·rw[length_append];exact Nat.le_refl _
def KX (K:Frag)(H:Hp)(p:D×D)(x:D×Addr×Value):Prop:=p.1=x.1/\Rep K H p.1 (.ref x.2.1)/\∃vv,bM vv x.2.2/\Rep K H p.2 vv
section
variable {X:Cx}{pins:List (Addr×Obj)}{σ:L2.St}{H:Hp}{s:Shared}
mutual
theorem wT (I:Inv X pins σ H s):∀{n:Nat}{d:D} {v:V} {u:Value},iP n d=true->Rep X.K H d v->bM v u->IsK s.heap d u
 |n,.int i,v,u,hk,r,q=>by rw[aW r] at q;unfold IsK;exact q
 |n,.str i,v,u,hk,r,q=>by rw[cZ r] at q;unfold IsK;exact q
 |n,.tup ds,v,u,hk,r,q=>by obtain⟨m,rfl,hk⟩:=sC hk;obtain⟨a,us,rfl,sq,rs⟩:=bE r;obtain⟨its,rv,ht,_⟩:=I.tuple sq;cases q;unfold IsK;exact⟨a,its.toArray,rfl,ht,by rw[List.toList_toArray];exact aAK I hk rs rv⟩
 |n,.non,v,u,hk,r,q=>by cases n<;>exact absurd hk Bool.false_ne_true
 |n,.bl _,v,u,hk,r,q=>by cases n<;>exact absurd hk Bool.false_ne_true
 |n,.fz _,v,u,hk,r,q=>by cases n<;>exact absurd hk Bool.false_ne_true
 |n,.ref _,v,u,hk,r,q=>by cases n<;>exact absurd hk Bool.false_ne_true
theorem aAK (I:Inv X pins σ H s):∀{n:Nat}{ds:List D} {vs:List V} {us:List Value},ds.all (iP n)=true->bK X.K H ds vs->bT vs us->fQ s.heap ds us
 |n,[],vs,us,hk,r,q=>by rw[bB r] at q;cases q;unfold fQ;rfl
 |n,d::ds,vs,us,hk,r,q=>by
  obtain⟨v,rr,rfl,rv,rs⟩:=aT r;rw[all_cons,Bool.and_eq_true] at hk;cases q with
  |cons q1 q2 =>
   unfold fQ;exact⟨_,_,rfl,wT I hk.1 rv q1,aAK I hk.2 rs q2⟩
end
theorem aFk (I:Inv X pins σ H s):∀{kvs:List (D×D)}{es:List DictEntry},(∀p∈kvs,(∃ds,p.1=.tup ds)/\iP 6 p.1=true)->tU X.K H (sO X.w kvs) es ->
  ∃xs:List (D×Addr×Value),Paired (KX X.K H) kvs xs/\es=xs.map (entryOfKey (sN X.prog X.w))/\∀x∈xs,(sN X.prog X.w).is s.heap x.1 x.2.1
 |[],es,hk,r=>by cases r;exact⟨[],.nil,rfl,(λ_ h=>(nomatch h))⟩
 |p::kvs,es,hk,r=>by
  cases r with
  |@cons _ e _ es' re rr =>
   obtain⟨xs,h1,h2,h3⟩:=aFk I (λq hq=>hk q (mem_cons_of_mem _ hq)) rr;obtain⟨k,v,kv,vv,e1,q1,r1,q2,r2⟩:=re;obtain⟨⟨ds,ek⟩,hn⟩:=hk p mem_cons_self;have e0:D.tup [.int (eV X.w p.1),p.1,p.2]=.tup [.int e.hash,k,v]:=e1;clear e1;injection e0 with e0
   injection e0 with e1 e2
   injection e2 with e2 e3
   injection e3 with e3 _
   injection e1 with e1
   subst e2;subst e3;have r1':=r1;rw[ek] at r1';obtain⟨a,us,rfl,_,_⟩:=bE r1';have qk:e.key=.ref a:=q1;obtain⟨eh,ekey,ev⟩:=e;cases qk;have e1:eV X.w p.1=eh:=e1;subst e1;refine⟨(p.1,a,ev)::xs,.cons ⟨rfl,r1,vv,q2,r2⟩ h1,?_,?_⟩
   ·rw[map_cons,<- h2];rfl
   ·intro x hx;rcases List.mem_cons.mp hx with z|z
    ·subst z;exact⟨hn,wT I hn r1 rfl⟩
    ·exact h3 x z
theorem yN {K:Frag}{H:Hp}(prog:Program)(w:World):∀{kvs:List (D×D)}{xs:List (D×Addr×Value)},Paired (KX K H) kvs xs->tU K H (sO w kvs) (xs.map (entryOfKey (sN prog w)))
 |[],_,.nil=>.nil
 |p::kvs,x::xs,.cons r rr=>by obtain⟨e,r1,vv,q,r2⟩:=r;exact .cons ⟨p.1,p.2,.ref x.2.1,vv,by show D.tup [.int (eV w p.1),p.1,p.2]=.tup [.int (eV w x.1),p.1,p.2];rw[e],rfl,r1,q,r2⟩ (yN prog w rr)
theorem aC4 {K:Frag}{H:Hp}:∀{kvs:List (D×D)}{xs:List (D×Addr×Value)},Paired (KX K H) kvs xs->kvs.map (·.1)=xs.map (·.1)
 |[],_,.nil=>rfl
 |p::kvs,x::xs,.cons r rr=>by rw[map_cons,map_cons,r.1,aC4 rr]
theorem aEV {K:Frag}{H:Hp}{k:D}:∀{kvs:List (D×D)}{xs:List (D×Addr×Value)},Paired (KX K H) kvs xs->(atKey xs k).isSome=decide (k∈kvs.map (·.1))
 |[],_,.nil=>by simp[atKey]
 |p::kvs,x::xs,.cons r rr=>by
  have ih:=aEV (k:=k) rr;unfold atKey at ih ⊢;rw[find?_cons];by_cases h:x.1=k
  ·have:decide (x.1=k)=true:=decide_eq_true h;rw[this];simp[r.1,h]
  ·have:decide (x.1=k)=false:=decide_eq_false h;rw[this,ih];simp only[map_cons,mem_cons,r.1];by_cases h2:k∈kvs.map (·.1)
   ·simp[h2]
   ·simp[h2,Ne.symm h]
theorem aJL {K:Frag}{H:Hp}{k v:D}{a:Addr}{u:Value}{vv:V}(rk:Rep K H k (.ref a))(q:bM vv u)(rv:Rep K H v vv){kvs:List (D×D)}{xs:List (D×Addr×Value)}(r:Paired (KX K H) kvs xs) :
  Paired (KX K H) (qI kvs k v) (storedH xs k a u):=by
 have e:=aEV (k:=k) r;unfold qI storedH;by_cases h:k∈kvs.map (·.1)
 ·rw[decide_eq_true h] at e;rw[if_pos h,if_pos e];clear e h
  induction r with
  |nil=>exact .nil
  |@cons p x ps xs r1 rr ih =>
   refine .cons ?_ ih;unfold putAt;obtain⟨e1,r2,r3⟩:=r1;show KX K H (if p.1=k then (p.1,v) else p) (if x.1=k then (x.1,x.2.1,u) else x);by_cases z:p.1=k
   ·rw[if_pos z,if_pos (by rw[<- e1];exact z)];exact⟨e1,r2,vv,q,rv⟩
   ·rw[if_neg z,if_neg (by rw[<- e1];exact z)];exact⟨e1,r2,r3⟩
 ·rw[decide_eq_false h] at e;rw[if_neg h,if_neg (by rw[e];exact Bool.false_ne_true)];clear e h
  induction r with
  |nil=>exact .cons ⟨rfl,rk,vv,q,rv⟩ .nil
  |cons r1 rr ih=>exact .cons r1 ih
theorem Paired.len {α β:Type}{F:α->β->Prop}:∀{l:List α}{l':List β},Paired F l l'->l.length=l'.length
 |_,_,.nil=>rfl
 |_,_,.cons _ t=>by rw[length_cons,length_cons,Paired.len t]
theorem aEu {o:Obj}{es:Array DictEntry}{ep:Nat}(h:o.ExactDict)(d:o.data = .dict es ep):o = { cls:=.type "dict",data:=.dict es ep }:=by obtain⟨c,di,dt,sl⟩:=o;obtain⟨h1,h2,h3⟩:=h;cases h1;cases h2;cases h3;cases d;rfl
theorem aBq {P:Program}{w:World}{H:Hp}{h:Heap}{a:Addr}{es:List DictEntry}(x:sH a es h):fF P w H h a (.ext (sH a es)) :=
 ⟨x,let ⟨_,_,_,e⟩:=x;⟨_,e⟩,λh1 h2 ⟨y1,y2,ep,e⟩ k=>⟨y1,y2,ep,k _ e⟩⟩
theorem zY (I:Inv X pins σ H s){a:Addr}{M:DM}{kvs:List (D×D)}(hm:bO X.K M H)(ha:M (.d a)=some (sO X.w kvs))(tk:TK kvs) :
  ∃xs,H a=some (.ext (sH a (xs.map (entryOfKey (sN X.prog X.w)))))/\Paired (KX X.K H) kvs xs/\s.heap.DictOfH (sN X.prog X.w) a xs/\(a==sysModules)=false/\xs.length<=sizeLine:=by
 obtain⟨es,hH,hr⟩:=hm.d a _ ha;obtain⟨xs,h1,rfl,h3⟩:=aFk I tk.key hr;obtain⟨⟨hs,hz,ep,e⟩,_⟩:=I.hok a _ hH;refine⟨xs,hH,h1,⟨_,_,ep,e,⟨rfl,rfl,rfl⟩,rfl,by rw[List.toList_toArray],h3,?_⟩,hs,by simpa using hz⟩;rw[<- aC4 h1];exact tk.nd
theorem aDt (I:Inv X pins σ H s){a b:Addr}{kvs:List (D×D)}{k v:D}{u:Value}{vv:V}{xs:List (D×Addr×Value)}{h':Heap}{tk:Nat}(hH:H a=some (.ext (sH a (xs.map (entryOfKey (sN X.prog X.w))))))(hp:Paired (KX X.K H) kvs xs)(hs:(a==sysModules)=false)(hz:xs.length<sizeLine)(rk:Rep X.K H k (.ref b))(q:bM vv u)(rv:Rep X.K H v vv)(hd':h'.DictOfH (sN X.prog X.w) a (storedH xs k b u))(hsb:Heap.SameBut a s.heap h') :
  Inv X pins σ (upd H a (.ext (sH a ((storedH xs k b u).map (entryOfKey (sN X.prog X.w)))))) { s with heap:=h',toks:=tk }/\tU X.K H (sO X.w (qI kvs k v)) ((storedH xs k b u).map (entryOfKey (sN X.prog X.w))):=by
 obtain⟨o,es,ep,ho,hx,hda,he,_,_⟩:=hd';have eo:=aEu hx hda;subst eo;have hp':=aJL rk q rv hp;have lz:(storedH xs k b u).length<=sizeLine:=by have e1:=Paired.len hp';have e2:=Paired.len hp;have e3:=aEf (kvs:=kvs) (k:=k) (v:=v);omega
 refine⟨I.write (e:=a) (by rw[hH];exact True.intro) (.inl rfl) (λc o hc e=>hsb.extBut c o hc e) ⟨_,ho⟩ (aBq ⟨hs,by rw[length_map];exact lz,ep,?_⟩),yN X.prog X.w hp'⟩;rw[ho,<- he]
def aDa (k:D):Prop:=(∃ds,k=.tup ds)/\iP 6 k=true
theorem aAy {K:Frag}{H:Hp}{k:D}{v:V}(h:aDa k)(r:Rep K H k v):∃b,v=.ref b:=by obtain⟨⟨ds,e⟩,_⟩:=h;rw[e] at r;obtain⟨a,_,e,_⟩:=bE r;exact⟨a,e⟩
theorem aDY (hu:X.A.units+7<cLine):aI5 X λo i v H Q=>∃p k d M kvs,o=.ref p/\Rep X.K H k i/\Rep X.K H d v/\bO X.K M H/\M (.d p)=some (sO X.w kvs)/\TK kvs/\kvs.length<1000/\aDa k /\
  ∀H',bO X.K (uQ M p (sO X.w (qI kvs k d))) H'->Ext H H'->Q H':=by
 intro pins s σ H o i v ov iv u Q I ro ri rv ⟨p,k,d,M,kvs,eo,rk,rd,hm,hp,tk,hl,hk,q⟩;subst eo;cases ro;obtain⟨b,rfl⟩:=aAy hk rk;cases ri;obtain⟨xs,hH,hx,hd,hs,hz⟩:=zY I hm hp tk;have lx:=Paired.len hx;have hz':xs.length<sizeLine:=by rw[<- lx];exact eL (Nat.le_of_lt hl)
 refine wpAny_setItem_heap (hsz:=Nat.le_of_lt hz') (knd:=sN X.prog X.w) (by show X.A.units+1+6<cLine;omega) ⟨hk.2,wT I hk.2 rk rfl⟩ hd λh' hd' hsb=>?_;obtain⟨I',en⟩:=aDt (tk:=s.toks+(sN X.prog X.w).draws k) I hH hx hs hz' rk rv rd hd' hsb;exact⟨_,I',q _ (hm.kput hH en) (Ext.putX hH _)⟩
end
section
variable {X:Cx}{pos:Pos}
def aCR (w:World)(to ti:DE):DG:=λd ρ M Q=>to ρ M λo M1=>ti ρ M1 λi M2=>match o with
 |.ref p=>∃kvs,M2 (.d p)=some (sO w kvs)/\TK kvs/\kvs.length<1000/\aDa i/\Q ρ (uQ M2 p (sO w (qI kvs i d)))
 |_=>False
theorem aGm {o i:Expr}{to ti:DE}(hu:X.A.units+7<cLine)(ho:PDE X o to)(hi:PDE X i ti)(ha:∀v,assign (.Subscript o i pos) X.env v=(do
   let ov <- holding [v] (eval o X.env)
   let iv <- holding [v,ov] (eval i X.env)
   standAt pos
   holding [v,ov,iv] (setItem ov iv v)
   release [v,ov,iv] []):=by intro _;rfl):PDG X (.Subscript o i pos) (aCR X.w to ti) :=
 aAM (aE2 ho hi (aDY hu) ha) λv σ H Q ⟨d,ρ,M,Q',rd,re,hm,q,k⟩=>⟨ρ,M,_,re,hm,q,λov H1 ⟨dov,M1,rov,hm1,e1,q1⟩=>⟨ρ,M1,_,re.ext e1,hm1,q1,λiv H2 ⟨div,M2,riv,hm2,e2,q2⟩=>by
  cases dov with
  |ref p =>
   obtain⟨kvs,hp,tk,hl,hk,q2⟩:=q2;exact⟨p,div,d,M2,kvs,aX rov,riv,(rd.ext e1).ext e2,hm2,hp,tk,hl,hk,λH3 hm3 e3=>k _ _ ⟨ρ,_,((re.ext e1).ext e2).ext e3,hm3,(e1.trans e2).trans e3,q2⟩⟩
  |_=>exact q2.elim⟩⟩
def aB7:DE:=λ_ M Q=>∀p:Addr,M (.d p)=none->Q (.ref p) (uQ M p [])
theorem aFR:PDE X (.Dict [] [] pos) aB7:=by
 intro pins s σ H Q I ⟨ρ,M,Q',re,hm,q,k⟩;have hn:=I.hok.fresh (Nat.le_refl s.heap.objs.size);have big:sysModules<s.heap.objs.size:=Nat.lt_trans (by decide) (I.mod.glob.keeps I.bk).lt;have I1:=I.laid (a:=s.heap.objs.size) (o:=.ext (sH s.heap.objs.size [])) (h':=s.heap.push { cls:=.type "dict",data:=.dict #[] }) (t':=s.toks) (λ_ _ q=>Heap.get?_push_of_some _ q) (Nat.le_refl _)
  (aBq ⟨beq_eq_false_iff_ne.mpr (Ne.symm (Nat.ne_of_lt big)),Nat.zero_le _,0,Heap.get?_push_size _ rfl⟩)
 exact wpAny_Dict_empty ⟨.ref s.heap.objs.size,_,I1,rfl,k _ _ ⟨.ref _,_,gJ,hm.knew hn .nil,Ext.new hn _,q _ (hm.freshD hn)⟩⟩
theorem aFU {o i:Expr}{to ti:DE}{kr:Nat}(hr:cQ kr X.A)(ho:PDE X o to)(hi:PDE X i ti)(ha:∀v,assign (.Subscript o i pos) X.env v=(do
   let ov <- holding [v] (eval o X.env)
   let iv <- holding [v,ov] (eval i X.env)
   standAt pos
   holding [v,ov,iv] (setItem ov iv v)
   release [v,ov,iv] []):=by intro _;rfl):PDG X (.Subscript o i pos) (aCR X.w to ti):=aGm (by have:=hr.un;omega) ho hi ha
end
open PySem.W
section
variable {n:Nat}{lt:Nat->Nat->Bool}{p:Array Nat}
end
def PB (n:Nat)(p:Array Nat):Prop:=∀i:Nat,p.getD i 0<n
section
variable {n:Nat}{p:Array Nat}
end
section
variable {prog:Program}{w:World}{A:Around}{E:Value->Shared->Prop}{s:Shared}
end
section
variable {X:Cx}{pins:List (Addr×Obj)}{σ:L2.St}{H:Hp}{s:Shared}
end
end Dd
namespace L2
open PySem PySem.Spec PyProof.Rows
end L2
namespace Dd
open PySem PySem.Spec PyProof.Rows L2
section
variable {X:Cx}{pos:Pos}{iter tg:Expr}{body:List Stmt}{tl:DE}{g:DG}{tb:DS}{ta:DA}
theorem aNC {CX:CXT}{P:Program}{w:World}{K:Frag}{mg:Str->Option Value}{base:Heap}{N:List Str}{qual:Str}{scope:Scope}{f:Addr}{cd:Value}{A:Around}{outer:List Env}{s:Shared}{H:Hp}{E:XK}:(tE CX P w K mg base N qual scope f cd A outer s H E).w=w:=rfl
end
end Dd
namespace L2
open PySem PySem.Spec PyProof.Rows
section
variable {prog:Program}{w:World}{A:Around}{E:Value->Shared->Prop}{s:Shared}
end
end L2
namespace Dd
open PySem PySem.Spec PyProof.Rows L2
section
variable {X:Cx}{pos:Pos}{iter tg:Expr}{body:List Stmt}{tl:DE}{g:DG}{tb:DS}{ta:DA}
end
end Dd
namespace L2
open PySem PySem.Spec PyProof.Rows
noncomputable def ItE (K:Frag)(l:Addr):It :=
 ⟨
  λi H=>∃xs x,SqL K H l xs/\xs[i]?=some x,
  λi H v H'=>∃p x,v=.ref p/\H p=none/\H'=upd H p (.tup [.int i,x])/\∀xs,SqL K H l xs->xs[i]?=some x,
  λi H=>∃xs,SqL K H l xs/\xs.length<=i⟩
theorem aDL {P:Program}{w:World}{K:Frag}{elts:List Expr}{kk:Nat}{tpos:Pos}{e it l:Addr}(ne:e≠it) :
  aFS P w K (.Tuple elts kk tpos) (ItE K l) [e,it] e (λi h=>(∃old,IsEnum h e it i old)/\h.IsListIter it l i) where
 mem:=by simp
 obj:=λi h st b hb=>by
  obtain⟨⟨old,he⟩,⟨o1,e1,c1,d1⟩⟩:=st;simp only[mem_cons,not_mem_nil,or_false] at hb;rcases hb with rfl|rfl
  ·exact⟨_,he,λv z=>by cases z⟩
  ·exact⟨o1,e1,λv z=>by rw[d1] at z;cases z⟩
 keep:=λi h h' st k=>by obtain⟨⟨old,he⟩,t1⟩:=st;exact⟨⟨old,k e (by simp) _ he⟩,t1.at λo x=>k it (by simp) o x⟩
 item:=by
  intro X hP hw hK hc i pins s σ H E I hf st hg;subst hP hw hK;obtain⟨xs,x,hq,hx⟩:=hg;obtain⟨⟨old,he⟩,t1⟩:=st;obtain⟨its,rv,p,hz⟩:=I.list hq;obtain⟨u,hu,ru⟩:=rv.get hx;refine wpAny_pyNext_enum_item he t1 p.isList (x:=u) (by simpa using hu) ne λh' a1 a2 a3 a4 a5=>?_;refine⟨_,rfl,wpAny_letOwnedTupleGo_enum (s:={ s with heap:=h',toks:=s.toks+1 }) a1 λh2 b1 b2=>?_⟩;have lte:=Heap.lt_size he;have nz:s.heap.objs.size≠e:=Nat.ne_of_gt lte;have k2:∀b o,b∉[e,it]->s.heap.get? b=some o->h2.get? b=some o:=λb o hb z=>b2.extBut _ _ (λq=>hb (by simp[q])) (a5 b o (λq=>hb (by simp[q])) (λq=>hb (by simp[q])) z);have e1:h2.IsListIter it l (i+1):=a2.extBut b2.extBut (Ne.symm ne);have I2:Inv X pins σ (upd H s.heap.objs.size (.tup [.int i,x])) { s with heap:=h2 }:=I.turnedT (its:=[.int i s.toks,u]) k2 hf (Nat.le_refl _) (by show 2<=sizeLine;decide) (.cons ⟨_,rfl⟩ (.cons ru .nil)) ⟨_,b2.extBut _ _ nz a3,rfl,_,rfl⟩ λb hb=>by
   simp only[mem_cons,not_mem_nil,or_false] at hb;rcases hb with rfl|rfl
   ·exact⟨_,b1⟩
   ·obtain⟨o,e,_⟩:=e1;exact⟨o,e⟩
  have I3:=I2.kept (t':=s.toks+1) (h':=h2) λb u z=>z;refine⟨.ref s.heap.objs.size,_,I3,rfl,⟨_,x,rfl,I.hok.fresh (Nat.le_refl _),rfl,λxs' q1=>by rw[I.list_inj q1 hq];exact hx⟩,⟨⟨_,b1⟩,e1⟩,λb hb=>?_⟩;rw[aZ]
  ·exact(hf b hb).1
  ·intro q;subst q;simp only[mem_cons,not_mem_nil,or_false] at hb;obtain⟨o1,g1,_⟩:=t1;rcases hb with q|q
   ·exact nz q
   ·exact absurd (Heap.lt_size g1) (by rw[<- q];exact Nat.lt_irrefl _)
 done:=by intro X hP hw hK hc i pins s σ H E I hf st hg;subst hP hw hK;obtain⟨xs,hq,hend⟩:=hg;obtain⟨⟨old,he⟩,t1⟩:=st;obtain⟨its,rv,p,hz⟩:=I.list hq;have w1:=rv.length;exact wpAny_pyNext_enum_end (I.ok.hd hc) he t1 p.isList (by simp;omega) λh' k=>⟨rfl,I.turnedL (λb o hb z=>k b o (λq=>hb (by simp[q])) z) hf⟩
 self:=λ_ _ _ _ _ st h=>by obtain⟨⟨old,he⟩,_⟩:=st;exact wpAny_pyIter_enum he h
noncomputable def aMJ (K:Frag)(ta:TA):TI:=λσ H R=>ta σ H λvs H1=>∃a xs,vs=[.ref a]/\SqL K H1 a xs/\R (ItE K a) H1
theorem aG8 {X:Cx}{elts:List Expr}{kk:Nat}{tpos:Pos}{a:Expr}{ta:TA}{p pos:Pos}(hg:Gl X "enumerate")(hm:X.mg "enumerate"=none)(ha:PA X [a] ta)(hs:starEach [a] X.env=[(false,eval a X.env)]:=by rfl) :
  PI X (.Tuple elts kk tpos) (.Call (.Name "enumerate" p) [a] [] pos) (aMJ X.K ta):=by
 intro pins s σ H R I h;refine Call_ (wL I hg hm (show bootBuiltins "enumerate" = some (.type "enumerate") from rfl) (PyProof.Rows.callWith_type1 (thn (ha pos pins s σ H _ I h) λus s1 ⟨vs,H1,I1,r1,q1⟩=>?_) (by rw[hs];rfl) (by rfl)));obtain⟨l,xs,rfl,hq,q⟩:=q1;obtain⟨u1,rfl,e1⟩:=r1.one;cases e1;obtain⟨its,rv,p,hz⟩:=I1.list hq;refine call_enumerate_list p.isList λh' b1 b2 b3 b4=>?_;refine wpAny_pyIter_enum (s:={ s1 with heap:=h' }) b1 ?_;refine⟨s1.heap.objs.size+1,[s1.heap.objs.size+1,s1.heap.objs.size],_,_,H1,rfl,I1.kept (t':=s1.toks) b4,aDL (l:=l) (Nat.succ_ne_self _),⟨⟨_,b1⟩,b2⟩,λb hb=>?_,q⟩;have hb':s1.heap.objs.size<=b:=by simp only[mem_cons,not_mem_nil,or_false] at hb;rcases hb with rfl|rfl<;>omega
 exact I1.fpOk hb' (I1.hok.fresh hb')
end L2
namespace Dd
open PySem PySem.Spec PyProof.Rows L2
section
variable {X:Cx}{pos:Pos}{iter tg elt:Expr}{body:List Stmt}{tl te:DE}{g:DG}{tb:DS}{ta:DA}
def aK9 (a:Addr)(ds:List D)(g:DG)(tb:DS):DS:=λE ρ M=>∃Pv:Nat->cJ->DM->Prop,Pv 0 ρ M /\
 (∀i ρ M,i<=ds.length->Pv i ρ M->M a=some ds) /\
 (∀i d ρ M,ds[i]?=some d->Pv i ρ M->g (.tup [.int i,d]) ρ M λρ2 M2=>tb { E with nx:=Pv (i+1),ct:=Pv (i+1),bk:=E.nx } ρ2 M2)/\∀ρ M,Pv ds.length ρ M->E.nx ρ M
def aMr (K:Frag)(a:Addr)(ds:List D)(J:It)(H:Hp):Prop:=∀H' M',Ext H H'->bO K M' H'->M' a=some ds->(∀i,ds.length<=i->J.stop i H')/\(∀i,i<ds.length->J.go i H')/\∀i x H2,J.yld i H' x H2->Ext H' H2/\(∀M',bO K M' H'->bO K M' H2)/\(i<ds.length->∃d,ds[i]?=some d/\Rep K H2 (.tup [.int i,d]) x)
theorem aM6 {K:Frag}{l:Addr}{ds:List D}{H:Hp}:aMr K l ds (ItE K l) H:=λH' M' e' hm' b1=>by obtain⟨us,hu,r1⟩:=hm'.l l ds b1;have n1:=r1.length;refine⟨λi hi=>⟨us,.of hu,by omega⟩,λi hi=>⟨us,us[i]'(by omega),.of hu,by simp⟩,λi x H2 ⟨pp,vx,e1,hn,e2,all⟩=>?_⟩;subst e1 e2;refine⟨Ext.new hn _,λM' h=>h.new hn _,λhi=>?_⟩;obtain⟨dx,hdx,rdx⟩:=r1.getV (all us (.of hu));exact⟨dx,hdx,cM (.of cP) (bN cA (bN (rdx.ext (Ext.new hn _)) cL))⟩
theorem aIR {K:Frag}{a:Addr}{ds:List D}{E:wZ}{Dn:iX}{σ:L2.St}{ρ:cJ}{M:DM}{H0 H:Hp}{J:It}(ex0:Ext H0 H)(re:fV K H ρ σ)(hm:bO K M H)(k:pV K H0 Dn E)(h:aK9 a ds g tb Dn ρ M)(seq:aMr K a ds J H) :
  ∃W:Nat->Nat->L2.St->Hp->Prop,(∃m,W 0 m σ H)/\∀i m σ H,W i m σ H ->
   (J.stop i H/\E.nx σ H)∨(J.go i H/\∃N:L2.St->Hp->Prop,(∀σ' H',N σ' H'->∃m',m'<m/\W (i+1) m' σ' H')/\∀x H',J.yld i H x H'->tG K g x σ H' λσ2 H2=>aDr K tb { E with nx:=N,ct:=N,bk:=E.nx } σ2 H2):=by
 obtain⟨Pv,p0,hat,step,done⟩:=h;refine⟨λi m σ' H'=>∃ρ' M',fV K H' ρ' σ'/\bO K M' H'/\Ext H H'/\m=ds.length-i/\i<=ds.length/\Pv i ρ' M',⟨ds.length,ρ,M,re,hm,.refl H,rfl,Nat.zero_le _,p0⟩,?_⟩;rintro i m σ1 H1 ⟨ρ1,M1,re1,hm1,e1,rfl,hi,w1⟩;obtain⟨hst,hgo,hy⟩:=seq H1 M1 e1 hm1 (hat i ρ1 M1 hi w1);by_cases hlt:i<ds.length
 ·refine .inr ⟨hgo i hlt,λσ' H'=>∃ρ' M',fV K H' ρ' σ'/\bO K M' H'/\Ext H H'/\Pv (i+1) ρ' M',λσ' H' ⟨ρ',M',a,b,c,d⟩=>⟨ds.length-(i+1),by omega,ρ',M',a,b,c,rfl,hlt,d⟩,λx H' y=>?_⟩;obtain⟨ey,hmy,hd⟩:=hy i x H' y;obtain⟨d,hd,rd⟩:=hd hlt;refine⟨_,ρ1,M1,_,rd,re1.ext ey,hmy _ hm1,step i d ρ1 M1 hd w1,λσ2 H2 ⟨ρ2,M2,re2,hm2,e2,q2⟩=>⟨ρ2,M2,_,re2,hm2,q2,?_⟩⟩;have ex:=(e1.trans ey).trans e2;exact⟨λσ' H' ⟨ρ',M',a,b,c,d⟩=>⟨ρ',M',a,b,ex.trans c,d⟩,λv H' z=>k.rt v H' (z.back (ex0.trans ex)),λσ' H' z=>k.nx σ' H' (z.back (ex0.trans ex)),λσ' H' ⟨ρ',M',a,b,c,d⟩=>⟨ρ',M',a,b,ex.trans c,d⟩⟩
 ·have e:i=ds.length:=by omega
  subst e;exact .inl ⟨hst _ (Nat.le_refl _),k.nx σ1 H1 ⟨ρ1,M1,re1,hm1,ex0.trans e1,done ρ1 M1 w1⟩⟩
def aE6 (ta:DA)(g:DG)(tb:DS):DS:=λE ρ M=>ta ρ M λds M1=>match ds with
 |[.ref a]=>∃xs,M1 a=some xs/\aK9 a xs g tb E ρ M1
 |_=>False
theorem aGU {elts:List Expr}{kk:Nat}{tpos:Pos}{a:Expr}{p pos':Pos}(hp:PassesOwn (model X.prog X.w) X.A X.env X.xe)(hc:X.calm = true)(hmg:X.mg "enumerate" = none)(ha:PDA X [a] ta)(hg:PDG X (.Tuple elts kk tpos) g)(hb:nO X body tb)(hgl:Gl X "enumerate":=by rfl)(hse:starEach [a] X.env=[(false,eval a X.env)]:=by rfl)(hs:∀x,foldedSetIterable (.Call (.Name "enumerate" p) [a] [] pos') X.env x = pure x:=by intro _;rfl):PDS X (.For (.Tuple elts kk tpos) (.Call (.Name "enumerate" p) [a] [] pos') body [] pos) (aE6 ta g tb) :=
 fX (aB6 hp hc (aG8 hgl hmg ha hse) hg hb hs) λE σ H ⟨ρ,M,Dn,re,hm,q,k⟩=>⟨ρ,M,_,re,hm,q,λvs H1 ⟨ds,M1,rs,hm1,ex,q1⟩=>by
  match ds,q1 with
  |[.ref l],q1 =>
   obtain⟨xs,a1,q1⟩:=q1;obtain⟨v1,rfl,rv1⟩:=iR rs;obtain rfl:=aX rv1;obtain⟨us,hu,r1⟩:=hm1.l l xs a1;exact⟨l,us,rfl,.of hu,aIR ex (re.ext ex) hm1 k q1 aM6⟩⟩
variable {scope:Scope}{N':List Str}{fr:List (Option Nat)}{oN:List Str}{osc:Scope}
end
section
variable {prog:Program}{w:World}{A:Around}{E:Value->Shared->Prop}{s:Shared}
end
section
variable {X:Cx}{pos:Pos}
end
section
variable {P:Program}{w:World}{K:Frag}{mg:Str->Option Value}{base:Heap}
end
end Dd
namespace HT
open PySem PyProof.Rows
section
variable {prog:Program}{w:World}{A:Around}{E:Value->Shared->Prop}{s:Shared}
end
end HT
namespace L2
open PySem PySem.Spec PyProof.Rows
variable {X:Cx}
end L2
namespace Dd
open PySem PySem.Spec PyProof.Rows L2
section
variable {X:Cx}{e:Expr}{te:DE}{pos p2:Pos}{lo hi:Option Expr}{tl th:DO}
end
section
variable {X:Cx}{pins:List (Addr×Obj)}{σ:L2.St}{H:Hp}{s:Shared}{M:Model}{A:Around}{E:Value->Shared->Prop}{e T:Addr}{cls:Value}
end
section
variable {X:Cx}{e:Expr}{es:List Expr}{t:DA}{f:Str}{ps:List Str}{cond:List D->DM->Prop}{C:Addr}{k1 k:Nat}{V:DM->Prop}{pf pc:Pos}
end
section
variable {P:Program}{w:World}{K:Frag}{mg:Str->Option Value}{base:Heap}
end
section
variable {X:Cx}{a:Expr}{e tg:Expr}{es:List Expr}{t:DA}{g:DG}{f n cm:Str}{ps:List Str}{sp:DSp}{cond:List D->DM->Prop}{C Cm:Addr}{k1 k2 k j:Nat}{ts:Addr->DS}{b0:Stmt}{suite:List Stmt}{pf pc pa pcm ph pos:Pos}
end
open PySem.AutoSeq1 (wpAny_loadPart')
theorem aA4 (l b:Addr)(items items2:Array Value)(n n2:Nat)(dd dd2:Option Addr)(sl sl2:Array (Option Value))(hc0:items.isEmpty=true) :
  Meets (Builtin.«tuple.__add__» ⟨[.ref l,.ref b],[]⟩) (λ_ R s=>s.heap.get? l = some { cls:=.type "tuple",dict:=dd,data:=.seq items n,slots:=sl }/\s.heap.get? b = some { cls:=.type "tuple",dict:=dd2,data:=.seq items2 n2,slots:=sl2 }/\R (.ok (.ret (Value.ref b))) { s with heap:=s.heap,toks:=s.toks }) :=
 .of_wp λprog w A R s h=>by obtain⟨hp,g,d,tk,os⟩:=s;obtain⟨hl,hb,h⟩:=h;have f1:=AutoSeq1.idx_int;have f2:=AutoSeq1.sub_tuple_tuple;have f3:=AutoSeq1.sub_list_list;have f4:=AutoSeq1.sub_tuple_list;have f5:=AutoSeq1.sub_list_tuple;wp_walk using wpAny_loadPart' hl,wpAny_loadPart' hb;exact⟨_,rfl,h⟩
section
variable {X:Cx}
def aF1:D2:=λx y M Q=>match x,y with
 |.tup xs,.tup ys=>xs.length+ys.length<=1000/\Q (.tup (xs++ys)) M
 |_,_=>False
theorem aAR:OpD X (binaryOp .Add) aF1:=by
 intro pins s σ H x y v u Q I rx ry ⟨dx,dy,M,Q',r1,r2,hm,q,k⟩
 match dx,dy,q with
 |.tup xs,.tup ys,q =>
  obtain⟨hl,q⟩:=q;obtain⟨a,us,rfl,sq,ru⟩:=bE r1;obtain⟨b,ws,rfl,sq2,rw'⟩:=bE r2;have l3:=ru.length;have l4:=rw'.length;by_cases n1:us=[]
  ·have nx:xs=[]:=List.length_eq_zero_iff.mp (by rw[l3,n1];rfl);rw[nx] at q;cases rx;cases ry;obtain⟨its,r5,p1,_⟩:=I.tuple sq;obtain⟨its2,r6,p2,_⟩:=I.tuple sq2;obtain⟨⟨cls,dd,data,sl⟩,ho,hc,n,hd⟩:=id p1;obtain⟨⟨cls2,dd2,data2,sl2⟩,ho2,hc2,n2,hd2⟩:=id p2;simp only at hc hd hc2 hd2;subst hc hd hc2 hd2;have e0:its=[]:=List.length_eq_zero_iff.mp (by rw[<- r5.length,n1];rfl);exact concat_meets ⟨_,ho,rfl⟩ ⟨_,ho2,rfl⟩ noFill_tuple_add seq_tuple_add PySem.F.slot_tuple_add PySem.F.entry_tuple_add (PySem.F.args_tuple_add_2 _ _)
    (aA4 a b its.toArray its2.toArray n n2 dd dd2 sl sl2 (by rw[e0];rfl)) ⟨ho,ho2,.ref b,H,I,rfl,k _ H ⟨.tup ys,M,cM sq2 rw',hm,.refl H,q⟩⟩
  ·refine aCy pins s σ H _ _ v u Q I rx ry ?_;refine⟨a,b,us,ws,rfl,rfl,sq,sq2,n1,by rw[<- l3,<- l4];exact Nat.le_of_lt (eL hl),λz=>?_,λ_ p hp=>k _ _ ⟨.tup _,M,cM (.of cP) ((ru.append rw').ext (Ext.new hp _)),hm.new hp _,Ext.new hp _,q⟩⟩;have ny:ys=[]:=List.length_eq_zero_iff.mp (by rw[l4,z];rfl);rw[ny,append_nil] at q;exact k _ H ⟨.tup xs,M,cM sq ru,hm,.refl H,q⟩
end
section
variable {X:Cx}{pins:List (Addr×Obj)}{σ:L2.St}{H:Hp}{s:Shared}
end
section
variable {X:Cx}{pos:Pos}
theorem aDi :ZE X (.Dict [] [] pos) aB7:=.i (aFR)
theorem aC8 {o i:Expr}{to ti:DE}{kr:Nat}(hr:cQ kr X.A)(ho:ZE X o to)(hi:ZE X i ti)(ha:∀v,assign (.Subscript o i pos) X.env v=(do
   let ov <- holding [v] (eval o X.env)
   let iv <- holding [v,ov] (eval i X.env)
   standAt pos
   holding [v,ov,iv] (setItem ov iv v)
   release [v,ov,iv] []):=by intro _;rfl):ZG X (.Subscript o i pos) (aCR X.w to ti):=.i (aFU hr ho.o hi.o ha)
end
section
variable {X:Cx}{pos:Pos}{iter tg:Expr}{body:List Stmt}{tl:DE}{g:DG}{tb:DS}{ta:DA}
end
section
variable {X:Cx}{pos:Pos}{iter tg:Expr}{body:List Stmt}{tl:DE}{g:DG}{tb:DS}{ta:DA}
end
section
variable {X:Cx}{pos:Pos}{iter tg elt:Expr}{body:List Stmt}{tl te:DE}{g:DG}{tb:DS}{ta:DA}
theorem aA8 {elts:List Expr}{kk:Nat}{tpos:Pos}{a:Expr}{p pos':Pos}(hp:PassesOwn (model X.prog X.w) X.A X.env X.xe)(hc:X.calm = true)(hmg:X.mg "enumerate" = none)(ha:ZA X [a] ta)(hg:ZG X (.Tuple elts kk tpos) g)(hb:ZSs X body tb)(hgl:Gl X "enumerate":=by rfl)(hse:starEach [a] X.env = [(false,eval a X.env)]:=by rfl)(hs:∀x,foldedSetIterable (.Call (.Name "enumerate" p) [a] [] pos') X.env x = pure x:=by intro _;rfl):ZS X (.For (.Tuple elts kk tpos) (.Call (.Name "enumerate" p) [a] [] pos') body [] pos) (aE6 ta g tb):=.i (aGU hp hc hmg ha.o hg.o hb.o hgl hse hs)
variable {scope:Scope}{N':List Str}{fr:List (Option Nat)}{oN:List Str}{osc:Scope}
end
section
variable {prog:Program}{w:World}{A:Around}{E:Value->Shared->Prop}{s:Shared}
end
section
variable {X:Cx}{pos:Pos}
end
section
variable {P:Program}{w:World}{K:Frag}{mg:Str->Option Value}{base:Heap}
end
section
variable {X:Cx}{e:Expr}{te:DE}{pos p2:Pos}{lo hi:Option Expr}{tl th:DO}
end
section
variable {X:Cx}{pins:List (Addr×Obj)}{σ:L2.St}{H:Hp}{s:Shared}{M:Model}{A:Around}{E:Value->Shared->Prop}{e T:Addr}{cls:Value}
end
section
variable {X:Cx}{e:Expr}{es:List Expr}{t:DA}{f:Str}{ps:List Str}{cond:List D->DM->Prop}{C:Addr}{k1 k:Nat}{V:DM->Prop}{pf pc:Pos}
end
section
variable {P:Program}{w:World}{K:Frag}{mg:Str->Option Value}{base:Heap}
end
section
variable {X:Cx}{a:Expr}{e tg:Expr}{es:List Expr}{t:DA}{g:DG}{f n cm:Str}{ps:List Str}{sp:DSp}{cond:List D->DM->Prop}{C Cm:Addr}{k1 k2 k j:Nat}{ts:Addr->DS}{b0:Stmt}{suite:List Stmt}{pf pc pa pcm ph pos:Pos}
end
section
variable {X:Cx}
end
section
variable {X:Cx}{pins:List (Addr×Obj)}{σ:L2.St}{H:Hp}{s:Shared}
noncomputable def blE (k:Bool):Value->Bool
 |.bool b=>b==k
 |_=>false
theorem aLn {K:Frag}{k:Bool}:∀{bs:List Bool}{us:List V} {its:List Value},bK K H (bs.map D.bl) us->bT us its->its.any (blE k)=bs.any λb=>b==k
 |[],us,its,r,rv=>by rw[bB r] at rv;cases rv;rfl
 |b::bs,us,its,r,rv=>by
  obtain⟨w,rr,rfl,hw,hr⟩:=aT r;rw[cD hw] at rv;cases rv with
  |cons q ws =>
   cases q;rw[any_cons,any_cons,aLn hr ws];rfl
theorem aK0 (I:Inv X pins σ H s){A:Around}(hu:A.units+60<cLine){k:Bool}{wx:V}{x:Value}(rx:bM wx x)(hx:Rep X.K H (.bl k) wx):∀{bs:List Bool}{us:List V} {its:List Value},bK X.K H (bs.map D.bl) us->bT us its->∀y∈its,SeqAt.EqAt A s y x (blE k y)
 |[],us,its,r,rv,y,hy=>by rw[bB r] at rv;cases rv;exact nomatch hy
 |b::bs,us,its,r,rv,y,hy=>by
  obtain⟨w,rr,rfl,hw,hr⟩:=aT r;cases rv with
  |cons q ws =>
   rcases List.mem_cons.mp hy with rfl|hy
   ·have:=yC I 60 hu (d:=.bl b) (d':=.bl k) rfl rfl hw hx q rx;rw[cD hw] at q;cases q;exact this
   ·exact aK0 I hu rx hx hr ws y hy
def aMC (g:Bool->Bool):D2:=λx y M Q=>match x,y with
 |.bl k,.ref a=>∃bs:List Bool,M a=some (bs.map D.bl)/\Q (.bl (g (bs.any λb=>b==k))) M
 |_,_=>False
theorem aEg {k:Nat}(hr:cQ k X.A):OpD X (compareOp .In) (aMC id):=λpins s σ H x y v u Q I rx ry ⟨dx,dy,M,Q',r1,r2,hm,q,k⟩=>by
 match dx,dy,q with
 |.bl b,.ref a,q =>
  obtain⟨bs,ha,q⟩:=q;obtain rfl:=aX r2;cases ry;obtain⟨us,hu,ru⟩:=hm.l a _ ha;obtain⟨zz,its,nn,rv,hlen,e1⟩:=I.lstM hu;have un:=hr.un;refine SeqAt.in_listAt (blE b) ⟨_,e1,rfl,_,rfl⟩ (λy hy=>aK0 I (by show X.A.units+1+60<cLine;omega) rx r1 ru rv y (by simpa using hy)) ?_;rw[<- Array.any_toList,aLn ru rv];exact⟨.bl _,H,I,rfl,k _ H ⟨_,M,dR,hm,.refl H,q⟩⟩
end
def Cm (M:DM):Nat->D->D->Bool->Prop
 |0,d,d',b=>bS 0 d=true/\bS 0 d'=true/\b=eqD d d'
 |n+1,d,d',b=>match d,d' with
  |.tup xs,.tup ys=>∃e:Nat->Bool,(∀j x y,xs[j]?=some x->ys[j]?=some y->Cm M n x y (e j))/\b=((range (min xs.length ys.length)).all e&&xs.length==ys.length)
  |.ref a,.ref a'=>∃xs ys,M a=some xs/\M a'=some ys/\a≠a'/\(xs.length=ys.length->∃e:Nat->Bool,(∀j x y,xs[j]?=some x->ys[j]?=some y->Cm M n x y (e j))/\b=(range xs.length).all e)/\(xs.length≠ys.length->b=false)
  |d,d'=>bS 0 d=true/\bS 0 d'=true/\b=eqD d d'
section
variable {X:Cx}{pins:List (Addr×Obj)}{σ:L2.St}{H:Hp}{s:Shared}{M:DM}
theorem aK3 {n:Nat}{d d':D}{b:Bool}(h:Cm M n d d' b)(h1:∀xs,d ≠ .tup xs)(h2:∀a,d ≠ .ref a):bS 0 d=true/\bS 0 d'=true/\b=eqD d d':=by
 cases n with
 |zero=>exact h
 |succ n =>
  cases d with
  |tup xs=>exact absurd rfl (h1 xs)
  |ref a=>exact absurd rfl (h2 a)
  |_=>exact h
theorem aG1:∀(n:Nat){d d':D} {b:Bool} {v:V},Inv X pins σ H s->Cm M n d d' b->Rep X.K H d v->Rep X.K H d' v->b=true:=by
 intro n
 induction n with
 |zero =>
  intro d d' b v I h r r';rw[h.2.2];exact rO h.1 h.2.1 r r'
 |succ n ih =>
  intro d d' b v I h r r';cases d with
  |tup xs =>
   cases d' with
   |tup ys =>
    obtain⟨e,he,rfl⟩:=h;obtain⟨a,us,rfl,sq,rs⟩:=bE r;obtain⟨a',us',z,sq',rs'⟩:=bE r';cases z;obtain rfl:=I.tuple_inj sq sq';have l1:=rs.length;have l2:=rs'.length;rw[show(xs.length==ys.length)=true by simp;omega,Bool.and_true,List.all_eq_true];intro j hj;rw[List.mem_range] at hj;have j1:j<xs.length:=by omega
    have j2:j<ys.length:=by omega
    have e1:xs[j]?=some xs[j]:=getElem?_eq_getElem j1;have e2:ys[j]?=some ys[j]:=getElem?_eq_getElem j2;obtain⟨v1,w1,r1⟩:=rs.get e1;obtain⟨v2,w2,r2⟩:=rs'.get e2;rw[w1] at w2;cases w2;exact ih I (he j _ _ e1 e2) r1 r2
   |_=>exact absurd h.1 Bool.false_ne_true
  |ref a =>
   cases d' with
   |ref a' =>
    obtain⟨xs,ys,_,_,ne,_⟩:=h;rw[aX r] at r';have:=aX r';cases this;exact absurd rfl ne
   |_=>exact absurd h.1 Bool.false_ne_true
  |_=>rw[h.2.2];exact rO h.1 h.2.1 r r'
theorem aBH {A:Around}{n:Nat}{e:Nat->Bool}(hm:bO X.K M H)(I:Inv X pins σ H s)(ih:∀{d d':D}{b:Bool} {v v':V} {u u':Value},Cm M n d d' b->Rep X.K H d v->Rep X.K H d' v'->bM v u->bM v' u'->SeqAt.EqAt A s u u' b){xs ys:List D}{us us':List V}{its its':List Value}(he:∀j x y,xs[j]?=some x->ys[j]?=some y->Cm M n x y (e j))(r1:bK X.K H xs us)(r2:bK X.K H ys us')(v1:bT us its)(v2:bT us' its')(j:Nat)(h1:j<its.length)(h2:j<its'.length):SeqAt.EqAt A s its[j] its'[j] (e j):=by
 have l1:=r1.length;have l2:=r2.length;have l3:=v1.length;have l4:=v2.length;have e1:xs[j]?=some (xs[j]'(by omega)):=getElem?_eq_getElem (by omega);have e2:ys[j]?=some (ys[j]'(by omega)):=getElem?_eq_getElem (by omega);obtain⟨w1,q1,p1⟩:=r1.get e1;obtain⟨w2,q2,p2⟩:=r2.get e2;obtain⟨z1,y1,k1⟩:=v1.get q1;obtain⟨z2,y2,k2⟩:=v2.get q2;have f1:its[j]=z1:=by rw[getElem?_eq_getElem h1] at y1;exact Option.some.inj y1
 have f2:its'[j]=z2:=by rw[getElem?_eq_getElem h2] at y2;exact Option.some.inj y2
 rw[f1,f2];exact ih (he j _ _ e1 e2) p1 p2 k1 k2
theorem aEk {A:Around}{n:Nat}{d d':D}{b:Bool}{a a':Addr}(hm:bO X.K M H)(I:Inv X pins σ H s)(hu:A.units+n<cLine)(ih:∀{d d':D}{b:Bool} {v v':V} {u u':Value},Cm M n d d' b->Rep X.K H d v->Rep X.K H d' v'->bM v u->bM v' u'->SeqAt.EqAt A.in1 s u u' b)(h:Cm M (n+1) d d' b)(r:Rep X.K H d (.ref a))(r':Rep X.K H d' (.ref a')):SeqAt.RcAt A s (.ref a) (.ref a') b/\SeqAt.RcNeAt A s (.ref a) (.ref a') (!b):=by
 cases d with
 |tup xs =>
  cases d' with
  |tup ys =>
   obtain⟨e,he,rfl⟩:=h;obtain⟨_,us,z,sq,rs⟩:=bE r;cases z;obtain⟨_,us',z,sq',rs'⟩:=bE r';cases z;obtain⟨its,rv,ht⟩:=gK I sq;obtain⟨its',rv',ht'⟩:=gK I sq';have e1:=rs.length;have e2:=rv.length;have e3:=rs'.length;have e4:=rv'.length;rw[show xs.length=its.toArray.size by rw[size_toArray];omega,show ys.length=its'.toArray.size by rw[size_toArray];omega];have hit:∀j (h1:j<its.toArray.size) (h2:j<its'.toArray.size),SeqAt.EqAt A.in1 s its.toArray[j] its'.toArray[j] (e j):=λj j1 j2=>by have:=aBH hm I ih he rs rs' rv rv' j (by simpa using j1) (by simpa using j2);simpa using this
   exact⟨SeqAt.RcAt.tuples ht ht' (by omega) hit,SeqAt.RcNeAt.tuples ht ht' (by omega) hit⟩
  |_=>exact absurd h.1 Bool.false_ne_true
 |ref c =>
  cases d' with
  |ref c' =>
   obtain⟨xs,ys,hx,hy,ne,c1,c2⟩:=h;have:=aX r;cases this;have:=aX r';cases this;obtain⟨us,hus,ru⟩:=hm.l a xs hx;obtain⟨ws,hws,rw'⟩:=hm.l a' ys hy;obtain⟨z,its,n1,r1,hl,e⟩:=I.lstM hus;obtain⟨z2,its2,n2,r3,hl2,e2⟩:=I.lstM hws;have i1:s.heap.IsList a its.toArray:=⟨_,e,rfl,_,rfl⟩;have i2:s.heap.IsList a' its2.toArray:=⟨_,e2,rfl,_,rfl⟩;have l3:=ru.length;have l4:=rw'.length;have l5:=r1.length;have l6:=r3.length;by_cases hz:xs.length=ys.length
   ·obtain⟨e',he,rfl⟩:=c1 hz;have hsz:its.toArray.size=its2.toArray.size:=by rw[size_toArray,size_toArray];omega
    have hit:∀j (h1:j<its.toArray.size) (h2:j<its2.toArray.size),SeqAt.EqAt A.in1 s its.toArray[j] its2.toArray[j] (e' j):=λj j1 j2=>by have:=aBH hm I ih he ru rw' r1 r3 j (by simpa using j1) (by simpa using j2);simpa using this
    rw[show xs.length=its.toArray.size by rw[size_toArray];omega];exact⟨SeqAt.RcAt.lists i1 i2 hsz (by omega) hit,SeqAt.RcNeAt.lists i1 i2 hsz (by omega) hit⟩
   ·have hsz:(its.toArray.size != its2.toArray.size)=true:=by rw[size_toArray,size_toArray];simp;omega
    rw[c2 hz];exact⟨SeqAt.RcAt.lists_lengths i1 i2 hsz (by omega),SeqAt.RcNeAt.lists_lengths i1 i2 hsz (by omega)⟩
  |_=>exact absurd h.1 Bool.false_ne_true
 |_=>exact(vS h.1 r).elim
theorem aMA (hm:bO X.K M H)(I:Inv X pins σ H s):∀(n:Nat){A:Around} {d d':D} {b:Bool} {v v':V} {u u':Value},A.units+n<cLine->Cm M n d d' b->Rep X.K H d v->Rep X.K H d' v'->bM v u->bM v' u'->SeqAt.EqAt A s u u' b:=by
 intro n
 induction n with
 |zero =>
  intro A d d' b v v' u u' hu h r r' q q';rw[h.2.2];exact yC I 0 hu h.1 h.2.1 r r' q q'
 |succ n ih =>
  intro A d d' b v v' u u' hu h r r' q q';have hu':A.in1.units+n<cLine:=by show A.units+1+n<cLine;omega
  have sc:(∀xs,d ≠ .tup xs)->(∀a,d ≠ .ref a)->SeqAt.EqAt A s u u' b:=λh1 h2=>by obtain⟨p,p',e⟩:=aK3 h h1 h2;rw[e];exact yC I 0 (by omega) p p' r r' q q'
  have sq:∀{a a':Addr},v=.ref a->v'=.ref a'->SeqAt.EqAt A s u u' b:=λ{a a'} e1 e2=>by
   subst e1 e2;cases q;cases q';by_cases c:a=a'
   ·subst c;rw[aG1 (n+1) I h r r'];exact SeqAt.EqAt.same _
   ·exact SeqAt.EqAt.of_refs c (aEk hm I (by omega) (λ{d d' b v v' u u'} h r r' q q'=>ih hu' h r r' q q') h r r').1
  cases d with
  |tup xs =>
   cases d' with
   |tup ys =>
    obtain⟨a,us,e1,_⟩:=bE r;obtain⟨a',us',e2,_⟩:=bE r';exact sq e1 e2
   |_=>exact absurd h.1 Bool.false_ne_true
  |ref c =>
   cases d' with
   |ref c'=>exact sq (aX r) (aX r')
   |_=>exact absurd h.1 Bool.false_ne_true
  |_=>exact sc (λxs z=>nomatch z) λa z=>nomatch z
end
def aG9 (g:Bool->Bool):D2:=λx y M Q=>(((∃xs,x=.tup xs)/\∃ys,y=.tup ys)∨((∃a,x=.ref a)/\∃b,y=.ref b))/\∃b,Cm M 20 x y b/\Q (.bl (g b)) M
section
variable {X:Cx}
theorem aGA (hu:X.A.units+60<cLine):OpD X (compareOp .Eq) (aG9 id)/\OpD X (compareOp .NotEq) (aG9 not):=by
 have key:∀{pins:List (Addr×Obj)}{s:Shared} {σ:L2.St} {H:Hp} {x y:V} {v u:Value} {dx dy:D} {M:DM} {Q':DQ} {g:Bool->Bool},Inv X pins σ H s->bM x v->bM y u->Rep X.K H dx x->Rep X.K H dy y->bO X.K M H->aG9 g dx dy M Q' ->
   ∃b,SeqAt.RcAt X.A s v u b/\SeqAt.RcNeAt X.A s v u (!b)/\Q' (.bl (g b)) M:=by
  intro pins s σ H x y v u dx dy M Q' g I rx ry r1 r2 hm ⟨sh,b,h,q⟩;have go:∀{a a':Addr},x=.ref a->y=.ref a'->∃b,SeqAt.RcAt X.A s v u b/\SeqAt.RcNeAt X.A s v u (!b)/\Q' (.bl (g b)) M:=λ{a a'} e1 e2=>by
   subst e1 e2;cases rx;cases ry;have hu':X.A.in1.units+19<cLine:=by show X.A.units+1+19<cLine;omega
   obtain⟨h1,h2⟩:=aEk hm I (n:=19) (by omega) (λ{d d' b v v' u u'} h r r' q q'=>aMA hm I 19 hu' h r r' q q') h r1 r2;exact⟨b,h1,h2,q⟩
  rcases sh with⟨⟨xs,rfl⟩,ys,rfl⟩|⟨⟨a,rfl⟩,a',rfl⟩
  ·obtain⟨a,us,e1,_⟩:=bE r1;obtain⟨a',us',e2,_⟩:=bE r2;exact go e1 e2
  ·exact go (aX r1) (aX r2)
 refine⟨λpins s σ H x y v u Q I rx ry ⟨dx,dy,M,Q',r1,r2,hm,q,k⟩=>?_,λpins s σ H x y v u Q I rx ry ⟨dx,dy,M,Q',r1,r2,hm,q,k⟩=>?_⟩
 ·obtain⟨b,h1,_,q⟩:=key I rx ry r1 r2 hm q;exact h1 X.prog X.w X.xe _ ⟨.bl b,H,I,rfl,k _ H ⟨.bl b,M,dR,hm,.refl H,q⟩⟩
 ·obtain⟨b,_,h2,q⟩:=key I rx ry r1 r2 hm q;exact h2 X.prog X.w X.xe _ ⟨.bl (!b),H,I,rfl,k _ H ⟨.bl (!b),M,dR,hm,.refl H,q⟩⟩
theorem aAC {k:Nat}(hr:cQ k X.A):OpD X (compareOp .Eq) (aG9 id):=(aGA (by have:=hr.un;omega)).1
end
mutual
theorem aBC:∀{n:Nat}{d:D},bS n d=true->eqD d d=true
 |_,.non,_=>rfl
 |_,.bl b,_=>by simp[eqD]
 |_,.int b,_=>by simp[eqD]
 |_,.str b,_=>by simp[eqD]
 |n+1,.tup xs,h=>by rw[eqD];exact yH (n:=n) h
 |0,.tup xs,h=>absurd h Bool.false_ne_true
 |n,.ref a,h=>by cases n<;>exact absurd h Bool.false_ne_true
 |n,.fz a,h=>by cases n<;>exact absurd h Bool.false_ne_true
theorem yH:∀{n:Nat}{xs:List D},xs.all (bS n)=true->iJ xs xs=true
 |_,[],_=>by simp[iJ]
 |n,x::xs,h=>by rw[all_cons,Bool.and_eq_true] at h;show(eqD x x&&iJ xs xs)=true;rw[aBC h.1,yH h.2];rfl
end
theorem aCG {M:DM}:∀{n:Nat}{d:D},bS n d=true->Cm M n d d true
 |0,d,h=>⟨h,h,(aBC h).symm⟩
 |n+1,.tup xs,h=>⟨λ_=>true,λj x y e1 e2=>by rw[e1] at e2;cases e2;have hx:bS n x=true:=(List.all_eq_true.mp h) x (mem_of_getElem? e1);exact aCG hx,by simp⟩
 |n+1,.non,h=>⟨rfl,rfl,rfl⟩
 |n+1,.bl b,h=>⟨rfl,rfl,by simp[eqD]⟩
 |n+1,.int b,h=>⟨rfl,rfl,by simp[eqD]⟩
 |n+1,.str b,h=>⟨rfl,rfl,by simp[eqD]⟩
 |n+1,.ref a,h=>absurd h Bool.false_ne_true
 |n+1,.fz a,h=>absurd h Bool.false_ne_true
theorem aBz {M:DM}{n:Nat}{a b:Addr}{xs:List D}(ha:M a=some xs)(hb:M b=some xs)(ne:a≠b)(h:∀x∈xs,bS n x=true):Cm M (n+1) (.ref a) (.ref b) true :=
 ⟨xs,xs,ha,hb,ne,λ_=>⟨λ_=>true,λj x y e1 e2=>by rw[e1] at e2;cases e2;exact aCG (h x (mem_of_getElem? e1)),by simp⟩,λz=>absurd rfl z⟩
noncomputable def aLG (w:World)(kvs:List (Str×D)):List D:=kvs.map λp=>.tup [.int (hashStr w p.1),.str p.1,p.2]
section
variable {X:Cx}{pins:List (Addr×Obj)}{σ:L2.St}{H:Hp}{s:Shared}
end
section
variable {X:Cx}{pos:Pos}
end
section
variable {X:Cx}{pins:List (Addr×Obj)}{σ:L2.St}{H:Hp}{s:Shared}
end
section
variable {X:Cx}{pos:Pos}
end
def FK (K:Frag)(x:Str)(f:Addr)(st:Stmt):Prop:=nsIn K mainGlobals x=some (some (.ref f))/\∃fd,L2.Fun K x x st f fd
theorem FK.has {K:Frag}{mg:Str->Option Value}{h:Heap}{x:Str}{f:Addr}{st:Stmt}{ps:List Str}(b:FK K x f st)(X:K.In h)(G:h.Ns mainGlobals mg)(r:∀(kV doc pm:Value)(an:Option Addr) (cdv ct:Value) (us:List Value),us.length=ps.length->bindArgs (fnOf x x (mJ st) (eR st) (aI st) .none kV doc pm an cdv ct) ⟨us,[]⟩=pure (ps.zip us)):cK K mg x st ps :=
 let ⟨a,_,F⟩:=b;⟨_,_,F,mg_of X G a,F.binds r⟩
section
variable {X:Cx}{pos:Pos}{st:Stmt}{t1 t2:DS}{iter tg:Expr}{body:List Stmt}{tl:DE}{g:DG}{tb:DS}
end
section
variable {X:Cx}{pos:Pos}{st:Stmt}{t1 t2:DS}{iter tg:Expr}{body:List Stmt}{tl:DE}{g:DG}{tb:DS}
end
open Mz
section
variable {prog:Program}{w:World}{A:Around}{I S:Addr}{fp wr:List Addr}{n:Nat}{P:Nat->Value->Prop}{St:Nat->Heap->Prop}{R:Result->Shared->Prop}{dv:Value}
end
section
variable {prog:Program}{w:World}{A:Around}{E:Value->Shared->Prop}{s:Shared}{l:Addr}{xs:Array (Int×Tok)}{dv:Value}
end
section
variable {X:Cx}{pos p kp:Pos}{e d:Expr}{te td:DE}
end
section
variable {X:Cx}{pos:Pos}{iter tg:Expr}{body:List Stmt}{te:DE}
end
section
variable {prog:Program}{w:World}{A:Around}{I S:Addr}{fp wr:List Addr}{n:Nat}{P:Nat->Value->Prop}{St:Nat->Heap->Prop}{R:Result->Shared->Prop}{dv:Value}
end
section
variable {prog:Program}{w:World}{A:Around}{E:Value->Shared->Prop}{s:Shared}{l:Addr}{xs:Array (Int×Tok)}{dv:Value}
end
section
variable {X:Cx}{pos p kp:Pos}{e d:Expr}{te td:DE}
end
section
variable {X:Cx}{pos:Pos}{iter tg:Expr}{body:List Stmt}{te:DE}
end
section
variable {X:Cx}{pos:Pos}{elt iter tg cnd:Expr}{scope:Scope}{N':List Str}{fr:List (Option Nat)}{tl:DE}{oN:List Str}{osc:Scope}{g:DG}{tc:DT}{te:DE}{e:Expr}{t1 t2:DE}
end
section
variable {X:Cx}{pos:Pos}{elt iter tg cnd:Expr}{scope:Scope}{N':List Str}{fr:List (Option Nat)}{tl:DE}{oN:List Str}{osc:Scope}{g:DG}{tc:DT}{te:DE}{e:Expr}{t1 t2:DE}
end
section
variable {X:Cx}{a:Expr}{e:Expr}{es:List Expr}{t:DA}{f n cm:Str}{ps:List Str}{sp:DSp}{cond:List D->DM->Prop}{C Cm:Addr}{k1 k2 k j:Nat}{ts:Addr->DS}{b0:Stmt}{suite:List Stmt}{pf pc pa pcm ph pos:Pos}
end
def aLb (b:Bool)(j:Nat)(a:Addr):DE:=λρ M Q=>ρ[j]?=some (some (.ref a))/\Q (.bl b) M
section
variable {X:Cx}{n c:Str}{C Cc a:Addr}{o:Obj}{p p1 p2 pos:Pos}{j:Nat}
end
def aNB (t1 t2:DS):DS:=λE ρ M=>t1 E ρ M∨t2 E ρ M
section
variable {X:Cx}{st:Stmt}{t1 t2:DS}
end
section
variable {prog:Program}{w:World}{A:Around}{E:Value->Shared->Prop}{s:Shared}
end
section
variable {X:Cx}
end
def aKY (i:Nat)(te:DE):DS:=λE ρ M=>match ρ[i]? with
 |some (some d)=>te ρ M λy M1=>aF1 d y M1 λr M2=>E.nx (ρ.set i (some r)) M2
 |_=>False
section
variable {X:Cx}{e:Expr}{te:DE}{x:Str}{pos:Pos}
end
section
variable {X:Cx}{a:Expr}{e:Expr}{es:List Expr}{t:DA}{f n cm:Str}{ps:List Str}{sp:DSp}{cond:List D->DM->Prop}{C Cm:Addr}{k1 k2 k j:Nat}{ts:Addr->DS}{b0:Stmt}{suite:List Stmt}{pf pc pa pcm ph pos:Pos}
end
section
variable {X:Cx}{n c:Str}{C Cc a:Addr}{o:Obj}{p p1 p2 pos:Pos}{j:Nat}
end
section
variable {X:Cx}{st:Stmt}{t1 t2:DS}
end
section
variable {prog:Program}{w:World}{A:Around}{E:Value->Shared->Prop}{s:Shared}
end
section
variable {X:Cx}
end
section
variable {X:Cx}{e:Expr}{te:DE}{x:Str}{pos:Pos}
end
section
variable {prog:Program}{w:World}{A:Around}{E:Value->Shared->Prop}{s:Shared}
end
def aKX:DSp:=λds M Q=>match ds with
 |[.tup [.int a,.int b]]=>Q (.int (if b > a then b else a)) M
 |_=>False
section
variable {X:Cx}
end
section
variable {X:Cx}{o e:Expr}{to te:DE}{pos:Pos}
def aFm (to te:DE):DE:=λρ M Q=>to ρ M λx M1=>match x with
 |.ref p=>(∃ds,M1 p=some ds)/\iM te nL ρ M1 λys M2=>∃ds y,ys=[y]/\M2 p=some ds/\ds.length<10000000/\Q .non (bH M2 p (ds++[y]))
 |_=>False
def aFf (to te:DE):DE:=λρ M Q=>to ρ M λx M1=>match x with
 |.ref p=>(∃ds,M1 p=some ds)/\iM te nL ρ M1 λys M2=>∃ds q es,ys=[.ref q]/\M2 p=some ds/\M2 q=some es/\ds.length+es.length<=10000000/\Q .non (bH M2 p (ds++es))
 |_=>False
end
section
variable {X:Cx}{pos:Pos}
def aJg:D2:=λx y M Q=>match x,y with
 |.tup ds,.int k=>-(2^62)<=k/\k<2^62/\ds.length*k.toNat<=10000000/\Q (.tup (List.replicate k.toNat ds).flatten) M
 |_,_=>False
def aFH:D2:=λx y M Q=>match x,y with
 |.tup xs,.tup ys=>xs.length+ys.length<=10000000/\Q (.tup (xs++ys)) M
 |_,_=>False
end
section
variable {X:Cx}
end
def aJh (i:Nat)(te:DE):DS:=λE ρ M=>match ρ[i]? with
 |some (some d)=>te ρ M λy M1=>aFH d y M1 λr M2=>E.nx (ρ.set i (some r)) M2
 |_=>False
section
variable {X:Cx}{e:Expr}{te:DE}{x:Str}{pos:Pos}
end
section
variable {X:Cx}{o e:Expr}{to te:DE}{pos:Pos}
end
section
variable {X:Cx}{pos:Pos}
end
section
variable {X:Cx}
end
section
variable {X:Cx}{e:Expr}{te:DE}{x:Str}{pos:Pos}
end
open PySem.W (InstAt findIn clsIn takerIn mroIn looks_findIn looks_clsIn looks_mroIn)
open PySem.Builtin PySem.Builtin.ObjectAttr
section
variable {K:Frag}{prog:Program}{w:World}{A:Around}{E:Value->Shared->Prop}{s:Shared}{x C:Addr}{ox:Obj}{name:Str}{v:Value}
end
section
variable {X:Cx}{pins:List (Addr×Obj)}{σ:L2.St}{H:Hp}{s:Shared}{e C:Addr}{f:Str}{y:V}{u:Value}
end
open PySem.W (InstAt findIn clsIn takerIn mroIn looks_findIn looks_clsIn looks_mroIn)
section
variable {X:Cx}{o value:Expr}{f:Str}{pos pos':Pos}{ta tv:TE}
end
section
variable {P:Program}{w:World}{K:Frag}{mg:Str->Option Value}{base:Heap}
end
section
variable {prog:Program}{w:World}{A:Around}{E:Value->Shared->Prop}{s:Shared}{K:Frag}
variable {nm qn:Str}{C N fI:Addr}{bs bm:List Value}{hdct:Bool}{sn:List Str}{sub:List Value}{ab:Bool}{col:Option Bool}{dd:Option Addr}{k0 k1 k2 k3 k5:Option Value}
end
open PySem.W (InstAt findIn clsIn takerIn mroIn looks_findIn looks_clsIn looks_mroIn)
def TrY (od:Option Addr)(h:Heap)(e:Addr)(cls:Value)(T:Addr)(fl:Value):Prop :=
 ∃oe vs oT ts,h.get? e=some oe/\(oe.cls=cls/\oe.dict=od)/\oe.data=.fields vs/\vs[1]?=some (.ref T)/\T≠e/\h.get? T=some oT/\oT.data=.fields ts/\ts[3]?=some fl
section
variable {X:Cx}{pins:List (Addr×Obj)}{σ:L2.St}{H:Hp}{s:Shared}{M:Model}{A:Around}{E:Value->Shared->Prop}{e T:Addr}{cls:Value}{od:Option Addr}
end
noncomputable def CXy (P:Program)(w:World):CXT:=λouter H s E e s'=>∃(a:Addr)(cls:Value) (T:Addr) (H':Hp) (od:Option Addr),e=Value.ref a/\s'.os=s.os/\AllBare s'.gens/\Un (frs outer) [] H H' s.heap s'.heap/\HOk P w H' s'.heap /\
 TrY od s'.heap a cls T .none/\s.heap.get? a=none/\s.heap.get? T=none/\H' a=none/\H' T=none/\E cls od H'
def aLW (V:Int->DM->Prop)(ds:List D)(M:DM):Prop:=match ds with
 |[.int i]=>V i M
 |_=>False
def aHy (V:Int->DM->Prop)(te:DE):DS:=λ_ ρ M=>iM te nL ρ M (aLW V)
section
variable {X:Cx}{pins:List (Addr×Obj)}{σ:L2.St}{H:Hp}{s:Shared}{x f:Str}{C:Addr}{k:Nat}{i:Int}
end
section
variable {X:Cx}{x:Str}{V:Int->DM->Prop}{e:Expr}{te:DE}{np cpos pos:Pos}{k:Nat}
end
open PySem.W (InstAt findIn clsIn takerIn mroIn looks_findIn looks_clsIn looks_mroIn)
def aKJ (V:Int->DM->Prop)(cond:List D->DM->Int->Prop)(t:DA):DE:=λρ M _=>t ρ M λds M1=>∃i,cond ds M1 i/\∀M',bC M1 M'->V i M'
noncomputable def XW (K:Frag)(C:Addr)(f:Str)(M1:DM)(i:Int):XK:=λc od H'=>c=.ref C/\∃dx M',od=some dx/\bO K M' H'/\bC M1 M'/\H' dx=some (.xd [(f,.int i)])
section
variable {X:Cx}{e:Expr}{es:List Expr}{t:DA}{fn f:Str}{ps:List Str}{cond:List D->DM->Int->Prop}{C:Addr}{k1 k:Nat}{V:Int->DM->Prop}{pf pc:Pos}
end
section
variable {P:Program}{w:World}{K:Frag}{mg:Str->Option Value}{base:Heap}
end
section
variable {X:Cx}{pins:List (Addr×Obj)}{σ:L2.St}{H:Hp}{s:Shared}{a e:Addr}{o:Obj}{fs:List (Str×V)}
end
def aMb (sp:DSp)(cond:List D->DM->Int->Prop)(j:Nat)(t:DA)(nx:iX->D->cJ->DM->Prop)(ts:Addr->Int->DS):DS:=λD ρ M=>t ρ M λds M1 =>
 (∃i,cond ds M1 i/\∀a,ts a i (D.un j) (ρ.set j (some (.ref a))) M1)∨sp ds M1 λd M2=>nx D d ρ M2
section
variable {X:Cx}{a:Expr}{e:Expr}{es:List Expr}{t:DA}{x f n cm fl:Str}{ps:List Str}{sp:DSp}{cond:List D->DM->Int->Prop}{C Cm:Addr}{k1 k2 k i j:Nat}{ts:Addr->Int->DS}{b0:Stmt}{suite:List Stmt}{px pf pc pa pcm ph pos:Pos}
end
def aNw (j:Nat)(a:Addr)(i:Int):DE:=λρ M Q=>ρ[j]?=some (some (.ref a))/\Q (.int i) M
section
variable {X:Cx}{n f:Str}{C a dx:Addr}{o oD:Obj}{p pos:Pos}{j:Nat}{i:Int}{tk:Tok}
end
def aLV (tab:List (Str×Int))(non:List Str)(Q:DQ)(ds:List D)(M1:DM):Prop:=match ds with
 |[.str k]=>(∃n,tab.lookup k=some n/\Q (.int n) M1)∨(k∈non/\Q .non M1)
 |_=>False
def aL7 (tab:List (Str×Int))(non:List Str)(te:DE):DE:=λρ M Q=>iM te nL ρ M (aLV tab non Q)
section
variable {X:Cx}{x:Str}{tab:List (Str×Int)}{non:List Str}{p apos cpos:Pos}{e:Expr}{te:DE}
end
section
variable {X:Cx}{pins:List (Addr×Obj)}{σ:L2.St}{H:Hp}{s:Shared}{M:Model}{A:Around}{E:Value->Shared->Prop}{e T:Addr}{cls:Value}{od:Option Addr}
end
section
variable {X:Cx}{pins:List (Addr×Obj)}{σ:L2.St}{H:Hp}{s:Shared}{x f:Str}{C:Addr}{k:Nat}{i:Int}
end
section
variable {X:Cx}{x:Str}{V:Int->DM->Prop}{e:Expr}{te:DE}{np cpos pos:Pos}{k:Nat}
end
section
variable {X:Cx}{e:Expr}{es:List Expr}{t:DA}{fn f:Str}{ps:List Str}{cond:List D->DM->Int->Prop}{C:Addr}{k1 k:Nat}{V:Int->DM->Prop}{pf pc:Pos}
end
section
variable {P:Program}{w:World}{K:Frag}{mg:Str->Option Value}{base:Heap}
end
section
variable {X:Cx}{pins:List (Addr×Obj)}{σ:L2.St}{H:Hp}{s:Shared}{a e:Addr}{o:Obj}{fs:List (Str×V)}
end
section
variable {X:Cx}{a:Expr}{e:Expr}{es:List Expr}{t:DA}{x f n cm fl:Str}{ps:List Str}{sp:DSp}{cond:List D->DM->Int->Prop}{C Cm:Addr}{k1 k2 k i j:Nat}{ts:Addr->Int->DS}{b0:Stmt}{suite:List Stmt}{px pf pc pa pcm ph pos:Pos}
end
section
variable {X:Cx}{n f:Str}{C a dx:Addr}{o oD:Obj}{p pos:Pos}{j:Nat}{i:Int}{tk:Tok}
end
section
variable {X:Cx}{x:Str}{tab:List (Str×Int)}{non:List Str}{p apos cpos:Pos}{e:Expr}{te:DE}
end
def aL0 (w:World)(a:Addr)(Q:DQ)(ds:List D)(M2:DM):Prop:=match ds with
 |[.str k,dv]=>∃kvs,M2 (.d a)=some (aLG w kvs)/\(kvs.map (·.1)).Nodup/\Q (((kvs.find? λp=>decide (p.1=k)).map (·.2)).getD dv) M2
 |_=>False
def aLt (w:World)(to te ti:DE):DE:=λρ M Q=>to ρ M λx M1=>match x with
 |.ref a=>(∃kvs,M1 (.d a)=some (aLG w kvs)/\(kvs.map (·.1)).Nodup)/\iM te (iM ti nL) ρ M1 (aL0 w a Q)
 |_=>False
section
variable {X:Cx}{o e e2:Expr}{to te ti:DE}{apos cpos pos:Pos}
end
section
open PySem.W PySem.Calls
variable {prog:Program}{w:World}{A:Around}{E:Value->Shared->Prop}{s:Shared}{K:Frag}{x C D:Addr}{ox:Obj}{od:Option Obj}
end
section
variable {X:Cx}{n c:Str}{C Cc a dx:Addr}{o oD:Obj}{p p1 p2 pos:Pos}{j:Nat}
end
def aF6 (g:Bool->Bool)(ta:DE)(tn:DA):DE:=λρ M Q=>ta ρ M λx M1=>tn ρ M1 λds M2=>match x,ds with
 |.int k,[.int i,.int j]=>Q (.bl (g (decide (i<=k/\k<j)))) M2
 |_,_=>False
section
variable {X:Cx}{a n m:Expr}{ta:DE}{tn:DA}{pos p pos':Pos}
end
section
variable {X:Cx}{o e e2:Expr}{to te ti:DE}{apos cpos pos:Pos}
end
section
variable {prog:Program}{w:World}{A:Around}{E:Value->Shared->Prop}{s:Shared}{K:Frag}{x C D:Addr}{ox:Obj}{od:Option Obj}
end
section
variable {X:Cx}{n c:Str}{C Cc a dx:Addr}{o oD:Obj}{p p1 p2 pos:Pos}{j:Nat}
end
section
variable {X:Cx}{a n m:Expr}{ta:DE}{tn:DA}{pos p pos':Pos}
end
end Dd
namespace Ty
open PySem PySem.Builtin PySem.Builtin.Str PySem.StrLaws
noncomputable abbrev cl (x:Str):List Nat:=x.cps.toList
noncomputable abbrev one (c:Nat):Str:=⟨#[c]⟩
theorem ext {x y:Str}(h:cl x=cl y):x=y:=Str.ext' (Array.toList_inj.mp h)
noncomputable def jl (c:Nat):List (List Nat)->List Nat
 |[]=>[]
 |[x]=>x
 |x::y::r=>x++c::jl c (y::r)
end Ty
namespace Dd
open PySem PySem.Spec PyProof.Rows L2 Mz
open PySem.Builtin.Str (glued occurrences partsBetween strSub subAt)
def aMD:D2:=λx y M Q=>match x,y with
 |.str i,.str j=>i.length+j.length<=1000000/\Q (.str (i++j)) M
 |_,_=>False
def aMj:D2:=λx y M Q=>match x,y with
 |.str i,.int n=>(n=0∨n=1)/\Q (.str (if n=1 then i else Str.empty)) M
 |_,_=>False
def aML:DSp:=λds M Q=>match ds with
 |[.int i]=>i.natAbs.log2<1920/\Q (.str (toString i)) M
 |_=>False
def aMw:DSp:=λds M Q=>match ds with
 |[.str x]=>∃n,PySem.intText? x=some n/\x.length<=640/\Q (.int n) M
 |_=>False
section
variable {X:Cx}
noncomputable def aJf (x y:Str):Bool:=decide (0+y.length<=x.length)&&subAt x y 0
noncomputable def aNG (x:Str):Bool:=x.cps.all (·<128)
noncomputable def aMZ (x:Str):Bool:=x.length > 0&&x.cps.all Unicode.isDigit
end
open PySem.Builtin.Str (glued)
section
variable {prog:Program}{w:World}{A:Around}{E:Value->Shared->Prop}{s:Shared}
end
section
variable {X:Cx}{pos:Pos}{e a b o e1 e2 e3:Expr}{es:List Expr}{te ta tb to t1 t2 t3:DE}{apos cpos:Pos}
def aMi (t:DGs):DG:=λd ρ M Q=>match d with
 |.ref a=>∃d0 ds,M a=some (d0::ds)/\∀p:Addr,M p=none->t [d0,.ref p] ρ (bH M p ds) Q
 |_=>False
def aHM (sep:Str)(Q:DQ)(ds:List D)(M2:DM):Prop:=match ds with
 |[.ref a]=>∃ss:List Str,M2 a=some (ss.map D.str)/\(ss.map (·.length)).sum+ss.length*sep.length<=1000000/\Q (.str (glued sep ss)) M2
 |_=>False
def aMk (to te:DE):DE:=λρ M Q=>to ρ M λx M1=>match x with
 |.str sep=>iM te nL ρ M1 (aHM sep Q)
 |_=>False
def aEC (y:Str)(Q:DQ)(ds:List D)(M2:DM):Prop:=match ds with
 |[.str z]=>∃c ss,z=Ty.one c/\y=glued (Ty.one c) ss/\ss≠[]/\(∀s∈ss,c∉Ty.cl s)/\c<256/\y.length<=900000/\∀p:Addr,M2 p=none->Q (.ref p) (bH M2 p (ss.map D.str))
 |_=>False
def aJI (to te:DE):DE:=λρ M Q=>to ρ M λx M1=>match x with
 |.str y=>iM te nL ρ M1 (aEC y Q)
 |_=>False
def aHW (y:Str)(Q:DQ)(ds:List D)(M2:DM):Prop:=match ds with
 |[.str z]=>∃c,z=Ty.one c/\y.length<=900000/\((c∉Ty.cl y/\Q (.tup [.str y,.str Str.empty,.str Str.empty]) M2)∨(∃a b:Str,Ty.cl y=Ty.cl a++c::Ty.cl b/\c∉Ty.cl a/\Q (.tup [.str a,.str (Ty.one c),.str b]) M2))
 |_=>False
def aLz (to te:DE):DE:=λρ M Q=>to ρ M λx M1=>match x with
 |.str y=>iM te nL ρ M1 (aHW y Q)
 |_=>False
def aEi (y:Str)(Q:DQ)(ds:List D)(M2:DM):Prop:=match ds with
 |[.str z]=>Q (.bl (aJf y z)) M2
 |_=>False
def aJ5 (to te:DE):DE:=λρ M Q=>to ρ M λx M1=>match x with
 |.str y=>iM te nL ρ M1 (aEi y Q)
 |_=>False
def aNu (to:DE):DE:=λρ M Q=>to ρ M λx M1=>match x with
 |.str y=>Q (.bl (aNG y)) M1
 |_=>False
def aNz (to:DE):DE:=λρ M Q=>to ρ M λx M1=>match x with
 |.str y=>Q (.bl (aMZ y)) M1
 |_=>False
end
section
variable {X:Cx}{pos p0 p1 p2 p3 p4:Pos}{e e1 e2:Expr}{te t1 t2:DE}{lo hi:Option Expr}{tl th:DO}{c:Str}
def aH0 (x:D)(lo hi:Option Int)(M:DM)(Q:DQ):Prop:=match x,lo,hi with
 |.str y,some i,none=>y.length<=1000000/\Q (.str (Txt.slice y (some i) none)) M
 |_,_,_=>False
def aM9 (te:DE)(tl th:DO):DE:=λρ M Q=>te ρ M λx M1=>tl ρ M1 λl M2=>th ρ M2 λh M3=>aH0 x l h M3 Q
def aM5 (te:DE):DE:=λρ M Q=>te ρ M λx M1=>match x with
 |.int i=>i.natAbs.log2<1920/\Q (.str (toString i)) M1
 |_=>False
def aNk (c:Str)(te:DE):DE:=λρ M Q=>te ρ M λx M1=>match x with
 |.int i=>i.natAbs.log2<1920/\(c++Str.ofString (toString i)).length<=1000000/\Q (.str (c++Str.ofString (toString i))) M1
 |_=>False
def aNo (c:Str)(t1 t2:DE):DE:=λρ M Q=>t1 ρ M λx M1=>match x with
 |.int i=>i.natAbs.log2<1920/\(Str.ofString (toString i)++c).length<=1000000/\t2 ρ M1 λy M2=>match y with
  |.int n=>n.natAbs.log2<1920/\(Str.ofString (toString i)++c++Str.ofString (toString n)).length<=1000000/\Q (.str (Str.ofString (toString i)++c++Str.ofString (toString n))) M2
  |_=>False
 |_=>False
noncomputable def aJb:D->Bool
 |.non=>true
 |_=>false
def aNj (g:Bool->Bool):D2:=λx y M Q=>match x,y with
 |.non,.ref a=>∃ds,M a=some ds/\ds.all (bS 60)=true/\Q (.bl (g (ds.any aJb))) M
 |_,_=>False
def aNb (K:Frag)(T1 T2:String)(te:DE):DE:=λρ M Q=>te ρ M λd M1=>∃T k,tyD d=some T/\PySem.W.kitAny K (.type T) [.type T1,.type T2]=some k/\Q (.bl k) M1
end
section
variable {prog:Program}{w:World}{A:Around}{E:Value->Shared->Prop}{s:Shared}
end
section
variable {X:Cx}{pos:Pos}{e a b o e1 e2 e3:Expr}{es:List Expr}{te ta tb to t1 t2 t3:DE}{apos cpos:Pos}
end
section
variable {X:Cx}{pos p0 p1 p2 p3 p4:Pos}{e e1 e2:Expr}{te t1 t2:DE}{lo hi:Option Expr}{tl th:DO}{c:Str}
end
end Dd
namespace Ty
open PySem PySem.Builtin.Str PySem.NumText PyProof.Rows
end Ty
namespace Dd
open PySem PySem.Spec PyProof.Rows L2 Mz
section
variable {prog:Program}{w:World}{A:Around}{E:Value->Shared->Prop}{s:Shared}
end
section
variable {X:Cx}{x:Str}{e:Expr}{te:DE}{pos:Pos}
def aEy:D2:=λx y M Q=>match x,y with
 |.ref l,.ref b=>∃xs zs,M l=some xs/\M b=some zs/\xs.length+zs.length<=1000/\Q (.ref l) (bH M l (xs++zs))
 |_,_=>False
def aL1 (i:Nat)(te:DE):DS:=λE ρ M=>match ρ[i]? with
 |some (some z)=>te ρ M λd M1=>aEy z d M1 λr M2=>E.nx (ρ.set i (some r)) M2
 |_=>False
end
section
variable {prog:Program}{w:World}{A:Around}{E:Value->Shared->Prop}{s:Shared}
end
section
variable {X:Cx}{x:Str}{e:Expr}{te:DE}{pos:Pos}
end
inductive XC where
 |x (C:Addr)
 |y (C:Addr) (f:Str) (i:Int)
abbrev XV:=XC->cJ->DM->Prop
def aNx (X:Cx)(H1:Hp)(s1:Shared)(M1:DM)(ev:Value)(s':Shared):XC->Prop
 |.x C=>CXr X.prog X.w X.stack H1 s1 (λc _ H'=>c=.ref C/\∃M',bO X.K M' H'/\bC M1 M') ev s'
 |.y C f i=>CXy X.prog X.w X.stack H1 s1 (XW X.K C f M1 i) ev s'
def XOk (X:Cx)(pins:List (Addr×Obj))(H:Hp)(V:XV)(E':Value->Shared->Prop):Prop :=
 ∀xc σ H1 s1 M1 ρ ev s',Inv X pins σ H1 s1->fV X.K H1 ρ σ->Ext H H1->V xc ρ M1->aNx X H1 s1 M1 ev s' xc->E' ev s'
theorem XOk.at {X:Cx}{pins:List (Addr×Obj)}{H H':Hp}{V:XV}{E':Value->Shared->Prop}(h:XOk X pins H V E')(e:Ext H H'):XOk X pins H' V E' :=
 λxc σ H1 s1 M1 ρ ev s' I re ex v y=>h xc σ H1 s1 M1 ρ ev s' I re (e.trans ex) v y
def aMP (t:DS):XV->DS:=λ_=>t
def aMq (t u:XV->DS):XV->DS:=λV E ρ M=>t V { E with nx:=u V E } ρ M
def aNg (tc:DT)(t u:XV->DS):XV->DS:=λV E ρ M=>tc ρ M λc M1=>if c=true then t V E ρ M1 else u V E ρ M1
def aJd (R:List D->DM->XC->Prop)(sp:DSp)(t:DA)(nx:iX->D->cJ->DM->Prop):XV->DS:=λV D ρ M=>t ρ M λds M1=>(∃xc,R ds M1 xc/\V xc ρ M1)∨sp ds M1 λd M2=>nx D d ρ M2
def aLh (i:Nat):iX->D->cJ->DM->Prop:=λD d ρ M=>D.nx (ρ.set i (some d)) M
def aMp:iX->D->cJ->DM->Prop:=λD d _ M=>D.rt d M
section
variable {X:Cx}{st:Stmt}{bI a b:List Stmt}{t:DS}{tb ub:XV->DS}{c:Expr}{tc:DT}{pos:Pos}
end
section
variable {X:Cx}{e:Expr}{es:List Expr}{t:DA}{x f:Str}{ps:List Str}{sp:DSp}{R:List D->DM->XC->Prop}{k2 k i:Nat}{px pf pc pa:Pos}
end
def aLH (tb:XV->DS)(v:iX->XV):DS:=λDe ρ M=>tb (v De) De ρ M
section
variable {X:Cx}{n cm f1 f2:Str}{CX C1 C2 Cm:Addr}{j:Nat}{tX:Addr->DS}{t1 t2:Addr->Int->DS}{body suite:List Stmt}{b0:Stmt}{tb:XV->DS}{pcm ph pos:Pos}
end
section
variable {X:Cx}{o e:Expr}{to te:DE}
def aFP (p:Addr)(Q:DQ)(ys:List D)(M2:DM):Prop:=match ys with
 |[.bl k]=>∃bs:List Bool,M2 p=some (bs.map D.bl)/\Q (.int ((bs.countP (·==k):Nat):Int)) M2
 |_=>False
def aIj (to te:DE):DE:=λρ M Q=>to ρ M λx M1=>match x with
 |.ref p=>(∃ds,M1 p=some ds)/\iM te nL ρ M1 (aFP p Q)
 |_=>False
end
section
variable {X:Cx}{n cm f1:Str}{CX C1 Cm:Addr}{j:Nat}{tX:Addr->DS}{t1:Addr->Int->DS}{body suite:List Stmt}{b0:Stmt}{tb:XV->DS}{pcm ph pos:Pos}
end
section
variable {X:Cx}{f fl:Str}{ps:List Str}{C:Addr}{k k1:Nat}{R1 R2:List D->DM->XC->Prop}
end
section
variable {X:Cx}{n c:Str}{C Cc a:Addr}{o:Obj}{p p1 p2 pos:Pos}{j:Nat}
end
section
variable {X:Cx}{st:Stmt}{bI a b:List Stmt}{t:DS}{tb ub:XV->DS}{c:Expr}{tc:DT}{pos:Pos}
end
section
variable {X:Cx}{e:Expr}{es:List Expr}{t:DA}{x f:Str}{ps:List Str}{sp:DSp}{R:List D->DM->XC->Prop}{k2 k i:Nat}{px pf pc pa:Pos}
end
section
variable {X:Cx}{n cm f1 f2:Str}{CX C1 C2 Cm:Addr}{j:Nat}{tX:Addr->DS}{t1 t2:Addr->Int->DS}{body suite:List Stmt}{b0:Stmt}{tb:XV->DS}{pcm ph pos:Pos}
end
section
variable {X:Cx}{o e:Expr}{to te:DE}
end
section
variable {X:Cx}{n cm f1:Str}{CX C1 Cm:Addr}{j:Nat}{tX:Addr->DS}{t1:Addr->Int->DS}{body suite:List Stmt}{b0:Stmt}{tb:XV->DS}{pcm ph pos:Pos}
end
section
variable {X:Cx}{f fl:Str}{ps:List Str}{C:Addr}{k k1:Nat}{R1 R2:List D->DM->XC->Prop}
end
section
variable {X:Cx}{n c:Str}{C Cc a:Addr}{o:Obj}{p p1 p2 pos:Pos}{j:Nat}
end
section
variable {prog:Program}{w:World}{A:Around}{I S:Addr}{fp wr:List Addr}{n:Nat}{P:Nat->Value->Prop}{St:Nat->Heap->Prop}{R:Result->Shared->Prop}{dv:Value}
end
section
variable {prog:Program}{w:World}{A:Around}{E:Value->Shared->Prop}{s:Shared}{l:Addr}{xs:Array (Int×Tok)}{dv:Value}
end
section
variable {X:Cx}{pos p kp:Pos}{e d:Expr}{te td:DE}
def aMh (te td:DE):DE:=λρ M Q=>te ρ M λx M1=>td ρ M1 λy M2=>match x,y with
 |.ref a,.int k=>∃ns:List Int,M2 a=some (ns.map D.int)/\∀m:Int,(ns=[]->m=k)->(∀n∈ns,n<=m)->Q (.int m) M2
 |_,_=>False
end
section
variable {prog:Program}{w:World}{A:Around}{I S:Addr}{fp wr:List Addr}{n:Nat}{P:Nat->Value->Prop}{St:Nat->Heap->Prop}{R:Result->Shared->Prop}{dv:Value}
end
section
variable {prog:Program}{w:World}{A:Around}{E:Value->Shared->Prop}{s:Shared}{l:Addr}{xs:Array (Int×Tok)}{dv:Value}
end
section
variable {X:Cx}{pos p kp:Pos}{e d:Expr}{te td:DE}
end
def aLX:DSp:=λds M Q=>match ds with
 |[.int i]=>i.natAbs.log2<1920/\Q (.str (toString i)) M
 |[.str x]=>Q (.str x) M
 |_=>False
section
variable {X:Cx}
end
section
variable {X:Cx}{n cm fl:Str}{C Cm:Addr}{j:Nat}{ts:Addr->Int->DS}{b0:Stmt}{suite:List Stmt}{pcm ph pos:Pos}
end
section
variable {X:Cx}{n c1 c2 f1 f2:Str}{C1 C2 D1 D2:Addr}{j:Nat}{t1 t2:Addr->Int->DS}{body s1 s2:List Stmt}{b1 b2:Stmt}{h3:ExceptHandler}{tb:XV->DS}{p1 p2 ph1 ph2 pos:Pos}
end
section
variable {X:Cx}{n cm fl:Str}{C Cm:Addr}{j:Nat}{ts:Addr->Int->DS}{b0:Stmt}{suite:List Stmt}{pcm ph pos:Pos}
end
section
variable {X:Cx}{n c1 c2 f1 f2:Str}{C1 C2 D1 D2:Addr}{j:Nat}{t1 t2:Addr->Int->DS}{body s1 s2:List Stmt}{b1 b2:Stmt}{h3:ExceptHandler}{tb:XV->DS}{p1 p2 ph1 ph2 pos:Pos}
end
end Dd
namespace L2
open PySem PySem.Spec PyProof.Rows
section
variable {prog:Program}{w:World}{A:Around}{E:Value->Shared->Prop}{s:Shared}
end
end L2
namespace Dd
open PySem PySem.Spec PyProof.Rows L2
section
variable {X:Cx}{pos:Pos}{body:List Stmt}{g:DG}{tb:DS}{ta:DA}
def aK2 (ds:List D)(g:DG)(tb:DS):DS:=λE ρ M=>∃Pv:Nat->cJ->DM->Prop,Pv 0 ρ M /\
 (∀i d ρ M,ds[i]?=some d->Pv i ρ M->g (.tup [.int i,d]) ρ M λρ2 M2=>tb { E with nx:=Pv (i+1),ct:=Pv (i+1),bk:=E.nx } ρ2 M2)/\∀ρ M,Pv ds.length ρ M->E.nx ρ M
def aIN (ta:DA)(g:DG)(tb:DS):DS:=λE ρ M=>ta ρ M λds M1=>match ds with
 |[.tup xs]=>aK2 xs g tb E ρ M1
 |_=>False
end
section
variable {X:Cx}{pos:Pos}{body:List Stmt}{g:DG}{tb:DS}{ta:DA}
end
def wS (K:Frag)(C:Addr)(m qual:Str)(st:Stmt)(ps:List Str):Prop:=∃f fd,aBY K C m f/\L2.Fun K m qual st f fd/\iK K fd ps []
def rY (P:Program)(w:World)(K:Frag)(mg:Str->Option Value)(base:Heap)(k:Nat)(C:Addr)(m:Str)(ps:List Str)(sp:DSp):Prop :=
 ∃f fd,Cls K C/\aBY K C m f/\kC P w K mg base CX0 k f fd ps (pT K sp)/\iK K fd ps []
def aE3 (K:Frag)(mg:Str->Option Value)(x:Str)(C:Addr)(qual:Str)(st:Stmt)(ps:List Str):Prop:=∃f fd,Mk K C f/\mg x = some (.ref C)/\L2.Fun K "__init__" qual st f fd/\iK K fd ps []
def aB9 (P:Program)(w:World)(K:Frag)(mg:Str->Option Value)(base:Heap)(k:Nat)(x:Str)(C:Addr)(ps:List Str)(sp:DSp):Prop :=
 ∃f fd,Mk K C f/\mg x=some (.ref C)/\kC P w K mg base CX0 k f fd ps (pT K sp)/\iK K fd ps []
structure xR (K:Frag)(C:Addr)(fs:List Str):Prop where
 cls:Cls K C
 no:∀f∈fs,qC K C f
section
variable {P:Program}{w:World}{K:Frag}{mg:Str->Option Value}{base:Heap}
theorem rY.mkZ {C:Addr}{m qual:Str}{st:Stmt}{N ps:List Str}{k:Nat}{sp:DSp}(h:wS K C m qual st ps)(c:Cls K C)(S:aS N ps (aI st))(len:∀ds M Q,sp ds M Q->ds.length=ps.length)(hbody:∀(f:Addr)(cdv:Value) (A:Around) (outer:List Env) (s:Shared) (H:Hp) (ds:List D) (M:DM) (Q:DQ) (E:XK),cQ k (A.deeper (envOfC qual (aI st) s.heap.objs.size f cdv))->sp ds M Q ->
   ∃t,ZSs (tE CX0 P w K mg base N qual (aI st) f cdv A outer s H E).nox (eR st) t/\t { nx:=λ_ M'=>Dn Q .non M',rt:=Dn Q } (jT N ds) M):rY P w K mg base (k+1) C m ps sp:=by
 obtain⟨f,fd,hm,F,hb⟩:=h;exact⟨f,fd,c,hm,Fun.okZ F S len λcdv A outer s H ds M Q E hr q=>hbody f cdv A outer s H ds M Q E hr q,hb⟩
theorem aB9.mkZ {x:Str}{C:Addr}{qual:Str}{st:Stmt}{N ps:List Str}{k:Nat}{sp:DSp}(h:aE3 K mg x C qual st ps)(S:aS N ps (aI st))(len:∀ds M Q,sp ds M Q->ds.length=ps.length)(hbody:∀(f:Addr)(cdv:Value) (A:Around) (outer:List Env) (s:Shared) (H:Hp) (ds:List D) (M:DM) (Q:DQ) (E:XK),cQ k (A.deeper (envOfC qual (aI st) s.heap.objs.size f cdv))->sp ds M Q ->
   ∃t,ZSs (tE CX0 P w K mg base N qual (aI st) f cdv A outer s H E).nox (eR st) t/\t { nx:=λ_ M'=>Dn Q .non M',rt:=Dn Q } (jT N ds) M):aB9 P w K mg base (k+1) x C ps sp:=by
 obtain⟨f,fd,hm,hx,F,hb⟩:=h;exact⟨f,fd,hm,hx,Fun.okZ F S len λcdv A outer s H ds M Q E hr q=>hbody f cdv A outer s H ds M Q E hr q,hb⟩
end
noncomputable def aF8 (f:Str)(v:D):List (Str×D)->List (Str×D)
 |[]=>[(f,v)]
 |(g,x)::r=>if g=f then (g,v)::r else (g,x)::aF8 f v r
theorem aA7 {K:Frag}{H:Hp}{f:Str}{d:D}{v:V}(rd:Rep K H d v):∀{gs:List (Str×D)}{fs:List (Str×V)},pQ K H gs fs->pQ K H (aF8 f d gs) (mL f v fs)
 |[],_,.nil=>.cons ⟨rfl,rd⟩ .nil
 |(g,x)::gs,(h,y)::fs,.cons r rr=>by
  obtain⟨e,r2⟩:=r;obtain rfl:g=h:=e;show pQ K H (if g=f then (g,d)::gs else (g,x)::aF8 f d gs) (if g=f then (g,v)::fs else (g,y)::mL f v fs);by_cases z:g=f
  ·rw[if_pos z,if_pos z];exact .cons ⟨rfl,rd⟩ rr
  ·rw[if_neg z,if_neg z];exact .cons ⟨rfl,r2⟩ (aA7 rd rr)
theorem aBe {K:Frag}{H:Hp}{f:Str}{d:D}:∀{gs:List (Str×D)}{fs:List (Str×V)},pQ K H gs fs->gs.lookup f=some d->∃v,fs.lookup f=some v/\Rep K H d v
 |[],_,.nil,h=>by cases h
 |(g,x)::gs,(h,y)::fs,.cons r rr,e=>by
  obtain⟨e0,r2⟩:=r;obtain rfl:g=h:=e0;rw[lookup_cons] at e ⊢;by_cases z:(f==g)=true
  ·rw[z] at e ⊢;cases e;exact⟨y,rfl,r2⟩
  ·rw[Bool.eq_false_iff.mpr z] at e ⊢;exact aBe rr e
theorem yR {K:Frag}{H:Hp}{f:Str}:∀{gs:List (Str×D)}{fs:List (Str×V)},pQ K H gs fs->gs.lookup f=none->fs.lookup f=none
 |[],_,.nil,h=>rfl
 |(g,x)::gs,(h,y)::fs,.cons r rr,e=>by
  obtain⟨e0,r2⟩:=r;obtain rfl:g=h:=e0;rw[lookup_cons] at e ⊢;by_cases z:(f==g)=true
  ·rw[z] at e;cases e
  ·rw[Bool.eq_false_iff.mpr z] at e ⊢;exact yR rr e
theorem aBK {K:Frag}{H:Hp}:∀{gs:List (Str×D)}{fs:List (Str×V)},pQ K H gs fs->gs.length=fs.length
 |_,_,.nil=>rfl
 |_::_,_::_,.cons r rr=>by rw[length_cons,length_cons,aBK rr]
def aJs (C:Addr)(f:Str)(te:DE):DE:=λρ M Q=>te ρ M λx M1=>∃a gs d,x=.ref a/\M1 (.o a)=some (vA C gs)/\gs.lookup f=some d/\Q d M1
def aFy (C:Addr)(f:Str)(te tv:DE):DS:=λE ρ M=>tv ρ M λy M1=>te ρ M1 λx M2=>∃a gs,x=.ref a/\M2 (.o a)=some (vA C gs)/\gs.length<1000/\E.nx ρ (zK M2 a (vA C (aF8 f y gs)))
def aCQ (C:Addr)(m:Str)(sp:DSp)(te:DE)(t:DA):DE:=λρ M Q=>te ρ M λx M1=>∃a gs,x=.ref a/\M1 (.o a)=some (vA C gs)/\gs.lookup m=none/\t ρ M1 λds M2=>sp (x::ds) M2 Q
def aFi (C:Addr)(sp:DSp)(t:DA):DE:=λρ M Q=>t ρ M λds M1=>∀x:Addr,M1 (.l x)=none->M1 (.d x)=none->M1 (.o x)=none->sp (.ref x::ds) (zK M1 x (vA C [])) λv M2=>v=.non/\Q (.ref x) M2
section
variable {X:Cx}{o e value:Expr}{es:List Expr}{f m x:Str}{pos pos' apos p:Pos}{te tv:DE}{t:DA}{C:Addr}{fs ps:List Str}{sp:DSp}{k j:Nat}
theorem aJ3 (hO:xR X.K C fs)(hf:f∈fs)(he:PDE X e te)(hb:attributeBase e f X.env (eval e X.env)=eval e X.env:=by rfl):PDE X (.Attribute e f pos) (aJs C f te) :=
 cH (aKe he hb) λσ H Q ⟨ρ,M,Q',re,hm,q,kq⟩=>⟨ρ,M,_,re,hm,q,λv H1 ⟨d,M1,rd,hm1,ex,a,gs,d',e1,ha,l,q1⟩=>by subst e1;obtain⟨C',dx,gs',fs',w,hH,fr⟩:=hm1.o a _ ha;obtain⟨rfl,rfl⟩:=xC w;obtain⟨v',l',r'⟩:=aBe fr l;exact⟨a,C,dx,fs',v',aX rd,hH,hO.cls,hO.no f hf,l',kq _ _ ⟨d',M1,r',hm1,ex,q1⟩⟩⟩
theorem aIT (hO:xR X.K C fs)(hf:f∈fs)(he:PDE X e te)(hv:PDE X value tv)(hs:swapsWith value (some (.Attribute e f pos')) pos.line X.env=pure false:=by rfl):PDS X (.Assign [.Attribute e f pos'] value pos) (aFy C f te tv) :=
 fX (aIF he hv hs) λE σ H ⟨ρ,M,Dn,re,hm,q,kq⟩=>⟨ρ,M,_,re,hm,q,λy H1 ⟨dy,M1,ry,hm1,ex1,q1⟩=>⟨ρ,M1,_,re.ext ex1,hm1,q1,λv H2 ⟨d,M2,rd,hm2,ex2,a,gs,e1,ha,hl,q2⟩=>by subst e1;obtain⟨C',dx,gs',fs',w,hH,fr⟩:=hm2.o a _ ha;obtain⟨rfl,rfl⟩:=xC w;have hx:=Ext.putI (H:=H2) hH (.ins C dx (mL f y fs'));exact⟨a,C,dx,fs',aX rd,hH,hO.cls,hO.no f hf,by rw[<- aBK fr];exact hl,kq.nx _ _ ⟨ρ,_,((re.ext ex1).ext ex2).ext hx,hm2.oput hH (aA7 (ry.ext ex2) fr),(ex1.trans ex2).trans hx,q2⟩⟩⟩⟩
theorem aGX {pl:Sem Bool}(h:rY X.prog X.w X.K X.mg X.base k C m ps sp)(hr:cQ j X.A)(hkj:k<=j)(ho:PDE X o te)(ha:PDA X (e::es) t)(hst:starEach (e::es) X.env=(false,eval e X.env)::starEach es X.env:=by rfl)(hpl:(backTo pos (starEach es X.env)).any (·.1)=false:=by rfl)(ht:eval (.Call (.Attribute o m apos) (e::es) [] pos) X.env=(do
   let ov <- eval o X.env
   standAt apos.atName
   let (f,first) <- holding [ov] (getMethod ov m pl)
   callWith pos f first (backTo pos (starEach (e::es) X.env)) (backToKw pos (keywordEach [] X.env))):=by rfl) :
  PDE X (.Call (.Attribute o m apos) (e::es) [] pos) (aCQ C m sp te t):=by
 obtain⟨f,fd,c,hm,F,hb⟩:=h;refine cH (aHJ (pl:=pl) ho c hm F (hr.mono hkj) hb .nil aC3 ha hst hpl ht) λσ H Q ⟨ρ,M,Q',re,hm,q,kq⟩=>⟨ρ,M,_,re,hm,q,λv H1 ⟨d,M1,rd,hm1,ex,a,gs,e1,ha,l,q1⟩=>?_⟩;subst e1;obtain⟨C',dx,gs',fs',w,hH,fr⟩:=hm1.o a _ ha;obtain⟨rfl,rfl⟩:=xC w;refine⟨a,dx,fs',aX rd,hH,yR fr l,ρ,M1,_,re.ext ex,hm1,q1,λvs H2 ⟨ds,M2,rs,hm2,ex2,q2⟩=>⟨.ref a::ds,M2,Q',?_,hm2,q2,λv H' z=>kq v H' (z.back (ex.trans ex2))⟩⟩;rw[append_nil,aX rd];exact bN gJ rs
theorem aHi (h:aB9 X.prog X.w X.K X.mg X.base k x C ps sp)(hr:cQ j X.A)(hkj:k+1<=j)(ha:PDA X (e::es) t)(hg:Gl X x:=by rfl)(hdb:(x==("__debug__":Str))=false:=by decide)(he:starEach (e::es) X.env=(false,eval e X.env)::starEach es X.env:=by rfl)(hpl:(backTo pos (starEach es X.env)).any (·.1)=false:=by rfl) :
  PDE X (.Call (.Name x p) (e::es) [] pos) (aFi C sp t):=by
 obtain⟨f,fd,M0,hm0,F,hb⟩:=h;refine cH (aHq M0 F (hr.mono hkj) hg hm0 hb .nil aC3 ha hdb he hpl) λσ H Q ⟨ρ,M,Q',re,hm,q,kq⟩=>⟨ρ,M,_,re,hm,q,λvs H1 ⟨ds,M1,rs,hm1,ex,q1⟩ x dx hx hdx ne=>?_⟩;have e1:Ext H1 (upd (upd H1 dx (.own x)) x (.ins C dx [])):=(Ext.new hdx _).trans (Ext.new (by rw[aZ (Ne.symm ne)];exact hx) _);refine⟨.ref x::ds,_,_,?_,hm1.onew hx hdx ne,q1 x (hm1.fresh hx) (hm1.freshD hx) (hm1.freshO hx),λv H2 ⟨d,M2,rd,hm2,ex2,ev,q2⟩=>?_⟩
 ·rw[append_nil];exact bN gJ (rs.ext e1)
 ·subst ev;exact⟨dS rd,kq _ _ ⟨.ref x,M2,gJ,hm2,(ex.trans e1).trans ex2,q2⟩⟩
end
section
variable {X:Cx}{pins:List (Addr×Obj)}{σ:L2.St}{H:Hp}{s:Shared}{pos:Pos}{kr:Nat}
def aMI (w:World)(g:Bool->Bool):D2:=λx y M Q=>match y with
 |.ref a=>∃kvs,M (.d a)=some (sO w kvs)/\TK kvs/\aDa x/\Q (.bl (g (decide (x∈kvs.map (·.1))))) M
 |_=>False
theorem aHP (hr:cQ kr X.A):X.A.units+7<cLine:=Nat.lt_of_le_of_lt (Nat.add_le_add_left (by decide:7<=64) _) hr.units
theorem aDT (hr:cQ kr X.A):OpD X (compareOp .NotIn) (aMI X.w not):=λpins s σ H x y v u Q I rx ry ⟨dx,dy,M,Q',r1,r2,hm,q,k⟩=>by
 match dy,q with
 |.ref a,q =>
  obtain⟨kvs,ha,tk,hk,q⟩:=q;obtain⟨b,rfl⟩:=aAy hk r1;obtain rfl:=aX r2;cases rx;cases ry;obtain⟨xs,hH,hx,hd,hs,hz⟩:=zY I hm ha tk;refine wpAny_notIn_heap (knd:=sN X.prog X.w) (by have:=aHP hr;show X.A.units+1+6<cLine;omega) ⟨hk.2,wT I hk.2 r1 rfl⟩ hs hd ?_;rw[aEV hx];exact⟨.bl _,H,I.tok _,rfl,k _ H ⟨_,M,dR,hm,.refl H,q⟩⟩
theorem aD7 {K:Frag}{H:Hp}{k d:D}:∀{kvs:List (D×D)}{xs:List (D×Addr×Value)},Paired (KX K H) kvs xs->uC kvs k=some d->∃p vv,atKey xs k=some p/\bM vv p.2/\Rep K H d vv
 |[],_,.nil,h=>by cases h
 |p::kvs,x::xs,.cons r rr,h=>by
  unfold uC at h;unfold atKey;rw[find?_cons] at h ⊢;obtain⟨e1,r2,vv,q1,q2⟩:=r;by_cases z:p.1=k
  ·rw[decide_eq_true z] at h;rw[decide_eq_true (show x.1=k by rw[<- e1];exact z)];cases h;exact⟨_,vv,rfl,q1,q2⟩
  ·rw[decide_eq_false z] at h;rw[decide_eq_false (show ¬x.1=k by rw[<- e1];exact z)];exact aD7 rr h
def aJp (w:World)(te ti:DE):DE:=λρ M Q=>te ρ M λx M1=>ti ρ M1 λi M2=>match x with
 |.ref a=>∃kvs d,M2 (.d a)=some (sO w kvs)/\TK kvs/\aDa i/\uC kvs i=some d/\Q d M2
 |_=>False
theorem aJ9 {e i:Expr}{te ti:DE}(hr:cQ kr X.A)(he:PDE X e te)(hi:PDE X i ti)(hs:qY i:=by intro _ _;rfl):PDE X (.Subscript e i pos) (aJp X.w te ti):=by
 intro pins s σ H Q I ⟨ρ,M,Q',re,hm',q,kq⟩;refine Subscript_ (thn (he pins s σ H (LQ X.K H _) I ⟨ρ,M,_,re,hm',q,λ_ _ z=>z⟩) λu0 s0 ⟨y0,H0,I0,ry0,d0,M0,r0,hm0,e0,q0⟩=>?_);refine thn (hi pins s0 σ H0 (LQ X.K H0 _) I0 ⟨ρ,M0,_,re.ext e0,hm0,q0,λ_ _ z=>z⟩) λu s1 ⟨y,H1,I1,ry,d1,M1,r1,hm1,e1,q1⟩=>?_
 match d0,q1 with
 |.ref a,q1 =>
  obtain⟨kvs,d,ha,tk,hk,hf,q1⟩:=q1;rw[aX r0] at ry0;cases ry0;obtain⟨b,rfl⟩:=aAy hk r1;cases ry;obtain⟨xs,hH,hx,hd,hsy,lx⟩:=zY I1 hm1 ha tk;obtain⟨v,vv,hv,qv,rv⟩:=aD7 hx hf;refine subscriptTail_builtinR (x:=v.2) (T:="dict") hd.typeIs PySem.F.slot_dict_getitem.lookup (wpAny_getItem_heap (knd:=sN X.prog X.w) (by have:=aHP hr;show X.A.units+1+6<cLine;omega) ⟨hk.2,wT I1 hk.2 r1 rfl⟩ hd hv ⟨rfl,?_⟩) (hs _ _);exact⟨vv,H1,I1.tok _,qv,kq _ _ ⟨d,M1,rv,hm1,e0.trans e1,q1⟩⟩
end
section
variable {prog:Program}{w:World}
noncomputable def prN (i j:Nat):D:=.tup [.int i,.int j]
theorem kX (i j:Nat):iP 1 (prN i j)=true:=rfl
theorem aDQ {A:Around}{E:Value->Shared->Prop}{s:Shared}{i j:Nat}{v:Value}{Q:Bool->Shared->Prop}(hi:IsK s.heap (prN i j) v)(q:Q true s):wpAny (model prog w) A (hashByValue 8 v) Q E s:=by
 obtain⟨a,its,rfl,ht,hs⟩:=dL hi;obtain⟨o,ho,hc,k,hd⟩:=ht;have hT:s.TypeIs (.ref a) "tuple":=⟨o,ho,hc⟩;unfold hashByValue;refine wpAny_bind (wpAny_specialOf hT F.slot_tuple_hash.lookup ?_);dsimp only;refine wpAny_bind (wpAny_seqItems ho hd ?_);refine wpAny_bind ?_;show wpAny _ _ (forIn its _ _) _ _ s;rw[<- Array.forIn_toList];refine wpAny_forIn_list _ (λbI r s'=>r.1=none/\s'=s/\∀x∈bI,∃(z:Int)(t:Tok),x=.int z t) _ ?_ ?_ _ _ ⟨rfl,rfl,?_⟩
 ·rintro x bI r s' ⟨hr,rfl,hx⟩;obtain⟨z,t,rfl⟩:=hx x mem_cons_self;refine wpAny_bind ?_;unfold hashByValue;refine wpAny_pure ?_;simp only[Bool.not_true,Bool.false_eq_true,if_false];exact wpAny_pure ⟨rfl,rfl,λy hy=>hx y (mem_cons_of_mem _ hy)⟩
 ·rintro⟨r1,r2⟩ s' ⟨hr,rfl,_⟩;simp only at hr;subst hr;exact wpAny_pure q
 ·obtain⟨v1,r1,e1,h1,hs⟩:=cO hs;obtain⟨v2,r2,e2,h2,hs⟩:=cO hs;have e3:=gF hs;subst e3 e2;rw[e1];obtain⟨t1,rfl⟩:=dA h1;obtain⟨t2,rfl⟩:=dA h2;intro x hx;simp only[mem_cons,not_mem_nil,or_false] at hx;rcases hx with rfl|rfl
  ·exact⟨_,_,rfl⟩
  ·exact⟨_,_,rfl⟩
noncomputable def kY (es:Array (Int×Value))(ep:Nat)(t:SetTable):Obj:={ cls:=.type "set",dict:=none,data:=.set es ep t }
theorem aHR {A:Around}{E:Value->Shared->Prop}{s:Shared}{S:Addr}{es:Array (Int×Value)}{ep:Nat}{t:SetTable}{i j m:Nat}{x:Value}{Q:Bool->Shared->Prop}(hu:A.units+1<cLine)(hi:IsK s.heap (prN i j) x)(hS:s.heap.get? S=some (kY es ep t))(hf:t.fits es.size=true)(hg:t.gaveWay=false)(hz:es.size<=8)(hp:t.probe (λn=>(es[n]?.map (·.1)).getD 0) (eV w (prN i j)) (t.probeStart (eV w (prN i j)))=some (.empty m none))(htf:(t.put m).1.tooFull=false)(h:∀h' tk,Heap.SameBut S s.heap h'->h'.get? S=some (kY (SetTable.insertAt es (t.put m).2 (eV w (prN i j),x)) (ep+1) (t.put m).1)->s.toks<=tk->Q true { s with heap:=h',toks:=tk }) :
  wpAny (model prog w) A (setAdd S x) Q E s:=by
 obtain⟨a,its,rfl,ht,hs⟩:=dL hi;unfold setAdd;refine wpAny_holding (wpAny_bind (aAA 1 (kX i j) hu hi ?_));unfold setAddHashed;refine wpAny_holding ?_;show wpAny _ _ (setAddHashedIn S (.ref a) (eV w (prN i j)) (99999+1)) _ _ _;unfold setAddHashedIn;refine wpAny_bind (wpAny_setState_of hS rfl hf ?_);dsimp only;rw[if_neg (show ¬(byScan (.ref a) es=true) by unfold byScan;exact Bool.false_ne_true)];refine wpAny_bind ?_;unfold setSearch;show wpAny _ _ (setSearchFrom S (.ref a) (eV w (prN i j)) true (99999+1) none) _ _ _;unfold setSearchFrom;refine wpAny_bind (wpAny_setState_of hS rfl hf ?_);dsimp only;rw[hg,if_neg Bool.false_ne_true];generalize hM:t.probe _ (eV w (prN i j)) (Option.getD none (t.probeStart (eV w (prN i j))))=met;obtain rfl:met=some (.empty m none):=hM.symm.trans hp;dsimp only;refine wpAny_pure ?_;dsimp only;refine wpAny_bind (wpAny_setState_of hS rfl hf ?_);dsimp only;have fin:wpAny (model prog w) A (do
   storeSet S (SetTable.insertAt es (t.put m).2 (eV w (prN i j),.ref a)) (t.put m).1
   if (!false&&(t.put m).1.tooFull)=true then do
    setRelay S (SetTable.grown (es.size+1))
    pure true
   else pure true) Q E { s with toks:=s.toks+lC (prN i j) }:=by
  refine wpAny_bind (wpAny_storeSet_of hS rfl ?_ ?_)
  ·rw[htf,if_neg (by decide)];refine wpAny_pure (h _ _ (Heap.SameBut.update ..) ?_ (Nat.le_add_right ..));rw[Heap.get?_update_self _ hS (by rw[putSet_of _ _ rfl];rfl),putSet_of _ _ rfl];rfl
  ·unfold SetTable.insertAt;rw[Array.size_append,Array.size_push,Array.size_extract,Array.size_extract,sizeLine_eq];omega
 by_cases hpl:(t.put m).1.plain=true
 ·rw[if_pos hpl];refine wpAny_bind (aDQ hi ?_);exact fin
 ·rw[if_neg hpl];exact wpAny_bind (wpAny_pure fin)
noncomputable def hJ (h:Int)(led:Bool):SetTable:=((SetTable.fresh 0 0 led).put (SetTable.bits h % 8)).1
noncomputable def hp2 (i j:Nat):Int:=reduceHash (Builtin.Tuple.tupleHashOf [hashInt i,hashInt j])
theorem aAB (i j:Nat):eV w (prN i j)=hp2 i j:=by unfold prN eV kA kA kA eV;rfl
theorem aLx (led:Bool):(SetTable.fresh 0 0 led).gaveWay=false:=by show((7:Nat) % 2==0)=false;decide
theorem tf0 (m:Nat)(led:Bool):((SetTable.fresh 0 0 led).put m).1.tooFull=false:=by cases led<;>rfl
theorem aKZ (led:Bool):(SetTable.fresh 0 0 led).fits 0=true:=rfl
theorem aBj (m:Nat)(led:Bool):((SetTable.fresh 0 0 led).put m).1.fits 1=true:=by cases led<;>rfl
theorem aH2 (m:Nat)(led:Bool):((SetTable.fresh 0 0 led).put m).1.gaveWay=false:=by show((7:Nat) % 2==0)=false;decide
theorem sL {α:Type}(xs:Array α)(p:Nat)(x:α):(SetTable.insertAt xs p x).size=xs.size+1:=by unfold SetTable.insertAt;rw[Array.size_append,Array.size_push,Array.size_extract,Array.size_extract];omega
theorem aM4 {α:Type}(m:Nat)(led:Bool)(y:α):SetTable.insertAt (#[]:Array α) ((SetTable.fresh 0 0 led).put m).2 y=#[y]:=rfl
theorem aLY (m m':Nat)(led:Bool):((((SetTable.fresh 0 0 led).put m).1).put m').1.fits 2=true:=by
 have e1:((((SetTable.fresh 0 0 led).put m).1).put m').1.place.size=2:=by unfold SetTable.put;dsimp only;rw[sL,sL];rfl
 have e2:((((SetTable.fresh 0 0 led).put m).1).put m').1.dummies=#[]:=by cases led<;>rfl
 unfold SetTable.fits SetTable.fill;rw[e1,e2];rfl
theorem aIS (f:Nat->Int)(h:Int)(led:Bool):(SetTable.fresh 0 0 led).probe f h ((SetTable.fresh 0 0 led).probeStart h)=some (.empty (SetTable.bits h % 8) none):=rfl
noncomputable def aAj (h:Int)(n:Nat):Int:=if n=0 then h else 0
theorem aFx (h:Int)(x:Value):(λn=>((#[(h,x)]:Array (Int×Value))[n]?.map (·.1)).getD 0)=aAj h:=by
 funext n;cases n with
 |zero=>rfl
 |succ n=>simp[aAj]
noncomputable def aB5 (h h':Int)(led:Bool):Option Nat:=match (hJ h led).probe (aAj h) h' ((hJ h led).probeStart h') with
 |some (.empty m none)=>if ((hJ h led).put m).1.tooFull then none else some m
 |_=>none
theorem aDs:∀i:Fin 6,∀j:Fin 4,∀i':Fin 6,∀j':Fin 4,∀led:Bool,(i,j)≠(i',j')->(aB5 (hp2 i j) (hp2 i' j') led).isSome=true:=by decide +kernel
def aA2 (S:Addr)(h:Heap):List (Nat×Nat)->Prop
 |[]=>∃led,h.get? S=some (kY #[] 0 (.fresh 0 0 led))
 |[p]=>∃led x ep,h.get? S=some (kY #[(hp2 p.1 p.2,x)] ep (hJ (hp2 p.1 p.2) led))
 |[_,_]=>∃es ep t,h.get? S=some (kY es ep t)/\es.size=2/\t.fits 2=true
 |_=>False
def qG (p:Nat×Nat):Prop:=p.1<6/\p.2<4
def OkP:List (Nat×Nat)->Prop
 |[_]=>True
 |[p,q]=>qG p/\qG q/\p≠q
 |_=>False
theorem aA2.at {S:Addr}{h h':Heap}{ps:List (Nat×Nat)}(x:aA2 S h ps)(k:∀o,h.get? S=some o->h'.get? S=some o):aA2 S h' ps:=by
 match ps,x with
 |[],⟨led,e⟩=>exact⟨led,k _ e⟩
 |[p],⟨led,x,ep,e⟩=>exact⟨led,x,ep,k _ e⟩
 |[p,q],⟨es,ep,t,e,r⟩=>exact⟨es,ep,t,k _ e,r⟩
theorem aDG {h h':Int}{led:Bool}(z:(aB5 h h' led).isSome=true):∃m,(hJ h led).probe (aAj h) h' ((hJ h led).probeStart h')=some (.empty m none)/\((hJ h led).put m).1.tooFull=false:=by
 unfold aB5 at z;generalize (hJ h led).probe (aAj h) h' ((hJ h led).probeStart h')=r at z ⊢;generalize hJ h led=t at z ⊢
 match r,z with
 |some (.empty m none),z =>
  refine⟨m,rfl,?_⟩;dsimp only at z;by_cases c:(t.put m).1.tooFull=true
  ·rw[if_pos c] at z;cases z
  ·exact Bool.eq_false_iff.mpr c
theorem aA2.len {S:Addr}{h:Heap}{ps:List (Nat×Nat)}(x:aA2 S h ps)(ok:OkP ps):∃es ep t,h.get? S=some (kY es ep t)/\es.size=ps.length/\t.fits es.size=true:=by
 match ps,x,ok with
 |[p],⟨led,x,ep,e⟩,_=>exact⟨_,_,_,e,rfl,aBj _ led⟩
 |[p,q],⟨es,ep,t,e,r,f⟩,_=>exact⟨es,ep,t,e,r,by rw[r];exact f⟩
theorem OkP.at {ps:List (Nat×Nat)}(ok:OkP ps){i:Nat}{p:Nat×Nat}(h:ps[i]?=some p):∃bI,ps=ps.take i++p::bI:=by obtain⟨hl,e⟩:=List.getElem?_eq_some_iff.mp h;exact⟨ps.drop (i+1),by rw[<- e,<- List.drop_eq_getElem_cons hl,List.take_append_drop]⟩
theorem pF {h h':Heap}{p:Nat×Nat}{v:Value}{I S:Addr}(x:IsK h (prN p.1 p.2) v)(hI:∃o,h.get? I = some o/\o.cls ≠ .type "tuple")(hS:∃o,h.get? S = some o/\o.cls ≠ .type "tuple")(k:∀b o,b≠I->b≠S->h.get? b=some o->h'.get? b=some o):IsK h' (prN p.1 p.2) v :=
 x.keep λa its ⟨o,ho,hc,r⟩=>⟨o,k a o (λe=>by subst e;obtain⟨o2,e2,n⟩:=hI;rw[ho] at e2;cases e2;exact n hc) (λe=>by subst e;obtain⟨o2,e2,n⟩:=hS;rw[ho] at e2;cases e2;exact n hc) ho,hc,r⟩
end
def aGe (p:Addr)(n:Nat):Heap->Prop:=λh=>∃es ep t,h.get? p=some (kY es ep t)/\es.size=n/\t.fits es.size=true
theorem aGg {P:Program}{w:World}{H:Hp}{h:Heap}{p:Addr}{n:Nat}(x:aGe p n h):fF P w H h p (.ext (aGe p n)) :=
 ⟨x,let ⟨_,_,_,e,_⟩:=x;⟨_,e⟩,λh1 h2 ⟨es,ep,t,e,r⟩ k=>⟨es,ep,t,k _ e,r⟩⟩
theorem aCx {h:Heap}:∀{ds:List D}{vs:List Value} {j:Nat} {d:D} {v:Value},fQ h ds vs->ds[j]?=some d->vs[j]?=some v->IsK h d v
 |[],_,j,d,v,x,e,_=>by simp at e
 |d0::ds,_,0,d,v,x,e,e'=>by obtain⟨v0,r,rfl,hv,hr⟩:=cO x;simp at e e';subst e e';exact hv
 |d0::ds,_,j+1,d,v,x,e,e'=>by obtain⟨v0,r,rfl,hv,hr⟩:=cO x;exact aCx (j:=j) hr (by simpa using e) (by simpa using e')
noncomputable def prs (ps:List (Nat×Nat)):List D:=ps.map λp=>prN p.1 p.2
section
variable {X:Cx}{e:Expr}{te:DE}{k:Nat}
def aL4:List V->Hp->VK->Prop:=λxs H Q=>∃p n,xs=[.ref p]/\H p=some (.ext (aGe p n))/\n<=1000/\Q (.int n) H
theorem aHC:kS X (.builtin "len") aL4:=by
 intro pins s σ H xs us Q I rs ⟨p,n,e,hH,hn,q⟩;subst e;obtain⟨u,r,rfl,ru,rr⟩:∃u r,us=u::r/\bM (.ref p) u/\bT [] r:=by cases rs with|cons r t=>exact⟨_,_,rfl,r,t⟩
 cases rr;cases ru;obtain⟨⟨es,ep,t,e1,e2,e3⟩,_⟩:=I.hok p _ hH;subst e2;exact call_len_set e1 ⟨rfl,rfl,rfl⟩ rfl e3 (by omega) ⟨.int es.size,H,I.tok _,⟨_,rfl⟩,q⟩
def aGC (te:DE):DE:=λρ M Q=>te ρ M λx M1=>∃a ps,x=.ref a/\M1 (.l a)=some (prs ps)/\OkP ps/\Q (.int ps.length) M1
end
section
variable {P:Program}{w:World}{K:Frag}{mg:Str->Option Value}{base:Heap}
end
section
variable {X:Cx}{o e value:Expr}{es:List Expr}{f m x:Str}{pos pos' apos p:Pos}{te tv:DE}{t:DA}{C:Addr}{fs ps:List Str}{sp:DSp}{k j:Nat}
theorem fL (hO:xR X.K C fs)(hf:f∈fs)(he:ZE X e te)(hb:attributeBase e f X.env (eval e X.env)=eval e X.env:=by rfl):ZE X (.Attribute e f pos) (aJs C f te):=.i (aJ3 hO hf he.o hb)
theorem vI (hO:xR X.K C fs)(hf:f∈fs)(he:ZE X e te)(hv:ZE X value tv)(hs:swapsWith value (some (.Attribute e f pos')) pos.line X.env=pure false:=by rfl):ZS X (.Assign [.Attribute e f pos'] value pos) (aFy C f te tv):=.i (aIT hO hf he.o hv.o hs)
theorem rG {pl:Sem Bool}(h:rY X.prog X.w X.K X.mg X.base k C m ps sp)(hr:cQ j X.A)(hkj:k<=j)(ho:ZE X o te)(ha:ZA X (e::es) t)(hst:starEach (e::es) X.env=(false,eval e X.env)::starEach es X.env:=by rfl)(hpl:(backTo pos (starEach es X.env)).any (·.1)=false:=by rfl)(ht:eval (.Call (.Attribute o m apos) (e::es) [] pos) X.env=(do
   let ov <- eval o X.env
   standAt apos.atName
   let (f,first) <- holding [ov] (getMethod ov m pl)
   callWith pos f first (backTo pos (starEach (e::es) X.env)) (backToKw pos (keywordEach [] X.env))):=by rfl):ZE X (.Call (.Attribute o m apos) (e::es) [] pos) (aCQ C m sp te t):=.i (aGX h hr hkj ho.o ha.o hst hpl ht)
theorem aA3 (h:aB9 X.prog X.w X.K X.mg X.base k x C ps sp)(hr:cQ j X.A)(hkj:k+1<=j)(ha:ZA X (e::es) t)(hg:Gl X x:=by rfl)(hdb:(x==("__debug__":Str))=false:=by decide)(he:starEach (e::es) X.env=(false,eval e X.env)::starEach es X.env:=by rfl)(hpl:(backTo pos (starEach es X.env)).any (·.1)=false:=by rfl):ZE X (.Call (.Name x p) (e::es) [] pos) (aFi C sp t):=.i (aHi h hr hkj ha.o hg hdb he hpl)
end
section
variable {X:Cx}{pins:List (Addr×Obj)}{σ:L2.St}{H:Hp}{s:Shared}{pos:Pos}{kr:Nat}
theorem aGM {e i:Expr}{te ti:DE}(hr:cQ kr X.A)(he:ZE X e te)(hi:ZE X i ti)(hs:qY i:=by intro _ _;rfl):ZE X (.Subscript e i pos) (aJp X.w te ti):=.i (aJ9 hr he.o hi.o hs)
end
section
variable {prog:Program}{w:World}
end
section
variable {X:Cx}{e:Expr}{te:DE}{k:Nat}
end
section
variable {prog:Program}{w:World}
theorem zC {A:Around}{E:Value->Shared->Prop}{s:Shared}{i j:Nat}{v:Value}{Q:Bool->Shared->Prop}(hi:IsK s.heap (prN i j) v)(q:Q false s):wpAny (model prog w) A (ofAClassStatement 8 v) Q E s:=by
 obtain⟨a,its,rfl,ht,hs⟩:=dL hi;obtain⟨o,ho,hc,k,hd⟩:=ht;have hT:s.TypeIs (.ref a) "tuple":=⟨o,ho,hc⟩;unfold ofAClassStatement;refine wpAny_bind (wpAny_typeOf hT ?_);dsimp only;rw[if_pos (show(("tuple":String) == "tuple")=true by decide)];refine wpAny_bind (wpAny_pure ?_);simp only[Bool.not_true,Bool.false_eq_true,if_false];refine wpAny_bind (wpAny_seqItems ho hd ?_);dsimp only;refine wpAny_bind ?_;show wpAny _ _ (forIn its _ _) _ _ s;rw[<- Array.forIn_toList];refine wpAny_forIn_list _ (λbI r s'=>r.1=none/\s'=s/\∀x∈bI,∃(z:Int)(t:Tok),x=.int z t) _ ?_ ?_ _ _ ⟨rfl,rfl,?_⟩
 ·rintro x bI r s' ⟨hr,rfl,hx⟩;obtain⟨z,t,rfl⟩:=hx x mem_cons_self;refine wpAny_bind ?_;unfold ofAClassStatement;refine wpAny_pure ?_;simp only[Bool.false_eq_true,if_false];exact wpAny_pure ⟨rfl,rfl,λy hy=>hx y (mem_cons_of_mem _ hy)⟩
 ·rintro⟨r1,r2⟩ s' ⟨hr,rfl,_⟩;simp only at hr;subst hr;exact wpAny_pure q
 ·obtain⟨v1,r1,e1,h1,hs⟩:=cO hs;obtain⟨v2,r2,e2,h2,hs⟩:=cO hs;have e3:=gF hs;subst e3 e2;rw[e1];obtain⟨t1,rfl⟩:=dA h1;obtain⟨t2,rfl⟩:=dA h2;intro x hx;simp only[mem_cons,not_mem_nil,or_false] at hx;rcases hx with rfl|rfl
  ·exact⟨_,_,rfl⟩
  ·exact⟨_,_,rfl⟩
noncomputable def aEE (h:Int)(led:Bool):Bool:=match (hJ h led).probe (aAj h) h ((hJ h led).probeStart h) with
 |some (.candidate _ 0 _)=>true
 |_=>false
theorem aFd:∀i:Fin 6,∀j:Fin 4,∀led:Bool,aEE (hp2 i j) led=true:=by decide +kernel
theorem aEU {h:Int}{led:Bool}(z:aEE h led=true):∃j nx,(hJ h led).probe (aAj h) h ((hJ h led).probeStart h)=some (.candidate j 0 nx):=by
 unfold aEE at z;generalize (hJ h led).probe (aAj h) h ((hJ h led).probeStart h)=r at z ⊢
 match r,z with
 |some (.candidate j 0 nx),_=>exact⟨j,nx,rfl⟩
theorem yX {α:Type}{c:Prop}[Decidable c]{A:Around}{E:Value->Shared->Prop}{s:Shared}{x y:Sem α}{Q:α->Shared->Prop}(h1:c->wpAny (model prog w) A x Q E s)(h2:¬c->wpAny (model prog w) A y Q E s):wpAny (model prog w) A (if c then x else y) Q E s:=by
 by_cases h:c
 ·rw[if_pos h];exact h1 h
 ·rw[if_neg h];exact h2 h
theorem aJ2 {A:Around}{E:Value->Shared->Prop}{s:Shared}{p:Nat×Nat}{x y:Value}{Q:Bool->Shared->Prop}(hx:IsK s.heap (prN p.1 p.2) x)(hy:IsK s.heap (prN p.1 p.2) y)(q:Q false s):wpAny (model prog w) A (searchCouldBeSeen x [y]) Q E s:=by
 unfold searchCouldBeSeen;refine wpAny_bind ?_;refine wpAny_forIn_list _ (λbI r s'=>r.1=none/\s'=s/\∀z∈bI,z=y) _ ?_ ?_ _ _ ⟨rfl,rfl,λz hz=>List.mem_singleton.mp hz⟩
 ·rintro z bI r s' ⟨hr,rfl,hz⟩;obtain rfl:=hz z mem_cons_self;obtain⟨a,its,rfl,_,_⟩:=dL (id hx);obtain⟨b,its',rfl,_,_⟩:=dL (id hy);dsimp only;refine yX (λ_=>wpAny_pure ⟨rfl,rfl,λz' hz'=>hz z' (mem_cons_of_mem _ hz')⟩) λ_=>?_;refine wpAny_bind (wM 1 8 (by decide) (kX _ _) hx ?_);simp only[Bool.not_true,Bool.false_eq_true,if_false];refine wpAny_bind (wM 1 8 (by decide) (kX _ _) hy ?_);simp only[Bool.not_true,Bool.false_eq_true,if_false];refine wpAny_bind (zC hx ?_);simp only[Bool.false_eq_true,if_false];refine wpAny_bind (zC hy ?_);simp only[Bool.false_eq_true,if_false];exact wpAny_pure ⟨rfl,rfl,λz' hz'=>hz z' (mem_cons_of_mem _ hz')⟩
 ·rintro⟨r1,r2⟩ s' ⟨hr,rfl,_⟩;simp only at hr;subst hr;exact wpAny_pure q
def oU (S:Addr)(h:Heap):List (Nat×Nat)->Prop
 |[]=>∃led,h.get? S=some (kY #[] 0 (.fresh 0 0 led))
 |[p]=>∃led x ep,h.get? S=some (kY #[(hp2 p.1 p.2,x)] ep (hJ (hp2 p.1 p.2) led))/\IsK h (prN p.1 p.2) x
 |[p,q]=>∃es ep t,h.get? S=some (kY es ep t)/\es.size=(if p=q then 1 else 2)/\t.fits es.size=true
 |_=>False
def OkQ:List (Nat×Nat)->Prop
 |[_]=>True
 |[p,q]=>qG p/\qG q
 |_=>False
noncomputable def dlP:List (Nat×Nat)->Nat
 |[_]=>1
 |[p,q]=>if p=q then 1 else 2
 |_=>0
theorem oU.at {S:Addr}{h h':Heap}{ps:List (Nat×Nat)}(x:oU S h ps)(k:∀o,h.get? S=some o->h'.get? S=some o)(kk:∀(p:Nat×Nat) v,IsK h (prN p.1 p.2) v->IsK h' (prN p.1 p.2) v):oU S h' ps:=by
 match ps,x with
 |[],⟨led,e⟩=>exact⟨led,k _ e⟩
 |[p],⟨led,x,ep,e,i⟩=>exact⟨led,x,ep,k _ e,kk _ _ i⟩
 |[p,q],⟨es,ep,t,e,r⟩=>exact⟨es,ep,t,k _ e,r⟩
theorem oU.obj {S:Addr}{h:Heap}{ps:List (Nat×Nat)}(x:oU S h ps):∃o,h.get? S = some o/\o.cls = .type "set":=by
 match ps,x with
 |[],⟨led,e⟩=>exact⟨_,e,rfl⟩
 |[p],⟨led,x,ep,e,_⟩=>exact⟨_,e,rfl⟩
 |[p,q],⟨es,ep,t,e,r⟩=>exact⟨_,e,rfl⟩
theorem aCN {A:Around}{E:Value->Shared->Prop}{s:Shared}{S:Addr}{p:Nat×Nat}{x:Value}{Q:Bool->Shared->Prop}{led:Bool}(hu:A.units+1<cLine)(hi:IsK s.heap (prN p.1 p.2) x)(hS:s.heap.get? S=some (kY #[] 0 (.fresh 0 0 led)))(h:∀h' tk,Heap.SameBut S s.heap h'->oU S h' [p]->s.toks<=tk->Q true { s with heap:=h',toks:=tk }):wpAny (model prog w) A (setAdd S x) Q E s:=by have hh:=aAB (w:=w) p.1 p.2;refine aHR (m:=SetTable.bits (eV w (prN p.1 p.2)) % 8) hu hi hS (aKZ led) (aLx led) (Nat.zero_le _) (aIS _ _ led) (tf0 _ led) λh' tk sb e le=>h h' tk sb ?_ le;rw[hh,aM4] at e;show ∃led x ep,h'.get? S=some (kY #[(hp2 p.1 p.2,x)] ep (hJ (hp2 p.1 p.2) led))/\IsK h' (prN p.1 p.2) x;generalize hp2 p.1 p.2=z at e;exact⟨led,x,_,e,hi.keep λa its ⟨o,ho,hc,r⟩=>⟨o,(sb.2 a (λz=>by subst z;rw[hS] at ho;cases ho;exact absurd hc (show ¬(Value.type "set" = Value.type "tuple") by decide))).trans ho,hc,r⟩⟩
theorem aHk {A:Around}{E:Value->Shared->Prop}{s:Shared}{S:Addr}{p q:Nat×Nat}{x y:Value}{ep:Nat}{led:Bool}{Q:Bool->Shared->Prop}(sp:qG p)(sq:qG q)(ne:q≠p)(hu:A.units+1<cLine)(hi:IsK s.heap (prN p.1 p.2) x)(hS:s.heap.get? S=some (kY #[(hp2 q.1 q.2,y)] ep (hJ (hp2 q.1 q.2) led)))(h:∀h' tk,Heap.SameBut S s.heap h'->oU S h' [q,p]->s.toks<=tk->Q true { s with heap:=h',toks:=tk }):wpAny (model prog w) A (setAdd S x) Q E s:=by obtain⟨a1,a2⟩:=sq;obtain⟨b1,b2⟩:=sp;obtain⟨m,hp,htf⟩:=aDG (aDs ⟨q.1,a1⟩ ⟨q.2,a2⟩ ⟨p.1,b1⟩ ⟨p.2,b2⟩ led (λe=>ne (Prod.ext (Fin.mk.inj (Prod.mk.inj e).1) (Fin.mk.inj (Prod.mk.inj e).2))));have hh:=aAB (w:=w) p.1 p.2;have f1:(hJ (hp2 q.1 q.2) led).fits 1=true:=aBj _ led;have g1:(hJ (hp2 q.1 q.2) led).gaveWay=false:=aH2 _ led;have f2:((hJ (hp2 q.1 q.2) led).put m).1.fits 2=true:=aLY _ _ led;dsimp only at hp htf;generalize hp2 q.1 q.2=h0 at hp htf hS f1 g1 f2;generalize hp2 p.1 p.2=h1 at hp hh;generalize hJ h0 led=t at hp htf hS f1 g1 f2;refine aHR (m:=m) hu hi hS f1 g1 (by show 1<=8;decide) (by rw[hh,aFx];exact hp) htf λh' tk sb e le=>h h' tk sb ⟨_,_,_,e,by rw[if_neg ne];exact sL _ _ _,by rw[sL];exact f2⟩ le
theorem aJq {A:Around}{E:Value->Shared->Prop}{s:Shared}{S:Addr}{ep:Nat}{t:SetTable}{p:Nat×Nat}{h0:Int}{j0:Nat}{nx:SetTable.Probe}{x y:Value}{Q:Bool->Shared->Prop}(hu:A.units+1<cLine)(hi:IsK s.heap (prN p.1 p.2) x)(hy:IsK s.heap (prN p.1 p.2) y)(hh:eV w (prN p.1 p.2)=h0)(hS:s.heap.get? S=some (kY #[(h0,y)] ep t))(f1:t.fits 1=true)(g1:t.gaveWay=false)(hp:t.probe (aAj h0) h0 (t.probeStart h0)=some (.candidate j0 0 nx))(h:∀tk,s.toks<=tk->Q false { s with toks:=tk }):wpAny (model prog w) A (setAdd S x) Q E s:=by
 obtain⟨a,its,rfl,ht,hs⟩:=dL (id hi);unfold setAdd;refine wpAny_holding (wpAny_bind (aAA 1 (kX p.1 p.2) hu hi ?_));rw[hh];unfold setAddHashed;refine wpAny_holding ?_;show wpAny _ _ (setAddHashedIn S (.ref a) h0 (99999+1)) _ _ _;unfold setAddHashedIn;refine wpAny_bind (wpAny_setState_of hS rfl f1 ?_);dsimp only;rw[if_neg (show ¬(byScan (.ref a) _=true) by unfold byScan;exact Bool.false_ne_true)];refine wpAny_bind ?_;unfold setSearch;show wpAny _ _ (setSearchFrom S (.ref a) h0 true (99999+1) none) _ _ _;unfold setSearchFrom;refine wpAny_bind (wpAny_setState_of hS rfl f1 ?_);dsimp only;rw[g1,if_neg Bool.false_ne_true];generalize hM:t.probe _ h0 (Option.getD none (t.probeStart h0))=met;obtain rfl:met=some (.candidate j0 0 nx):=hM.symm.trans (by rw[<- hp];exact congrArg (λf=>t.probe f h0 (t.probeStart h0)) (aFx h0 y));dsimp only;generalize hk:(setSearchFrom S (.ref a) h0 true 99999)=bI;have ef:List.map (λx:Int×Value=>x.snd) (Array.filter (λx=>x.fst==h0) #[(h0,y)]).toList=[y]:=by simp
 rw[ef];have eqs:∀s1:Shared,IsK s1.heap (prN p.1 p.2) (.ref a)->IsK s1.heap (prN p.1 p.2) y->∀Q':Bool->Shared->Prop,Q' true s1->wpAny (model prog w) A (eqBool y (.ref a)) Q' E s1:=λs1 i1 i2 Q' q' =>
  aES 1 hu (kX p.1 p.2) (kX p.1 p.2) i2 i1 _ _ _ _ (by rw[vB (kX p.1 p.2) (kX p.1 p.2),decide_eq_true rfl];exact q')
 have fin:∀Q2:SetFound->Shared->Prop,Q2 (.there none) { s with toks:=s.toks+lC (prN p.1 p.2) }->∀k:Bool->(Array (Int×Value)×Nat×SetTable)->Sem SetFound,wpAny (model prog w) A (do
   let equal <- holding [y] (eqBool y (.ref a))
   let z <- setState S
   if (true&&equal)=true then pure (.there none) else k equal z) Q2 E { s with toks:=s.toks+lC (prN p.1 p.2) }:=λQ2 q2 k=>by
  refine wpAny_bind (wpAny_holding (eqs { s with toks:=s.toks+lC (prN p.1 p.2) } hi hy _ ?_));refine wpAny_bind (wpAny_setState_of hS rfl f1 ?_);rw[if_pos (show(true&&true)=true from rfl)];exact wpAny_pure q2
 have last:wpAny (model prog w) A (match SetFound.there none with
   |.free slot wasDummy=>(pure true:Sem Bool)
   |_=>pure false) Q E { s with toks:=s.toks+lC (prN p.1 p.2) }:=wpAny_pure (h _ (Nat.le_add_right ..))
 refine yX (λ_=>?_) λ_=>?_
 ·refine wpAny_bind (aJ2 hi hy ?_);rw[if_neg Bool.false_ne_true];refine fin _ ?_ _;exact wpAny_pure (h _ (Nat.le_add_right ..))
 ·refine fin _ ?_ _;exact wpAny_pure (h _ (Nat.le_add_right ..))
theorem aHH {A:Around}{E:Value->Shared->Prop}{s:Shared}{S:Addr}{p:Nat×Nat}{x y:Value}{ep:Nat}{led:Bool}{Q:Bool->Shared->Prop}(sp:qG p)(hu:A.units+1<cLine)(hi:IsK s.heap (prN p.1 p.2) x)(hy:IsK s.heap (prN p.1 p.2) y)(hS:s.heap.get? S=some (kY #[(hp2 p.1 p.2,y)] ep (hJ (hp2 p.1 p.2) led)))(h:∀tk,s.toks<=tk->Q false { s with toks:=tk }):wpAny (model prog w) A (setAdd S x) Q E s:=by obtain⟨b1,b2⟩:=sp;obtain⟨j0,nx,hp⟩:=aEU (aFd ⟨p.1,b1⟩ ⟨p.2,b2⟩ led);have hh:=aAB (w:=w) p.1 p.2;have f1:(hJ (hp2 p.1 p.2) led).fits 1=true:=aBj _ led;have g1:(hJ (hp2 p.1 p.2) led).gaveWay=false:=aH2 _ led;dsimp only at hp;generalize hp2 p.1 p.2=z at hp hS f1 g1 hh;generalize hJ z led=t at hp hS f1 g1;exact aJq hu hi hy hh hS f1 g1 hp h
theorem oU.len {S:Addr}{h:Heap}{ps:List (Nat×Nat)}(x:oU S h ps)(ok:OkQ ps):∃es ep t,h.get? S=some (kY es ep t)/\es.size=dlP ps/\t.fits es.size=true:=by
 match ps,x,ok with
 |[p],⟨led,x,ep,e,_⟩,_=>exact⟨_,_,_,e,rfl,aBj _ led⟩
 |[p,q],⟨es,ep,t,e,r,f⟩,_=>exact⟨es,ep,t,e,r,f⟩
theorem OkQ.at {ps:List (Nat×Nat)}(ok:OkQ ps){i:Nat}{p:Nat×Nat}(h:ps[i]?=some p):∃bI,ps=ps.take i++p::bI:=by obtain⟨hl,e⟩:=List.getElem?_eq_some_iff.mp h;exact⟨ps.drop (i+1),by rw[<- e,<- List.drop_eq_getElem_cons hl,List.take_append_drop]⟩
theorem aKI {A:Around}{E:Value->Shared->Prop}{s:Shared}{S:Addr}{p:Nat×Nat}{ps:List (Nat×Nat)}{i:Nat}{x:Value}{Q:Bool->Shared->Prop}(ok:OkQ ps)(hp:ps[i]?=some p)(hu:A.units+1<cLine)(hi:IsK s.heap (prN p.1 p.2) x)(hS:oU S s.heap (ps.take i))(h:∀b h' tk,Heap.SameBut S s.heap h'->oU S h' (ps.take (i+1))->s.toks<=tk->Q b { s with heap:=h',toks:=tk }):wpAny (model prog w) A (setAdd S x) Q E s:=by
 match ps,i,ok,hp,hS,h with
 |[_],0,_,rfl,⟨led,hS⟩,h=>exact aCN hu hi hS (h true)
 |[_,_],0,_,rfl,⟨led,hS⟩,h=>exact aCN hu hi hS (h true)
 |[p1,p2],1,ok,rfl,⟨led,y,ep,hS,hy⟩,h =>
  by_cases e:p1=p2
  ·subst e;exact aHH ok.1 hu hi hy hS λtk le=>h false s.heap tk ⟨rfl,λ_ _=>rfl⟩ ⟨_,_,_,hS,(if_pos rfl).symm,aBj _ led⟩ le
  ·exact aHk ok.2 ok.1 e hu hi hS (h true)
theorem aLU {A:Around}{R:Result->Shared->Prop}{I l S:Addr}{items:Array Value}{ps:List (Nat×Nat)}(hh:A.in1.handled=none)(hne:l≠I)(hSI:S≠I)(hSl:S≠l)(hn:items.size=ps.length)(ok:OkQ ps)(hu:A.in1.units+1<cLine) :
  ∀(k i:Nat)(s:Shared),ps.length-i=k->i<=ps.length->s.heap.IsListIter I l i->s.heap.IsList l items->oU S s.heap (ps.take i)->(∀(j:Nat) p v,ps[j]?=some p->items[j]?=some v->IsK s.heap (prN p.1 p.2) v) ->
   (∀s',Moved [S,I] (λa b=>b = a) s s'->oU S s'.heap ps->R (.ok (.ret .none)) s')->codeAny (model prog w) A (.builtin "set.update.loop" ⟨[.ref S,.ref I],[]⟩) R s:=by
 have W:=(Walks.list (prog:=prog) (w:=w) hh I l hne items).toS;intro k
 induction k with
 |zero =>
  intro i s hk hi ht hl hS hK hR;obtain rfl:i=ps.length:=by omega
  refine codeAny_builtin F.entry_set_update_loop ?_;rw[Around.under_plainId F.plain_set_update_loop _];show wpAny _ A.in1 (pyNext (.ref I) >>= _) _ _ s;refine wpAny_bind (W.done s _ _ (by rw[hn];exact⟨ht,hl⟩) λs' hm=>?_);show wpAny _ A.in1 (ret Value.none) _ _ s';have hIt:∃o,s.heap.get? I = some o/\o.cls ≠ .type "tuple":=by obtain⟨o,e,c,_⟩:=ht;exact⟨o,e,by rw[c];decide⟩
  have hSt:∃o,s.heap.get? S = some o/\o.cls ≠ .type "tuple":=by obtain⟨o,e,c⟩:=hS.obj;exact⟨o,e,by rw[c];decide⟩
  refine wpAny_pure (hR s' (hm.mono λb hb=>mem_cons_of_mem _ hb) ?_);rw[take_length] at hS;exact hS.at (λo e=>hm.heap S _ (by simpa using hSI) e) λp v x=>pF x hIt hSt λb o n1 n2 e=>hm.heap b o (by simpa using n1) e
 |succ k ih =>
  intro i s hk hi ht hl hS hK hR;have hlt:i<ps.length:=by omega
  obtain⟨p,hp⟩:∃p,ps[i]?=some p:=⟨_,getElem?_eq_getElem hlt⟩;refine codeAny_builtin F.entry_set_update_loop ?_;rw[Around.under_plainId F.plain_set_update_loop _];show wpAny _ A.in1 (pyNext (.ref I) >>= _) _ _ s;refine wpAny_bind (W.item i s _ _ (by rw[hn];exact hlt) ⟨ht,hl⟩ λv s' hP hst' hm=>?_);have hIt:∃o,s.heap.get? I = some o/\o.cls ≠ .type "tuple":=by obtain⟨o,e,c,_⟩:=ht;exact⟨o,e,by rw[c];decide⟩
  have hSt:∃o,s.heap.get? S = some o/\o.cls ≠ .type "tuple":=by obtain⟨o,e,c⟩:=hS.obj;exact⟨o,e,by rw[c];decide⟩
  have hS':oU S s'.heap (ps.take i):=hS.at (λo e=>hm.heap S _ (by simpa using hSI) e) λp v x=>pF x hIt hSt λb o n1 n2 e=>hm.heap b o (by simpa using n1) e;have hK':∀(j:Nat) p v,ps[j]?=some p->items[j]?=some v->IsK s'.heap (prN p.1 p.2) v:=λj p v a b=>pF (hK j p v a b) hIt hSt λb o n1 n2 e=>hm.heap b o (by simpa using n1) e;show wpAny _ A.in1 (holding [v] (setAdd S v) >>= _) _ _ s';refine wpAny_bind (wpAny_holding ?_);refine aKI ok hp hu (hK' i p v hp hP) hS' λbb h' tk sb hS2 le=>?_;have ne:∀b≠S,∀o,s'.heap.get? b=some o->h'.get? b=some o:=λb n o e=>(sb.2 b n).trans e;obtain⟨t1,l1⟩:=hst';have hIt':∃o,s'.heap.get? I = some o/\o.cls ≠ .type "tuple":=by obtain⟨o,e,c,_⟩:=t1;exact⟨o,e,by rw[c];decide⟩
  have hSt':∃o,s'.heap.get? S = some o/\o.cls ≠ .type "tuple":=by obtain⟨o,e,c⟩:=hS'.obj;exact⟨o,e,by rw[c];decide⟩
  refine wpAny_pure ⟨plainId_quiet F.plain_set_update_loop _,ih (i+1) _ (by omega) hlt (t1.at λo e=>ne I (Ne.symm hSI) o e) (l1.at λo e=>ne l (Ne.symm hSl) o e) hS2 (λj p v a b=>pF (hK' j p v a b) hIt' hSt' λb o n1 n2 e=>ne b n2 o e) λs'' hm'' hS''=>?_⟩;refine hR s'' (Moved.trans (λa b c x y=>y.trans x) ((hm.mono λb hb=>mem_cons_of_mem _ hb).then_heap le λb o hb e=>ne b (λz=>hb (by simp[z])) o e) hm'') hS''
theorem aIQ {A:Around}{E:Value->Shared->Prop}{s:Shared}{S l:Addr}{led:Bool}{items:Array Value}{ps:List (Nat×Nat)}{Q:Value->Shared->Prop}(hh:A.handled=none)(hu:A.units+16<cLine)(hl:s.heap.IsList l items)(hn:items.size=ps.length)(ok:OkQ ps)(hK:∀(j:Nat) p v,ps[j]?=some p->items[j]?=some v->IsK s.heap (prN p.1 p.2) v)(hS:s.heap.get? S=some (kY #[] 0 (.fresh 0 0 led)))(hSl:S≠l)(q:∀(h':Heap)(tk:Nat),oU S h' ps->(∀b o,b≠S->s.heap.get? b=some o->h'.get? b=some o)->Q .none { s with heap:=h',toks:=tk }) :
  codeAny (model prog w) A (.call (.builtin "set.__init__") ⟨[.ref S,.ref l],[]⟩) (wants Q E) s:=by
 have tS:s.TypeIs (.ref S) "set":=⟨_,hS,rfl⟩;refine codeAny_call_builtin F.called_set.init.plain F.entry_set_init (check_set_init_1 tS ?_);obtain⟨⟨c,od,dt,sl⟩,gl,e1,n,e2⟩:=id hl;dsimp only at e1 e2;subst e1 e2;have no1:=F.sub_list_set;have no2:=F.sub_list_frozenset;have no3:(Value.type "list"==Value.type "dict")=false:=by decide
 unfold Builtin.«set.__init__» noKeywords Builtin.Frozenset.updateFrom;generalize ei:pyIter=it
 wp_walk
 subst ei;refine wpAny_pyIter_list hl (wpAny_bind (wpAny_runValue ?_));have nl:l≠s.heap.objs.size:=Nat.ne_of_lt (Heap.lt_size gl);have nS:S≠s.heap.objs.size:=Nat.ne_of_lt (Heap.lt_size hS);have u3:A.units+1+1+1<cLine:=by omega
 refine aLU (ps:=ps) (items:=items) (by simp[hh]) nl nS hSl hn ok (by simpa using u3) (ps.length-0) 0 _ rfl (Nat.zero_le _) ⟨_,Heap.get?_push_size _ rfl,rfl,rfl⟩ (hl.push _) ⟨led,Heap.get?_push_of_some _ hS⟩
  (λj p v a b=>(hK j p v a b).keep λa its ⟨o,ho,r⟩=>⟨o,Heap.get?_push_of_some _ ho,r⟩) λs' mv st=>?_
 obtain⟨h',g',d',tk',os'⟩:=s';obtain rfl:g'=s.gens:=mv.gens;obtain rfl:d'=s.drawn:=mv.drawn;obtain rfl:os'=s.os:=mv.os;refine wpAny_pure (wpAny_pure (q h' tk' st λb o nb e=>mv.heap b o ?_ (Heap.get?_push_of_some _ e)));intro z;simp only[mem_cons,not_mem_nil,or_false] at z;rcases z with z|z
 ·exact nb z
 ·exact absurd (Heap.lt_size e) (by rw[z];exact Nat.lt_irrefl _)
theorem aDH {A:Around}{E:Value->Shared->Prop}{s:Shared}{l:Addr}{items:Array Value}{ps:List (Nat×Nat)}{Q:Value->Shared->Prop}(hh:A.handled=none)(hu:A.units+20<cLine)(hl:s.heap.IsList l items)(hn:items.size=ps.length)(ok:OkQ ps)(hK:∀(j:Nat) p v,ps[j]?=some p->items[j]?=some v->IsK s.heap (prN p.1 p.2) v)(q:∀(h':Heap)(tk:Nat),oU s.heap.objs.size h' ps->(∀b o,s.heap.get? b=some o->h'.get? b=some o)->Q (.ref s.heap.objs.size) { s with heap:=h',toks:=tk }) :
  wpAny (model prog w) A (call (.type "set") [.ref l]) Q E s:=by
 obtain⟨c,tl,hmro⟩:=F.called_set.mro;have a1:=F.called_set.made;have a2:=F.called_set.sub;have a3:=F.called_set.notType;have a4:=F.called_set.canCreate;have a5:=F.typeCall_set_1 (.ref l);have lt:l<s.heap.objs.size:=let ⟨_,g,_⟩:=hl;Heap.lt_size g
 refine wpAny_call (codeAny_of_tree (wpAny_pure ⟨Code.quiet_builtin _ (by decide +kernel),codeAny_builtin F.entry_type_call ?_⟩));rw[Around.under_plain (weight_type_call_type "set" [.ref l] []) rfl];repeat (any_goals (first|assumption|wp_step))
 refine codeAny_mono (code_set_new_1 (.ref l) (E:=E) (Q₁:=λobj s₁=>∃led:Bool,obj=.ref s.heap.objs.size/\s₁ = { s with heap:=s.heap.push (kY #[] 0 (.fresh 0 0 led)) }) λled=>⟨led,rfl,rfl⟩) λr s₁ hr=>?_
 match r,hr with
 |.error e,hr=>exact hr
 |.ok (.ret obj),⟨led,e1,e2⟩ =>
  subst e1 e2;have hS:(s.heap.push (kY #[] 0 (.fresh 0 0 led))).get? s.heap.objs.size=some (kY #[] 0 (.fresh 0 0 led)):=Heap.get?_push_size _ rfl;have tS:Shared.TypeIs { s with heap:=s.heap.push (kY #[] 0 (.fresh 0 0 led)) } (.ref s.heap.objs.size) "set":=⟨_,hS,rfl⟩;have b1:=F.called_set.init.lookup;have b2:=F.called_set.init.bind (.ref s.heap.objs.size);repeat (any_goals (first|assumption|wp_step))
  refine codeAny_mono (aIQ (S:=s.heap.objs.size) (led:=led) (E:=E) (Q:=λr s₂=>r=.none/\∃h' tk,s₂ = { s with heap:=h',toks:=tk }/\oU s.heap.objs.size h' ps/\∀b o,s.heap.get? b=some o->h'.get? b=some o) (by simp[hh]) (by have u:A.units+1+16<cLine:=(by omega);simpa using u) (hl.push _) hn ok
   (λj p v a b=>(hK j p v a b).keep λa its ⟨o,ho,r⟩=>⟨o,Heap.get?_push_of_some _ ho,r⟩) hS (Nat.ne_of_gt lt) λh' tk st k=>⟨rfl,h',tk,rfl,st,λb o e=>k b o (Nat.ne_of_lt (Heap.lt_size e)) (Heap.get?_push_of_some _ e)⟩) λr₂ s₂ hr₂=>?_
  match r₂,hr₂ with
  |.error e,hr₂=>exact hr₂
  |.ok (.ret r),⟨e1,h',tk,e2,st,k⟩ =>
   subst e1 e2;repeat (any_goals (first|assumption|wp_step))
   exact q _ _ st k
end
section
variable {X:Cx}{e:Expr}{te:DE}{k:Nat}
def aKW (K:Frag):List V->Hp->VK->Prop:=λxs H Q=>∃a M ps,xs=[.ref a]/\bO K M H/\M (.l a)=some (prs ps)/\OkQ ps/\∀p,H p=none->Q (.ref p) (upd H p (.ext (aGe p (dlP ps))))
theorem aHz (hr:cQ k X.A)(hc:X.calm = true):kS X (.type "set") (aKW X.K):=by
 intro pins s σ H xs us Q I rs ⟨a,M,ps,e,hm,ha,ok,q⟩;subst e;obtain⟨u,r,rfl,ru,rr⟩:∃u r,us=u::r/\bM (.ref a) u/\bT [] r:=by cases rs with|cons r t=>exact⟨_,_,rfl,r,t⟩
 cases rr;cases ru;obtain⟨vs,hH,hrs⟩:=hm.l a _ ha;obtain⟨lz,its,n,rv,hg⟩:=I.hok a _ hH;have hk:(prs ps).all (iP 1)=true:=by unfold prs;rw[all_map,List.all_eq_true];exact λp _=>rfl
 have hks:=aAK I hk hrs rv;have hlen:its.length=ps.length:=by have e1:=rv.length;have e2:=hrs.length;unfold prs at e2;rw[length_map] at e2;omega
 have hu:X.A.units+20<cLine:=Nat.lt_of_le_of_lt (Nat.add_le_add_left (by decide:20<=64) _) hr.units;refine aDH (ps:=ps) (items:=its.toArray) (I.ok.hd hc) hu ⟨_,hg,rfl,n,rfl⟩ (by simpa using hlen) ok (λj p v hj hv=>aCx hks (by unfold prs;rw[getElem?_map,hj];rfl) (by simpa using hv)) λh' tk st kp=>?_;obtain⟨es,ep,t,e1,e2,e3⟩:=st.len ok;exact⟨.ref s.heap.objs.size,_,I.laid (t':=tk) kp (Nat.le_refl _) (aGg ⟨es,ep,t,e1,e2,e3⟩),rfl,q _ (I.hok.fresh (Nat.le_refl _))⟩
def vL (te:DE):DE:=λρ M Q=>te ρ M λx M1=>∃a ps,x=.ref a/\M1 (.l a)=some (prs ps)/\OkQ ps/\Q (.int (dlP ps:Nat)) M1
theorem aHv {ps:List (Nat×Nat)}(ok:OkQ ps):dlP ps<=1000:=by
 match ps,ok with
 |[_],_=>exact Nat.le_of_ble_eq_true rfl
 |[p,q],_=>show(if p=q then 1 else 2)<=1000;split<;>decide
theorem aBL {p1 p2 p3 p4:Pos}(hr:cQ k X.A)(hc:X.calm = true)(h1:X.mg "len" = none)(h2:X.mg "set" = none)(he:PDE X e te)(hg1:Gl X "len":=by rfl)(hg2:Gl X "set":=by rfl)(hs1:starEach [.Call (.Name "set" p2) [e] [] p3] X.env = [(false,eval (.Call (.Name "set" p2) [e] [] p3) X.env)]:=by rfl)(hs2:starEach [e] X.env=[(false,eval e X.env)]:=by rfl) :
  PDE X (.Call (.Name "len" p1) [.Call (.Name "set" p2) [e] [] p3] [] p4) (vL te):=by
 have A1:PA X [e] (aHT (low X.K te) aIO):=rP he zU hs2;have A2:=xY (T:="set") (x:="set") (p:=p2) (pos:=p3) (aHz hr hc) hg2 h2 rfl A1 (by decide) (by decide) hs2 rfl;have A3:=wK (id:="len") (x:="len") (p:=p1) (pos:=p4) aHC hg1 h1 rfl (rP A2 zU hs1) (by decide) (by decide) hs1 rfl;refine cH A3 λσ H Q ⟨ρ,M,Q',re,hm,q,kq⟩=>⟨ρ,M,_,re,hm,q,λv H1 ⟨d,M1,rd,hm1,ex,a,ps,e1,ha,ok,q1⟩=>?_⟩;subst e1;refine⟨a,M1,ps,by rw[aX rd],hm1,ha,ok,λp hp=>⟨p,dlP ps,rfl,cP,aHv ok,kq _ _ ⟨.int (dlP ps:Nat),M1,cA,hm1.new hp _,ex.trans (Ext.new hp _),q1⟩⟩⟩
end
def aHO (g:Bool->Bool):D2:=λx y M Q=>match y with
 |.tup ys=>∃(pts:List (Rat×Rat)) (u v:Rat),x=PQ u v/\ys=(pts.map λp=>PQ p.1 p.2)/\Q (.bl (g (pts.any λp=>decide (p.1=u/\p.2=v)))) M
 |_=>False
section
variable {X:Cx}
theorem aBO {k:Nat}(hr:cQ k X.A):OpD X (compareOp .NotIn) (aHO not):=λpins s σ H x y v u Q I rx ry ⟨dx,dy,M,Q',r1,r2,hm,q,k⟩=>by
 cases dy with
 |tup ys =>
  obtain⟨pts,p,p',rfl,rfl,q⟩:=q;obtain⟨a,us,rfl,sq,ru⟩:=bE r2;obtain⟨its,rv,ht⟩:=gK I sq;cases ry;have un:=hr.un;refine SeqAt.notIn_tupleAt (ptE X.K H p p') ht (λy hy=>aET I (by show X.A.units+1+60<cLine;omega) rx r1 ru rv y (by simpa using hy)) ?_;rw[<- Array.any_toList,aEN I ru rv];exact⟨.bl _,H,I,rfl,k _ H ⟨_,M,dR,hm,.refl H,q⟩⟩
 |_=>exact q.elim
end
section
variable {X:Cx}{e:Expr}{te:DE}{k:Nat}
theorem aBd {p1 p2 p3 p4:Pos}(hr:cQ k X.A)(hc:X.calm = true)(h1:X.mg "len" = none)(h2:X.mg "set" = none)(he:ZE X e te)(hg1:Gl X "len":=by rfl)(hg2:Gl X "set":=by rfl)(hs1:starEach [.Call (.Name "set" p2) [e] [] p3] X.env = [(false,eval (.Call (.Name "set" p2) [e] [] p3) X.env)]:=by rfl)(hs2:starEach [e] X.env = [(false,eval e X.env)]:=by rfl):ZE X (.Call (.Name "len" p1) [.Call (.Name "set" p2) [e] [] p3] [] p4) (vL te):=.i (aBL hr hc h1 h2 he.o hg1 hg2 hs1 hs2)
end
end Dd
namespace Lw
open PySem PySem.Spec PyProof.Rows L2 Dd Mz
local macro_rules | `(tactic|ac_rfl) => `(tactic|exact ⟨rfl,rfl,rfl,by decide +kernel,rfl,by decide +kernel,by decide +kernel⟩)
local macro_rules|`(tactic|ac_nf)=>do
 let l←("vL aHO aJs aFy aCQ aFi aMI aJp aGC aIN aLX aMh aLH aMP aMq aNg aJd aLh aMp aIj aFP aL1 aEy aMD aMj aML aMw aHM aMk aEC aJI aHW aLz aEi aJ5 aNu aNz aMi aM9 aH0 aM5 aNk aNo aNj aNb aLt aL0 aF6 aHy aLW aKJ aMb aNw aL7 aLV aNB aFm aFf aJg aFH aJh aKX aLb aKY jT aH7 List.map List.length_cons List.length_nil Nat.reduceAdd Nat.reduceSub List.reduceReplicate List.cons_append List.nil_append List.set_cons_zero List.set_cons_succ List.getElem?_cons_zero List.getElem?_cons_succ gCn gN gNl aJj aJc aMl aMu aMd aLg aMx aMB aK6 aHD aHo aHF aFV aJC aHK aHg aHG aHe aHl aHh aHt ixT ixF aNF aLk aK1 aLw aL2 aI9 nF iM nL dOp aBV dC d2I d2J aMz yZ aKz dOr aJG aD1 aKA aF3 aJy aIL aJk aER aIs aEH aKk aBR aDP aKR aF2 aFQ aFl qJ aEv aGS nA aJM aI1 aFs goC aLc aMC tM Option.join_some aLR aIz aJz dPt aL6 dSl aKK aF1 aAL aAk aLB aEt aL5 aB7 aCR aE6 aNC aKT aGD aJV aKC aJJ aH6 aKG aIZ aJN aJ7 aJx aI2 aI3 aJH aKt aI4 aJY aJK aKS aIl aIV aJw aJe aKH aJU aIc aIx aKN aKD".splitOn " ").toArray.mapM λx=>`(Lean.Parser.Tactic.simpLemma|$(Lean.mkIdent x.toName):term)
 `(tactic|try dsimp only[$l,*])
local macro_rules|`(tactic|simp_arith)=>do
 let l←("aIu lE aKh cE aQ id decide_eq_true_eq Bool.not_eq_true' decide_eq_false_iff_not".splitOn " ").toArray.mapM λx=>`(Lean.Parser.Tactic.simpLemma|$(Lean.mkIdent x.toName):term)
 `(tactic|try simp only[$l,*])
noncomputable def top (i:Nat):Stmt:=PySem.Challenge.pw_arcmill_k88_whole_what_is_let_by_is_so.main.body.getD i (.Pass ⟨0,0,0,0⟩)
noncomputable def aAg (j:Nat):Stmt->Stmt
 |.ClassDef _ _ _ body _ _ _ _ _ _ _=>body.getD j (.Pass ⟨0,0,0,0⟩)
 |s=>s
section
variable {P:Program}{w:World}{K:Frag}{mg:Str->Option Value}{base:Heap}
noncomputable abbrev fU:Stmt:=top 5
theorem iY:aS ["one","other"] ["one","other"] (aI fU):=by ac_rfl
theorem oE (hF:cK K mg "greatest_divisor" fU ["one","other"])(aD3:mg "abs" = none):Has P w K mg base 101 "greatest_divisor" ["one","other"] eB:=by
 refine Has.mkZ hF iY (λds M Q ⟨a,b,e,_⟩=>by rw[e];rfl) λf cdv A outer s H ds M Q E hr h=>?_;obtain⟨a,b,rfl,q⟩:=h;refine⟨_,(aF (tD PassesOwn.never (aR (nJ hr) (aB 1) aC) (aH (aCL (i:=0) (j:=1) rfl iY.nd (aA (aB 1) (aA (aM mS (aB 0) (aB 1)) aD)))))
  (aH (aJ (bV aI0 aD3 (aA (aB 0) aD))))),?_⟩
 refine tK (λm ρ M'=>M'=M/\∃x y:Int,ρ=[some (.int x),some (.int y)]/\m=y.natAbs/\Int.gcd x y=Int.gcd a b) _ ⟨rfl,a,b,rfl,rfl,rfl⟩ ?_;rintro m ρ M' ⟨rfl,x,y,rfl,rfl,g⟩;refine⟨rfl,rfl,nE (λc=>?_) (λc=>?_)⟩
 ·have c:y≠0:=by simpa[eqD] using c
  exact⟨c,_,aG7 c,rfl,y,x.fmod y,rfl,rfl,(aFn x y).trans g⟩
 ·have c:y=0:=by simpa[eqD] using c
  subst c;refine⟨M',.refl _,?_⟩;have e:(if x<0 then -x else x)=(Int.gcd a b:Int):=by rw[<- g,Int.gcd_zero_right];split<;>omega
  rw[e];exact q
noncomputable abbrev aCv:Stmt:=top 7
theorem sF:aS ["one","other","shared","part","top","left"] ["one","other"] (aI aCv):=by ac_rfl
theorem aFg (hF:cK K mg "plus" aCv ["one","other"])(bF:Has P w K mg base 101 "greatest_divisor" ["one","other"] eB):Has P w K mg base 102 "plus" ["one","other"] rS:=by
 refine Has.mkZ hF sF vC λf cdv A outer s H ds M Q E hr h=>?_;obtain⟨p,r,m,n,rfl,_,h1,h2,l,q⟩:=h;refine⟨_,(aF (aU (i:=2) sF.nd (aE bF hr (by decide) (aA (aG (aB 0) aC) (aA (aG (aB 1) aC) aD))))
  (aF (aU (i:=3) sF.nd (aM eQ (aG (aB 0) aC) (aB 2)))
  (aF (aU (i:=4) sF.nd (aM eD (aM bW (aG (aB 0) aC) (aM eQ (aG (aB 1) aC) (aB 2))) (aM bW (aG (aB 1) aC) (aB 3))))
  (aF (aU (i:=5) sF.nd (aE bF hr (by decide) (aA (aB 4) (aA (aB 2) aD))))
  (aH (aJ (aK (aA (aM eQ (aB 4) (aB 5)) (aA (aM bW (aB 3) (aM eQ (aG (aB 1) aC) (aB 5))) aD))))))))),?_⟩
 obtain⟨g0,l0,gd,ld,e1,e2⟩:=aNE p r _ _ _ _ rfl rfl rfl rfl;have gr:(Int.gcd p.den r.den:Int)∣(r.den:Int):=Int.gcd_dvd_right _ _;have bg:Bd m (Int.gcd p.den r.den:Int):=h1.2.dvd gd (eF p);refine⟨_,_,rfl,aBs h1.2 (by omega) gd (eF p) g0,aBs h1.2 (by omega) gd (eF p) g0,dD h1.1 (h2.2.fdiv gr) (by omega),dD h2.1 (h1.2.fdiv gd) (by omega),_,_,rfl,?_⟩;refine⟨aBs bg (by omega) ld g0 l0,aBs bg (by omega) ld g0 l0,dD (h1.2.fdiv gd) (h2.2.fdiv (Int.dvd_trans ld gr)) (by omega),by show(2:Nat)<=1000;decide,M,.refl _,?_⟩;have q':Q (.tup [.int (p+r).num,.int ((p+r).den:Int)]) M:=q;rw[<- e1,<- e2] at q';exact q'
noncomputable abbrev aAa:Stmt:=top 8
theorem aEK:aS ["one","other"] ["one","other"] (aI aAa):=by ac_rfl
theorem aDx (hF:cK K mg "minus" aAa ["one","other"])(lL:Has P w K mg base 102 "plus" ["one","other"] rS):Has P w K mg base 103 "minus" ["one","other"] oK:=by refine Has.mkZ hF aEK vC λf cdv A outer s H ds M Q E hr h=>?_;obtain⟨p,r,m,n,rfl,_,h1,h2,l,q⟩:=h;refine⟨_,(aH (aJ (aE lL hr (by decide) (aA (aB 0) (aA (aK (aA (dM (aG (aB 1) aC)) (aA (aG (aB 1) aC) aD))) aD))))),?_⟩;refine⟨by show(2:Nat)<=1000;decide,p,-r,m,n,by rw[zS],trivial,h1,h2.neg,l,M,.refl _,?_⟩;show Q (FQ (p + -r)) M;rw[<- Rat.sub_eq_add_neg];exact q
noncomputable abbrev zP:Stmt:=top 9
theorem vZ:aS ["one","other","falling","rising"] ["one","other"] (aI zP):=by ac_rfl
theorem aDq (hF:cK K mg "times" zP ["one","other"])(bF:Has P w K mg base 101 "greatest_divisor" ["one","other"] eB):Has P w K mg base 102 "times" ["one","other"] jN:=by
 refine Has.mkZ hF vZ vC λf cdv A outer s H ds M Q E hr h=>?_;obtain⟨p,r,m,n,rfl,_,h1,h2,l,q⟩:=h;refine⟨_,(aF (aU (i:=2) vZ.nd (aE bF hr (by decide) (aA (aG (aB 0) aC) (aA (aG (aB 1) aC) aD))))
  (aF (aU (i:=3) vZ.nd (aE bF hr (by decide) (aA (aG (aB 1) aC) (aA (aG (aB 0) aC) aD))))
  (aH (aJ (aK (aA (aM bW (aM eQ (aG (aB 0) aC) (aB 2)) (aM eQ (aG (aB 1) aC) (aB 3))) (aA (aM bW (aM eQ (aG (aB 0) aC) (aB 3)) (aM eQ (aG (aB 1) aC) (aB 2))) aD))))))),?_⟩
 obtain⟨f0,r0,fd,rd,e1,e2⟩:=aMS p r _ _ rfl rfl;have fl:(Int.gcd p.num r.den:Int)∣p.num:=Int.gcd_dvd_left _ _;have rl:(Int.gcd r.num p.den:Int)∣r.num:=Int.gcd_dvd_left _ _;refine⟨_,_,rfl,_,_,rfl,aBs h2.2 (by omega) fd (eF r) f0,aBs h1.2 (by omega) rd (eF p) r0,dD (h1.1.fdiv fl) (h2.1.fdiv rl) (by omega),aBs h1.2 (by omega) rd (eF p) r0,aBs h2.2 (by omega) fd (eF r) f0,dD (h1.2.fdiv rd) (h2.2.fdiv fd) (by omega),by show(2:Nat)<=1000;decide,M,.refl _,?_⟩;have q':Q (.tup [.int (p*r).num,.int ((p*r).den:Int)]) M:=q;rw[<- e1,<- e2] at q';exact q'
def aA6:DSp:=λds M Q=>∃t b,ds=[.int t,.int b]/\b≠0/\Bd 8999 b/\Q (FQ ((t:Rat)/(b:Rat))) M
noncomputable abbrev aAF:Stmt:=top 6
theorem wU:aS ["top","bottom","shared"] ["top","bottom"] (aI aAF):=by ac_rfl
theorem aDl (hF:cK K mg "ratio" aAF ["top","bottom"])(bF:Has P w K mg base 101 "greatest_divisor" ["one","other"] eB):Has P w K mg base 102 "ratio" ["top","bottom"] aA6:=by
 refine Has.mkZ hF wU (λds M Q ⟨a,b,e,_⟩=>by rw[e];rfl) λf cdv A outer s H ds M Q E hr h=>?_;obtain⟨t,b,rfl,hb,hB,q⟩:=h;refine⟨_,(aF (bA (aR (bR hr) (aB 1) aC) (aH aDn) aP)
  (aF (aU (i:=2) wU.nd (aE bF hr (by decide) (aA (aB 0) (aA (aB 1) aD))))
  (aF (bA (aR uK (aB 1) aC) (aH (aU (i:=2) wU.nd (dM (aB 2)))) aP)
  (aH (aJ (aK (aA (aM eQ (aB 0) (aB 2)) (aA (aM eQ (aB 1) (aB 2)) aD)))))))),?_⟩
 refine⟨rfl,rfl,nE (λc=>absurd (by simpa[eqD] using c) hb) (λ_=>?_)⟩;refine⟨t,b,rfl,?_⟩;have fin:Q (.tup [.int (fT t b),.int (fB t b)]) M:=by rw[aHa hb];exact q
 unfold fT fB at fin;have s1:=aLZ (t:=t) hb;have s2:=(hB.sg (t:=t) hb).log (by decide);unfold sg at fin s1 s2;refine dif (λc=>?_) (λc=>?_)
 ·rw[if_pos c] at fin s1 s2;exact⟨⟨s1,Nat.lt_succ_of_lt s2⟩,⟨s1,Nat.lt_succ_of_lt s2⟩,by show(2:Nat)<=1000;decide,M,.refl _,fin⟩
 ·rw[if_neg c] at fin s1 s2;exact⟨⟨s1,Nat.lt_succ_of_lt s2⟩,⟨s1,Nat.lt_succ_of_lt s2⟩,by show(2:Nat)<=1000;decide,M,.refl _,fin⟩
noncomputable abbrev aAo:Stmt:=top 10
theorem aFb:aS ["one","other"] ["one","other"] (aI aAo):=by ac_rfl
theorem aDW (hF:cK K mg "below" aAo ["one","other"]):Has P w K mg base 101 "below" ["one","other"] aBD:=by refine Has.mkZ hF aFb vC λf cdv A outer s H ds M Q E hr h=>?_;obtain⟨p,r,m,n,rfl,_,h1,h2,l,q⟩:=h;refine⟨_,(aH (aJ (cN uK (aM bW (aG (aB 0) aC) (aG (aB 1) aC)) (aM bW (aG (aB 1) aC) (aG (aB 0) aC))))),?_⟩;refine⟨dD h1.1 h2.2 (by omega),dD h2.1 h1.2 (by omega),M,.refl _,?_⟩;have e:decide (p.num*(r.den:Int)<r.num*(p.den:Int))=decide (p<r):=decide_eq_decide.mpr (ltQ p r);show Q (.bl (decide (p.num*(r.den:Int)<r.num*(p.den:Int)))) M;rw[e];exact q
noncomputable abbrev qW:Stmt:=top 13
theorem aBk:aS ["p","q"] ["p","q"] (aI qW):=by ac_rfl
theorem zM (hF:cK K mg "together" qW ["p","q"])(lL:Has P w K mg base 102 "plus" ["one","other"] rS):Has P w K mg base 104 "together" ["p","q"] cV:=by refine Has.mkZ hF aBk (λds M Q ⟨x,y,u,v,e,_⟩=>by rw[e];rfl) λf cdv A outer s H ds M Q E hr h=>?_;obtain⟨x,y,u,v,rfl,h1,h2,h3,h4,q⟩:=h;refine⟨_,(aH (aJ (aK (aA (aE lL hr (by decide) (aA (aG (aB 0) aC) (aA (aG (aB 1) aC) aD))) (aA (aE lL hr (by decide) (aA (aG (aB 0) aC) (aA (aG (aB 1) aC) aD))) aD))))),?_⟩;exact⟨x,u,_,_,rfl,trivial,h1,h3,by decide,y,v,_,_,rfl,trivial,h2,h4,by decide,by show(2:Nat)<=1000;decide,M,.refl _,q⟩
noncomputable abbrev aEe:Stmt:=top 14
theorem aJm:aS ["p","q"] ["p","q"] (aI aEe):=by ac_rfl
theorem aHI (hF:cK K mg "off" aEe ["p","q"])(iG:Has P w K mg base 103 "minus" ["one","other"] oK):Has P w K mg base 104 "off" ["p","q"] sZ:=by refine Has.mkZ hF aJm (λds M Q ⟨x,y,u,v,e,_⟩=>by rw[e];rfl) λf cdv A outer s H ds M Q E hr h=>?_;obtain⟨x,y,u,v,rfl,h1,h2,h3,h4,q⟩:=h;refine⟨_,(aH (aJ (aK (aA (aE iG hr (by decide) (aA (aG (aB 0) aC) (aA (aG (aB 1) aC) aD))) (aA (aE iG hr (by decide) (aA (aG (aB 0) aC) (aA (aG (aB 1) aC) aD))) aD))))),?_⟩;exact⟨x,u,_,_,rfl,trivial,h1,h3,by decide,y,v,_,_,rfl,trivial,h2,h4,by decide,by show(2:Nat)<=1000;decide,M,.refl _,q⟩
def wQ:DSp:=λds M Q=>∃x y r m n,ds=[PQ x y,FQ r]/\BQ m x/\BQ m y/\BQ n r/\m+n<=8998/\Q (PQ (x*r) (y*r)) M
noncomputable abbrev aAi:Stmt:=top 15
theorem aEq:aS ["p","number"] ["p","number"] (aI aAi):=by ac_rfl
theorem aDO (hF:cK K mg "grown" aAi ["p","number"])(cS:Has P w K mg base 102 "times" ["one","other"] jN):Has P w K mg base 103 "grown" ["p","number"] wQ:=by refine Has.mkZ hF aEq (λds M Q ⟨x,y,r,m,n,e,_⟩=>by rw[e];rfl) λf cdv A outer s H ds M Q E hr h=>?_;obtain⟨x,y,r,m,n,rfl,h1,h2,h3,l,q⟩:=h;refine⟨_,(aH (aJ (aK (aA (aE cS hr (by decide) (aA (aG (aB 0) aC) (aA (aB 1) aD))) (aA (aE cS hr (by decide) (aA (aG (aB 0) aC) (aA (aB 1) aD))) aD))))),?_⟩;ac_nf;exact⟨x,r,_,_,rfl,trivial,h1,h3,l,y,r,_,_,rfl,trivial,h2,h3,l,by decide,M,.refl _,q⟩
def yE:DSp:=λds M Q=>∃x y z,ds=[PQ x y,.int z]/\Q (PQ (rq x y (z.fmod 4).toNat).1 (rq x y (z.fmod 4).toNat).2) M
noncomputable abbrev wY:Stmt:=top 16
theorem jI:aS ["p","quarters","x","y","left"] ["p","quarters"] (aI wY):=by ac_rfl
theorem aCj (hF:cK K mg "turned" wY ["p","quarters"]):Has P w K mg base 101 "turned" ["p","quarters"] yE:=by
 refine Has.mkZ hF jI (λds M Q ⟨x,y,z,e,_⟩=>by rw[e];rfl) λf cdv A outer s H ds M Q E hr h=>?_;obtain⟨x,y,z,rfl,q⟩:=h;refine⟨_,(aF (dF (aB 0) (dI (n:=2) rfl (aV (aO (i:=2) jI.nd) (aV (aO (i:=3) jI.nd) cW))))
  (aF (aU (i:=4) jI.nd (aM mS (aB 1) aC))
  (aF (tD PassesOwn.never (aR aAT (aB 4) aC) (aF (aCL (i:=2) (j:=3) rfl jI.nd (aA (aK (aA (dM (aG (aB 3) aC)) (aA (aG (aB 3) aC) aD))) (aA (aB 2) aD)))
  (aH (aBc (i:=4) aFM jI.nd aC))))
  (aH (aJ (aK (aA (aB 2) (aA (aB 3) aD)))))))),?_⟩
 ac_nf;refine⟨rfl,by decide,?_⟩;have z0:=Int.fmod_nonneg_of_pos z (show(0:Int)<4 by decide);generalize hk:(z.fmod 4).toNat=k at q;have ek:z.fmod 4=(k:Int):=by omega
 rw[ek];refine tK (λm ρ M'=>M'=M/\∃j,j+m=k/\ρ=[some (PQ x y),some (.int z),some (FQ (rq x y j).1),some (FQ (rq x y j).2),some (.int (m:Int))]) k ⟨rfl,0,by omega,rfl⟩ ?_;rintro m ρ M' ⟨rfl,j,hj,rfl⟩;ac_nf;refine dif (λc=>?_) (λc=>?_)
 ·obtain⟨m',rfl⟩:∃m',m=m'+1:=⟨m-1,by omega⟩;refine⟨by decide,m',by omega,rfl,j+1,by omega,?_⟩;rw[zS,show((m'+1:Nat):Int)-1=(m':Int) by omega];rfl
 ·have:m=0:=by omega
  subst this;have:j=k:=by omega
  subst this;exact⟨by decide,M',.refl _,q⟩
noncomputable def oD (x y:Rat):Int:=if (x.den:Int)=(y.den:Int) then (x.den:Int) else (x.den:Int)*(y.den:Int)
noncomputable def oX (x y:Rat):Int:=if (x.den:Int)=(y.den:Int) then x.num else x.num*(y.den:Int)
noncomputable def oY (x y:Rat):Int:=if (x.den:Int)=(y.den:Int) then y.num else y.num*(x.den:Int)
theorem sM (x y:Rat):0<oD x y:=by
 have h1:(0:Int)<x.den:=by have:=x.den_pos;omega
 have h2:(0:Int)<y.den:=by have:=y.den_pos;omega
 unfold oD;split
 ·exact h1
 ·exact Int.mul_pos h1 h2
theorem aAZ (x y:Rat):((oX x y:Int):Rat)=x*(oD x y:Int):=by
 have e:=gO x;unfold oX oD;split
 ·rw[e]
 ·rw[Rat.intCast_mul,Rat.intCast_mul,e];grind
theorem aAY (x y:Rat):((oY x y:Int):Rat)=y*(oD x y:Int):=by
 have e:=gO y;unfold oY oD;split
 ·rename_i h;rw[e,h]
 ·rw[Rat.intCast_mul,Rat.intCast_mul,e];grind
theorem zH {x y:Rat}{n:Nat}(hx:BQ n x)(hy:BQ n y):Bd (n+n) (oX x y)/\Bd (n+n) (oY x y)/\Bd (n+n) (oD x y):=by
 unfold oX oY oD;refine⟨?_,?_,?_⟩
 ·split
  ·exact hx.1.mono (by omega)
  ·exact hx.1.mul hy.2
 ·split
  ·exact hy.1.mono (by omega)
  ·exact hy.1.mul hx.2
 ·split
  ·exact hx.2.mono (by omega)
  ·exact hx.2.mul hy.2
def eZ:DSp:=λds M Q=>∃x y n,ds=[PQ x y]/\BQ n x/\BQ n y/\n<=8998/\Q (.tup [.int (oX x y),.int (oY x y),.int (oD x y)]) M
noncomputable abbrev iW:Stmt:=top 17
theorem hE:aS ["p","x","y"] ["p"] (aI iW):=by ac_rfl
theorem rB (hF:cK K mg "on_one_bottom" iW ["p"]):Has P w K mg base 101 "on_one_bottom" ["p"] eZ:=by
 refine Has.mkZ hF hE (λds M Q ⟨x,y,n,e,_⟩=>by rw[e];rfl) λf cdv A outer s H ds M Q E hr h=>?_;obtain⟨x,y,n,rfl,hx,hy,hn,q⟩:=h;refine⟨_,(aF (dF (aB 0) (dI (n:=2) rfl (aV (aO (i:=1) hE.nd) (aV (aO (i:=2) hE.nd) cW))))
  (aF (bA (aR (bR hr) (aG (aB 1) aC) (aG (aB 2) aC)) (aH (aJ (aK (aA (aG (aB 1) aC) (aA (aG (aB 2) aC) (aA (aG (aB 1) aC) aD)))))) aP)
  (aH (aJ (aK (aA (aM bW (aG (aB 1) aC) (aG (aB 2) aC)) (aA (aM bW (aG (aB 2) aC) (aG (aB 1) aC)) (aA (aM bW (aG (aB 1) aC) (aG (aB 2) aC)) aD)))))))),?_⟩
 unfold oX oY oD at q;ac_nf;rw[cE];refine⟨rfl,dif (λc=>?_) (λc=>?_)⟩
 ·rw[if_pos c,if_pos c,if_pos c] at q;exact⟨by decide,M,.refl _,q⟩
 ·rw[if_neg c,if_neg c,if_neg c] at q;exact⟨dD hx.1 hy.2 (by omega),dD hy.1 hx.2 (by omega),dD hx.2 hy.2 (by omega),by decide,M,.refl _,q⟩
def vF:DSp:=λds M Q=>∃i,ds=[.int i]/\Q (.int (if 0<i then 1 else if i=0 then 0 else -1)) M
noncomputable abbrev aCl:Stmt:=top 19
theorem aGE:aS ["number"] ["number"] (aI aCl):=by ac_rfl
theorem aEQ (hF:cK K mg "sign" aCl ["number"]):Has P w K mg base 101 "sign" ["number"] vF:=by
 refine Has.mkZ hF aGE (λds M Q ⟨x,e,_⟩=>by rw[e];rfl) λf cdv A outer s H ds M Q E hr h=>?_;obtain⟨i,rfl,q⟩:=h;refine⟨_,(aF (bA (aR aAT (aB 0) aC) (aH (aJ aC)) aP)
  (aH (aJ (yL (aR (bR hr) (aB 0) aC) aC (dM aC))))),?_⟩
 ac_nf;refine dif (λc=>?_) (λc=>?_)
 ·rw[if_pos c] at q;exact⟨M,.refl _,q⟩
 ·rw[if_neg c] at q;rw[cE];refine dif (λd=>?_) (λd=>?_)
  ·rw[if_pos d] at q;exact⟨M,.refl _,q⟩
  ·rw[if_neg d] at q;exact⟨M,.refl _,q⟩
noncomputable def fS (cx cy px py:Rat):Int:=(oX px py*oD cx cy-oX cx cy*oD px py)*(oX px py*oD cx cy-oX cx cy*oD px py)+(oY px py*oD cx cy-oY cx cy*oD px py)*(oY px py*oD cx cy-oY cx cy*oD px py)
theorem aHQ (cx cy px py:Rat):((fS cx cy px py:Int):Rat)=((px-cx)*(px-cx)+(py-cy)*(py-cy))*(((oD cx cy:Int):Rat)*((oD px py:Int):Rat))*(((oD cx cy:Int):Rat)*((oD px py:Int):Rat)):=by unfold fS;simp only[Rat.intCast_add,Rat.intCast_mul,Rat.intCast_sub];rw[aAZ,aAZ,aAY,aAY];grind
def pP:DSp:=λds M Q=>∃cx cy px py n,ds=[PQ cx cy,PQ px py]/\BQ n cx/\BQ n cy/\BQ n px/\BQ n py/\n<=4000/\Q (.tup [.int (fS cx cy px py),.int (oD px py)]) M
noncomputable abbrev mT:Stmt:=top 21
theorem cR:aS ["c","p","cx","cy","cd","px","py","pd","x","y"] ["c","p"] (aI mT):=by ac_rfl
theorem vX (hF:cK K mg "scaled_far" mT ["c","p"])(cF:Has P w K mg base 101 "on_one_bottom" ["p"] eZ):Has P w K mg base 102 "scaled_far" ["c","p"] pP:=by
 refine Has.mkZ hF cR (λds M Q ⟨cx,cy,px,py,n,e,_⟩=>by rw[e];rfl) λf cdv A outer s H ds M Q E hr h=>?_;obtain⟨cx,cy,px,py,n,rfl,h1,h2,h3,h4,hn,q⟩:=h;refine⟨_,(aF (dF (aE cF hr (by decide) (aA (aB 0) aD)) (dI (n:=3) rfl (aV (aO (i:=2) cR.nd) (aV (aO (i:=3) cR.nd) (aV (aO (i:=4) cR.nd) cW)))))
  (aF (dF (aE cF hr (by decide) (aA (aB 1) aD)) (dI (n:=3) rfl (aV (aO (i:=5) cR.nd) (aV (aO (i:=6) cR.nd) (aV (aO (i:=7) cR.nd) cW)))))
  (aF (aU (i:=8) cR.nd (aM lP (aM bW (aB 5) (aB 4)) (aM bW (aB 2) (aB 7))))
  (aF (aU (i:=9) cR.nd (aM lP (aM bW (aB 6) (aB 4)) (aM bW (aB 3) (aB 7))))
  (aH (aJ (aK (aA (aM eD (aM bW (aB 8) (aB 8)) (aM bW (aB 9) (aB 9))) (aA (aB 7) aD))))))))),?_⟩
 ac_nf;obtain⟨a1,a2,a3⟩:=zH h1 h2;obtain⟨b1,b2,b3⟩:=zH h3 h4;have dX:Bd (n+n+(n+n)+1) (oX px py*oD cx cy-oX cx cy*oD px py):=(b1.mul a3).sub (a1.mul b3);have dY:Bd (n+n+(n+n)+1) (oY px py*oD cx cy-oY cx cy*oD px py):=(b2.mul a3).sub (a2.mul b3);refine⟨cx,cy,n,rfl,h1,h2,by omega,?_⟩;ac_nf;refine⟨rfl,px,py,n,rfl,h3,h4,by omega,?_⟩;ac_nf;exact⟨rfl,dD b1 a3 (by omega),dD a1 b3 (by omega),dD b2 a3 (by omega),dD a2 b3 (by omega),dD dX dX (by omega),dD dY dY (by omega),by decide,M,.refl _,q⟩
noncomputable def bU (cx cy px py:Rat):Rat:=(px-cx)*(px-cx)+(py-cy)*(py-cy)
theorem aH1 {cx cy px py:Rat}{n:Nat}(h1:BQ n cx)(h2:BQ n cy)(h3:BQ n px)(h4:BQ n py):Bd (8*n+3) (fS cx cy px py):=by obtain⟨a1,a2,a3⟩:=zH h1 h2;obtain⟨b1,b2,b3⟩:=zH h3 h4;have dX:Bd (n+n+(n+n)+1) (oX px py*oD cx cy-oX cx cy*oD px py):=(b1.mul a3).sub (a1.mul b3);have dY:Bd (n+n+(n+n)+1) (oY px py*oD cx cy-oY cx cy*oD px py):=(b2.mul a3).sub (a2.mul b3);exact((dX.mul dX).add (dY.mul dY)).mono (by omega)
theorem aHc (cx cy px py qx qy:Rat):(0<fS cx cy px py*oD qx qy*oD qx qy-fS cx cy qx qy*oD px py*oD px py↔bU cx cy qx qy<bU cx cy px py) /\
  (fS cx cy px py*oD qx qy*oD qx qy-fS cx cy qx qy*oD px py*oD px py=0↔bU cx cy px py=bU cx cy qx qy):=by
 have e:((fS cx cy px py*oD qx qy*oD qx qy-fS cx cy qx qy*oD px py*oD px py:Int):Rat)=(bU cx cy px py-bU cx cy qx qy)*((((oD cx cy:Int):Rat)*((oD px py:Int):Rat)*((oD qx qy:Int):Rat))*(((oD cx cy:Int):Rat)*((oD px py:Int):Rat)*((oD qx qy:Int):Rat))):=by simp only[Rat.intCast_mul,Rat.intCast_sub];rw[aHQ,aHQ];unfold bU;grind
 have c1:(0:Rat)<((oD cx cy:Int):Rat):=Rat.intCast_pos.mpr (sM _ _);have c2:(0:Rat)<((oD px py:Int):Rat):=Rat.intCast_pos.mpr (sM _ _);have c3:(0:Rat)<((oD qx qy:Int):Rat):=Rat.intCast_pos.mpr (sM _ _);have k0:(0:Rat)<(((oD cx cy:Int):Rat)*((oD px py:Int):Rat)*((oD qx qy:Int):Rat))*(((oD cx cy:Int):Rat)*((oD px py:Int):Rat)*((oD qx qy:Int):Rat)):=Rat.mul_pos (Rat.mul_pos (Rat.mul_pos c1 c2) c3) (Rat.mul_pos (Rat.mul_pos c1 c2) c3);generalize (((oD cx cy:Int):Rat)*((oD px py:Int):Rat)*((oD qx qy:Int):Rat))*(((oD cx cy:Int):Rat)*((oD px py:Int):Rat)*((oD qx qy:Int):Rat))=κ at e k0;generalize fS cx cy px py*oD qx qy*oD qx qy-fS cx cy qx qy*oD px py*oD px py=z at e ⊢;generalize bU cx cy px py=u at e ⊢;generalize bU cx cy qx qy=v at e ⊢;constructor
 ·rw[<- Rat.intCast_pos,e];constructor
  ·intro h;by_cases c:v<u
   ·exact c
   ·have:u-v<=0:=by grind
    have:=Rat.mul_nonneg (a:=v-u) (b:=κ) (by grind) (by grind);grind
  ·intro h;exact Rat.mul_pos (by grind) k0
 ·constructor
  ·intro h;rw[h] at e;have:=(Rat.mul_eq_zero.mp e.symm).resolve_right (by grind);grind
  ·intro h;have:(z:Rat)=0:=by rw[e,h];grind
   exact Rat.intCast_eq_zero_iff.mp this
noncomputable def aDC (cx cy px py qx qy:Rat):Int:=if bU cx cy qx qy<bU cx cy px py then 1 else if bU cx cy px py=bU cx cy qx qy then 0 else -1
def jO:DSp:=λds M Q=>∃cx cy px py qx qy n,ds=[PQ cx cy,PQ px py,PQ qx qy]/\BQ n cx/\BQ n cy/\BQ n px/\BQ n py/\BQ n qx/\BQ n qy/\n<=4000/\Q (.int (aDC cx cy px py qx qy)) M
noncomputable abbrev sP:Stmt:=top 20
theorem jQ:aS ["c","p","q","p_square","pd","q_square","qd"] ["c","p","q"] (aI sP):=by ac_rfl
theorem aBa (hF:cK K mg "farther" sP ["c","p","q"])(jD:Has P w K mg base 102 "scaled_far" ["c","p"] pP)(sW:Has P w K mg base 101 "sign" ["number"] vF):Has P w K mg base 103 "farther" ["c","p","q"] jO:=by
 refine Has.mkZ hF jQ (λds M Q ⟨cx,cy,px,py,qx,qy,n,e,_⟩=>by rw[e];rfl) λf cdv A outer s H ds M Q E hr h=>?_;obtain⟨cx,cy,px,py,qx,qy,n,rfl,h1,h2,h3,h4,h5,h6,hn,q⟩:=h;refine⟨_,(aF (dF (aE jD hr (by decide) (aA (aB 0) (aA (aB 1) aD))) (dI (n:=2) rfl (aV (aO (i:=3) jQ.nd) (aV (aO (i:=4) jQ.nd) cW))))
  (aF (dF (aE jD hr (by decide) (aA (aB 0) (aA (aB 2) aD))) (dI (n:=2) rfl (aV (aO (i:=5) jQ.nd) (aV (aO (i:=6) jQ.nd) cW))))
  (aH (aJ (aE sW hr (by decide) (aA (aM lP (aM bW (aM bW (aB 3) (aB 6)) (aB 6)) (aM bW (aM bW (aB 5) (aB 4)) (aB 4))) aD)))))),?_⟩
 ac_nf;have bP:=aH1 h1 h2 h3 h4;have bQ:=aH1 h1 h2 h5 h6;have dP:=(zH h3 h4).2.2;have dQ:=(zH h5 h6).2.2;refine⟨cx,cy,px,py,n,rfl,h1,h2,h3,h4,hn,?_⟩;ac_nf;refine⟨rfl,cx,cy,qx,qy,n,rfl,h1,h2,h5,h6,hn,?_⟩;ac_nf;refine⟨rfl,dD bP dQ (by omega),dD (bP.mul dQ) dQ (by omega),dD bQ dP (by omega),dD (bQ.mul dP) dP (by omega),_,rfl,M,.refl _,?_⟩;obtain⟨e1,e2⟩:=aHc cx cy px py qx qy;have e:(if 0<fS cx cy px py*oD qx qy*oD qx qy-fS cx cy qx qy*oD px py*oD px py then 1 else if fS cx cy px py*oD qx qy*oD qx qy-fS cx cy qx qy*oD px py*oD px py=0 then 0 else -1:Int)=aDC cx cy px py qx qy:=by
  unfold aDC;by_cases c:bU cx cy qx qy<bU cx cy px py
  ·rw[if_pos c,if_pos (e1.mpr c)]
  ·rw[if_neg c,if_neg (λz=>c (e1.mp z))];by_cases d:bU cx cy px py=bU cx cy qx qy
   ·rw[if_pos d,if_pos (e2.mpr d)]
   ·rw[if_neg d,if_neg (λz=>d (e2.mp z))]
 rw[e];exact q
theorem aGO (z:Int):(if 0<z then 1 else if z=0 then 0 else -1:Int)=sgn (z:Rat):=by
 unfold sgn;by_cases c:0<z
 ·rw[if_pos c,if_pos (show(0:Rat)<(z:Rat) by exact_mod_cast c)]
 ·rw[if_neg c,if_neg (show ¬(0:Rat)<(z:Rat) from λh=>c (by exact_mod_cast h))];by_cases d:z=0
  ·rw[if_pos d,if_neg (show ¬(z:Rat)<0 by rw[d];decide)]
  ·have h1:z<0:=by omega
   rw[if_neg d,if_pos (show(z:Rat)<0 by exact_mod_cast h1)]
noncomputable abbrev aBN:Stmt:=top 18
theorem iH:aS ["a","b","p","ax","ay","ad","bx","by","bd","px","py","pd"] ["a","b","p"] (aI aBN):=by ac_rfl
theorem aFa (hF:cK K mg "side" aBN ["a","b","p"])(cF:Has P w K mg base 101 "on_one_bottom" ["p"] eZ)(sW:Has P w K mg base 101 "sign" ["number"] vF):Has P w K mg base 102 "side" ["a","b","p"] vK:=by
 refine Has.mkZ hF iH (λds M Q ⟨x,y,u,v,x2,y2,e,_⟩=>by rw[e];rfl) λf cdv A outer s H ds M Q E hr h=>?_;obtain⟨ax,ay,bx,by',px,py,rfl,h1,h2,h3,h4,h5,h6,q⟩:=h;refine⟨_,(aF (dF (aE cF hr (by decide) (aA (aB 0) aD)) (dI (n:=3) rfl (aV (aO (i:=3) iH.nd) (aV (aO (i:=4) iH.nd) (aV (aO (i:=5) iH.nd) cW)))))
  (aF (dF (aE cF hr (by decide) (aA (aB 1) aD)) (dI (n:=3) rfl (aV (aO (i:=6) iH.nd) (aV (aO (i:=7) iH.nd) (aV (aO (i:=8) iH.nd) cW)))))
  (aF (dF (aE cF hr (by decide) (aA (aB 2) aD)) (dI (n:=3) rfl (aV (aO (i:=9) iH.nd) (aV (aO (i:=10) iH.nd) (aV (aO (i:=11) iH.nd) cW)))))
  (aH (aJ (aE sW hr (by decide) (aA (aM eD (aM lP (aM bW (aB 9) (aM lP (aM bW (aB 4) (aB 8)) (aM bW (aB 7) (aB 5)))) (aM bW (aB 10) (aM lP (aM bW (aB 3) (aB 8)) (aM bW (aB 6) (aB 5))))) (aM bW (aB 11) (aM lP (aM bW (aB 3) (aB 7)) (aM bW (aB 6) (aB 4))))) aD))))))),?_⟩
 ac_nf;obtain⟨bX1,bY1,bd1⟩:=zH h1 h2;obtain⟨bX2,bY2,bd2⟩:=zH h3 h4;obtain⟨bX3,bY3,bd3⟩:=zH h5 h6;have ex1:=aAZ ax ay;have ey1:=aAY ax ay;have ex2:=aAZ bx by';have ey2:=aAY bx by';have ex3:=aAZ px py;have ey3:=aAY px py;have p1:=sM ax ay;have p2:=sM bx by';have p3:=sM px py;refine⟨ax,ay,900,rfl,h1,h2,by decide,?_⟩;ac_nf;refine⟨rfl,bx,by',900,rfl,h3,h4,by decide,?_⟩;ac_nf;refine⟨rfl,px,py,900,rfl,h5,h6,by decide,?_⟩;ac_nf;generalize oX ax ay=X1 at *;generalize oY ax ay=Y1 at *;generalize oD ax ay=d1 at *;generalize oX bx by'=X2 at *;generalize oY bx by'=Y2 at *;generalize oD bx by'=d2 at *;generalize oX px py=X3 at *;generalize oY px py=Y3 at *;generalize oD px py=d3 at *;have k1:IntMulOk Y1 d2:=dD bY1 bd2;have k2:IntMulOk Y2 d1:=dD bY2 bd1;have k3:IntMulOk X3 (Y1*d2-Y2*d1):=dD bX3 ((bY1.mul bd2).sub (bY2.mul bd1));have k4:IntMulOk X1 d2:=dD bX1 bd2;have k5:IntMulOk X2 d1:=dD bX2 bd1;have k6:IntMulOk Y3 (X1*d2-X2*d1):=dD bY3 ((bX1.mul bd2).sub (bX2.mul bd1));have k7:IntMulOk X1 Y2:=dD bX1 bY2;have k8:IntMulOk X2 Y1:=dD bX2 bY1;have k9:IntMulOk d3 (X1*Y2-X2*Y1):=dD bd3 ((bX1.mul bY2).sub (bX2.mul bY1));refine⟨rfl,k1,k2,k3,k4,k5,k6,k7,k8,k9,_,rfl,M,.refl _,?_⟩;have e:((X3*(Y1*d2-Y2*d1)-Y3*(X1*d2-X2*d1)+d3*(X1*Y2-X2*Y1):Int):Rat)=aY ax ay bx by' px py*((d1:Rat)*d2*d3):=by simp only[Rat.intCast_add,Rat.intCast_sub,Rat.intCast_mul];rw[ex1,ey1,ex2,ey2,ex3,ey3];unfold aY;grind
 rw[aGO,e,aHd (Rat.mul_pos (Rat.mul_pos (aKj p1) (aKj p2)) (aKj p3))];exact q
noncomputable abbrev xH:Stmt:=top 22
theorem aDu:aS ["p","q"] ["p","q"] (aI xH):=by ac_rfl
theorem aCe (hF:cK K mg "before" xH ["p","q"])(vH:Has P w K mg base 101 "below" ["one","other"] aBD):Has P w K mg base 102 "before" ["p","q"] sV:=by
 refine Has.mkZ hF aDu (λds M Q ⟨x,y,u,v,e,_⟩=>by rw[e];rfl) λf cdv A outer s H ds M Q E hr h=>?_;obtain⟨x,y,u,v,rfl,h1,h2,h3,h4,q⟩:=h;refine⟨_,(aF (bA (aR (bR hr) (aG (aB 0) aC) (aG (aB 1) aC)) (aH (aJ (aE vH hr (by decide) (aA (aG (aB 0) aC) (aA (aG (aB 1) aC) aD))))) aP)
  (aH (aJ (aE vH hr (by decide) (aA (aG (aB 0) aC) (aA (aG (aB 1) aC) aD)))))),?_⟩
 unfold bef at q;refine⟨rfl,rfl,?_⟩;rw[show(id (eqD (FQ x) (FQ u)))=decide (x=u) from vV x u];refine dif (λc=>?_) (λc=>?_)
 ·rw[if_pos c] at q;exact⟨y,v,_,_,rfl,trivial,h2,h4,by decide,M,.refl _,q⟩
 ·rw[if_neg c] at q;exact⟨x,u,_,_,rfl,trivial,h1,h3,by decide,M,.refl _,q⟩
inductive Pc where
 |dot (x y:Rat)|str (x y u v:Rat)|arc (cx cy ax ay bx by':Rat)|ring (cx cy ax ay:Rat)
noncomputable def pcD:Pc->D
 |.dot x y=>.tup [.str "dot",PQ x y]
 |.str x y u v=>.tup [.str "stretch",PQ x y,PQ u v]
 |.arc a b c d e f=>.tup [.str "arc",PQ a b,PQ c d,PQ e f]
 |.ring a b c d=>.tup [.str "ring",PQ a b,PQ c d]
def pcB (B:Nat):Pc->Prop
 |.dot x y=>BQ B x/\BQ B y
 |.str x y u v=>BQ B x/\BQ B y/\BQ B u/\BQ B v
 |.arc a b c d e f=>BQ B a/\BQ B b/\BQ B c/\BQ B d/\BQ B e/\BQ B f
 |.ring a b c d=>BQ B a/\BQ B b/\BQ B c/\BQ B d
noncomputable def mkS (x y u v:Rat):Pc:=if x=u/\y=v then .dot x y else if bef x y u v=true then .str x y u v else .str u v x y
theorem aEc {x y u v:Rat}(h:¬(x=u/\y=v)):bef u v x y = !bef x y u v:=by
 unfold bef;by_cases c:x=u
 ·subst c;rw[if_pos rfl,if_pos rfl];have hy:y≠v:=λe=>h ⟨rfl,e⟩;by_cases d:y<v
  ·rw[decide_eq_true d,decide_eq_false (by grind)];rfl
  ·rw[decide_eq_false d,decide_eq_true (by grind)];rfl
 ·rw[if_neg (λe=>c e.symm),if_neg c];by_cases d:x<u
  ·rw[decide_eq_true d,decide_eq_false (by grind)];rfl
  ·rw[decide_eq_false d,decide_eq_true (by grind)];rfl
theorem aBJ (x y:Rat):bef x y x y=false:=by unfold bef;rw[if_pos rfl,decide_eq_false (by grind)]
def mH:DSp:=λds M Q=>∃x y u v,ds=[PQ x y,PQ u v]/\BQ 4400 x/\BQ 4400 y/\BQ 4400 u/\BQ 4400 v/\Q (pcD (mkS x y u v)) M
noncomputable abbrev tO:Stmt:=top 24
theorem aB8:aS ["p","q"] ["p","q"] (aI tO):=by ac_rfl
theorem aBh (hF:cK K mg "stretch" tO ["p","q"])(jR:Has P w K mg base 102 "before" ["p","q"] sV):Has P w K mg base 103 "stretch" ["p","q"] mH:=by
 refine Has.mkZ hF aB8 (λds M Q ⟨x,y,u,v,e,_⟩=>by rw[e];rfl) λf cdv A outer s H ds M Q E hr h=>?_;obtain⟨x,y,u,v,rfl,h1,h2,h3,h4,q⟩:=h;refine⟨_,(aF (bA (aR (bR hr) (aB 0) (aB 1)) (aH (aJ (aK (aA bG (aA (aB 0) aD))))) aP)
  (aF (bA (dW (aE jR hr (by decide) (aA (aB 0) (aA (aB 1) aD)))) (aH (aJ (aK (aA bG (aA (aB 0) (aA (aB 1) aD)))))) aP)
  (aH (aJ (aK (aA bG (aA (aB 1) (aA (aB 0) aD)))))))),?_⟩
 ac_nf;rw[lE];unfold mkS at q;refine dif (λc=>?_) (λc=>?_)
 ·rw[if_pos c] at q;exact⟨by decide,M,.refl _,q⟩
 rw[if_neg c] at q;refine⟨_,_,_,_,rfl,h1,h2,h3,h4,nE (λd=>?_) (λd=>?_)⟩
 ·rw[if_pos d] at q;exact⟨by decide,M,.refl _,q⟩
 ·rw[if_neg (by rw[d];decide)] at q;exact⟨by decide,M,.refl _,q⟩
noncomputable def onS (x y u v a b:Rat):Bool:=decide (aY x y u v a b=0)&&(!bef a b x y && !bef u v a b)
theorem lU {z:Rat}:sgn z=0↔z=0:=by
 unfold sgn;by_cases h:0<z
 ·rw[if_pos h];constructor
  ·intro e;exact absurd e (by decide)
  ·rintro rfl;exact absurd h (by decide)
 rw[if_neg h];by_cases h2:z<0
 ·rw[if_pos h2];constructor
  ·intro e;exact absurd e (by decide)
  ·rintro rfl;exact absurd h2 (by decide)
 rw[if_neg h2];exact⟨λ_=>by grind,λ_=>rfl⟩
def nU:DSp:=λds M Q=>(∃x y u v a b,ds=[pcD (.str x y u v),PQ a b]/\BQ 900 x/\BQ 900 y/\BQ 900 u/\BQ 900 v/\BQ 900 a/\BQ 900 b/\Q (.bl (onS x y u v a b)) M) ∨
 (∃x y a b,ds=[pcD (.dot x y),PQ a b]/\Q (.bl (decide (a=x/\b=y))) M)
noncomputable abbrev lH:Stmt:=top 25
theorem vW:aS ["piece","p"] ["piece","p"] (aI lH):=by ac_rfl
theorem uN (hF:cK K mg "on_straight" lH ["piece","p"])(lJ:Has P w K mg base 102 "side" ["a","b","p"] vK)(jR:Has P w K mg base 102 "before" ["p","q"] sV):Has P w K mg base 103 "on_straight" ["piece","p"] nU:=by
 refine Has.mkZ hF vW (λds M Q h=>by rcases h with⟨x,y,u,v,a,b,e,_⟩|⟨x,y,a,b,e,_⟩<;>(rw[e];rfl)) λf cdv A outer s H ds M Q E hr h=>?_;refine⟨_,(aF (bA (aR (bR hr) (aG (aB 0) aC) bG) (aH (aJ (cN (bR hr) (aB 1) (aG (aB 0) aC)))) aP)
  (aH (aJ (eT (cN (bR hr) (aE lJ hr (by decide) (aA (aG (aB 0) aC) (aA (aG (aB 0) aC) (aA (aB 1) aD)))) aC) (eT (sJ (aE jR hr (by decide) (aA (aB 1) (aA (aG (aB 0) aC) aD)))) (fC (sJ (aE jR hr (by decide) (aA (aG (aB 0) aC) (aA (aB 1) aD)))))))))),?_⟩
 rcases h with⟨x,y,u,v,a,b,rfl,h1,h2,h3,h4,h5,h6,q⟩|⟨x,y,a,b,rfl,q⟩
 ·dsimp only[pcD];ac_nf;simp_arith;have m:∀{z:Rat},BQ 900 z->BQ 4400 z:=λh=>h.mono (by decide);rw[if_neg (by decide)];refine⟨_,_,_,_,_,_,rfl,h1,h2,h3,h4,h5,h6,?_⟩;simp_arith;unfold onS at q;by_cases c:aY x y u v a b=0
  ·rw[if_pos (lU.mpr c)];rw[decide_eq_true c,Bool.true_and] at q;refine⟨_,_,_,_,rfl,m h5,m h6,m h1,m h2,?_⟩;cases d:bef a b x y with
   |true =>
    rw[d] at q;exact⟨M,.refl _,q⟩
   |false =>
    rw[d] at q;exact⟨_,_,_,_,rfl,m h3,m h4,m h5,m h6,M,.refl _,q⟩
  ·rw[if_neg (λz=>c (lU.mp z))];rw[decide_eq_false c,Bool.false_and] at q;exact⟨M,.refl _,q⟩
 ·dsimp only[pcD];ac_nf;simp_arith;rw[if_pos trivial];exact⟨M,.refl _,q⟩
def wE:DSp:=λds M Q=>∃c ax ay px py qx qy,ds=[c,PQ ax ay,PQ px py,PQ qx qy]/\BQ 900 ax/\BQ 900 ay/\BQ 900 px/\BQ 900 py/\BQ 900 qx/\BQ 900 qy/\Q (.bl (eN ax ay px py qx qy)) M
noncomputable abbrev zT:Stmt:=top 28
theorem aFz:aS ["c","a","p","q"] ["c","a","p","q"] (aI zT):=by ac_rfl
theorem aDZ (hF:cK K mg "ahead" zT ["c","a","p","q"])(lJ:Has P w K mg base 102 "side" ["a","b","p"] vK):Has P w K mg base 103 "ahead" ["c","a","p","q"] wE:=by
 refine Has.mkZ hF aFz (λds M Q ⟨c,x,y,u,v,x2,y2,e,_⟩=>by rw[e];rfl) λf cdv A outer s H ds M Q E hr h=>?_;obtain⟨c,ax,ay,px,py,qx,qy,rfl,h1,h2,h3,h4,h5,h6,q⟩:=h;refine⟨_,(aF (bA (aR (bR hr) (aB 2) (aB 1)) (aH (aJ (cN (nJ hr) (aB 3) (aB 1)))) aP)
  (aH (aJ (cN (bR hr) (aE lJ hr (by decide) (aA (aB 1) (aA (aB 2) (aA (aB 3) aD)))) aC)))),?_⟩
 ac_nf;simp_arith;unfold eN at q;by_cases c1:px=ax/\py=ay
 ·rw[if_pos c1] at q ⊢;exact⟨M,.refl _,q⟩
 ·rw[if_neg c1] at q ⊢;refine⟨ax,ay,px,py,qx,qy,rfl,h1,h2,h3,h4,h5,h6,?_⟩;simp_arith;exact⟨M,.refl _,q⟩
theorem uB (cx cy x y p q u v:Rat):eN (cx+x) (cy+y) (cx+p) (cy+q) (cx+u) (cy+v)=eN x y p q u v:=by
 unfold eN;have e1:(cx+p=cx+x/\cy+q=cy+y)↔(p=x/\q=y):=⟨λ⟨a,b⟩=>⟨by grind,by grind⟩,λ⟨a,b⟩=>⟨by grind,by grind⟩⟩;have e2:(cx+u=cx+x/\cy+v=cy+y)↔(u=x/\v=y):=⟨λ⟨a,b⟩=>⟨by grind,by grind⟩,λ⟨a,b⟩=>⟨by grind,by grind⟩⟩;have e3:aY (cx+x) (cy+y) (cx+p) (cy+q) (cx+u) (cy+v)=aY x y p q u v:=by unfold aY;grind
 rw[e3];by_cases h1:p=x/\q=y<;>by_cases h2:u=x/\v=y<;>simp[h1,h2,e1,e2]
noncomputable def onP:Pc->Rat->Rat->Bool
 |.dot x y,a,b=>decide (a=x/\b=y)
 |.str x y u v,a,b=>onS x y u v a b
 |.arc cx cy ax ay bx by',a,b=>decide (bU cx cy a b=bU cx cy ax ay) && !eN ax ay bx by' a b
 |.ring cx cy ax ay,a,b=>decide (bU cx cy a b=bU cx cy ax ay)
theorem jH {cx cy px py qx qy:Rat}:aDC cx cy px py qx qy=0↔bU cx cy px py=bU cx cy qx qy:=by
 unfold aDC;by_cases c:bU cx cy qx qy<bU cx cy px py
 ·rw[if_pos c];exact⟨λz=>absurd z (by decide),λz=>by rw[z] at c;exact absurd c Rat.lt_irrefl⟩
 ·rw[if_neg c];by_cases d:bU cx cy px py=bU cx cy qx qy
  ·rw[if_pos d];exact⟨λ_=>d,λ_=>rfl⟩
  ·rw[if_neg d];exact⟨λz=>absurd z (by decide),λz=>absurd z d⟩
def aBy:DSp:=λds M Q=>∃pc a b,ds=[pcD pc,PQ a b]/\pcB 900 pc/\BQ 900 a/\BQ 900 b/\Q (.bl (onP pc a b)) M
noncomputable abbrev aI7:Stmt:=top 27
theorem aLJ:aS ["piece","p"] ["piece","p"] (aI aI7):=by ac_rfl
theorem aKF (hF:cK K mg "on" aI7 ["piece","p"])(lG:Has P w K mg base 103 "on_straight" ["piece","p"] nU)(jK:Has P w K mg base 103 "farther" ["c","p","q"] jO)(pG:Has P w K mg base 103 "ahead" ["c","a","p","q"] wE):Has P w K mg base 104 "on" ["piece","p"] aBy:=by
 refine Has.mkZ hF aLJ (λds M Q ⟨x,y,u,e,_⟩=>by rw[e];rfl) λf cdv A outer s H ds M Q E hr h=>?_;obtain⟨pc,a,b,rfl,hB,ha,hb,q⟩:=h;refine⟨_,(aF (bA (gX (iA (aR (bR hr) (aG (aB 0) aC) bG) (gG (aR (bR hr) (aG (aB 0) aC) bG)))) (aH (aJ (aE lG hr (by decide) (aA (aB 0) (aA (aB 1) aD))))) aP)
  (aF (bA (aR (nJ hr) (aE jK hr (by decide) (aA (aG (aB 0) aC) (aA (aB 1) (aA (aG (aB 0) aC) aD)))) aC) (aH (aJ dG)) aP)
  (aH (aJ (aEl (cN (bR hr) (aG (aB 0) aC) bG) (fC (sJ (aE pG hr (by decide) (aA (aG (aB 0) aC) (aA (aG (aB 0) aC) (aA (aG (aB 0) aC) (aA (aB 1) aD)))))))))))),?_⟩
 cases pc with
 |dot x y =>
  dsimp only[pcD];ac_nf;rw[aQ];refine dif (λ_=>?_) (λc=>absurd rfl c);exact ifT rfl (.inr ⟨x,y,a,b,rfl,M,.refl _,q⟩)
 |str x y u v =>
  dsimp only[pcD];ac_nf;rw[aQ];refine dif (λc=>absurd c (by decide)) (λ_=>?_);rw[aQ];refine dif (λ_=>?_) (λc=>absurd rfl c);exact .inl ⟨x,y,u,v,a,b,rfl,hB.1,hB.2.1,hB.2.2.1,hB.2.2.2,ha,hb,M,.refl _,q⟩
 |ring cx cy ax ay =>
  obtain⟨b1,b2,b3,b4⟩:=hB;dsimp only[pcD];ac_nf;rw[aQ];refine dif (λc=>absurd c (by decide)) (λ_=>?_);rw[aQ];refine dif (λc=>absurd c (by decide)) (λ_=>?_);refine⟨_,_,_,_,_,_,900,rfl,b1,b2,ha,hb,b3,b4,by decide,?_⟩;ac_nf;rw[cE];dsimp only[onP] at q;by_cases c:bU cx cy a b=bU cx cy ax ay
  ·rw[decide_eq_true (jH.mpr c)];rw[decide_eq_true c] at q;refine ifF rfl ?_;rw[aQ];exact⟨M,.refl _,q⟩
  ·rw[decide_eq_false (λz=>c (jH.mp z))];rw[decide_eq_false c] at q;exact ifT rfl ⟨M,.refl _,q⟩
 |arc cx cy ax ay bx by' =>
  obtain⟨b1,b2,b3,b4,b5,b6⟩:=hB;dsimp only[pcD];ac_nf;rw[aQ];refine dif (λc=>absurd c (by decide)) (λ_=>?_);rw[aQ];refine dif (λc=>absurd c (by decide)) (λ_=>?_);refine⟨_,_,_,_,_,_,900,rfl,b1,b2,ha,hb,b3,b4,by decide,?_⟩;ac_nf;rw[cE];dsimp only[onP] at q;by_cases c:bU cx cy a b=bU cx cy ax ay
  ·rw[decide_eq_true (jH.mpr c)];rw[decide_eq_true c,Bool.true_and] at q;refine ifF rfl ?_;rw[aQ];exact⟨_,_,_,_,_,_,_,rfl,b3,b4,b5,b6,ha,hb,M,.refl _,q⟩
  ·rw[decide_eq_false (λz=>c (jH.mp z))];rw[decide_eq_false c,Bool.false_and] at q;exact ifT rfl ⟨M,.refl _,q⟩
def vY:DSp:=λds M Q=>∃px py t h s x y,ds=[FR px py t h s,PQ x y]/\lV px py t h s 1000/\BQ 1000 x/\BQ 1000 y/\Q (PQ (ldX px t h s x y) (ldY py t h s x y)) M
theorem aGP {h:Int}(hh:h=1∨h = -1)(y:Rat):(D.tup [.int (h*y.num),.int (y.den:Int)])=FQ ((h:Rat)*y):=by
 rcases hh with rfl|rfl
 ·rw[Int.one_mul,show(((1:Int):Rat))=1 from rfl,Rat.one_mul];rfl
 ·rw[show(-1:Int)*y.num = -y.num by omega,zS,show(((-1:Int):Rat))*y = -y by rw[show(((-1:Int):Rat)) = -1 from rfl];grind]
theorem aCW {h:Int}(hh:h=1∨h = -1){B:Nat}{y:Rat}(b:BQ B y):BQ B ((h:Rat)*y):=by
 rcases hh with rfl|rfl
 ·rw[show(((1:Int):Rat))=1 from rfl,Rat.one_mul];exact b
 ·rw[show(((-1:Int):Rat))*y = -y by rw[show(((-1:Int):Rat)) = -1 from rfl];grind];exact b.neg
theorem aAO {h:Int}(hh:h=1∨h = -1):Bd 63 h:=by rcases hh with rfl|rfl<;>(unfold Bd;decide)
noncomputable abbrev aEW:Stmt:=top 31
theorem sX:aS ["frame","p","place","turns","hand","size","held"] ["frame","p"] (aI aEW):=by ac_rfl
theorem aGJ (hF:cK K mg "led" aEW ["frame","p"])(bL:Has P w K mg base 104 "together" ["p","q"] cV)(mZ:Has P w K mg base 103 "grown" ["p","number"] wQ)(wP:Has P w K mg base 101 "turned" ["p","quarters"] yE):Has P w K mg base 105 "led" ["frame","p"] vY:=by
 refine Has.mkZ hF sX (λds M Q ⟨a,b,c,d,e,f,g,z,_⟩=>by rw[z];rfl) λf cdv A outer s H ds M Q E hr h=>?_;obtain⟨px,py,t,h,sz,x,y,rfl,⟨b1,b2,t0,t1,hh,s0,b3⟩,b4,b5,q⟩:=h;refine⟨_,(aF (dF (aB 0) (dI (n:=4) rfl (aV (aO (i:=2) sX.nd) (aV (aO (i:=3) sX.nd) (aV (aO (i:=4) sX.nd) (aV (aO (i:=5) sX.nd) cW))))))
  (aF (aU (i:=6) sX.nd (aK (aA (aG (aB 1) aC) (aA (aK (aA (aM bW (aB 4) (aG (aG (aB 1) aC) aC)) (aA (aG (aG (aB 1) aC) aC) aD))) aD))))
  (aH (aJ (aE bL hr (by decide) (aA (aE mZ hr (by decide) (aA (aE wP hr (by decide) (aA (aB 6) (aA (aB 3) aD))) (aA (aB 5) aD))) (aA (aB 2) aD))))))),?_⟩
 ac_nf;have bh:=aCW hh b5;refine⟨rfl,wW (aAO hh),by decide,by decide,?_⟩;rw[aGP hh];have et:(t.fmod 4).toNat=t.toNat:=by
  have:t=0∨t=1∨t=2∨t=3:=by omega
  rcases this with rfl|rfl|rfl|rfl<;>rfl
 obtain⟨c1,c2⟩:=aCM b4 bh t.toNat;refine⟨x,(h:Rat)*y,t,rfl,?_⟩;rw[et];exact⟨_,_,_,_,_,rfl,c1,c2,b3,by decide,_,_,px,py,rfl,(c1.mul b3).mono (by decide),(c2.mul b3).mono (by decide),b1.mono (by decide),b2.mono (by decide),M,.refl _,q⟩
def rV:DSp:=λds M Q=>ds=[]/\Q (FR 0 0 0 1 1) M
noncomputable abbrev aAz:Stmt:=top 30
theorem aEP:aS [] [] (aI aAz):=by ac_rfl
theorem aDX (hF:cK K mg "first" aAz [])(xB:xU K mg "MIDDLE" aMG)(aFv:xU K mg "ONE" aLq):Has P w K mg base 101 "first" [] rV:=by refine Has.mkZ hF aEP (λds M Q ⟨e,_⟩=>by rw[e];rfl) λf cdv A outer s H ds M Q E hr h=>?_;obtain⟨rfl,q⟩:=h;refine⟨_,(aH (aJ (aK (aA (pJ xB) (aA aC (aA aC (aA (pJ aFv) aD))))))),?_⟩;ac_nf;exact⟨by decide,M,.refl _,q⟩
theorem bqz:BQ 1 0:=⟨by unfold Bd;decide,by unfold Bd;decide⟩
def pH:DSp:=λds M Q=>∃px py t h s qx qy u k r,ds=[FR px py t h s,FR qx qy u k r]/\lV px py t h s 1000/\lV qx qy u k r 1000/\Q (FR (ldX px t h s qx qy) (ldY py t h s qx qy) (tb t h u) (h*k) (s*r)) M
noncomputable abbrev wD:Stmt:=top 32
theorem yM:aS ["one","other","turns"] ["one","other"] (aI wD):=by ac_rfl
theorem aBT (hF:cK K mg "behind" wD ["one","other"])(rK:Has P w K mg base 105 "led" ["frame","p"] vY)(cS:Has P w K mg base 102 "times" ["one","other"] jN):Has P w K mg base 106 "behind" ["one","other"] pH:=by
 refine Has.mkZ hF yM (λds M Q ⟨a,b,c,d,e,f,g,i,j,k,z,_⟩=>by rw[z];rfl) λf cdv A outer s H ds M Q E hr h=>?_;obtain⟨px,py,t,h,sz,qx,qy,u,k,r,rfl,f1,f2,q⟩:=h;refine⟨_,(aF (aU (i:=2) yM.nd (aM mS (aM eD (aG (aB 0) aC) (aM bW (aG (aB 0) aC) (aG (aB 1) aC))) aC))
  (aH (aJ (aK (aA (aE rK hr (by decide) (aA (aB 0) (aA (aG (aB 1) aC) aD))) (aA (aB 2) (aA (aM bW (aG (aB 0) aC) (aG (aB 1) aC)) (aA (aE cS hr (by decide) (aA (aG (aB 0) aC) (aA (aG (aB 1) aC) aD))) aD)))))))),?_⟩
 ac_nf;refine⟨wW (aAO f1.2.2.2.2.1),by decide,_,_,_,_,_,_,_,rfl,f1,f2.1,f2.2.1,wW (aAO f1.2.2.2.2.1),_,_,_,_,rfl,trivial,f1.2.2.2.2.2.2,f2.2.2.2.2.2.2,by decide,by decide,M,.refl _,q⟩
noncomputable def ldP (px py:Rat)(t h:Int)(s:Rat):Pc->Pc
 |.dot x y=>.dot (ldX px t h s x y) (ldY py t h s x y)
 |.str x y u v=>mkS (ldX px t h s x y) (ldY py t h s x y) (ldX px t h s u v) (ldY py t h s u v)
 |.arc a b c d e f=>if h = -1 then .arc (ldX px t h s a b) (ldY py t h s a b) (ldX px t h s e f) (ldY py t h s e f) (ldX px t h s c d) (ldY py t h s c d)
   else .arc (ldX px t h s a b) (ldY py t h s a b) (ldX px t h s c d) (ldY py t h s c d) (ldX px t h s e f) (ldY py t h s e f)
 |.ring a b c d=>.ring (ldX px t h s a b) (ldY py t h s a b) (ldX px t h s c d) (ldY py t h s c d)
def jA:DSp:=λds M Q=>∃px py t h s p,ds=[FR px py t h s,pcD p]/\lV px py t h s 1000/\pcB 1000 p/\Q (pcD (ldP px py t h s p)) M
theorem lV.mono {px py s:Rat}{t h:Int}{B C:Nat}(f:lV px py t h s B)(l:B<=C):lV px py t h s C:=⟨f.1.mono l,f.2.1.mono l,f.2.2.1,f.2.2.2.1,f.2.2.2.2.1,f.2.2.2.2.2.1,f.2.2.2.2.2.2.mono l⟩
theorem ldC {px py s x y:Rat}{t h:Int}{B:Nat}{M:DM}{Q:DQ}(g:lV px py t h s B)(bx:BQ B x)(by':BQ B y)(l:B<=1000)(q:Q (PQ (ldX px t h s x y) (ldY py t h s x y)) M):vY [FR px py t h s,PQ x y] M Q:=⟨_,_,_,_,_,_,_,rfl,g.mono l,bx.mono l,by'.mono l,q⟩
theorem aLN {px py s x y:Rat}{t h:Int}{B C:Nat}(f:lV px py t h s B)(bx:BQ C x)(by':BQ C y):BQ (2*B+C+1) (ldX px t h s x y)/\BQ (2*B+C+1) (ldY py t h s x y):=by obtain⟨f1,f2,f3,f4,f5,f6,f7⟩:=f;obtain⟨c1,c2⟩:=aCM bx (aCW f5 by') t.toNat;exact⟨((c1.mul f7).add f1).mono (by omega),((c2.mul f7).add f2).mono (by omega)⟩
noncomputable abbrev kR:Stmt:=top 33
theorem rH:aS ["frame","piece","points"] ["frame","piece"] (aI kR):=by ac_rfl
theorem xX (hF:cK K mg "led_piece" kR ["frame","piece"])(rK:Has P w K mg base 105 "led" ["frame","p"] vY)(jJ:Has P w K mg base 103 "stretch" ["p","q"] mH)(eJ:mg "tuple" = none):Has P w K mg base 106 "led_piece" ["frame","piece"] jA:=by
 refine Has.mkZ hF rH (λds M Q ⟨a,b,c,d,e,f,z,_⟩=>by rw[z];rfl) λf cdv A outer s H ds M Q E hr h=>?_;obtain⟨px,py,t,h,sz,p,rfl,g,b,q⟩:=h;refine⟨_,(aF (aBQ (i:=2) (⟨rfl,by decide +kernel,by decide +kernel,by decide +kernel,rfl,by decide +kernel⟩:gW ["frame","piece","points"] (aI kR) ["p","frame"] [none,some 0] _) rfl rH.nd (jL (aB 1) (jU aC) oZ) (λ_ _ _ _ _=>(aO (i:=0) (show Nodup (["p","frame"]:List Str) by decide +kernel))) (λ_ _ _ _ _=>(aE rK hr (by decide) (aA (aB 1) (aA (aB 0) aD)))))
  (aF (bA (aR (bR hr) (aG (aB 1) aC) bG) (aH (aJ (aE jJ hr (by decide) (aA (aG (aB 2) aC) (aA (aG (aB 2) aC) aD))))) aP)
  (aF (bA (gX (kJ (aR (bR hr) (aG (aB 1) aC) bG) (jS (aR (bR hr) (aG (aB 0) aC) (dM aC))))) (aH (aJ (aK (aA bG (aA (aG (aB 2) aC) (aA (aG (aB 2) aC) (aA (aG (aB 2) aC) aD))))))) aP)
  (aH (aJ (aM aAR (aK (aA (aG (aB 1) aC) aD)) (jM vT eJ (aA (aB 2) aD)))))))),?_⟩
 ac_nf;cases p with
 |dot x y =>
  dsimp only[pcD,ldP] at q ⊢;refine nM ?_;ac_nf;refine lK (by show 1<=1000;decide) ?_;ac_nf;refine ldC g b.1 b.2 (by decide) ?_;ac_nf;intro p hp;simp_arith;rw[if_neg (by decide),if_neg (by decide),if_neg (by decide)];exact⟨by decide,_,aL,Nat.le_of_ble_eq_true rfl,M,bC.new hp _,q⟩
 |str x y u v =>
  dsimp only[pcD,ldP] at q ⊢;refine nM ?_;ac_nf;refine lK (by show 2<=1000;decide) ?_;ac_nf;refine ldC g b.1 b.2.1 (by decide) ?_;ac_nf;refine ldC g b.2.2.1 b.2.2.2 (by decide) ?_;ac_nf;intro p hp;simp_arith;rw[if_pos trivial];obtain⟨l1,l2⟩:=aLN g b.1 b.2.1;obtain⟨l3,l4⟩:=aLN g b.2.2.1 b.2.2.2;exact⟨_,_,aL,rfl,_,_,aL,rfl,_,_,_,_,rfl,l1.mono (by decide),l2.mono (by decide),l3.mono (by decide),l4.mono (by decide),M,bC.new hp _,q⟩
 |arc a0 b0 c0 d0 e0 f0 =>
  dsimp only[pcD,ldP] at q ⊢;refine nM ?_;ac_nf;refine lK (by show 3<=1000;decide) ?_;ac_nf;refine ldC g b.1 b.2.1 (by decide) ?_;ac_nf;refine ldC g b.2.2.1 b.2.2.2.1 (by decide) ?_;ac_nf;refine ldC g b.2.2.2.2.1 b.2.2.2.2.2 (by decide) ?_;ac_nf;intro p hp;simp_arith;rw[if_neg (by decide),if_pos trivial];by_cases hh:h = -1
  ·rw[if_pos hh] at q ⊢;exact⟨_,_,aL,rfl,_,_,aL,rfl,_,_,aL,rfl,by decide,M,bC.new hp _,q⟩
  ·rw[if_neg hh] at q ⊢;exact⟨by decide,_,aL,Nat.le_of_ble_eq_true rfl,M,bC.new hp _,q⟩
 |ring a0 b0 c0 d0 =>
  dsimp only[pcD,ldP] at q ⊢;refine nM ?_;ac_nf;refine lK (by show 2<=1000;decide) ?_;ac_nf;refine ldC g b.1 b.2.1 (by decide) ?_;ac_nf;refine ldC g b.2.2.1 b.2.2.2 (by decide) ?_;ac_nf;intro p hp;simp_arith;rw[if_neg (by decide),if_neg (by decide),if_neg (by decide)];exact⟨by decide,_,aL,Nat.le_of_ble_eq_true rfl,M,bC.new hp _,q⟩
theorem bZ {Q:DQ}{d:D}{M:DM}(h:Q d M):Dn Q d M:=⟨M,.refl _,h⟩
theorem aMm {p s k A:Nat}(p1:1<=p)(s1:1<=s)(k0:0<k)(e:p*s^k=A):p<=A/\s<=A:=by
 have h1:1<=s^k:=Nat.pow_pos s1;have h2:s<=s^k:=by
  cases k with
  |zero=>omega
  |succ k =>
   have:1<=s^k:=Nat.pow_pos s1;rw[Nat.pow_succ];exact Nat.le_mul_of_pos_left _ this
 rw[<- e];exact⟨Nat.le_mul_of_pos_right _ h1,Nat.le_trans h2 (Nat.le_mul_of_pos_left _ p1)⟩
def nI:DSp:=λds M Q=>∃a n:Nat,ds=[.int (a:Int),.int (n:Int)]/\1<=a/\Bd 4400 ((a^n:Nat):Int)/\Q (.int ((a^n:Nat):Int)) M
noncomputable abbrev kD:Stmt:=top 35
theorem cY:aS ["number","n","product","square","left"] ["number","n"] (aI kD):=by ac_rfl
theorem tP (hF:cK K mg "raised_whole" kD ["number","n"]):Has P w K mg base 101 "raised_whole" ["number","n"] nI:=by
 refine Has.mkZ hF cY (λds M Q ⟨_,_,z,_⟩=>by rw[z];rfl) λf cdv A outer s H ds M Q E hr h=>?_;obtain⟨a,n,rfl,a1,bd,q⟩:=h;refine⟨_,(aF (aU (i:=2) cY.nd aC)
  (aF (aU (i:=3) cY.nd (aB 0))
  (aF (aU (i:=4) cY.nd (aB 1))
  (aF (tD PassesOwn.never (aR aAT (aB 4) aC) (aF (bA (aR (bR hr) (aM mS (aB 4) aC) aC) (aH (aU (i:=2) cY.nd (aM bW (aB 2) (aB 3)))) aP)
  (aF (aU (i:=4) cY.nd (aM eQ (aB 4) aC))
  (aH (bA (aR aAT (aB 4) aC) (aH (aU (i:=3) cY.nd (aM bW (aB 3) (aB 3)))) aP)))))
  (aH (aJ (aB 2))))))),?_⟩
 ac_nf;generalize eA:a^n=A at bd q;refine tK (λm ρ M'=>M'=M/\∃p s:Nat,(1<=p/\1<=s)/\p*s^m=A/\ρ=[some (.int (a:Int)),some (.int (n:Int)),some (.int (p:Int)),some (.int (s:Int)),some (.int (m:Int))]) n ⟨rfl,1,a,⟨by decide,a1⟩,by rw[Nat.one_mul];exact eA,rfl⟩ ?_;rintro m ρ M' ⟨rfl,p,s,⟨p1,s1⟩,e,rfl⟩;ac_nf;by_cases c:0<m
 ·refine ifT (decide_eq_true (by omega)) ?_;obtain⟨lp,ls⟩:=aMm p1 s1 c e;have bp:Bd 4400 (p:Int):=Nat.lt_of_le_of_lt lp bd;have bs:Bd 4400 (s:Int):=Nat.lt_of_le_of_lt ls bd;have em:(m:Int).fmod 2=((m % 2:Nat):Int):=by rw[Int.fmod_eq_emod_of_nonneg _ (by decide)];rfl
  have ed:(m:Int).fdiv 2=((m/2:Nat):Int):=by rw[Int.fdiv_eq_ediv_of_nonneg _ (by decide)];rfl
  have cfd:CFd (m:Int) 2:=⟨by decide,by decide⟩;have ev:∀p':Nat,p'*s^(2*(m/2))=A->p'*(s*s)^(m/2)=A:=λp' h=>by rw[<- Nat.pow_two,<- Nat.pow_mul];exact h
  have ss:1<=s*s:=Nat.mul_pos s1 s1;rw[em,ed,cE];by_cases od:m % 2=1
  ·have e1:p*s*s^(2*(m/2))=A:=by rw[Nat.mul_assoc,<- Nat.pow_succ',show(2*(m/2)).succ=m by omega];exact e
   refine⟨by decide,ifT (decide_eq_true (by omega)) ⟨dD bp bs,cfd,?_⟩⟩;by_cases c2:0<m/2
   ·exact ifT (decide_eq_true (by omega)) ⟨dD bs bs,m/2,by omega,rfl,p*s,s*s,⟨Nat.mul_pos p1 s1,ss⟩,ev _ e1,by rw[Int.natCast_mul,Int.natCast_mul]⟩
   ·have z:m/2=0:=by omega
    rw[z] at e1;exact ifF (decide_eq_false (by omega)) ⟨m/2,by omega,rfl,p*s,s,⟨Nat.mul_pos p1 s1,s1⟩,by rw[z];exact e1,by rw[Int.natCast_mul]⟩
  ·have e1:p*s^(2*(m/2))=A:=by rw[show 2*(m/2)=m by omega];exact e
   have c2:0<m/2:=by omega
   exact⟨by decide,ifF (decide_eq_false (by omega)) ⟨cfd,ifT (decide_eq_true (by omega)) ⟨dD bs bs,m/2,by omega,rfl,p,s*s,⟨p1,ss⟩,ev _ e1,by rw[Int.natCast_mul]⟩⟩⟩
 ·refine ifF (decide_eq_false (by omega)) ?_;obtain rfl:m=0:=by omega
  rw[Nat.pow_zero,Nat.mul_one] at e;rw[e];exact bZ q
theorem aCY (x:Rat)(n:Nat):(x^n).num=x.num^n/\(x^n).den=x.den^n:=⟨Rat.num_pow x n,Rat.den_pow x n⟩
def yS:DSp:=λds M Q=>∃(x:Rat)(n:Nat),ds=[FQ x,.int (n:Int)]/\0<x/\BQ 4400 (x^n)/\Q (FQ (x^n)) M
noncomputable abbrev vU:Stmt:=top 36
theorem aDN:aS ["number","n"] ["number","n"] (aI vU):=by ac_rfl
theorem aCh (hF:cK K mg "raised" vU ["number","n"])(eE:Has P w K mg base 101 "raised_whole" ["number","n"] nI):Has P w K mg base 102 "raised" ["number","n"] yS:=by
 refine Has.mkZ hF aDN (λds M Q ⟨_,_,z,_⟩=>by rw[z];rfl) λf cdv A outer s H ds M Q E hr h=>?_;obtain⟨x,n,rfl,x0,⟨b1,b2⟩,q⟩:=h;refine⟨_,(aF (bA (aR uK (aB 1) aC) (aH (aJ (aK (aA (aE eE hr (by decide) (aA (aG (aB 0) aC) (aA (dM (aB 1)) aD))) (aA (aE eE hr (by decide) (aA (aG (aB 0) aC) (aA (dM (aB 1)) aD))) aD))))) aP)
  (aH (aJ (aK (aA (aE eE hr (by decide) (aA (aG (aB 0) aC) (aA (aB 1) aD))) (aA (aE eE hr (by decide) (aA (aG (aB 0) aC) (aA (aB 1) aD))) aD)))))),?_⟩
 obtain⟨e1,e2⟩:=aCY x n;have xn:0<x.num:=aCD.mpr x0;have xd:=x.den_pos;have k1:((x.num.toNat:Nat):Int)=x.num:=Int.toNat_of_nonneg (by omega);have k2:((x.num.toNat^n:Nat):Int)=(x^n).num:=by rw[e1,Int.natCast_pow,k1]
 have k3:((x.den^n:Nat):Int)=((x^n).den:Int):=by rw[e2]
 rw[show FQ x=D.tup [.int ((x.num.toNat:Nat):Int),.int ((x.den:Nat):Int)] by rw[k1];rfl];ac_nf;refine ifF (decide_eq_false (by omega)) ⟨x.num.toNat,n,rfl,by omega,by rw[k2];exact b1,?_⟩;ac_nf;refine⟨x.den,n,rfl,by omega,by rw[k3];exact b2,?_⟩;ac_nf;rw[k2,k3];exact⟨by decide,bZ q⟩
noncomputable abbrev qQ:Stmt:=top 57
theorem aBx:aS ["_law_cell"] ["_law_cell"] (aI qQ):=by ac_rfl
theorem zQ (hF:cK K mg "_law_feed" qQ ["_law_cell"])(rD:mg "int" = none):Has P w K mg base 101 "_law_feed" ["_law_cell"] tR:=by refine Has.mkZ hF aBx (λds M Q ⟨c,e,_⟩=>by rw[e];rfl) λf cdv A outer s H ds M Q E hr h=>?_;obtain⟨c,rfl,q⟩:=h;refine⟨_,(aH (aJ (dZ (aA (aB 0) (aA aC (aA (jM aFu rD (aA (cN yP (aB 0) (aM aD2 aC aC)) aD)) aD)))))),?_⟩;refine⟨⟨by decide,by decide,by decide⟩,by show(3:Nat)<=1000;decide,λp hp=>⟨_,.refl _,?_⟩⟩;exact q p _ hp ⟨c,0,_,aL,by decide,by decide⟩ Adv.put
noncomputable abbrev qR:Stmt:=top 58
theorem iL:aS ["_law_feed_here","_law_many","_law_k","_law_found","_law_number"] ["_law_feed_here","_law_many"] (aI qR):=by ac_rfl
theorem aAQ (hF:cK K mg "_law_draw" qR ["_law_feed_here","_law_many"]):Has P w K mg base 101 "_law_draw" ["_law_feed_here","_law_many"] cI:=by
 refine Has.mkZ hF iL (λds M Q ⟨a,m,n,e,_⟩=>by rw[e];rfl) λf cdv A outer s H ds M Q E hr h=>?_;obtain⟨a,many,n,rfl,⟨c,k,fl,ha,k0,k1⟩,hn,hm,hB,q⟩:=h;refine⟨_,(aF (aU (i:=2) iL.nd (aG (aB 0) aC))
  (aF (dF (aM eD (aB 2) aC) (aCK (aB 0) aC))
  (aF (bA (gX (kJ (aR (bR hr) (aG (aB 0) aC) aC) (jS (aR aAT (aG (aB 0) aC) aC)))) (aF (aU (i:=3) iL.nd (aM mS (aG (aB 0) aC) (aB 1)))
  (aF (dF (aM eQ (aG (aB 0) aC) (aB 1)) (aCK (aB 0) aC))
  (aH (aJ (aB 3))))) aP)
  (aF (aU (i:=4) iL.nd (aM mS (aM bW (aM eD (aM eD (aM mS (aG (aB 0) aC) (aM aD2 aC aC)) (aM bW (aM bW aC (aB 2)) (aB 2))) (aB 2)) aC) aC))
  (aF (aU (i:=4) iL.nd (aM mS (aM eD (aM bW (aB 4) aC) aC) aC))
  (aH (aJ (aM mS (aM eQ (aB 4) aC) (aB 1))))))))),?_⟩
 have hm0:many≠0:=by omega
 have hk:Bd 63 k:=Bd.of (by omega) (by omega);refine⟨_,_,ha,rfl,_,1,ha,rfl,?_⟩;have h1:bH M a [.int c,.int (k+1),.int fl] a=some [.int c,.int (k+1),.int fl]:=aL;have av:Adv M (bH M a [.int c,.int (k+1),.int fl]) a:=Adv.put;have fd1:FdN (bH M a [.int c,.int (k+1),.int fl]) a (n+1):=⟨c,k+1,fl,h1,by omega,by omega⟩;have slow:∀x:Int,Q (.int ((x.fdiv 16).fmod many)) (bH M a [.int c,.int (k+1),.int fl]):=λx=>q _ _ (Int.fmod_nonneg_of_pos _ hm) (Int.fmod_lt_of_pos _ hm) fd1 av;refine⟨_,_,h1,rfl,rfl,rfl,?_⟩;have bI:∀(u v:Int),∃ds d,bH M a [.int c,.int (k+1),.int fl] a=some ds/\atI ds 0=some d/\True:=λ_ _=>⟨_,_,h1,rfl,trivial⟩;refine nE (λ_=>?_) (λ_=>?_)
 ·refine⟨_,_,h1,rfl,?_⟩;refine dif (λ_=>?_) (λ_=>?_)
  ·refine⟨_,_,h1,rfl,hm0,_,_,h1,rfl,⟨hm0,Nat.lt_succ_of_lt (hB.log (by decide))⟩,_,0,h1,rfl,_,.refl _,?_⟩;refine q _ _ (Int.fmod_nonneg_of_pos _ hm) (Int.fmod_lt_of_pos _ hm) ⟨_,k+1,fl,aL,by omega,by omega⟩ (Adv.put.trans Adv.put)
  ·refine⟨_,_,h1,rfl,⟨by decide,by decide,by decide⟩,(by dsimp only;decide),wW (by unfold Bd;decide),qN hk,qN (by unfold Bd;decide),(by dsimp only;decide),qN (by unfold Bd;decide),(by dsimp only;decide),⟨by decide,by decide +kernel⟩,hm0,_,.refl _,?_⟩;exact slow _
 ·refine⟨_,_,h1,rfl,⟨by decide,by decide,by decide⟩,(by dsimp only;decide),wW (by unfold Bd;decide),qN hk,qN (by unfold Bd;decide),(by dsimp only;decide),qN (by unfold Bd;decide),(by dsimp only;decide),⟨by decide,by decide +kernel⟩,hm0,_,.refl _,?_⟩;exact slow _
def oA:DSp:=λds M Q=>∃(ns:List Int)(k:Nat),ds=[.fz (ns.map D.int),.int (k:Int)]/\∀c:Int,Q (.int c) M
noncomputable abbrev lO:Stmt:=top 56
theorem wJ:aS ["_law_script","_law_k"] ["_law_script","_law_k"] (aI lO):=by ac_rfl
theorem uU (hF:cK K mg "_law_cell_at" lO ["_law_script","_law_k"])(cG:mg "len" = none):Has P w K mg base 101 "_law_cell_at" ["_law_script","_law_k"] oA:=by
 refine Has.mkZ hF wJ (λds M Q ⟨a,n,z,_⟩=>by rw[z];rfl) λf cdv A outer s H ds M Q E hr h=>?_;obtain⟨ns,k,rfl,q⟩:=h;refine⟨_,(aF (bA (aR uK (aB 1) (bV eW cG (aA (aB 0) aD))) (aH (aJ (aG (aB 0) (aB 1)))) aP)
  (aH (aJ aC))),?_⟩
 ac_nf;show(λx M1=>_) _ _;refine dif (λc=>?_) (λc=>⟨M,.refl _,q 0⟩);have hk:k<(ns.map D.int).length:=by have:(k:Int)<((ns.map D.int).length:Int):=c;omega
 have hat:atI (ns.map D.int) (k:Int)=some (.int (ns[k]'(by simpa using hk))):=mU (by rw[getElem?_eq_getElem hk];simp);try dsimp only[jC]
 rw[hat];exact⟨M,.refl _,q _⟩
noncomputable def shP (x y:Rat):Pc->Pc
 |.dot a b=>.dot (x+a) (y+b)
 |.str a b c d=>.str (x+a) (y+b) (x+c) (y+d)
 |.arc a b c d e f=>.arc (x+a) (y+b) (x+c) (y+d) (x+e) (y+f)
 |.ring a b c d=>.ring (x+a) (y+b) (x+c) (y+d)
noncomputable def aBv:Pc->Bool
 |.dot _ _=>false
 |_=>true
noncomputable def iO:Pc->Pc->Bool
 |.str x y u v,.str a b c d=>decide (aY x y u v a b=0)&&decide (aY x y u v c d=0)
 |.arc x y u v _ _,.arc a b c d _ _=>decide (x=a/\y=b)&&decide (bU x y u v=bU x y c d)
 |.arc x y u v _ _,.ring a b c d=>decide (x=a/\y=b)&&decide (bU x y u v=bU x y c d)
 |.ring x y u v,.arc a b c d _ _=>decide (x=a/\y=b)&&decide (bU x y u v=bU x y c d)
 |.ring x y u v,.ring a b c d=>decide (x=a/\y=b)&&decide (bU x y u v=bU x y c d)
 |_,_=>false
noncomputable def goS:List Pc->Rat->Rat->Bool
 |[],_,_=>true
 |.str x y u v::ps,a,b=>onP (.str x y u v) a b&&goS ps u v
 |_::_,_,_=>false
noncomputable def goR (t r:Rat):List Pc->Rat->Rat->Bool
 |[],_,_=>true
 |.arc cx cy ax ay bx by'::ps,a,b=>!(decide (bx=a/\by'=b))&&onP (.arc cx cy ax ay bx by') a b&&decide ((!(decide (a=t/\b=r)) && !(eN a b bx by' t r))=ps.isEmpty)&&goR t r ps bx by'
 |_::_,_,_=>false
noncomputable def hU:Pc->Bool
 |.ring _ _ _ _=>true
 |_=>false
noncomputable def chP (g:Pc)(ps:List Pc):Bool:=!ps.isEmpty&&ps.all (iO g)&&match g with
 |.str x y u v=>goS ps x y&&(match ps.getLast? with|some p=>onP p u v|none=>false)
 |.arc _ _ ax ay bx by'=>if (match ps.head? with|some p=>hU p|none=>false) then decide (ps.length=1) else goR bx by' ps ax ay
 |.ring _ _ ax ay=>if (match ps.head? with|some p=>hU p|none=>false) then decide (ps.length=1) else goR ax ay ps ax ay
 |.dot _ _=>false
section
variable (x y:Rat)
theorem yA (a b c d e f:Rat):aY (x+a) (y+b) (x+c) (y+d) (x+e) (y+f)=aY a b c d e f:=by unfold aY;grind
theorem aCV (a b c d:Rat):bU (x+a) (y+b) (x+c) (y+d)=bU a b c d:=by unfold bU;grind
theorem vE (z a b:Rat):z+a=z+b↔a=b:=⟨λh=>by grind,λh=>by rw[h]⟩
theorem aDz (z a b:Rat):z+a<z+b↔a<b:=⟨λh=>by grind,λh=>by grind⟩
theorem aIG (a b c d:Rat):bef (x+a) (y+b) (x+c) (y+d)=bef a b c d:=by unfold bef;simp only[vE,aDz]
theorem vN (p:Pc)(a b:Rat):onP (shP x y p) (x+a) (y+b)=onP p a b:=by cases p<;>simp only[shP,onP,onS,yA,aCV,aIG,uB,vE]
theorem aG0 (p q:Pc):iO (shP x y p) (shP x y q)=iO p q:=by cases p<;>cases q<;>simp only[shP,iO,yA,aCV,vE]
theorem aE0:∀(ps:List Pc)(a b:Rat),goS (ps.map (shP x y)) (x+a) (y+b)=goS ps a b
 |[],_,_=>rfl
 |.str p q u v::ps,a,b=>by have h:=vN x y (.str p q u v) a b;simp only[shP] at h;simp only[map_cons,shP,goS,aE0 ps,h]
 |.dot _ _::ps,_,_=>rfl
 |.arc _ _ _ _ _ _::ps,_,_=>rfl
 |.ring _ _ _ _::ps,_,_=>rfl
theorem aCg (t r:Rat):∀(ps:List Pc)(a b:Rat),goR (x+t) (y+r) (ps.map (shP x y)) (x+a) (y+b)=goR t r ps a b
 |[],_,_=>rfl
 |.arc c d p q u v::ps,a,b=>by have h:=vN x y (.arc c d p q u v) a b;simp only[shP] at h;simp only[map_cons,shP,goR,aCg t r ps,h,uB,vE,List.isEmpty_map]
 |.dot _ _::ps,_,_=>rfl
 |.str _ _ _ _::ps,_,_=>rfl
 |.ring _ _ _ _::ps,_,_=>rfl
theorem aDI (p:Pc):hU (shP x y p)=hU p:=by cases p<;>rfl
theorem aKB (g:Pc)(ps:List Pc):chP (shP x y g) (ps.map (shP x y))=chP g ps:=by
 have e1:(ps.map (shP x y)).all (iO (shP x y g))=ps.all (iO g):=by rw[all_map];congr 1;funext q;exact aG0 x y g q
 have e2:(match (ps.map (shP x y)).head? with|some p=>hU p|none=>false)=(match ps.head? with|some p=>hU p|none=>false):=by
  cases ps with
  |nil=>rfl
  |cons p ps=>exact aDI x y p
 unfold chP;rw[e1,List.isEmpty_map];cases g with
 |dot a b=>rfl
 |str a b c d =>
  simp only[shP,aE0,List.getLast?_map];cases ps.getLast? with
  |none=>rfl
  |some p=>simp only[Option.map_some,vN]
 |arc a b c d e f=>simp only[shP,aCg,e2,length_map]
 |ring a b c d=>simp only[shP,aCg,e2,length_map]
end
noncomputable def aMN:Pc->List D
 |.dot x y=>[PQ x y]
 |.str x y u v=>[PQ x y,PQ u v]
 |.arc a b c d e f=>[PQ a b,PQ c d,PQ e f]
 |.ring a b c d=>[PQ a b,PQ c d]
noncomputable def aEj:Pc->Str
 |.dot _ _=>"dot"
 |.str _ _ _ _=>"stretch"
 |.arc _ _ _ _ _ _=>"arc"
 |.ring _ _ _ _=>"ring"
theorem aMs (p:Pc):pcD p=.tup (.str (aEj p)::aMN p):=by cases p<;>rfl
def nH:DSp:=λds M Q=>∃g p,ds=[pcD g,pcD p]/\aBv g=true/\aBv p=true/\pcB 900 g/\pcB 900 p/\Q (.bl (iO g p)) M
noncomputable abbrev jW:Stmt:=top 40
theorem uV:aS ["one","other"] ["one","other"] (aI jW):=by ac_rfl
theorem sS (hF:cK K mg "same_carrier" jW ["one","other"])(lJ:Has P w K mg base 102 "side" ["a","b","p"] vK)(jK:Has P w K mg base 103 "farther" ["c","p","q"] jO):Has P w K mg base 104 "same_carrier" ["one","other"] nH:=by
 refine Has.mkZ hF uV (λds M Q ⟨n,d,e,_⟩=>by rw[e];rfl) λf cdv A outer s H ds M Q E hr h=>?_;obtain⟨g,p,rfl,ng,np,bg,bp,q⟩:=h;refine⟨_,(aF (bA (gX (iA (aR (bR hr) (aG (aB 0) aC) bG) (gG (aR (bR hr) (aG (aB 1) aC) bG)))) (aH (aJ (eT (cN (bR hr) (aG (aB 0) aC) (aG (aB 1) aC)) (eT (cN (bR hr) (aE lJ hr (by decide) (aA (aG (aB 0) aC) (aA (aG (aB 0) aC) (aA (aG (aB 1) aC) aD)))) aC) (fC (cN (bR hr) (aE lJ hr (by decide) (aA (aG (aB 0) aC) (aA (aG (aB 0) aC) (aA (aG (aB 1) aC) aD)))) aC)))))) aP)
  (aH (aJ (eT (cN (bR hr) (aG (aB 0) aC) (aG (aB 1) aC)) (fC (cN (bR hr) (aE jK hr (by decide) (aA (aG (aB 0) aC) (aA (aG (aB 0) aC) (aA (aG (aB 1) aC) aD)))) aC)))))),?_⟩
 have far:∀{cx cy ax ay bx by':Rat},BQ 900 cx->BQ 900 cy->BQ 900 ax->BQ 900 ay->BQ 900 bx->BQ 900 by'->∀{R:DQ},R (.int (aDC cx cy ax ay bx by')) M->jO [PQ cx cy,PQ ax ay,PQ bx by'] M R:=λa b c d e f R r=>⟨_,_,_,_,_,_,900,rfl,a,b,c,d,e,f,by decide,r⟩;have rnd:∀{x y u v a b c d:Rat},BQ 900 x->BQ 900 y->BQ 900 u->BQ 900 v->BQ 900 c->BQ 900 d->Q (.bl (decide (x=a/\y=b)&&decide (bU x y u v=bU x y c d))) M ->
   if decide (x=a/\y=b)=true then jO [PQ x y,PQ u v,PQ c d] M λx M1=>dEq id x (.int 0) M1 (Dn Q) else Dn Q (.bl false) M:=λ{x y u v a b c d} g1 g2 g3 g4 p1 p2 q=>by
  refine dif (λe=>?_) (λe=>?_)
  ·rw[decide_eq_true e,Bool.true_and] at q;refine far g1 g2 g3 g4 p1 p2 ?_;rw[cE];by_cases z:bU x y u v=bU x y c d
   ·rw[decide_eq_true z] at q;rw[decide_eq_true (jH.mpr z)];exact⟨M,.refl _,q⟩
   ·rw[decide_eq_false z] at q;rw[decide_eq_false λe=>z (jH.mp e)];exact⟨M,.refl _,q⟩
  ·rw[decide_eq_false e,Bool.false_and] at q;exact⟨M,.refl _,q⟩
 cases g with
 |dot x y=>cases ng
 |str x y u v =>
  obtain⟨g1,g2,g3,g4⟩:=bg;cases p with
  |dot x y=>cases np
  |str a b c d =>
   obtain⟨p1,p2,p3,p4⟩:=bp;dsimp only[pcD];ac_nf;rw[aQ];refine dif (λ_=>?_) (λc=>absurd rfl c);refine ifT rfl ?_;rw[aQ];refine dif (λ_=>?_) (λc=>absurd rfl c);refine⟨_,_,_,_,_,_,rfl,g1,g2,g3,g4,p1,p2,?_⟩;ac_nf;rw[cE];dsimp only[iO] at q;refine dif (λe=>?_) (λe=>?_)
   ·rw[decide_eq_true (lU.mp e),Bool.true_and] at q;refine⟨_,_,_,_,_,_,rfl,g1,g2,g3,g4,p3,p4,?_⟩;ac_nf;rw[cE];by_cases z:aY x y u v c d=0
    ·rw[decide_eq_true z] at q;rw[decide_eq_true (lU.mpr z)];exact⟨M,.refl _,q⟩
    ·rw[decide_eq_false z] at q;rw[decide_eq_false λe=>z (lU.mp e)];exact⟨M,.refl _,q⟩
   ·rw[decide_eq_false (λz=>e (lU.mpr z)),Bool.false_and] at q;exact⟨M,.refl _,q⟩
  |arc a b c d e f =>
   dsimp only[pcD];ac_nf;rw[aQ];refine dif (λ_=>?_) (λc=>absurd rfl c);refine ifT rfl ?_;rw[aQ];exact dif (λc=>absurd c (by decide)) (λ_=>⟨M,.refl _,q⟩)
  |ring a b c d =>
   dsimp only[pcD];ac_nf;rw[aQ];refine dif (λ_=>?_) (λc=>absurd rfl c);refine ifT rfl ?_;rw[aQ];exact dif (λc=>absurd c (by decide)) (λ_=>⟨M,.refl _,q⟩)
 |arc x y u v u' v' =>
  obtain⟨g1,g2,g3,g4,_⟩:=bg;cases p with
  |dot x y=>cases np
  |str a b c d =>
   dsimp only[pcD];ac_nf;rw[aQ];refine dif (λc=>absurd c (by decide)) (λ_=>?_);rw[aQ];refine dif (λ_=>?_) (λc=>absurd rfl c);rw[aQ];exact dif (λc=>absurd c (by decide)) (λ_=>⟨M,.refl _,q⟩)
  |arc a b c d e f =>
   obtain⟨p1,p2,p3,p4,_⟩:=bp;dsimp only[pcD];ac_nf;rw[aQ];refine dif (λc=>absurd c (by decide)) (λ_=>?_);rw[aQ];refine dif (λc=>absurd c (by decide)) (λ_=>?_);rw[lE];exact rnd g1 g2 g3 g4 p3 p4 q
  |ring a b c d =>
   obtain⟨p1,p2,p3,p4⟩:=bp;dsimp only[pcD];ac_nf;rw[aQ];refine dif (λc=>absurd c (by decide)) (λ_=>?_);rw[aQ];refine dif (λc=>absurd c (by decide)) (λ_=>?_);rw[lE];exact rnd g1 g2 g3 g4 p3 p4 q
 |ring x y u v =>
  obtain⟨g1,g2,g3,g4⟩:=bg;cases p with
  |dot x y=>cases np
  |str a b c d =>
   dsimp only[pcD];ac_nf;rw[aQ];refine dif (λc=>absurd c (by decide)) (λ_=>?_);rw[aQ];refine dif (λ_=>?_) (λc=>absurd rfl c);rw[aQ];exact dif (λc=>absurd c (by decide)) (λ_=>⟨M,.refl _,q⟩)
  |arc a b c d e f =>
   obtain⟨p1,p2,p3,p4,_⟩:=bp;dsimp only[pcD];ac_nf;rw[aQ];refine dif (λc=>absurd c (by decide)) (λ_=>?_);rw[aQ];refine dif (λc=>absurd c (by decide)) (λ_=>?_);rw[lE];exact rnd g1 g2 g3 g4 p3 p4 q
  |ring a b c d =>
   obtain⟨p1,p2,p3,p4⟩:=bp;dsimp only[pcD];ac_nf;rw[aQ];refine dif (λc=>absurd c (by decide)) (λ_=>?_);rw[aQ];refine dif (λc=>absurd c (by decide)) (λ_=>?_);rw[lE];exact rnd g1 g2 g3 g4 p3 p4 q
noncomputable def aCF:Pc->Bool
 |.str _ _ _ _=>true
 |_=>false
theorem rM {ps:List Pc}{i:Nat}{d:D}(h:(ps.map pcD)[i]?=some d):∃p,ps[i]?=some p/\d=pcD p:=by
 rw[getElem?_map] at h;cases e:ps[i]? with
 |none=>rw[e] at h;cases h
 |some p=>rw[e] at h;cases h;exact⟨p,rfl,rfl⟩
theorem aAG {α:Type}{xs:List α}{i:Nat}{x:α}(h:xs[i]?=some x):xs.drop i=x::xs.drop (i+1):=by obtain⟨hl,e⟩:=List.getElem?_eq_some_iff.mp h;rw[List.drop_eq_getElem_cons hl,e]
def kI:DSp:=λds M Q=>∃x y u v a ps p,ds=[pcD (.str x y u v),.ref a]/\M (.l a)=some (ps.map pcD)/\ps.getLast?=some p/\(∀q∈ps,aCF q=true/\pcB 900 q)/\pcB 900 (.str x y u v)/\Q (.bl (goS ps x y&&onP p u v)) M
noncomputable abbrev gZ:Stmt:=top 53
theorem eS:aS ["goal","pieces","stand","piece"] ["goal","pieces"] (aI gZ):=by ac_rfl
theorem qF (hF:cK K mg "leads_straight" gZ ["goal","pieces"])(sI:Has P w K mg base 104 "on" ["piece","p"] aBy):Has P w K mg base 105 "leads_straight" ["goal","pieces"] kI:=by
 refine Has.mkZ hF eS (λds M Q ⟨_,_,_,_,_,_,_,e,_⟩=>by rw[e];rfl) λf cdv A outer s H ds M Q E hr h=>?_;obtain⟨x,y,u,v,a,ps,p,rfl,ha,hp,hs,⟨b1,b2,b3,b4⟩,q⟩:=h;refine⟨_,(aF (aU (i:=2) eS.nd (aG (aB 0) aC))
  (aF (rZ PassesOwn.never rfl (aB 1) (aO (i:=3) eS.nd) (aF (bA (fA (dW (aE sI hr (by decide) (aA (aB 3) (aA (aB 2) aD))))) (aH (aJ dG)) aP)
  (aH (aU (i:=2) eS.nd (aG (aB 3) aC)))))
  (aH (aJ (aE sI hr (by decide) (aA (aG (aB 1) (dM aC)) (aA (aG (aB 0) aC) aD))))))),?_⟩
 dsimp only[pcD];ac_nf;refine⟨_,ha,λi ρ M'=>M' = M/\∃c d o,ρ = [some (.tup [.str "stretch",PQ x y,PQ u v]),some (.ref a),some (PQ c d),o]/\BQ 900 c/\BQ 900 d/\goS ps x y=goS (ps.drop i) c d,⟨rfl,x,y,none,rfl,b1,b2,rfl⟩,?_,?_,?_⟩
 ·rintro i ρ M' _ ⟨rfl,_⟩ a' e;cases e;exact ha
 ·rintro i d1 ρ M' hd ⟨rfl,c,d,o,rfl,bc,bd,eg⟩;obtain⟨r,hr',rfl⟩:=rM hd;obtain⟨sr,br⟩:=hs r (mem_of_getElem? hr');rw[aAG hr'] at eg;cases r with
  |str r1 r2 r3 r4 =>
   ac_nf;refine⟨.str r1 r2 r3 r4,c,d,rfl,br,bc,bd,?_⟩;ac_nf;rw[goS] at eg;cases z:onP (.str r1 r2 r3 r4) c d with
   |false =>
    rw[z,Bool.false_and] at eg;rw[eg,Bool.false_and] at q;exact⟨M',.refl _,q⟩
   |true =>
    rw[z,Bool.true_and] at eg;dsimp only[pcD];ac_nf;exact⟨rfl,_,_,_,rfl,br.2.2.1,br.2.2.2,eg⟩
  |_=>cases sr
 ·rintro ρ M' ⟨rfl,c,d,o,rfl,bc,bd,eg⟩;rw[length_map,List.drop_length,goS] at eg;rw[eg,Bool.true_and] at q;ac_nf;obtain⟨ys,rfl⟩:=List.getLast?_eq_some_iff.mp hp;refine⟨_,_,ha,by rw[map_append];exact aBl _ _,p,u,v,rfl,(hs p (mem_append_right _ mem_cons_self)).2,b3,b4,M',.refl _,q⟩
theorem aIP {g:Bool->Bool}{a b:Bool}{M:DM}{Q:DQ}:dEq g (.bl a) (.bl b) M Q=Q (.bl (g (decide (a=b)))) M:=by
 show(bS 60 (.bl a)=true/\bS 60 (.bl b)=true/\Q (.bl (g (eqD (.bl a) (.bl b)))) M)=_;have e:eqD (.bl a) (.bl b)=decide (a=b):=by show(a==b)=_;by_cases h:a=b<;>simp[h]
 rw[e];exact propext ⟨λh=>h.2.2,λh=>⟨rfl,rfl,h⟩⟩
noncomputable def yO:Pc->Bool
 |.arc _ _ _ _ _ _=>true
 |.ring _ _ _ _=>true
 |_=>false
noncomputable def gFr:Pc->Rat×Rat
 |.arc _ _ a b _ _=>(a,b)
 |.ring _ _ a b=>(a,b)
 |_=>(0,0)
noncomputable def gTo:Pc->Rat×Rat
 |.arc _ _ _ _ a b=>(a,b)
 |.ring _ _ a b=>(a,b)
 |_=>(0,0)
theorem ix2 {g:Pc}(h:yO g=true){M:DM}{Q:DQ}:jC (pcD g) (.int 2) M Q=Q (PQ (gFr g).1 (gFr g).2) M:=by cases g<;>first|(cases h;done)|rfl
theorem ixm {g:Pc}(h:yO g=true){M:DM}{Q:DQ}:jC (pcD g) (.int (-1)) M Q=Q (PQ (gTo g).1 (gTo g).2) M:=by cases g<;>first|(cases h;done)|rfl
def kE:DSp:=λds M Q=>∃g a ps,ds=[pcD g,.ref a]/\M (.l a)=some (ps.map pcD)/\ps.length<=100/\yO g=true/\(∀q∈ps,yO q=true/\pcB 900 q)/\pcB 900 g/\Q (.bl (goR (gTo g).1 (gTo g).2 ps (gFr g).1 (gFr g).2)) M
noncomputable abbrev lN:Stmt:=top 54
theorem cT:aS ["goal","pieces","stand","stop","left","piece","met"] ["goal","pieces"] (aI lN):=by ac_rfl
theorem uR (hF:cK K mg "leads_round" lN ["goal","pieces"])(cG:mg "len" = none)(sI:Has P w K mg base 104 "on" ["piece","p"] aBy)(pG:Has P w K mg base 103 "ahead" ["c","a","p","q"] wE):Has P w K mg base 105 "leads_round" ["goal","pieces"] kE:=by
 refine Has.mkZ hF cT (λds M Q ⟨_,_,_,e,_⟩=>by rw[e];rfl) λf cdv A outer s H ds M Q E hr h=>?_;obtain⟨g,a,ps,rfl,ha,hl,rg,hs,bg,q⟩:=h;refine⟨_,(aF (aU (i:=2) cT.nd (aG (aB 0) aC))
  (aF (aU (i:=3) cT.nd (aG (aB 0) (dM aC)))
  (oB (aU (i:=4) cT.nd (bV eW cG (aA (aB 1) aD)))
  (aF (rZ PassesOwn.never rfl (aB 1) (aO (i:=5) cT.nd) (aF (bA (gX (iA (aR (bR hr) (aG (aB 5) aC) bG) (iA (aR (bR hr) (aG (aB 5) aC) (aB 2)) (gG (fA (dW (aE sI hr (by decide) (aA (aB 5) (aA (aB 2) aD))))))))) (aH (aJ dG)) aP)
  (aF (aBc (i:=4) aFM cT.nd aC)
  (aF (aU (i:=6) cT.nd (eT (cN (nJ hr) (aB 2) (aB 3)) (fC (sJ (aE pG hr (by decide) (aA (aG (aB 5) aC) (aA (aB 2) (aA (aG (aB 5) aC) (aA (aB 3) aD)))))))))
  (aF (bA (aR (nJ hr) (aB 6) (cN (bR hr) (aB 4) aC)) (aH (aJ dG)) aP)
  (aH (aU (i:=2) cT.nd (aG (aB 5) aC))))))))
  (aH (aJ dG)))))),?_⟩
 have b4:BQ 900 (gFr g).1/\BQ 900 (gFr g).2/\BQ 900 (gTo g).1/\BQ 900 (gTo g).2:=by
  cases g with
  |dot _ _=>cases rg
  |str _ _ _ _=>cases rg
  |arc g1 g2 g3 g4 g5 g6=>exact⟨bg.2.2.1,bg.2.2.2.1,bg.2.2.2.2.1,bg.2.2.2.2.2⟩
  |ring g1 g2 g3 g4=>exact⟨bg.2.2.1,bg.2.2.2,bg.2.2.1,bg.2.2.2⟩
 ac_nf;show jC (pcD g) (.int 2) M _;rw[ix2 rg];ac_nf;rw[ixm rg];ac_nf;refine⟨λρ' M'=>M'=M/\ρ'=[some (pcD g),some (.ref a),some (PQ (gFr g).1 (gFr g).2),some (PQ (gTo g).1 (gTo g).2),some (.int ps.length),none,none],⟨_,ha,rfl,?_⟩,?_⟩
 ·rw[length_map]
 rintro _ M0 ⟨rfl,rfl⟩;generalize (gFr g).1=fx at *;generalize (gFr g).2=fy at *;generalize (gTo g).1=t at *;generalize (gTo g).2=r at *;obtain⟨c1,c2,c3,c4⟩:=b4;generalize pcD g=gd;ac_nf;refine⟨_,ha,λi ρ M'=>M'=M0/\∃c d o1 o2,ρ=[some gd,some (.ref a),some (PQ c d),some (PQ t r),some (.int ((ps.length:Int)-(i:Int))),o1,o2]/\BQ 900 c/\BQ 900 d/\goR t r ps fx fy=goR t r (ps.drop i) c d,⟨rfl,fx,fy,none,none,?_,c1,c2,rfl⟩,?_,?_,?_⟩
 ·rw[show(ps.length:Int)-((0:Nat):Int)=(ps.length:Int) by omega]
 ·rintro i ρ M' _ ⟨rfl,_⟩ a' e;cases e;exact ha
 ·rintro i d1 ρ M' hd ⟨rfl,c,d,o1,o2,rfl,bc,bd,eg⟩;obtain⟨p,hp,rfl⟩:=rM hd;obtain⟨sr,br⟩:=hs p (mem_of_getElem? hp);rw[aAG hp] at eg;cases p with
  |dot _ _=>cases sr
  |str _ _ _ _=>cases sr
  |ring p1 p2 p3 p4 =>
   dsimp only[pcD];ac_nf;rw[aQ];refine dif (λ_=>?_) (λc=>absurd rfl c);refine ifT rfl ?_;rw[goR] at eg
   ·rw[eg] at q;exact⟨M',.refl _,q⟩
   ·intros;contradiction
  |arc p1 p2 p3 p4 p5 p6 =>
   obtain⟨e1,e2,e3,e4,e5,e6⟩:=id br;rw[goR] at eg;dsimp only[pcD];ac_nf;rw[aQ];refine dif (λc=>absurd c (by decide)) (λ_=>?_);rw[lE];refine dif (λz=>?_) (λz=>?_)
   ·refine ifT rfl ?_;rw[decide_eq_true z,Bool.not_true,Bool.false_and,Bool.false_and,Bool.false_and] at eg;rw[eg] at q;exact⟨M',.refl _,q⟩
   rw[decide_eq_false z,Bool.not_false,Bool.true_and] at eg;refine⟨.arc p1 p2 p3 p4 p5 p6,c,d,rfl,br,bc,bd,?_⟩;ac_nf;cases z1:onP (.arc p1 p2 p3 p4 p5 p6) c d with
   |false =>
    rw[z1,Bool.false_and,Bool.false_and] at eg;rw[eg] at q;exact⟨M',.refl _,q⟩
   |true =>
    rw[z1,Bool.true_and] at eg;have hlt:=(List.getElem?_eq_some_iff.mp hp).1;have el:(drop (i+1) ps).isEmpty=decide ((ps.length:Int)-(i:Int)-1=0):=by
     have hd':=length_drop (i:=i+1) (l:=ps);cases e:ps.drop (i+1) with
     |nil =>
      rw[e] at hd';rw[decide_eq_true (by simp at hd';omega)];rfl
     |cons x xs =>
      rw[e] at hd';rw[decide_eq_false (by simp at hd';omega)];rfl
    have fin:∀m:Bool,(!decide (c=t/\d=r) && !eN c d p5 p6 t r)=m->dEq id (.int ((ps.length:Int)-(i:Int)-1)) (.int 0) M' λy M2=>dEq not (.bl m) y M2 λd' M3=>match d' with
     |.bl k=>if k = true then Dn Q (.bl false) M3 else M3 = M'/\∃c_2 d_2 o1 o2,[some gd,some (D.ref a),some (PQ p5 p6),some (PQ t r),some (D.int ((ps.length:Int)-(i:Int)-1)),some (D.tup [D.str "arc",PQ p1 p2,PQ p3 p4,PQ p5 p6]),some (D.bl m)]=[some gd,some (D.ref a),some (PQ c_2 d_2),some (PQ t r),some (D.int ((ps.length:Int)-((i+1:Nat):Int))),o1,o2]/\BQ 900 c_2/\BQ 900 d_2/\goR t r ps fx fy=goR t r (drop (i+1) ps) c_2 d_2
     |_=>False:=λm em=>by
     rw[cE,id,aIP];rw[em,el] at eg;refine nE (λk=>?_) (λk=>?_)
     ·rw[decide_eq_false (by simpa using k),Bool.false_and] at eg;rw[eg] at q;exact⟨M',.refl _,q⟩
     ·rw[decide_eq_true (by simpa using k),Bool.true_and] at eg;rw[show(ps.length:Int)-(i:Int)-1=(ps.length:Int)-((i+1:Nat):Int) by omega];exact⟨rfl,p5,p6,_,_,rfl,e5,e6,eg⟩
    refine ifF (by decide) ?_;rw[lE];refine nE (λk=>?_) (λk=>?_)
    ·refine⟨_,c,d,p5,p6,t,r,rfl,bc,bd,e5,e6,c3,c4,?_⟩;ac_nf;exact fin _ (by rw[show(!decide (c=t/\d=r))=true from k,Bool.true_and])
    ·exact fin false (by rw[show(!decide (c=t/\d=r))=false from k,Bool.false_and])
 ·rintro ρ M' ⟨rfl,c,d,o1,o2,rfl,bc,bd,eg⟩;rw[length_map,List.drop_length,goR] at eg;rw[eg] at q;ac_nf;exact⟨M',.refl _,q⟩
noncomputable def kG (t:Rat):Rat:=if t<0 then 3+t/(1-t) else t/(1+t)
noncomputable def phi (x y p q:Rat):Rat:=if SS x y p q=0 then 1 else kG (LL x y p q/SS x y p q)
theorem aAv {t x y:Rat}(h0:¬(x=0/\y=0)):phi x y (fW t x y) (fR t x y)=kG t:=by obtain⟨a,b⟩:=aB2 (t:=t) h0;have a':SS x y (fW t x y) (fR t x y)≠0:=a;have b':LL x y (fW t x y) (fR t x y)/SS x y (fW t x y) (fR t x y)=t:=b;unfold phi;rw[if_neg a',b']
theorem aGa {x y:Rat}:phi x y (-x) (-y)=1:=by
 have:SS x y (-x) (-y)=0:=by unfold SS;grind
 unfold phi;rw[if_pos this]
theorem iN {t:Rat}(h:0<=t):kG t=t/(1+t)/\0<=kG t/\kG t<1:=by
 have e:kG t=t/(1+t):=by unfold kG;rw[if_neg (by grind)]
 have d:0<1+t:=by grind
 have k:t/(1+t)*(1+t)=t:=by grind
 rw[e];refine⟨rfl,?_,?_⟩
 ·rcases (show 0<=t/(1+t)∨t/(1+t)<0 by grind) with c|c
  ·exact c
  ·have:=Rat.mul_pos (show 0 < -(t/(1+t)) by grind) d;grind
 ·rcases (show t/(1+t)<1∨1<=t/(1+t) by grind) with c|c
  ·exact c
  ·have:=Rat.mul_nonneg (show 0<=t/(1+t)-1 by grind) (Rat.le_of_lt d);grind
theorem iQ {t:Rat}(h:t<0):kG t=3+t/(1-t)/\2<kG t/\kG t<3:=by
 have e:kG t=3+t/(1-t):=by unfold kG;rw[if_pos h]
 have d:0<1-t:=by grind
 have k:t/(1-t)*(1-t)=t:=by grind
 rw[e];refine⟨rfl,?_,?_⟩
 ·rcases (show -1<t/(1-t)∨t/(1-t)<=-1 by grind) with c|c
  ·grind
  ·have:=Rat.mul_nonneg (show 0<=-1-t/(1-t) by grind) (Rat.le_of_lt d);grind
 ·rcases (show t/(1-t)<0∨0<=t/(1-t) by grind) with c|c
  ·grind
  ·have:=Rat.mul_nonneg c (Rat.le_of_lt d);grind
theorem aGL {s t:Rat}(hs:0<=s)(ht:0<=t):s/(1+s)<t/(1+t)↔s<t:=by
 have d1:0<1+s:=by grind
 have d2:0<1+t:=by grind
 have e:(t/(1+t)-s/(1+s))*((1+s)*(1+t))=t-s:=by grind
 have dd:=Rat.mul_pos d1 d2;generalize t/(1+t)=T at *;generalize s/(1+s)=S at *;constructor
 ·intro h;have:=Rat.mul_pos (show 0<T-S by grind) dd;grind
 ·intro h;rcases (show S<T∨T-S<=0 by grind) with c|c
  ·exact c
  ·have:=Rat.mul_nonneg (show 0<=-(T-S) by grind) (Rat.le_of_lt dd);grind
theorem aF4 {s t:Rat}(hs:s<0)(ht:t<0):s/(1-s)<t/(1-t)↔s<t:=by
 have d1:0<1-s:=by grind
 have d2:0<1-t:=by grind
 have e:(t/(1-t)-s/(1-s))*((1-s)*(1-t))=t-s:=by grind
 have dd:=Rat.mul_pos d1 d2;generalize t/(1-t)=T at *;generalize s/(1-s)=S at *;constructor
 ·intro h;have:=Rat.mul_pos (show 0<T-S by grind) dd;grind
 ·intro h;rcases (show S<T∨T-S<=0 by grind) with c|c
  ·exact c
  ·have:=Rat.mul_nonneg (show 0<=-(T-S) by grind) (Rat.le_of_lt dd);grind
theorem nB {s t:Rat}:kG s<kG t↔((s<0↔t<0)/\s<t)∨(0<=s/\t<0):=by
 by_cases c1:s<0
 ·obtain⟨e1,a1,b1⟩:=iQ c1;by_cases c2:t<0
  ·obtain⟨e2,a2,b2⟩:=iQ c2;have:=aF4 c1 c2;rw[e1,e2];constructor
   ·intro h;exact .inl ⟨⟨λ_=>c2,λ_=>c1⟩,this.mp (by grind)⟩
   ·rintro(⟨_,h⟩|⟨h,_⟩)
    ·have:=this.mpr h;grind
    ·grind
  ·obtain⟨e2,a2,b2⟩:=iN (t:=t) (by grind);constructor
   ·intro h;grind
   ·rintro(⟨h,_⟩|⟨h,_⟩)
    ·exact absurd (h.mp c1) c2
    ·grind
 ·obtain⟨e1,a1,b1⟩:=iN (t:=s) (by grind);by_cases c2:t<0
  ·obtain⟨e2,a2,b2⟩:=iQ c2;exact⟨λ_=>.inr ⟨by grind,c2⟩,λ_=>by grind⟩
  ·obtain⟨e2,a2,b2⟩:=iN (t:=t) (by grind);have:=aGL (show 0<=s by grind) (show 0<=t by grind);rw[e1,e2,this];constructor
   ·intro h;exact .inl ⟨⟨λz=>absurd z c1,λz=>absurd z c2⟩,h⟩
   ·rintro(⟨_,h⟩|⟨_,h⟩)
    ·exact h
    ·exact absurd h c2
theorem aGB (t r u x y:Rat):aY (fW t x y) (fR t x y) (fW r x y) (fR r x y) (fW u x y) (fR u x y)*((1+t*t)*(1+r*r)*(1+u*u))=((r-t)*(u-t)*(u-r))*(4*(x*x+y*y)):=by
 have a1:uu t*(1+t*t)=1-t*t:=by have:=gE t;unfold uu;grind
 have a2:vv t*(1+t*t)=t+t:=by have:=gE t;unfold vv;grind
 have b1:uu r*(1+r*r)=1-r*r:=by have:=gE r;unfold uu;grind
 have b2:vv r*(1+r*r)=r+r:=by have:=gE r;unfold vv;grind
 have c1:uu u*(1+u*u)=1-u*u:=by have:=gE u;unfold uu;grind
 have c2:vv u*(1+u*u)=u+u:=by have:=gE u;unfold vv;grind
 have e:aY (fW t x y) (fR t x y) (fW r x y) (fR r x y) (fW u x y) (fR u x y)=(x*x+y*y)*((uu r-uu t)*(vv u-vv t)-(vv r-vv t)*(uu u-uu t)):=by unfold aY fW fR;grind
 rw[e];generalize uu t=ut at *;generalize vv t=vt at *;generalize uu r=ur at *;generalize vv r=vr at *;generalize uu u=uu' at *;generalize vv u=vu at *;have k:((ur-ut)*(vu-vt)-(vr-vt)*(uu'-ut))*((1+t*t)*(1+r*r)*(1+u*u))=(ur*(1+r*r))*(vu*(1+u*u))*(1+t*t)-(ur*(1+r*r))*(vt*(1+t*t))*(1+u*u)-(ut*(1+t*t))*(vu*(1+u*u))*(1+r*r)-(vr*(1+r*r))*(uu'*(1+u*u))*(1+t*t)+(vr*(1+r*r))*(ut*(1+t*t))*(1+u*u)+(vt*(1+t*t))*(uu'*(1+u*u))*(1+r*r):=by grind
 have k2:((ur-ut)*(vu-vt)-(vr-vt)*(uu'-ut))*((1+t*t)*(1+r*r)*(1+u*u))=4*((r-t)*(u-t)*(u-r)):=by rw[k,a1,a2,b1,b2,c1,c2];grind
 grind
theorem aAN (t r x y:Rat):aY (fW t x y) (fR t x y) (fW r x y) (fR r x y) (-x) (-y)*((1+t*t)*(1+r*r))=(r-t)*(4*(x*x+y*y)):=by
 have a1:uu t*(1+t*t)=1-t*t:=by have:=gE t;unfold uu;grind
 have a2:vv t*(1+t*t)=t+t:=by have:=gE t;unfold vv;grind
 have b1:uu r*(1+r*r)=1-r*r:=by have:=gE r;unfold uu;grind
 have b2:vv r*(1+r*r)=r+r:=by have:=gE r;unfold vv;grind
 have e:aY (fW t x y) (fR t x y) (fW r x y) (fR r x y) (-x) (-y)=(x*x+y*y)*((uu r-uu t)*(0-vv t)-(vv r-vv t)*(-1-uu t)):=by unfold aY fW fR;grind
 rw[e];generalize uu t=ut at *;generalize vv t=vt at *;generalize uu r=ur at *;generalize vv r=vr at *;have k2:((ur-ut)*(0-vt)-(vr-vt)*(-1-ut))*((1+t*t)*(1+r*r))=4*(r-t):=by
  have:((ur-ut)*(0-vt)-(vr-vt)*(-1-ut))*((1+t*t)*(1+r*r)) = -(ur*(1+r*r))*(vt*(1+t*t))+(vr*(1+r*r))*(1+t*t)-(vt*(1+t*t))*(1+r*r)+(vr*(1+r*r))*(ut*(1+t*t)):=by grind
  rw[this,a1,a2,b1,b2];grind
 grind
theorem mO {a k F G:Rat}(e:a*F=k*G)(hF:0<F)(hG:0<G)(hk:0<k):0<a:=by
 have:=Rat.mul_pos hk hG;rcases (show 0<a∨a<=0 by grind) with c|c
 ·exact c
 ·have:=Rat.mul_nonneg (show 0<=-a by grind) (Rat.le_of_lt hF);grind
def OnR (x y p q:Rat):Prop:=p*p+q*q=x*x+y*y
theorem mP (a b c d e f:Rat):aY a b c d e f=aY c d e f a b/\aY a b c d e f = -aY c d a b e f:=by unfold aY;constructor<;>grind
theorem sq1 (t:Rat):0<1+t*t:=by have:=uD t;grind
theorem mX {x y p q:Rat}(h0:¬(x=0/\y=0))(hc:OnR x y p q):(p = -x/\q = -y/\phi x y p q=1) ∨ ∃t,p=fW t x y/\q=fR t x y/\phi x y p q=kG t:=by
 rcases aHL h0 hc with⟨_,rfl,rfl⟩|⟨_,t,_,rfl,rfl⟩
 ·exact .inl ⟨rfl,rfl,aGa⟩
 ·exact .inr ⟨t,rfl,rfl,aAv h0⟩
theorem aA1 (t:Rat):kG t≠1:=by
 rcases (show t<0∨0<=t by grind) with c|c
 ·have:=(iQ c).2;grind
 ·have:=(iN c).2;grind
theorem aFo {s t:Rat}(h:kG s=kG t):s=t:=by have h1:=nB (s:=s) (t:=t);have h2:=nB (s:=t) (t:=s);by_cases c1:s<0<;>by_cases c2:t<0<;>grind
theorem gM {x y p q u v:Rat}(h0:¬(x=0/\y=0))(hc:OnR x y p q)(hd:OnR x y u v)(h:phi x y p q=phi x y u v):p=u/\q=v:=by
 rcases mX h0 hc with⟨rfl,rfl,e1⟩|⟨t,rfl,rfl,e1⟩<;>rcases mX h0 hd with⟨rfl,rfl,e2⟩|⟨r,rfl,rfl,e2⟩
 ·exact⟨rfl,rfl⟩
 ·rw[e1,e2] at h;exact absurd h.symm (aA1 r)
 ·rw[e1,e2] at h;exact absurd h (aA1 t)
 ·rw[e1,e2] at h;rw[aFo h];exact⟨rfl,rfl⟩
theorem xI {x y p1 q1 p2 q2 p3 q3:Rat}(h0:¬(x=0/\y=0))(h1:OnR x y p1 q1)(h2:OnR x y p2 q2)(h3:OnR x y p3 q3)(l1:phi x y p1 q1<phi x y p2 q2)(l2:phi x y p2 q2<phi x y p3 q3):0<aY p1 q1 p2 q2 p3 q3:=by
 have hN:0<4*(x*x+y*y):=by have:=aKy h0;grind
 rcases mX h0 h1 with⟨rfl,rfl,e1⟩|⟨t1,rfl,rfl,e1⟩<;>rcases mX h0 h2 with⟨rfl,rfl,e2⟩|⟨t2,rfl,rfl,e2⟩<;>rcases mX h0 h3 with⟨rfl,rfl,e3⟩|⟨t3,rfl,rfl,e3⟩<;>(try rw[e1] at l1)<;>(try rw[e2] at l1)<;>(try rw[e2] at l2)<;>(try rw[e3] at l2)
 ·grind
 ·grind
 ·grind
 ·-- opp,t2<t3<0
  have n2:t2<0:=by
   rcases (show t2<0∨0<=t2 by grind) with c|c
   ·exact c
   ·have:=(iN c).2;grind
  have:=nB.mp l2;rw[(mP _ _ _ _ _ _).1];exact mO (aAN t2 t3 x y) (Rat.mul_pos (sq1 t2) (sq1 t3)) hN (by grind)
 ·grind
 ·-- 0<=t1,opp,t3<0
  have n1:0<=t1:=by
   rcases (show t1<0∨0<=t1 by grind) with c|c
   ·have:=(iQ c).2;grind
   ·exact c
  have n3:t3<0:=by
   rcases (show t3<0∨0<=t3 by grind) with c|c
   ·exact c
   ·have:=(iN c).2;grind
  rw[<- (mP _ _ _ _ _ _).1];exact mO (aAN t3 t1 x y) (Rat.mul_pos (sq1 t3) (sq1 t1)) hN (by grind)
 ·-- 0<=t1<t2,opp
  have n2:0<=t2:=by
   rcases (show t2<0∨0<=t2 by grind) with c|c
   ·have:=(iQ c).2;grind
   ·exact c
  have:=nB.mp l1;exact mO (aAN t1 t2 x y) (Rat.mul_pos (sq1 t1) (sq1 t2)) hN (by grind)
 ·have m1:=nB.mp l1;have m2:=nB.mp l2;have m3:=nB.mp (show kG t1<kG t3 by grind);have mm:∀{a b:Rat},0<a->0<b->0<a*b:=λh1 h2=>Rat.mul_pos h1 h2;refine mO (aGB t1 t2 t3 x y) (Rat.mul_pos (Rat.mul_pos (sq1 t1) (sq1 t2)) (sq1 t3)) hN ?_;by_cases c1:t1<0
  ·have:t1<t2/\t2<t3:=by grind
   exact mm (mm (by grind) (by grind)) (by grind)
  ·by_cases c2:t2<0
   ·have h:=mm (mm (show 0 < -(t2-t1) by grind) (show 0 < -(t3-t1) by grind)) (show 0<t3-t2 by grind);grind
   ·by_cases c3:t3<0
    ·have h:=mm (mm (show 0<t2-t1 by grind) (show 0 < -(t3-t1) by grind)) (show 0 < -(t3-t2) by grind);grind
    ·exact mm (mm (by grind) (by grind)) (by grind)
theorem aDB {x y p q u v:Rat}(h0:¬(x=0/\y=0))(hc:OnR x y p q)(hd:OnR x y u v):eN x y p q u v=decide (phi x y p q<phi x y u v):=by
 have id0:x=fW 0 x y/\y=fR 0 x y:=by have:=(aEF (t:=0) h0).mpr rfl;exact⟨this.1.symm,this.2.symm⟩
 have p0:phi x y x y=0:=by have e:=aAv (t:=0) h0;rw[<- id0.1,<- id0.2] at e;rw[e];unfold kG;rw[if_neg (by grind)];grind
 have nn:∀{a b:Rat},OnR x y a b->0<=phi x y a b:=λ{a b} h=>by
  rcases mX h0 h with⟨_,_,e⟩|⟨t,_,_,e⟩
  ·rw[e];grind
  ·rw[e];rcases (show t<0∨0<=t by grind) with c|c
   ·have:=(iQ c).2;grind
   ·exact(iN c).2.1
 unfold eN;by_cases c:p=x/\q=y
 ·rw[if_pos c,c.1,c.2,p0];by_cases d:u=x/\v=y
  ·rw[decide_eq_true d,d.1,d.2,p0,decide_eq_false (by grind)];rfl
  ·rw[decide_eq_false d];have h1:=nn hd;have h2:phi x y u v≠0:=λz=>d (gM h0 hd rfl (z.trans p0.symm));rw[decide_eq_true (by grind)];rfl
 ·rw[if_neg c];have hx:OnR x y x y:=rfl;have h1:=nn hc;have n1:phi x y p q≠0:=λz=>c (gM h0 hc hx (z.trans p0.symm));have l0:phi x y x y<phi x y p q:=by rw[p0];grind
  have k:sgn (aY x y p q u v)=1↔phi x y p q<phi x y u v:=by
   rw[aG3];constructor
   ·intro h;rcases (show phi x y p q<phi x y u v∨phi x y p q=phi x y u v∨phi x y u v<phi x y p q by grind) with z|z|z
    ·exact z
    ·obtain⟨e1,e2⟩:=gM h0 hc hd z;subst e1 e2;have:aY x y p q p q=0:=by unfold aY;grind
     grind
    ·by_cases d:u=x/\v=y
     ·rw[d.1,d.2] at h;have:aY x y p q x y=0:=by unfold aY;grind
      grind
     ·have n2:phi x y u v≠0:=λz=>d (gM h0 hd hx (z.trans p0.symm));have:=xI h0 hx hd hc (by rw[p0];have:=nn hd;grind) z;have e:aY x y p q u v = -aY x y u v p q:=by unfold aY;grind
      grind
   ·intro h;exact xI h0 hx hc hd l0 h
  exact decide_eq_decide.mpr k
theorem aAn (x y u v:Rat):bef x y u v=false↔(u<x∨(u=x/\v<=y)):=by
 unfold bef;by_cases c:x=u
 ·rw[if_pos c,decide_eq_false_iff_not];constructor
  ·intro h;exact .inr ⟨c.symm,by grind⟩
  ·rintro(h|⟨_,h⟩)<;>grind
 ·rw[if_neg c,decide_eq_false_iff_not];constructor
  ·intro h;exact .inl (by grind)
  ·rintro(h|⟨h,_⟩)<;>grind
theorem aE9 {a b c d e f:Rat}(h1:bef c d a b=false)(h2:bef e f c d=false):bef e f a b=false:=by rw[aAn] at *;grind
theorem aIJ (a b c d:Rat):bef c d a b=false∨bef a b c d=false:=by rw[aAn,aAn];grind
theorem uF {x y u v a b c d e f:Rat}(ne:¬(x=u/\y=v))(h1:aY x y u v a b=0)(h2:aY x y u v c d=0)(h3:aY x y u v e f=0):aY a b c d e f=0:=by
 unfold aY at *;by_cases z:u-x=0
 ·have z2:v-y≠0:=λe=>ne ⟨by grind,by grind⟩;have:(v-y)*((c-a)*(f-b)-(d-b)*(e-a))=0:=by grind
  rcases Rat.mul_eq_zero.mp this with h|h
  ·exact absurd h z2
  ·exact h
 ·have:(u-x)*((c-a)*(f-b)-(d-b)*(e-a))=0:=by grind
  rcases Rat.mul_eq_zero.mp this with h|h
  ·exact absurd h z
  ·exact h
theorem rC {x y u v a b:Rat}:onS x y u v a b=true↔aY x y u v a b=0/\bef a b x y=false/\bef u v a b=false:=by unfold onS;simp only[Bool.and_eq_true,decide_eq_true_eq,Bool.not_eq_true']
theorem yG {x y u v a b:Rat}(ne:¬(x=u/\y=v))(ha:aY x y u v a b=0):∀(ps:List Pc)(s t:Rat) (l:Pc),ps.all (iO (.str x y u v))=true->goS ps s t=true->ps.getLast?=some l->(∀p q r w,l=.str p q r w->bef r w a b=false)->bef a b s t=false->∃p∈ps,onP p a b=true
 |[],_,_,_,_,_,hl,_,_=>by cases hl
 |p::ps,s,t,l,hc,hg,hl,hm,hs=>by
  rw[all_cons,Bool.and_eq_true] at hc;cases p with
  |dot _ _=>cases hg
  |arc _ _ _ _ _ _=>cases hg
  |ring _ _ _ _=>cases hg
  |str p1 p2 p3 p4 =>
   rw[goS,Bool.and_eq_true] at hg;have hc1:aY x y u v p1 p2=0/\aY x y u v p3 p4=0:=by have:=hc.1;unfold iO at this;simpa using this
   have ho:=rC.mp (show onS p1 p2 p3 p4 s t=true from hg.1);rcases aIJ a b p3 p4 with h|h
   ·refine⟨_,mem_cons_self,?_⟩;show onS p1 p2 p3 p4 a b=true;exact rC.mpr ⟨uF ne hc1.1 hc1.2 ha,aE9 ho.2.1 hs,h⟩
   ·cases ps with
    |nil =>
     cases hl;refine⟨_,mem_cons_self,?_⟩;show onS p1 p2 p3 p4 a b=true;exact rC.mpr ⟨uF ne hc1.1 hc1.2 ha,aE9 ho.2.1 hs,hm _ _ _ _ rfl⟩
    |cons q qs =>
     obtain⟨r,hr,e⟩:=yG ne ha (q::qs) p3 p4 l hc.2 hg.2 (by rw[List.getLast?_cons_cons] at hl;exact hl) hm h;exact⟨r,mem_cons_of_mem _ hr,e⟩
theorem aDA {x y u v a b:Rat}{ps:List Pc}(ne:¬(x=u/\y=v))(h:chP (.str x y u v) ps=true)(ho:onP (.str x y u v) a b=true):∃p∈ps,onP p a b=true:=by
 unfold chP at h;simp only[Bool.and_eq_true] at h;obtain⟨⟨_,hc⟩,hg,hl⟩:=h;obtain⟨h1,h2,h3⟩:=rC.mp (show onS x y u v a b=true from ho);cases e:ps.getLast? with
 |none=>rw[e] at hl;cases hl
 |some l =>
  rw[e] at hl;refine yG ne h1 ps x y l hc hg e (λp q r w z=>?_) h2;subst z;have:=rC.mp (show onS p q r w u v=true from hl);exact aE9 h3 this.2.2
def AH (a p q:Rat):Prop:=if p=a then q≠a else (a<p/\p<q)∨(p<q/\q<a)∨(q<a/\a<p)
theorem aCq {x y a b p q u v:Rat}(h0:¬(x=0/\y=0))(ha:OnR x y a b)(hp:OnR x y p q)(hu:OnR x y u v):eN a b p q u v=true↔AH (phi x y a b) (phi x y p q) (phi x y u v):=by
 have l3:=@xI x y;unfold eN AH;by_cases c:p=a/\q=b
 ·obtain⟨rfl,rfl⟩:=c;rw[if_pos ⟨rfl,rfl⟩,if_pos rfl];constructor
  ·intro h e;obtain⟨rfl,rfl⟩:=gM h0 hu hp e;simp at h
  ·intro h;rw[Bool.not_eq_true',decide_eq_false_iff_not];rintro⟨rfl,rfl⟩;exact h rfl
 ·have c':phi x y p q≠phi x y a b:=λe=>c (gM h0 hp ha e);rw[if_neg c,if_neg c',decide_eq_true_eq];have sg:sgn (aY a b p q u v)=1↔0<aY a b p q u v:=by
   unfold sgn;by_cases z:0<aY a b p q u v
   ·rw[if_pos z];exact⟨λ_=>z,λ_=>rfl⟩
   ·rw[if_neg z];split<;>exact⟨λe=>absurd e (by decide),λe=>absurd e z⟩
  rw[sg];have cy:=mP a b p q u v;have cy2:=mP p q u v a b;constructor
  ·intro h;have nu1:phi x y u v≠phi x y a b:=λe=>by obtain⟨rfl,rfl⟩:=gM h0 hu ha e;unfold aY at h;grind
   have nu2:phi x y u v≠phi x y p q:=λe=>by obtain⟨rfl,rfl⟩:=gM h0 hu hp e;unfold aY at h;grind
   have t1:=l3 h0 ha hu hp;have t2:=l3 h0 hp ha hu;have t3:=l3 h0 hu hp ha;have e1:aY a b u v p q =-aY a b p q u v:=by unfold aY;grind
   have e2:aY p q a b u v =-aY a b p q u v:=by unfold aY;grind
   have e3:aY u v p q a b =-aY a b p q u v:=by unfold aY;grind
   rw[e1] at t1;rw[e2] at t2;rw[e3] at t3;grind
  ·rintro(⟨h1,h2⟩|⟨h1,h2⟩|⟨h1,h2⟩)
   ·exact l3 h0 ha hp hu h1 h2
   ·have:=l3 h0 hp hu ha h1 h2;rw[show aY a b p q u v=aY p q u v a b by unfold aY;grind];exact this
   ·have:=l3 h0 hu ha hp h1 h2;rw[show aY a b p q u v=aY u v a b p q by unfold aY;grind];exact this
theorem aLM {a b s x:Rat}(h1:¬AH a b s)(h2:¬AH s b x)(n:b≠s):¬AH a b x:=by unfold AH at *;grind
theorem sY {x y a b:Rat}(h0:¬(x=0/\y=0))(h:OnR x y a b):0<=phi x y a b:=by
 rcases mX h0 h with⟨_,_,e⟩|⟨t,_,_,e⟩
 ·rw[e];grind
 ·rw[e];rcases (show t<0∨0<=t by grind) with c|c
  ·have:=(iQ c).2;grind
  ·exact(iN c).2.1
theorem jX {x y:Rat}(h0:¬(x=0/\y=0)):phi x y x y=0:=by have id0:=(aEF (t:=0) h0).mpr rfl;have e:=aAv (t:=0) h0;rw[id0.1,id0.2] at e;rw[e];unfold kG;rw[if_neg (by grind)];grind
def aJl (x y:Rat):Pc->Prop
 |.arc cx cy a b p q=>cx=0/\cy=0/\OnR x y a b/\OnR x y p q
 |_=>True
theorem aBW {x y a b:Rat}(h:OnR x y a b):bU 0 0 a b=x*x+y*y:=by unfold bU;unfold OnR at h;grind
theorem aGT {s b t x:Rat}(h1:s<t)(h2:s<=x)(h3:x<=t)(h4:¬AH s b t)(n:b≠s):¬AH s b x:=by unfold AH at *;grind
theorem aEA {s b x:Rat}(h1:0<s)(h2:s<=x)(h3:0<=b)(h4:¬AH s b 0)(n:b≠s):¬AH s b x:=by unfold AH at *;grind
theorem aGx {s b x:Rat}(h2:s<=x)(h4:AH s b x)(n:b≠s):b<=x:=by unfold AH at *;grind
theorem aJS {s b t:Rat}(h1:s<t)(h4:AH s b t)(n:b≠s):b<t:=by unfold AH at *;grind
theorem tH {sx sy tx ty X Y:Rat}(h0:¬(sx=0/\sy=0))(hT:OnR sx sy tx ty)(hX:OnR sx sy X Y):∀(ps:List Pc)(a b:Rat),(∀p∈ps,aJl sx sy p)->goR tx ty ps a b=true->ps≠[]->OnR sx sy a b ->
  (phi sx sy a b<phi sx sy tx ty∨(tx=sx/\ty=sy))->phi sx sy a b<=phi sx sy X Y->(phi sx sy X Y<=phi sx sy tx ty∨(tx=sx/\ty=sy))->∃p∈ps,onP p X Y=true
 |[],_,_,_,_,z,_,_,_,_=>absurd rfl z
 |p::ps,a,b,hr,hg,_,hs,hst,hle,hxt=>by
  cases p with
  |dot _ _=>cases hg
  |str _ _ _ _=>cases hg
  |ring _ _ _ _=>cases hg
  |arc cx cy p1 p2 p3 p4 =>
   obtain⟨rfl,rfl,hA,hB⟩:=hr _ mem_cons_self;rw[goR] at hg;simp only[Bool.and_eq_true,Bool.not_eq_true',decide_eq_false_iff_not,decide_eq_true_eq] at hg;obtain⟨⟨⟨hn,hon⟩,hm⟩,hrest⟩:=hg;have hon':¬AH (phi sx sy p1 p2) (phi sx sy p3 p4) (phi sx sy a b):=λz=>by have:=(aCq h0 hA hB hs).mpr z;unfold onP at hon;dsimp only at hon;rw[this] at hon;simp at hon
   have nb:phi sx sy p3 p4≠phi sx sy a b:=λe=>hn (gM h0 hB hs e);have put:¬AH (phi sx sy a b) (phi sx sy p3 p4) (phi sx sy X Y)->onP (.arc 0 0 p1 p2 p3 p4) X Y=true:=λz=>by have w:=aLM hon' z nb;have:eN p1 p2 p3 p4 X Y=false:=Bool.eq_false_iff.mpr λe=>w ((aCq h0 hA hB hX).mp e);unfold onP;dsimp only;rw[this,decide_eq_true (by rw[aBW hX,aBW hA])];rfl
   have am:=aCq h0 hs hB hT;cases ps with
   |nil =>
    refine⟨_,mem_cons_self,put ?_⟩;simp only[List.isEmpty_nil,Bool.and_eq_true,Bool.not_eq_true',decide_eq_false_iff_not] at hm;have m1:¬AH (phi sx sy a b) (phi sx sy p3 p4) (phi sx sy tx ty):=λz=>by have:=am.mpr z;rw[hm.2] at this;cases this
    rcases hst with h|⟨rfl,rfl⟩
    ·rcases hxt with h2|⟨rfl,rfl⟩
     ·exact aGT h hle h2 m1 nb
     ·have:=sY h0 hs;rw[jX h0] at h;grind
    ·rw[jX h0] at m1;have h1:=sY h0 hs;have h2:phi tx ty a b≠0:=λe=>hm.1 (gM h0 hs hT (e.trans (jX h0).symm));exact aEA (by grind) hle (sY h0 hB) m1 nb
   |cons q qs =>
    by_cases z:AH (phi sx sy a b) (phi sx sy p3 p4) (phi sx sy X Y)
    ·have bx:=aGx hle z nb;have st:phi sx sy p3 p4<phi sx sy tx ty∨(tx=sx/\ty=sy):=by
      rcases hst with h|h
      ·left;have m2:eN a b p3 p4 tx ty=true:=by
        have ns:¬(a=tx/\b=ty):=λe=>by rw[e.1,e.2] at h;exact absurd h Rat.lt_irrefl
        rw[decide_eq_false ns] at hm;simp only[Bool.not_false,Bool.true_and,List.isEmpty_cons,Bool.not_eq_false'] at hm;exact hm
       exact aJS h (am.mp m2) nb
      ·exact .inr h
     obtain⟨r,hr',e⟩:=tH h0 hT hX (q::qs) p3 p4 (λp hp=>hr p (mem_cons_of_mem _ hp)) hrest (List.cons_ne_nil _ _) hB st bx hxt;exact⟨r,mem_cons_of_mem _ hr',e⟩
    ·exact⟨_,mem_cons_self,put z⟩
theorem aBP {sx sy X Y:Rat}{g:Pc}{ps:List Pc}(h0:¬(sx=0/\sy=0))(hg:g=.ring 0 0 sx sy ∨ ∃tx ty,g=.arc 0 0 sx sy tx ty/\OnR sx sy tx ty/\¬(tx=sx/\ty=sy))(hr:∀p∈ps,aJl sx sy p)(h:chP g ps=true)(hX:OnR sx sy X Y)(ho:onP g X Y=true):∃p∈ps,onP p X Y=true:=by
 unfold chP at h;simp only[Bool.and_eq_true,Bool.not_eq_true'] at h;obtain⟨⟨hne,hc⟩,h⟩:=h;have hne':ps≠[]:=λe=>by rw[e] at hne;cases hne
 obtain⟨p0,bI,rfl⟩:=List.exists_cons_of_ne_nil hne';have ring:hU p0=true->(∀p∈p0::bI,iO g p=true)->∃p∈p0::bI,onP p X Y=true:=λhh hcc=>by
  refine⟨p0,mem_cons_self,?_⟩;have hcp:=hcc p0 mem_cons_self;cases p0 with
  |dot _ _=>cases hh
  |str _ _ _ _=>cases hh
  |arc _ _ _ _ _ _=>cases hh
  |ring a b c d =>
   have e:(0=a/\0=b)/\bU 0 0 sx sy=bU 0 0 c d:=by
    rcases hg with rfl|⟨tx,ty,rfl,_⟩
    ·simpa[iO] using hcp
    ·simpa[iO] using hcp
   obtain⟨⟨rfl,rfl⟩,e2⟩:=e;show decide (bU 0 0 X Y=bU 0 0 c d)=true;rw[<- e2,decide_eq_true];rw[aBW hX];unfold bU;grind
 have hcc:=List.all_eq_true.mp hc;rcases hg with rfl|⟨tx,ty,rfl,hT,nT⟩
 ·by_cases hh:hU p0=true
  ·exact ring hh hcc
  ·have h:(if hU p0=true then decide ((p0::bI).length=1) else goR sx sy (p0::bI) sx sy)=true:=h;rw[if_neg hh] at h;exact tH h0 rfl hX (p0::bI) sx sy hr h hne' rfl (.inr ⟨rfl,rfl⟩) (by rw[jX h0];exact sY h0 hX) (.inr ⟨rfl,rfl⟩)
 ·by_cases hh:hU p0=true
  ·exact ring hh hcc
  ·have h:(if hU p0=true then decide ((p0::bI).length=1) else goR tx ty (p0::bI) sx sy)=true:=h;rw[if_neg hh] at h;have a1:=aDB h0 hT hX;have ho':eN sx sy tx ty X Y=false:=by unfold onP at ho;simp only[Bool.and_eq_true,Bool.not_eq_true'] at ho;exact ho.2
   rw[ho'] at a1;have le:phi sx sy X Y<=phi sx sy tx ty:=by have:=of_decide_eq_false a1.symm;grind
   have pos:phi sx sy sx sy<phi sx sy tx ty:=by have h1:=sY h0 hT;have h2:phi sx sy tx ty≠0:=λe=>nT (gM h0 hT rfl (e.trans (jX h0).symm));rw[jX h0];grind
   exact tH h0 hT hX (p0::bI) sx sy hr h hne' rfl (.inl pos) (by rw[jX h0];exact sY h0 hX) (.inl le)
noncomputable def afX (s t x:Rat):Rat:=t+s*x
noncomputable def afP (s t r:Rat):Pc->Pc
 |.dot a b=>.dot (afX s t a) (afX s r b)
 |.str a b c d=>.str (afX s t a) (afX s r b) (afX s t c) (afX s r d)
 |.arc a b c d e f=>.arc (afX s t a) (afX s r b) (afX s t c) (afX s r d) (afX s t e) (afX s r f)
 |.ring a b c d=>.ring (afX s t a) (afX s r b) (afX s t c) (afX s r d)
theorem jV {s:Rat}(h:0<s)(t x y:Rat):afX s t x=afX s t y↔x=y:=by
 unfold afX;constructor
 ·intro e;have:s*(x-y)=0:=by grind
  rcases Rat.mul_eq_zero.mp this with z|z<;>grind
 ·intro e;rw[e]
theorem aLP {s:Rat}(h:0<s)(t x y:Rat):afX s t x<afX s t y↔x<y:=by
 unfold afX;constructor
 ·intro e;rcases (show x<y∨y<=x by grind) with c|c
  ·exact c
  ·have:=Rat.mul_nonneg (Rat.le_of_lt h) (show 0<=x-y by grind);grind
 ·intro e;have:=Rat.mul_pos h (show 0<y-x by grind);grind
theorem yD (s t r a b c d e f:Rat):aY (afX s t a) (afX s r b) (afX s t c) (afX s r d) (afX s t e) (afX s r f)=s*s*aY a b c d e f:=by unfold aY afX;grind
theorem zO (s t r a b c d:Rat):bU (afX s t a) (afX s r b) (afX s t c) (afX s r d)=s*s*bU a b c d:=by unfold bU afX;grind
theorem yT {s a b:Rat}(h:0<s):s*s*a=s*s*b↔a=b:=by
 constructor
 ·intro e;have h2:0<s*s:=Rat.mul_pos h h;have:(s*s)*(a-b)=0:=by grind
  rcases Rat.mul_eq_zero.mp this with z|z<;>grind
 ·intro e;rw[e]
theorem aJn {s a:Rat}(h:0<s):sgn (s*s*a)=sgn a:=by
 have h2:0<s*s:=Rat.mul_pos h h;unfold sgn;rcases (show 0<a∨a=0∨a<0 by grind) with c|c|c
 ·have:=Rat.mul_pos h2 c;rw[if_pos c,if_pos this]
 ·rw[c,Rat.mul_zero]
 ·have:=Rat.mul_pos h2 (show 0 < -a by grind);have n1:¬0<s*s*a:=by grind
  have n2:s*s*a<0:=by grind
  have n3:¬0<a:=by grind
  rw[if_neg n1,if_pos n2,if_neg n3,if_pos c]
theorem zX {s:Rat}(h:0<s)(t r a b c d:Rat):bef (afX s t a) (afX s r b) (afX s t c) (afX s r d)=bef a b c d:=by unfold bef;simp only[jV h,aLP h]
theorem aEb {s:Rat}(h:0<s)(t r a b c d e f:Rat):eN (afX s t a) (afX s r b) (afX s t c) (afX s r d) (afX s t e) (afX s r f)=eN a b c d e f:=by unfold eN;simp only[jV h,yD,aJn h]
theorem aB0 {s:Rat}(h:0<s)(t r a b c d e f:Rat):aY (afX s t a) (afX s r b) (afX s t c) (afX s r d) (afX s t e) (afX s r f)=0↔aY a b c d e f=0:=by rw[yD,show(0:Rat)=s*s*0 by grind,yT h];grind
theorem aJr {s:Rat}(h:0<s)(t r:Rat)(p:Pc)(a b:Rat):onP (afP s t r p) (afX s t a) (afX s r b)=onP p a b:=by cases p<;>simp only[afP,onP,onS,aB0 h,zO,yT h,zX h,aEb h,jV h]
def WfP:Pc->Prop
 |.dot _ _=>True
 |.str x y u v=>¬(x=u/\y=v)
 |.arc cx cy a b p q=>¬(a=cx/\b=cy)/\bU cx cy a b=bU cx cy p q/\¬(p=a/\q=b)
 |.ring cx cy a b=>¬(a=cx/\b=cy)
noncomputable def chQ (g:Pc)(ps:List Pc):Bool:=match g with
 |.dot x y=>(match ps with|[p]=>onP p x y|_=>false)
 |g=>chP g ps
theorem aDD {g:Pc}{ps:List Pc}{X Y:Rat}(wg:WfP g)(wp:∀p∈ps,WfP p)(h:chQ g ps=true)(ho:onP g X Y=true):∃p∈ps,onP p X Y=true:=by
 have rnd:∀(cx cy sx sy:Rat)(g0:Pc),¬(sx=cx/\sy=cy)->g=shP cx cy g0->(g0=.ring 0 0 (sx-cx) (sy-cy) ∨ ∃tx ty,g0=.arc 0 0 (sx-cx) (sy-cy) tx ty/\OnR (sx-cx) (sy-cy) tx ty/\¬(tx=sx-cx/\ty=sy-cy))->chP g ps=true->∃p∈ps,onP p X Y=true:=λcx cy sx sy g0 n0 eg hg h=>by
  have back:∀p:Pc,shP cx cy (shP (-cx) (-cy) p)=p:=λp=>by cases p<;>simp only[shP]<;>congr 1<;>grind
  have hm:(ps.map (shP (-cx) (-cy))).map (shP cx cy)=ps:=by rw[List.map_map,show(shP cx cy ∘ shP (-cx) (-cy))=id by funext p;exact back p,List.map_id]
  have hc:chP g0 (ps.map (shP (-cx) (-cy)))=true:=by rw[<- aKB cx cy,<- eg,hm];exact h
  have hX:X=cx+(X-cx):=by grind
  have hY:Y=cy+(Y-cy):=by grind
  have ho0:onP g0 (X-cx) (Y-cy)=true:=by rw[<- vN cx cy,<- eg,<- hX,<- hY];exact ho
  have hXY:OnR (sx-cx) (sy-cy) (X-cx) (Y-cy):=by
   rcases hg with rfl|⟨tx,ty,rfl,_⟩
   ·unfold onP at ho0;have:=of_decide_eq_true ho0;unfold bU at this;unfold OnR;grind
   ·unfold onP at ho0;simp only[Bool.and_eq_true,decide_eq_true_eq] at ho0;have:=ho0.1;unfold bU at this;unfold OnR;grind
  have hr:∀p∈ps.map (shP (-cx) (-cy)),aJl (sx-cx) (sy-cy) p:=λp hp=>by
   have ha:=hc;unfold chP at ha;simp only[Bool.and_eq_true] at ha;have hcar:=List.all_eq_true.mp ha.1.2 p hp;obtain⟨p',hp',rfl⟩:=List.mem_map.mp hp;have wf:=wp p' hp';cases p' with
   |dot _ _=>exact trivial
   |str _ _ _ _=>exact trivial
   |ring _ _ _ _=>exact trivial
   |arc a b c d e f =>
    have e1:(0 = -cx+a/\0 = -cy+b)/\bU 0 0 (sx-cx) (sy-cy)=bU 0 0 (-cx+c) (-cy+d):=by
     rcases hg with rfl|⟨tx,ty,rfl,_⟩
     ·simpa[iO,shP] using hcar
     ·simpa[iO,shP] using hcar
    obtain⟨⟨e2,e3⟩,e4⟩:=e1;have w2:=wf.2.1;refine⟨e2.symm,e3.symm,?_,?_⟩
    ·unfold bU at e4;unfold OnR;grind
    ·unfold bU at e4 w2;unfold OnR;grind
  obtain⟨p,hp,e⟩:=aBP (λz=>n0 ⟨by grind,by grind⟩) hg hr hc hXY ho0;obtain⟨p',hp',rfl⟩:=List.mem_map.mp hp;refine⟨p',hp',?_⟩;rw[<- back p',hX,hY,vN];exact e
 cases g with
 |dot x y =>
  unfold chQ at h
  match ps,h with
  |[p],h =>
   have:=of_decide_eq_true (show decide (X=x/\Y=y)=true from ho);exact⟨p,mem_cons_self,by rw[this.1,this.2];exact h⟩
 |str x y u v=>exact aDA wg h ho
 |ring cx cy sx sy =>
  exact rnd cx cy sx sy (.ring 0 0 (sx-cx) (sy-cy)) wg (by simp only[shP];congr 1<;>grind) (.inl rfl) h
 |arc cx cy sx sy tx ty =>
  exact rnd cx cy sx sy (.arc 0 0 (sx-cx) (sy-cy) (tx-cx) (ty-cy)) wg.1 (by simp only[shP];congr 1<;>grind) (.inr ⟨tx-cx,ty-cy,rfl,by have:=wg.2.1;unfold bU at this;unfold OnR;grind,λz=>wg.2.2 ⟨by grind,by grind⟩⟩) h
inductive Kd where
 |non|on (a b:Rat)|sm (x y s:Rat)
noncomputable def Kd.S:Kd->Nat->Rat
 |.sm _ _ s,n=>s^n
 |_,_=>1
noncomputable def Kd.T:Kd->Nat->Rat
 |.non,_=>0
 |.on a _,n=>a*(n:Rat)
 |.sm x _ s,n=>x*(1-s^n)
noncomputable def Kd.R:Kd->Nat->Rat
 |.non,_=>0
 |.on _ b,n=>b*(n:Rat)
 |.sm _ y s,n=>y*(1-s^n)
def Kd.Pos:Kd->Prop
 |.sm _ _ s=>0<s
 |_=>True
theorem sD (s:Rat)(m:Nat):∀n,s^(m+n)=s^m*s^n
 |0=>by rw[Nat.add_zero,Rat.pow_zero,Rat.mul_one]
 |n+1=>by rw[<- Nat.add_assoc,Rat.pow_succ,Rat.pow_succ,sD s m n,Rat.mul_assoc]
theorem Kd.S_pos {k:Kd}(h:k.Pos)(n:Nat):0<k.S n:=by
 cases k with
 |sm x y s=>exact Rat.pow_pos h
 |_=>show(0:Rat)<1;decide +kernel
theorem Kd.S_add (k:Kd)(m n:Nat):k.S (m+n)=k.S m*k.S n:=by
 cases k with
 |sm x y s=>exact sD s m n
 |_=>show(1:Rat)=1*1;decide +kernel
theorem Kd.T_add (k:Kd)(m n:Nat):k.T (m+n)=k.T m+k.S m*k.T n:=by
 cases k with
 |non=>show(0:Rat)=0+1*0;decide +kernel
 |on a b =>
  show a*((m+n:Nat):Rat)=a*(m:Rat)+1*(a*(n:Rat));rw[Rat.natCast_add];grind
 |sm x y s =>
  show x*(1-s^(m+n))=x*(1-s^m)+s^m*(x*(1-s^n));rw[sD];grind
theorem Kd.R_add (k:Kd)(m n:Nat):k.R (m+n)=k.R m+k.S m*k.R n:=by
 cases k with
 |non=>show(0:Rat)=0+1*0;decide +kernel
 |on a b =>
  show b*((m+n:Nat):Rat)=b*(m:Rat)+1*(b*(n:Rat));rw[Rat.natCast_add];grind
 |sm x y s =>
  show y*(1-s^(m+n))=y*(1-s^m)+s^m*(y*(1-s^n));rw[sD];grind
noncomputable def kM (k:Kd)(n:Nat):Pc->Pc:=afP (k.S n) (k.T n) (k.R n)
theorem aFI (s t s' t' x:Rat):afX (s*s') (t+s*t') x=afX s t (afX s' t' x):=by unfold afX;grind
theorem aF0 (s t r s' t' r':Rat)(p:Pc):afP (s*s') (t+s*t') (r+s*r') p=afP s t r (afP s' t' r' p):=by cases p<;>simp only[afP,aFI]
theorem aFN (k:Kd)(m n:Nat)(p:Pc):kM k (m+n) p=kM k m (kM k n p):=by unfold kM;rw[Kd.S_add,Kd.T_add,Kd.R_add,aF0]
theorem Kd.z0 (k:Kd):k.S 0=1/\k.T 0=0/\k.R 0=0:=by
 cases k with
 |non=>exact⟨rfl,rfl,rfl⟩
 |on a b=>exact⟨rfl,by show a*((0:Nat):Rat)=0;rw[show((0:Nat):Rat)=0 from rfl];grind,by show b*((0:Nat):Rat)=0;rw[show((0:Nat):Rat)=0 from rfl];grind⟩
 |sm x y s=>exact⟨by show s^0=1;rw[Rat.pow_zero],by show x*(1-s^0)=0;rw[Rat.pow_zero];grind,by show y*(1-s^0)=0;rw[Rat.pow_zero];grind⟩
theorem aGt (x:Rat):afX 1 0 x=x:=by unfold afX;grind
theorem aCX (k:Kd)(p:Pc):kM k 0 p=p:=by obtain⟨a,b,c⟩:=k.z0;unfold kM;rw[a,b,c];cases p<;>simp only[afP,aGt]
def WfO:Pc->Prop
 |.str x y u v=>bef x y u v=true
 |p=>WfP p
theorem WfO.wf {p:Pc}(h:WfO p):WfP p:=by
 cases p with
 |str x y u v =>
  rintro⟨rfl,rfl⟩;have:bef x y x y=true:=h;rw[aBJ] at this;cases this
 |_=>exact h
theorem WfO.kM {k:Kd}(hk:k.Pos){n:Nat}{p:Pc}(h:WfO p):WfO (kM k n p):=by
 have s0:=Kd.S_pos hk n;cases p with
 |dot x y=>exact trivial
 |str x y u v =>
  show bef _ _ _ _=true;rw[zX s0];exact h
 |arc a b c d e f =>
  obtain⟨h1,h2,h3⟩:=h;refine⟨λz=>h1 ⟨(jV s0 _ _ _).mp z.1,(jV s0 _ _ _).mp z.2⟩,?_,λz=>h3 ⟨(jV s0 _ _ _).mp z.1,(jV s0 _ _ _).mp z.2⟩⟩;rw[zO,zO,h2]
 |ring a b c d=>exact λz=>h ⟨(jV s0 _ _ _).mp z.1,(jV s0 _ _ _).mp z.2⟩
noncomputable def lkP (k:Kd)(pcs:List Pc)(l:Nat×Nat):Option Pc:=(pcs[l.1]?).map (kM k l.2)
noncomputable def lkB (ns many:Nat)(l:Nat×Nat):Bool:=decide (l.1<many)&&(decide (ns<=l.1)||decide (l.2=0))
noncomputable def cB (k:Kd)(ns:Nat)(pcs:List Pc)(g:Pc)(ls:List (Nat×Nat)):Bool :=
 ls.all (lkB ns pcs.length)&&(!(aCF g)||decide (dlP ls=ls.length))&&chQ g (ls.filterMap (lkP k pcs))
noncomputable def nR (k:Kd)(st fl:List Pc)(X Y:Rat)(N:Nat):Bool:=st.any (λp=>onP p X Y)||(range N).any λn=>fl.any λp=>onP (kM k n p) X Y
structure yJ (st fl:List Pc):Prop where
 st:∀p∈st,WfO p
 fl:∀p∈fl,WfO p
theorem wV {k:Kd}(hk:k.Pos){st fl:List Pc}(ok:yJ st fl){g:Pc}(wg:WfO g){ls:List (Nat×Nat)}(h:cB k st.length (st++fl) g ls=true){X Y:Rat}(ho:onP g X Y=true) :
  (∃p∈st,onP p X Y=true/\∃l∈ls,l.1<st.length) ∨ ∃l∈ls,st.length<=l.1/\∃p∈fl,onP (kM k l.2 p) X Y=true:=by
 unfold cB at h;simp only[Bool.and_eq_true] at h;obtain⟨⟨hl,_⟩,hc⟩:=h;have hl:=List.all_eq_true.mp hl;have mem:∀{i:Nat}{q:Pc},(st++fl)[i]?=some q->(i<st.length/\q∈st)∨(st.length<=i/\q∈fl):=λ{i q} e=>by
  by_cases c:i<st.length
  ·rw[getElem?_append_left c] at e;exact .inl ⟨c,mem_of_getElem? e⟩
  ·rw[getElem?_append_right (by omega)] at e;exact .inr ⟨by omega,mem_of_getElem? e⟩
 have wf:∀p∈ls.filterMap (lkP k (st++fl)),WfP p:=λp hp=>by
  obtain⟨l,_,e⟩:=List.mem_filterMap.mp hp;unfold lkP at e;obtain⟨q,eq,rfl⟩:=Option.map_eq_some_iff.mp e;rcases mem eq with⟨_,m⟩|⟨_,m⟩
  ·exact((ok.st q m).kM hk).wf
  ·exact((ok.fl q m).kM hk).wf
 obtain⟨p,hp,e⟩:=aDD wg.wf wf hc ho;obtain⟨l,hll,el⟩:=List.mem_filterMap.mp hp;unfold lkP at el;obtain⟨q,eq,rfl⟩:=Option.map_eq_some_iff.mp el;have hb:=hl l hll;unfold lkB at hb;simp only[Bool.and_eq_true,Bool.or_eq_true,decide_eq_true_eq] at hb;rcases mem eq with⟨c,m⟩|⟨c,m⟩
 ·have z:l.2=0:=hb.2.resolve_left (by omega);rw[z,aCX] at e;exact .inl ⟨q,m,e,l,hll,c⟩
 ·exact .inr ⟨l,hll,c,q,m,e⟩
noncomputable def flB (k:Kd)(ns:Nat)(pcs:List Pc)(g:Pc)(lss:List (List (Nat×Nat))):Bool :=
 (range lss.length).all (λn=>match lss[n]? with|some ls=>cB k ns pcs (kM k n g) ls|none=>true)&&(match lss.getLast? with|some ls=>ls.all λl=>decide (ns<=l.1)|none=>false)
structure aEG (ls:List (Nat×Nat)):Prop where
 le:∀l∈ls,l.2<=3
theorem aLa {k:Kd}(hk:k.Pos)(m:Nat)(p:Pc)(X Y:Rat):∃X' Y',(∀q:Pc,onP (kM k m q) X Y=onP q X' Y'):=by
 have s0:=Kd.S_pos hk m;refine⟨(X-k.T m)/k.S m,(Y-k.R m)/k.S m,λq=>?_⟩;have e:∀z t:Rat,afX (k.S m) t ((z-t)/k.S m)=z:=λz t=>by unfold afX;rw[Rat.mul_comm,Rat.div_mul_cancel (by grind)];grind
 unfold kM;have:=aJr s0 (k.T m) (k.R m) q ((X-k.T m)/k.S m) ((Y-k.R m)/k.S m);rw[e,e] at this;exact this
theorem aDb {k:Kd}(hk:k.Pos){st fl:List Pc}(ok:yJ st fl){g:Pc}(wg:WfO g){lss:List (List (Nat×Nat))}(hl:∀ls∈lss,aEG ls)(h:flB k st.length (st++fl) g lss=true){X Y:Rat}{n:Nat}(hn:n<13)(ho:onP (kM k n g) X Y=true):nR k st fl X Y 31=true:=by
 unfold flB at h;simp only[Bool.and_eq_true] at h;obtain⟨h1,h2⟩:=h;have h1:=List.all_eq_true.mp h1;have fin:∀(j:Nat)(p:Pc),p∈fl->j<31->onP (kM k j p) X Y=true->nR k st fl X Y 31=true:=λj p m hj e=>by unfold nR;rw[Bool.or_eq_true];exact .inr (List.any_eq_true.mpr ⟨j,List.mem_range.mpr hj,List.any_eq_true.mpr ⟨p,m,e⟩⟩)
 have fin0:∀p:Pc,p∈st->onP p X Y=true->nR k st fl X Y 31=true:=λp m e=>by unfold nR;rw[Bool.or_eq_true];exact .inl (List.any_eq_true.mpr ⟨p,m,e⟩)
 by_cases c:n<lss.length
 ·have hc:=h1 n (List.mem_range.mpr c);rw[getElem?_eq_getElem c] at hc;have lm:=hl lss[n] (getElem_mem c);rcases wV hk ok (wg.kM hk) hc ho with⟨p,m,e,_⟩|⟨l,hl',_,p,m,e⟩
  ·exact fin0 p m e
  ·exact fin l.2 p m (by have:=lm.le l hl';omega) e
 ·cases e:lss.getLast? with
  |none=>rw[e] at h2;cases h2
  |some ls =>
   rw[e] at h2;have h2:=List.all_eq_true.mp h2;have hne:lss≠[]:=λz=>by rw[z] at e;cases e
   have pos:0<lss.length:=List.length_pos_iff.mpr hne;have eg:lss[lss.length-1]?=some ls:=by rw[<- List.getLast?_eq_getElem?];exact e
   have hc:=h1 (lss.length-1) (List.mem_range.mpr (by omega));rw[eg] at hc;have lm:=hl ls (mem_of_getElem? eg);rw[show n=(n-(lss.length-1))+(lss.length-1) by omega,aFN] at ho;obtain⟨X',Y',back⟩:=aLa hk (n-(lss.length-1)) g X Y;rw[back] at ho;rcases wV hk ok (wg.kM hk) hc ho with⟨p,m,e',l,hl',c'⟩|⟨l,hl',_,p,m,e'⟩
   ·have:=of_decide_eq_true (h2 l hl');omega
   ·rw[<- back,<- aFN] at e';exact fin _ p m (by have:=lm.le l hl';omega) e'
noncomputable def psB (k:Kd)(st fl st2 fl2:List Pc)(lss:List (List (Nat×Nat)))(lsss:List (List (List (Nat×Nat)))):Bool :=
 ((st.zip lss).all λx=>cB k st2.length (st2++fl2) x.1 x.2)&&(fl.zip lsss).all λx=>flB k st2.length (st2++fl2) x.1 x.2
theorem zA {k:Kd}(hk:k.Pos){st fl st2 fl2:List Pc}(ok:yJ st fl)(ok2:yJ st2 fl2){lss:List (List (Nat×Nat))}{lsss:List (List (List (Nat×Nat)))}(n1:lss.length=st.length)(n2:lsss.length=fl.length)(hl:∀ls∈lss,aEG ls)(hll:∀x∈lsss,∀ls∈x,aEG ls)(h:psB k st fl st2 fl2 lss lsss=true){X Y:Rat}(ho:nR k st fl X Y 13=true):nR k st2 fl2 X Y 31=true:=by
 unfold psB at h;rw[Bool.and_eq_true] at h;obtain⟨h1,h2⟩:=h;have h1:=List.all_eq_true.mp h1;have h2:=List.all_eq_true.mp h2;unfold nR at ho;rw[Bool.or_eq_true] at ho;rcases ho with ho|ho
 ·obtain⟨p,m,e⟩:=List.any_eq_true.mp ho;obtain⟨i,hi,rfl⟩:=List.getElem_of_mem m;have hz:=h1 (st[i],lss[i]'(by omega)) (by rw[<- List.getElem_zip (h:=by rw[length_zip];omega)];exact getElem_mem _);have lm:=hl lss[i] (getElem_mem _);unfold nR;rw[Bool.or_eq_true];rcases wV hk ok2 (ok.st _ m) hz e with⟨p,m,e,_⟩|⟨l,hl',_,p,m,e⟩
  ·exact .inl (List.any_eq_true.mpr ⟨p,m,e⟩)
  ·exact .inr (List.any_eq_true.mpr ⟨l.2,List.mem_range.mpr (by have:=lm.le l hl';omega),List.any_eq_true.mpr ⟨p,m,e⟩⟩)
 ·obtain⟨n,hn,ho⟩:=List.any_eq_true.mp ho;obtain⟨p,m,e⟩:=List.any_eq_true.mp ho;obtain⟨i,hi,rfl⟩:=List.getElem_of_mem m;have hz:=h2 (fl[i],lsss[i]'(by omega)) (by rw[<- List.getElem_zip (h:=by rw[length_zip];omega)];exact getElem_mem _);exact aDb hk ok2 (ok.fl _ m) (hll lsss[i] (getElem_mem _)) hz (List.mem_range.mp hn) e
noncomputable def kdD:Kd->D
 |.non=>.tup [.str "none"]
 |.on a b=>.tup [.str "on",PQ a b]
 |.sm x y s=>.tup [.str "smaller",PQ x y,FQ s]
def Kd.Ok:Kd->Prop
 |.non=>True
 |.on a b=>BQ 3 a/\BQ 3 b
 |.sm x y s=>0<s/\BQ 8 x/\BQ 8 y/\∀n,BQ (2*n+1) (s^n)
theorem Kd.Ok.pos {k:Kd}(h:k.Ok):k.Pos:=by
 cases k with
 |sm x y s=>exact h.1
 |_=>exact trivial
theorem bqn {n:Nat}(h:n<32):BQ 5 (n:Rat):=by rw[<- Rat.intCast_natCast];exact .int (by show((n:Nat):Int).natAbs<2^5;rw[Int.natAbs_natCast];exact h) (by decide)
theorem Kd.Ok.bd {k:Kd}(h:k.Ok){n:Nat}(hn:n<32):BQ (2*n+1) (k.S n)/\BQ (2*n+16) (k.T n)/\BQ (2*n+16) (k.R n):=by
 cases k with
 |non=>exact⟨bq1.mono (by omega),bqz.mono (by omega),bqz.mono (by omega)⟩
 |on a b=>exact⟨bq1.mono (by omega),(h.1.mul (bqn hn)).mono (by omega),(h.2.mul (bqn hn)).mono (by omega)⟩
 |sm x y s =>
  obtain⟨_,h1,h2,h3⟩:=h;exact⟨h3 n,(h1.mul (bq1.sub (h3 n))).mono (by omega),(h2.mul (bq1.sub (h3 n))).mono (by omega)⟩
theorem Kd.Ok.af {k:Kd}(h:k.Ok){n:Nat}(hn:n<32){B:Nat}{x y:Rat}(hx:BQ B x)(hy:BQ B y):BQ (B+4*n+18) (afX (k.S n) (k.T n) x)/\BQ (B+4*n+18) (afX (k.S n) (k.R n) y):=by obtain⟨a,b,c⟩:=h.bd hn;exact⟨(b.add (a.mul hx)).mono (by omega),(c.add (a.mul hy)).mono (by omega)⟩
theorem Kd.Ok.pcB {k:Kd}(h:k.Ok){n:Nat}(hn:n<32){B:Nat}{p:Pc}(hp:pcB B p):pcB (B+4*n+18) (kM k n p):=by
 cases p with
 |dot x y=>exact h.af hn hp.1 hp.2
 |str x y u v =>
  obtain⟨a,b,c,d⟩:=hp;obtain⟨a,b⟩:=h.af hn a b;obtain⟨c,d⟩:=h.af hn c d;exact⟨a,b,c,d⟩
 |arc x y u v z w =>
  obtain⟨a,b,c,d,e,f⟩:=hp;obtain⟨a,b⟩:=h.af hn a b;obtain⟨c,d⟩:=h.af hn c d;obtain⟨e,f⟩:=h.af hn e f;exact⟨a,b,c,d,e,f⟩
 |ring x y u v =>
  obtain⟨a,b,c,d⟩:=hp;obtain⟨a,b⟩:=h.af hn a b;obtain⟨c,d⟩:=h.af hn c d;exact⟨a,b,c,d⟩
theorem mB {B C:Nat}{p:Pc}(h:pcB B p)(l:B<=C):pcB C p:=by
 cases p with
 |dot x y=>exact⟨h.1.mono l,h.2.mono l⟩
 |str x y u v=>exact⟨h.1.mono l,h.2.1.mono l,h.2.2.1.mono l,h.2.2.2.mono l⟩
 |arc x y u v z w=>exact⟨h.1.mono l,h.2.1.mono l,h.2.2.1.mono l,h.2.2.2.1.mono l,h.2.2.2.2.1.mono l,h.2.2.2.2.2.mono l⟩
 |ring x y u v=>exact⟨h.1.mono l,h.2.1.mono l,h.2.2.1.mono l,h.2.2.2.mono l⟩
def hV:DSp:=λds M Q=>∃k n x y,ds=[kdD k,.int (n:Nat),PQ x y]/\k.Ok/\n<=3/\BQ 250 x/\BQ 250 y/\Q (PQ (afX (k.S n) (k.T n) x) (afX (k.S n) (k.R n) y)) M
theorem aFC {x y u v:Rat}(h1:x=u)(h2:y=v){Q:DQ}{M:DM}(q:Q (PQ x y) M):Q (PQ u v) M:=by rw[<- h1,<- h2];exact q
noncomputable abbrev iV:Stmt:=top 37
theorem sT:aS ["kind","n","p"] ["kind","n","p"] (aI iV):=by ac_rfl
theorem sK (hF:cK K mg "stepped_point" iV ["kind","n","p"])(bL:Has P w K mg base 104 "together" ["p","q"] cV)(pO:Has P w K mg base 104 "off" ["p","q"] sZ)(mZ:Has P w K mg base 103 "grown" ["p","number"] wQ)(vQ:Has P w K mg base 102 "raised" ["number","n"] yS):Has P w K mg base 105 "stepped_point" ["kind","n","p"] hV:=by
 refine Has.mkZ hF sT (λds M Q ⟨_,_,_,_,e,_⟩=>by rw[e];rfl) λf cdv A outer s H ds M Q E hr h=>?_;obtain⟨k,n,x,y,rfl,ok,hn,bx,bY,q⟩:=h;refine⟨_,(aF (bA (aR (bR hr) (aG (aB 0) aC) bG) (aH (aJ (aE bL hr (by decide) (aA (aB 2) (aA (aE mZ hr (by decide) (aA (aG (aB 0) aC) (aA (aK (aA (aB 1) (aA aC aD))) aD))) aD))))) aP)
  (aF (bA (aR (bR hr) (aG (aB 0) aC) bG) (aH (aJ (aE bL hr (by decide) (aA (aG (aB 0) aC) (aA (aE mZ hr (by decide) (aA (aE pO hr (by decide) (aA (aB 2) (aA (aG (aB 0) aC) aD))) (aA (aE vQ hr (by decide) (aA (aG (aB 0) aC) (aA (aB 1) aD))) aD))) aD))))) aP)
  (aH (aJ (aB 2))))),?_⟩
 have up:∀{B:Nat}{z:Rat},BQ B z->B<=4400->BQ 4400 z:=λh l=>h.mono l;cases k with
 |non =>
  dsimp only[kdD];ac_nf;rw[aQ];refine ifF (by decide) ?_;rw[aQ];exact ifF (by decide) (bZ (aFC (by unfold afX;show 0+1*x=x;grind) (by unfold afX;show 0+1*y=y;grind) q))
 |on a b =>
  obtain⟨h1,h2⟩:=ok;dsimp only[kdD];ac_nf;rw[aQ];refine ifT (by decide) ⟨by decide,?_⟩;rw[<- aE4,Rat.intCast_natCast];have hb:=bqn (n:=n) (by omega);refine⟨a,b,_,3,5,rfl,h1,h2,hb,by decide,?_⟩;ac_nf;exact⟨_,_,_,_,rfl,up bx (by decide),up bY (by decide),up (h1.mul hb) (by decide),up (h2.mul hb) (by decide),bZ (aFC (by unfold afX;show a*(n:Rat)+1*x=x+a*(n:Rat);grind) (by unfold afX;show b*(n:Rat)+1*y=y+b*(n:Rat);grind) q)⟩
 |sm a b s0 =>
  obtain⟨h0,h1,h2,h3⟩:=ok;dsimp only[kdD];ac_nf;rw[aQ];refine ifF (by decide) ?_;rw[aQ];refine ifT (by decide) ⟨_,_,_,_,rfl,up bx (by decide),up bY (by decide),up h1 (by decide),up h2 (by decide),?_⟩;ac_nf;have hb:BQ 7 (s0^n):=(h3 n).mono (by omega);refine⟨s0,n,rfl,h0,up hb (by decide),?_⟩;ac_nf;have b1:=bx.sub h1;have b2:=bY.sub h2;refine⟨_,_,_,_,_,rfl,b1,b2,hb,by decide,?_⟩;ac_nf;exact⟨_,_,_,_,rfl,up h1 (by decide),up h2 (by decide),up (b1.mul hb) (by decide),up (b2.mul hb) (by decide),bZ (aFC (by unfold afX;show a*(1-s0^n)+s0^n*x=a+(x-a)*s0^n;grind) (by unfold afX;show b*(1-s0^n)+s0^n*y=b+(y-b)*s0^n;grind) q)⟩
def mD:DSp:=λds M Q=>∃k n p,ds=[kdD k,.int (n:Nat),pcD p]/\k.Ok/\n<=3/\pcB 250 p/\Q (pcD (kM k n p)) M
noncomputable abbrev fO:Stmt:=top 38
theorem tF:aS ["kind","n","piece"] ["kind","n","piece"] (aI fO):=by ac_rfl
theorem rA (hF:cK K mg "stepped_piece" fO ["kind","n","piece"])(eJ:mg "tuple" = none)(iU:Has P w K mg base 105 "stepped_point" ["kind","n","p"] hV):Has P w K mg base 106 "stepped_piece" ["kind","n","piece"] mD:=by
 refine Has.mkZ hF tF (λds M Q ⟨_,_,_,e,_⟩=>by rw[e];rfl) λf cdv A outer s H ds M Q E hr h=>?_;obtain⟨k,n,p,rfl,ok,hn,bp,q⟩:=h;refine⟨_,(aH (aJ (aM aAR (aK (aA (aG (aB 2) aC) aD)) (jM vT eJ (aA (aCJ (⟨rfl,by decide +kernel,by decide +kernel,by decide +kernel,rfl,by decide +kernel⟩:gW ["kind","n","piece"] (aI fO) ["p","kind","n"] [none,some 0,some 1] _) rfl (jL (aB 2) (jU aC) oZ) (λ_ _ _ _ _=>(aO (i:=0) (show Nodup (["p","kind","n"]:List Str) by decide +kernel))) (λ_ _ _ _ _=>(aE iU hr (by decide) (aA (aB 1) (aA (aB 2) (aA (aB 0) aD)))))) aD))))),?_⟩;have st:∀{x y:Rat}{M:DM} {R:DQ},BQ 250 x->BQ 250 y->R (PQ (afX (k.S n) (k.T n) x) (afX (k.S n) (k.R n) y)) M->hV [kdD k,.int (n:Nat),PQ x y] M R:=λa b r=>⟨k,n,_,_,rfl,ok,hn,a,b,r⟩;cases p with
 |dot x y =>
  dsimp only[pcD];ac_nf;refine⟨by decide,λz=>absurd (show(1:Nat)=0 from z.1) (by decide),?_⟩;show itT (.tup [PQ x y]) _ _ _ _ _;rw[nA];refine lK (Nat.le_of_ble_eq_true rfl) ?_;ac_nf;refine st bp.1 bp.2 ?_;ac_nf;intro p hp;exact⟨_,aL,Nat.le_of_ble_eq_true rfl,M,bC.new hp _,q⟩
 |str x y u v =>
  obtain⟨b1,b2,b3,b4⟩:=bp;dsimp only[pcD];ac_nf;refine⟨by decide,λz=>absurd (show(1:Nat)=0 from z.1) (by decide),?_⟩;show itT (.tup [PQ x y,PQ u v]) _ _ _ _ _;rw[nA];refine lK (Nat.le_of_ble_eq_true rfl) ?_;ac_nf;refine st b1 b2 ?_;ac_nf;refine st b3 b4 ?_;ac_nf;intro p hp;exact⟨_,aL,Nat.le_of_ble_eq_true rfl,M,bC.new hp _,q⟩
 |arc a b c d e f =>
  obtain⟨b1,b2,b3,b4,b5,b6⟩:=bp;dsimp only[pcD];ac_nf;refine⟨by decide,λz=>absurd (show(1:Nat)=0 from z.1) (by decide),?_⟩;show itT (.tup [PQ a b,PQ c d,PQ e f]) _ _ _ _ _;rw[nA];refine lK (Nat.le_of_ble_eq_true rfl) ?_;ac_nf;refine st b1 b2 ?_;ac_nf;refine st b3 b4 ?_;ac_nf;refine st b5 b6 ?_;ac_nf;intro p hp;exact⟨_,aL,Nat.le_of_ble_eq_true rfl,M,bC.new hp _,q⟩
 |ring a b c d =>
  obtain⟨b1,b2,b3,b4⟩:=bp;dsimp only[pcD];ac_nf;refine⟨by decide,λz=>absurd (show(1:Nat)=0 from z.1) (by decide),?_⟩;show itT (.tup [PQ a b,PQ c d]) _ _ _ _ _;rw[nA];refine lK (Nat.le_of_ble_eq_true rfl) ?_;ac_nf;refine st b1 b2 ?_;ac_nf;refine st b3 b4 ?_;ac_nf;intro p hp;exact⟨_,aL,Nat.le_of_ble_eq_true rfl,M,bC.new hp _,q⟩
theorem pK {α:Type}{xs:List α}{i:Nat}{x:α}(h:xs[i]?=some x):xs.take (i+1)=xs.take i++[x]:=by rw[List.take_add_one,h];rfl
theorem aAw {M:DM}{n:Nat}{a b:Addr}{xs ys:List D}(ha:M a=some xs)(hb:M b=some ys)(ne:a≠b)(h:xs.length≠ys.length):Cm M (n+1) (.ref a) (.ref b) false :=
 ⟨xs,ys,ha,hb,ne,λe=>absurd e h,λ_=>rfl⟩
def nN:DSp:=λds M Q=>∃g a ps,ds=[pcD g,.ref a]/\M (.l a)=some (ps.map pcD)/\ps≠[]/\ps.length<=100/\pcB 900 g/\(∀p∈ps,pcB 900 p)/\Q (.bl (chQ g ps)) M
theorem aLp {g:Pc}(h:aBv g = true):aEj g ≠ "dot":=by cases g<;>first|(cases h;done)|(show(_:Str)≠_;exact(by decide:("stretch":Str) ≠ "dot"))|exact(by decide:("arc":Str) ≠ "dot")|exact(by decide:("ring":Str) ≠ "dot")
theorem ix0 {g:Pc}{M:DM}{Q:DQ}:jC (pcD g) (.int 0) M Q=Q (.str (aEj g)) M:=by cases g<;>rfl
noncomputable abbrev mY:Stmt:=top 52
theorem aBi:aS ["goal","pieces"] ["goal","pieces"] (aI mY):=by ac_rfl
theorem aAu (hF:cK K mg "is_chain" mY ["goal","pieces"])(cG:mg "len" = none)(rN:mg "all" = none)(sI:Has P w K mg base 104 "on" ["piece","p"] aBy)(jP:Has P w K mg base 104 "same_carrier" ["one","other"] nH)(iB:Has P w K mg base 105 "leads_straight" ["goal","pieces"] kI)(lD:Has P w K mg base 105 "leads_round" ["goal","pieces"] kE):Has P w K mg base 106 "is_chain" ["goal","pieces"] nN:=by
 refine Has.mkZ hF aBi (λds M Q ⟨_,_,_,e,_⟩=>by rw[e];rfl) λf cdv A outer s H ds M Q E hr h=>?_;obtain⟨g,a,ps,rfl,ha,hne,hl,bg,hs,q⟩:=h;refine⟨_,(aF (bA (aR (bR hr) (aG (aB 0) aC) bG) (aH (aJ (eT (cN (bR hr) (bV eW cG (aA (aB 1) aD)) aC) (fC (aE sI hr (by decide) (aA (aG (aB 1) aC) (aA (aG (aB 0) aC) aD))))))) aP)
  (aF (bA (gX (iA (aR (aAC hr) (aB 1) (dZ aD)) (gG (fA (dW (bV (aCb rfl) rN (aA (pE (⟨rfl,by decide +kernel,by decide +kernel,by decide +kernel,rfl,by decide +kernel⟩:gW ["goal","pieces"] (aI mY) ["piece","goal"] [none,some 0] _) rfl (aB 1) (λ_ _ _ _ _=>(aO (i:=0) (show Nodup (["piece","goal"]:List Str) by decide +kernel))) (λ_ _ _ _ _=>(eT (cN (nJ hr) (aG (aB 0) aC) bG) (fC (aE jP hr (by decide) (aA (aB 1) (aA (aB 0) aD))))))) aD))))))) (aH (aJ dG)) aP)
  (aF (bA (aR (bR hr) (aG (aB 0) aC) bG) (aH (aJ (aE iB hr (by decide) (aA (aB 0) (aA (aB 1) aD))))) aP)
  (aF (bA (aR (bR hr) (aG (aG (aB 1) aC) aC) bG) (aH (aJ (cN (bR hr) (bV eW cG (aA (aB 1) aD)) aC))) aP)
  (aH (aJ (aE lD hr (by decide) (aA (aB 0) (aA (aB 1) aD))))))))),?_⟩
 ac_nf;show jC (pcD g) (.int 0) M _;rw[ix0];ac_nf;rw[aQ];refine dif (λc=>?_) (λc=>?_)
 ·cases g with
  |dot x y =>
   refine⟨_,ha,?_⟩;rw[cE,length_map]
   match ps,ha,hs,q with
   |[p],ha,hs,q=>exact ifT rfl ⟨_,_,ha,rfl,p,x,y,rfl,hs p mem_cons_self,bg.1,bg.2,bZ q⟩
   |p::p'::bI,ha,hs,q=>exact ifF (by rw[id];exact decide_eq_false (by show ¬(((bI.length+1+1:Nat):Int)=1);omega)) (bZ q)
  |str _ _ _ _=>exact absurd c (by show("stretch":Str) ≠ "dot";decide)
  |arc _ _ _ _ _ _=>exact absurd c (by show("arc":Str) ≠ "dot";decide)
  |ring _ _ _ _=>exact absurd c (by show("ring":Str) ≠ "dot";decide)
 have ng:aBv g=true:=by
  cases g with
  |dot _ _=>exact absurd rfl c
  |_=>rfl
 have q:Q (.bl (chP g ps)) M:=by
  cases g with
  |dot _ _=>exact absurd rfl c
  |_=>exact q
 refine⟨by decide,λp0 hp0=>?_⟩;ac_nf;have n0:a≠p0:=gB ha hp0;have ha1:bH M p0 [] (.l a)=some (ps.map pcD):=by rw[mM n0];exact ha
 have s1:bC M (bH M p0 []):=bC.new hp0 _;refine⟨.inr ⟨⟨_,rfl⟩,_,rfl⟩,false,aAw (n:=19) ha1 aL n0 (by rw[length_map];exact λe=>hne (List.length_eq_zero_iff.mp e)),?_⟩;generalize bH M p0 []=M1 at ha1 s1;refine ifF (by decide) ⟨_,ha1,by rw[length_map];omega,λi ys M'=>M'=M1/\ys=((ps.take i).map (iO g)).map D.bl,⟨rfl,rfl⟩,λi ys M' _ ⟨e,_⟩ a' e'=>(by cases e';rw[e];exact ha1),?_,?_⟩
 ·rintro i d1 ys M' hd ⟨rfl,rfl⟩;obtain⟨r,hr',rfl⟩:=rM hd;have br:=hs r (mem_of_getElem? hr');ac_nf;show jC (pcD r) (.int 0) _ _;rw[ix0];ac_nf;rw[aQ];have sn:((ps.take (i+1)).map (iO g)).map D.bl=((ps.take i).map (iO g)).map D.bl++[.bl (iO g r)]:=by rw[pK hr',map_append,map_append];rfl
  cases nr:aBv r with
  |true=>exact ifT (by rw[decide_eq_false (aLp nr)];rfl) ⟨g,r,rfl,ng,nr,bg,br,rfl,sn.symm⟩
  |false =>
   cases r with
   |dot _ _ =>
    refine ifF (by show(!decide (("dot":Str) = "dot"))=false;decide) ⟨rfl,?_⟩;rw[sn];cases g<;>first|(cases ng;done)|rfl
   |_=>cases nr
 rintro ys M' hy ⟨rfl,rfl⟩ p1 hp1;rw[length_map,take_length];have ha2:bH M' p1 ((ps.map (iO g)).map D.bl) (.l a)=some (ps.map pcD):=by rw[mM (gB ha1 hp1)];exact ha1
 have s2:bC M (bH M' p1 ((ps.map (iO g)).map D.bl)):=s1.trans (bC.new hp1 _);refine⟨ps.map (iO g),aL,?_⟩;generalize bH M' p1 ((ps.map (iO g)).map D.bl)=M2 at ha2 s2;have fin:∀{b:Bool},chP g ps=b->Dn Q (.bl b) M2:=λ{b} e=>⟨M,s2,by rw[<- e];exact q⟩;have ne0:(!ps.isEmpty)=true:=by cases ps with
  |nil=>exact absurd rfl hne
  |cons _ _=>rfl
 have ea:(ps.map (iO g)).all id=ps.all (iO g):=by rw[all_map];rfl
 rw[ea];cases z:ps.all (iO g) with
 |false =>
  refine ifT rfl (fin ?_);unfold chP;rw[z,Bool.and_false,Bool.false_and]
 |true =>
  refine ifF (by decide) ?_;have hz:=List.all_eq_true.mp z;rw[ix0];rw[aQ];obtain⟨p,bI,rfl⟩:=List.exists_cons_of_ne_nil hne;have rd:∀g':Pc,yO g'=true->pcB 900 g'->(∀r∈p::bI,yO r=true)->chP g (p::bI)=(if hU p=true then decide ((p::bI).length=1) else goR (gTo g').1 (gTo g').2 (p::bI) (gFr g').1 (gFr g').2) ->
    if decide (aEj p = "ring")=true then ∃xs,M2 (.l a)=some xs/\dEq id (.int xs.length) (.int 1) M2 (Dn Q) else kE [pcD g',.ref a] M2 (Dn Q):=λg' rg' bg' rr e=>by
   have er:decide (aEj p = "ring")=hU p:=by have:=rr p mem_cons_self;cases p<;>first|(cases this;done)|rfl
   rw[er];refine nE (λk=>?_) (λk=>?_)
   ·rw[k,if_pos rfl] at e;refine⟨_,ha2,?_⟩;rw[cE];refine fin (e.trans ?_);rw[length_map];by_cases k1:(p::bI).length=1
    ·rw[decide_eq_true k1,id,decide_eq_true (by omega)]
    ·rw[decide_eq_false k1,id,decide_eq_false (by omega)]
   ·rw[k,if_neg Bool.false_ne_true] at e;exact⟨g',a,p::bI,rfl,ha2,hl,rg',λr hr'=>⟨rr r hr',hs r hr'⟩,bg',fin e⟩
  cases g with
  |dot _ _=>cases ng
  |str x y u v =>
   refine ifT rfl ?_;obtain⟨l,hl'⟩:∃l,(p::bI).getLast?=some l:=⟨_,List.getLast?_cons⟩;refine⟨x,y,u,v,a,p::bI,l,rfl,ha2,hl',λr hr'=>⟨?_,hs r hr'⟩,bg,fin ?_⟩
   ·have:=hz r hr';cases r<;>first|rfl|cases this
   ·unfold chP;rw[z,ne0,hl'];rfl
  |arc g1 g2 g3 g4 g5 g6 =>
   refine ifF (by show decide (("arc":Str) = "stretch")=false;decide) ⟨_,pcD p,ha2,mU (j:=0) rfl,?_⟩;rw[ix0,aQ];exact rd (.arc g1 g2 g3 g4 g5 g6) rfl bg (λr hr'=>by have:=hz r hr';cases r<;>first|rfl|cases this) (by unfold chP;rw[z,ne0];rfl)
  |ring g1 g2 g3 g4 =>
   refine ifF (by show decide (("ring":Str) = "stretch")=false;decide) ⟨_,pcD p,ha2,mU (j:=0) rfl,?_⟩;rw[ix0,aQ];exact rd (.ring g1 g2 g3 g4) rfl bg (λr hr'=>by have:=hz r hr';cases r<;>first|rfl|cases this) (by unfold chP;rw[z,ne0];rfl)
theorem aA5 {k v:D}:∀{kvs:List (D×D)},k∉kvs.map (·.1)->uC (kvs++[(k,v)]) k=some v
 |[],_=>by unfold uC;simp
 |p::kvs,h=>by rw[map_cons,mem_cons,not_or] at h;have ih:=aA5 (v:=v) h.2;unfold uC at ih ⊢;rw[List.cons_append,find?_cons,decide_eq_false (λe=>h.1 e.symm)];exact ih
theorem aAS {k v:D}:∀{kvs:List (D×D)},k∈kvs.map (·.1)->(∀p∈kvs,p.1=k->p.2=v)->uC kvs k=some v
 |[],h,_=>by cases h
 |p::kvs,h,e=>by
  unfold uC;rw[find?_cons];by_cases c:p.1=k
  ·rw[decide_eq_true c,<- e p mem_cons_self c];rfl
  ·rw[decide_eq_false c];rw[map_cons,mem_cons] at h;exact aAS (h.resolve_left λz=>c z.symm) λq hq=>e q (mem_cons_of_mem _ hq)
def kK:DSp:=λds M Q=>∃z:Int,ds=[.int z]/\Q (.bl true) M
noncomputable abbrev qD:Stmt:=top 42
theorem aAV:aS ["thing"] ["thing"] (aI qD):=by ac_rfl
theorem aAf (hF:cK K mg "is_whole" qD ["thing"])(bJ:mg "isinstance" = none)(rD:mg "int" = none)(aB1:mg "bool" = none):Has P w K mg base 101 "is_whole" ["thing"] kK:=by refine Has.mkZ hF aAV (λds M Q ⟨_,z,_⟩=>by rw[z];rfl) λf cdv A outer s H ds M Q E hr h=>?_;obtain⟨z,rfl,q⟩:=h;refine⟨_,(aH (aJ (eT (jY (aB 0) bJ rD) (fC (sJ (jY (aB 0) bJ aB1)))))),?_⟩;ac_nf;exact .inl ⟨_,_,rfl,rfl,ifT rfl (.inl ⟨_,_,rfl,rfl,bZ q⟩)⟩
def uI:DSp:=λds M Q=>∃(n:Nat)(k:Kd),ds=[.int (n:Nat),kdD k]/\n<=3/\Q (.bl true) M
noncomputable abbrev qV:Stmt:=top 47
theorem aBp:aS ["thing","sort"] ["thing","sort"] (aI qV):=by ac_rfl
theorem aAq (hF:cK K mg "is_round" qV ["thing","sort"])(eH:Has P w K mg base 101 "is_whole" ["thing"] kK)(nC:xU K mg "FREE_KINDS" (.tup [.str "on",.str "none"]))(mR:xU K mg "MOST_ROUND" (.int 2000)):Has P w K mg base 102 "is_round" ["thing","sort"] uI:=by
 refine Has.mkZ hF aBp (λds M Q ⟨_,_,z,_⟩=>by rw[z];rfl) λf cdv A outer s H ds M Q E hr h=>?_;obtain⟨n,k,rfl,hn,q⟩:=h;refine⟨_,(aH (aJ (eT (aE eH hr (by decide) (aA (aB 0) aD)) (eT (cN yP (aB 0) aC) (fC (aEl (cN aKb (aG (aB 1) aC) (pJ nC) rfl) (fC (cN aHZ (aB 0) (pJ mR))))))))),?_⟩;ac_nf;refine⟨_,rfl,?_⟩;ac_nf;refine ifT rfl (ifT (decide_eq_true (by omega)) ?_);have all:∀kd:Str,∃ns:List Str,[D.str "on",D.str "none"]=ns.map D.str/\((if (id (ns.any (·==kd)))=true then Dn Q (.bl true) M else Dn Q (.bl (decide ((n:Int)<=2000))) M)):=λkd=>⟨["on","none"],rfl,by rw[decide_eq_true (by omega:(n:Int)<=2000)];split<;>exact bZ q⟩
 cases k with
 |non=>exact all "none"
 |on a b=>exact all "on"
 |sm x y s0=>exact all "smaller"
def tQ:DSp:=λds M Q=>∃(k:Nat)(a:Addr) (xs:List D),ds=[.int k,.ref a]/\M (.l a)=some xs/\Q (.bl (decide (k<xs.length))) M
noncomputable abbrev pX:Stmt:=top 46
theorem aBI:aS ["thing","things"] ["thing","things"] (aI pX):=by ac_rfl
theorem zR (hF:cK K mg "is_place" pX ["thing","things"])(cG:mg "len" = none)(eH:Has P w K mg base 101 "is_whole" ["thing"] kK):Has P w K mg base 102 "is_place" ["thing","things"] tQ:=by
 refine Has.mkZ hF aBI (λds M Q ⟨_,_,_,z,_⟩=>by rw[z];rfl) λf cdv A outer s H ds M Q E hr h=>?_;obtain⟨k,a,xs,rfl,ha,q⟩:=h;refine⟨_,(aH (aJ (eT (aE eH hr (by decide) (aA (aB 0) aD)) (fC (aDo aHZ uK aC (aB 0) (bV eW cG (aA (aB 1) aD))))))),?_⟩;ac_nf;refine⟨_,rfl,?_⟩;ac_nf;refine ifT rfl (ifT (decide_eq_true (by omega)) ⟨_,ha,?_⟩);by_cases hk:k<xs.length
 ·rw[decide_eq_true (by omega:(k:Int)<(xs.length:Int))];rw[decide_eq_true hk] at q;exact bZ q
 ·rw[decide_eq_false (by omega:¬(k:Int)<(xs.length:Int))];rw[decide_eq_false hk] at q;exact bZ q
noncomputable def aNs (C:Addr)(k:Kd)(n:Nat)(pl kd:Addr):List D:=vA C [("sort_of_map",kdD k),("many_still",.int (n:Int)),("pieces",.ref pl),("kept",.ref kd)]
structure aNv (kvs:List (D×D))(k:Kd)(pcs:List Pc)(b:Nat):Prop where
 tk:TK kvs
 le:kvs.length<=b
 ok:∀p∈kvs,∃i n pc,p=(prN i n,pcD (kM k n pc))/\pcs[i]?=some pc
structure RS (w:World)(C:Addr)(M:DM)(a:Addr)(k:Kd)(ns:Nat)(pcs:List Pc)(pl kd:Addr)(b:Nat):Prop where
 ins:M (.o a)=some (aNs C k ns pl kd)
 lst:M (.l pl)=some (pcs.map pcD)
 kept:∃kvs,M (.d kd)=some (sO w kvs)/\aNv kvs k pcs b
def Kp1 (M M':DM)(kd:Addr):Prop:=∀b:AK,b ≠ .d kd->∀o,M b=some o->M' b=some o
def oG (w:World)(C:Addr):DSp:=λds M Q=>∃x l1 l2 k st fl,ds=[.ref x,kdD k,.tup [.ref l1,.ref l2]]/\M (.o x)=some (vA C [])/\M (.l l1)=some (st.map pcD)/\M (.l l2)=some (fl.map pcD)/\st.length<=100/\fl.length<=100 /\
 ∀M' pl kd,M (.d kd)=none->RS w C M' x k st.length (st++fl) pl kd 0->(∀b:AK,b ≠ .o x->∀o,M b=some o->M' b=some o)->Q .non M'
noncomputable abbrev iD:Stmt:=aAg 0 (top 49)
theorem wG:aS ["self","sort","picture"] ["self","sort","picture"] (aI iD):=by ac_rfl
theorem uP {C_Rounds:Addr}(hF:aE3 K mg "Rounds" C_Rounds "Rounds.__init__" iD ["self","sort","picture"])(cG:mg "len"=none)(o_Rounds:xR K C_Rounds ["sort_of_map","many_still","pieces","kept"]):aB9 P w K mg base 101 "Rounds" C_Rounds ["self","sort","picture"] (oG w C_Rounds):=by
 refine aB9.mkZ hF wG (λds M Q ⟨_,_,_,_,_,_,e,_⟩=>by rw[e];rfl) λf cdv A outer s H ds M Q E hr h=>?_;obtain⟨x,l1,l2,k,st,fl,rfl,hx,h1,h2,hl1,hl2,q⟩:=h;refine⟨_,(aF (vI o_Rounds (by decide) (aB 0) (aB 1))
  (aF (vI o_Rounds (by decide) (aB 0) (bV eW cG (aA (aG (aB 2) aC) aD)))
  (aF (vI o_Rounds (by decide) (aB 0) (aM eD (aG (aB 2) aC) (aG (aB 2) aC)))
  (aH (vI o_Rounds (by decide) (aB 0) aDi))))),?_⟩
 ac_nf;refine⟨x,[],rfl,hx,by decide,_,(by rw[fP];exact h1),x,[("sort_of_map",kdD k)],rfl,gD,Nat.le_of_ble_eq_true rfl,_,_,(by rw[fP,fP];exact h1),(by rw[fP,fP];exact h2),(by rw[length_map,length_map];omega),λp hp=>⟨x,[("sort_of_map",kdD k),("many_still",.int ((st.map pcD).length:Nat))],rfl,(by rw[zL];exact gD),Nat.le_of_ble_eq_true rfl,λp2 hp2=>⟨x,[("sort_of_map",kdD k),("many_still",.int ((st.map pcD).length:Nat)),("pieces",.ref p)],rfl,(by rw[zW];exact gD),Nat.le_of_ble_eq_true rfl,?_⟩⟩⟩;have e2:M (.d p2)=none:=by rw[nV,aAs,nV,nV] at hp2;exact hp2
 have e1:M (.l p)=none:=by rw[fP,fP] at hp;exact hp
 refine bZ (q _ p p2 e2 ⟨?_,?_,[],?_,TK.nil,Nat.le_refl _,λz hz=>by cases hz⟩ ?_)
 ·rw[gD,length_map];rfl
 ·rw[fP,aAx,fP,aL,map_append]
 ·rw[nV,mE];rfl
 ·intro b hb o e;rw[lY hb,aBb (cU e e2),lY hb,wA (cU e e1),lY hb,lY hb];exact e
def kH (w:World)(C:Addr):DSp:=λds M Q=>∃a k i n ns pcs pl kd b pc,ds=[.ref a,.int (i:Nat),.int (n:Nat)]/\RS w C M a k ns pcs pl kd b/\k.Ok/\pcs[i]?=some pc/\pcB 250 pc/\n<=3/\b<900/\∀M',RS w C M' a k ns pcs pl kd (b+1)->Kp1 M M' kd->Q (pcD (kM k n pc)) M'
theorem aGq {i n i' n':Nat}(h:prN i n=prN i' n'):i=i'/\n=n':=by have e1:=List.cons.inj (D.tup.inj (show D.tup [.int (i:Int),.int (n:Int)]=.tup [.int (i':Int),.int (n':Int)] from h));have e2:(i:Int)=(i':Int):=D.int.inj e1.1;have e3:(n:Int)=(n':Int):=D.int.inj (List.cons.inj e1.2).1;omega
noncomputable abbrev eU:Stmt:=aAg 1 (top 49)
theorem qA:aS ["self","number","n"] ["self","number","n"] (aI eU):=by ac_rfl
theorem pN {C_Rounds:Addr}(hF:wS K C_Rounds "piece_in" "Rounds.piece_in" eU ["self","number","n"])(o_Rounds:xR K C_Rounds ["sort_of_map","many_still","pieces","kept"])(iS:Has P w K mg base 106 "stepped_piece" ["kind","n","piece"] mD) :
  rY P w K mg base 107 C_Rounds "piece_in" ["self","number","n"] (kH w C_Rounds):=by
 refine rY.mkZ hF o_Rounds.cls qA (λds M Q ⟨_,_,_,_,_,_,_,_,_,_,e,_⟩=>by rw[e];rfl) λf cdv A outer s H ds M Q E hr h=>?_;obtain⟨a,k,i,n,ns,pcs,pl,kd,b,pc,rfl,R,ok,hk,bp,hn,hb,q⟩:=h;refine⟨_,(aF (bA (aR (aDT hr) (aK (aA (aB 1) (aA (aB 2) aD))) (fL o_Rounds (by decide) (aB 0)) rfl) (aH (dF (aE iS hr (by decide) (aA (fL o_Rounds (by decide) (aB 0)) (aA (aB 2) (aA (aG (fL o_Rounds (by decide) (aB 0)) (aB 1)) aD)))) (aC8 hr (fL o_Rounds (by decide) (aB 0)) (aK (aA (aB 1) (aA (aB 2) aD)))))) aP)
  (aH (aJ (aGM hr (fL o_Rounds (by decide) (aB 0)) (aK (aA (aB 1) (aA (aB 2) aD))))))),?_⟩
 ac_nf;obtain⟨kvs,hkv,KV⟩:=R.kept;have hkey:aDa (.tup [.int (i:Int),.int (n:Int)]):=⟨⟨_,rfl⟩,rfl⟩;refine⟨by decide,a,_,_,rfl,R.ins,rfl,kvs,hkv,KV.tk,hkey,?_⟩;refine nE (λc=>?_) (λc=>?_)
 ·have c':¬(D.tup [.int (i:Int),.int (n:Int)]∈kvs.map (·.1)):=by simpa using c
  refine⟨a,_,_,rfl,R.ins,rfl,a,_,_,rfl,R.ins,rfl,_,_,R.lst,mU (by rw[getElem?_map,hk];rfl),k,n,pc,rfl,ok,hn,bp,?_⟩;ac_nf;refine⟨a,_,_,rfl,R.ins,rfl,by decide,kvs,hkv,KV.tk,by have:=KV.le;omega,hkey,?_⟩;have ep:qI kvs (.tup [.int (i:Int),.int (n:Int)]) (pcD (kM k n pc))=kvs++[(.tup [.int (i:Int),.int (n:Int)],pcD (kM k n pc))]:=by unfold qI;rw[if_neg c']
  have kp:Kp1 M (uQ M kd (sO w (qI kvs (.tup [.int (i:Int),.int (n:Int)]) (pcD (kM k n pc))))) kd:=λb n o e=>by rw[aBb n];exact e
  have R':RS w C_Rounds (uQ M kd (sO w (qI kvs (.tup [.int (i:Int),.int (n:Int)]) (pcD (kM k n pc))))) a k ns pcs pl kd (b+1):=by
   refine⟨by rw[zW];exact R.ins,by rw[aAx];exact R.lst,_,mE,KV.tk.put hkey,?_,?_⟩
   ·rw[ep,length_append];have:=KV.le;show kvs.length+1<=b+1;omega
   ·rw[ep];intro z hz;rcases List.mem_append.mp hz with hz|hz
    ·exact KV.ok z hz
    ·rw[List.mem_singleton.mp hz];exact⟨i,n,pc,rfl,hk⟩
  refine⟨a,_,_,rfl,R'.ins,rfl,by decide,_,pcD (kM k n pc),mE,KV.tk.put hkey,hkey,?_,bZ (q _ R' kp)⟩;rw[ep];exact aA5 c'
 ·have c':D.tup [.int (i:Int),.int (n:Int)]∈kvs.map (·.1):=by simpa using c
  refine⟨a,_,_,rfl,R.ins,rfl,by decide,kvs,pcD (kM k n pc),hkv,KV.tk,hkey,?_,bZ (q M ⟨R.ins,R.lst,kvs,hkv,KV.tk,by have:=KV.le;omega,KV.ok⟩ λb _ o e=>e)⟩;refine aAS c' λz hz ez=>?_;obtain⟨i',n',pc',rfl,hk'⟩:=KV.ok z hz;obtain⟨rfl,rfl⟩:=aGq ez;rw[hk] at hk';cases hk';rfl
def tV (w:World)(C:Addr):DSp:=λds M Q=>∃a k i n ns pcs pl kd b,ds=[.ref a,prN i n]/\RS w C M a k ns pcs pl kd b/\n<=3/\Q (.bl (lkB ns pcs.length (i,n))) M
noncomputable abbrev eP:Stmt:=aAg 2 (top 49)
theorem qL:aS ["self","thing"] ["self","thing"] (aI eP):=by ac_rfl
theorem pM {C_Rounds:Addr}(hF:wS K C_Rounds "has_link" "Rounds.has_link" eP ["self","thing"])(bJ:mg "isinstance" = none)(eJ:mg "tuple" = none)(cG:mg "len"=none)(o_Rounds:xR K C_Rounds ["sort_of_map","many_still","pieces","kept"])(qP:Has P w K mg base 102 "is_place" ["thing","things"] tQ)(eH:Has P w K mg base 101 "is_whole" ["thing"] kK)(qO:Has P w K mg base 102 "is_round" ["thing","sort"] uI) :
  rY P w K mg base 103 C_Rounds "has_link" ["self","thing"] (tV w C_Rounds):=by
 refine rY.mkZ hF o_Rounds.cls qL (λds M Q ⟨_,_,_,_,_,_,_,_,_,e,_⟩=>by rw[e];rfl) λf cdv A outer s H ds M Q E hr h=>?_;obtain⟨a,k,i,n,ns,pcs,pl,kd,b,rfl,R,hn,q⟩:=h;refine⟨_,(aF (bA (gX (iA (fA (dW (jY (aB 1) bJ eJ))) (iA (aR (nJ hr) (bV eW cG (aA (aB 1) aD)) aC) (gG (fA (dW (aE qP hr (by decide) (aA (aG (aB 1) aC) (aA (fL o_Rounds (by decide) (aB 0)) aD))))))))) (aH (aJ dG)) aP)
  (aF (bA (aR uK (aG (aB 1) aC) (fL o_Rounds (by decide) (aB 0))) (aH (aJ (eT (aE eH hr (by decide) (aA (aG (aB 1) aC) aD)) (fC (cN (bR hr) (aG (aB 1) aC) aC))))) aP)
  (aH (aJ (aE qO hr (by decide) (aA (aG (aB 1) aC) (aA (fL o_Rounds (by decide) (aB 0)) aD))))))),?_⟩
 dsimp only[prN];unfold lkB at q;ac_nf;refine .inl ⟨_,_,rfl,rfl,ifF rfl ?_⟩;ac_nf;rw[cE];refine ifF (by decide) ⟨a,_,_,rfl,R.ins,rfl,i,pl,_,rfl,R.lst,?_⟩;rw[length_map];ac_nf;by_cases hi:i<pcs.length
 ·rw[decide_eq_true hi] at q ⊢;rw[Bool.true_and] at q;refine ifF (by decide) ⟨a,_,_,rfl,R.ins,rfl,?_⟩;ac_nf;by_cases c:i<ns
  ·rw[decide_eq_false (by omega:¬ns<=i),Bool.false_or] at q;refine ifT (decide_eq_true (by omega)) ⟨_,rfl,?_⟩;ac_nf;rw[cE];refine ifT rfl (bZ ?_);by_cases z:n=0
   ·rw[decide_eq_true z] at q;rw[id,decide_eq_true (by omega)];exact q
   ·rw[decide_eq_false z] at q;rw[id,decide_eq_false (by omega)];exact q
  ·rw[decide_eq_true (by omega:ns<=i),Bool.true_or] at q;exact ifF (decide_eq_false (by omega)) ⟨a,_,_,rfl,R.ins,rfl,n,k,rfl,hn,bZ q⟩
 ·rw[decide_eq_false hi] at q ⊢;exact ifT rfl (bZ q)
theorem RS.mono {w:World}{C:Addr}{M:DM}{a:Addr}{k:Kd}{ns:Nat}{pcs:List Pc}{pl kd:Addr}{b b':Nat}(h:RS w C M a k ns pcs pl kd b)(l:b<=b'):RS w C M a k ns pcs pl kd b' :=
 ⟨h.ins,h.lst,let ⟨kvs,e,k⟩:=h.kept;⟨kvs,e,k.tk,Nat.le_trans k.le l,k.ok⟩⟩
theorem RS.sub {w:World}{C:Addr}{M M':DM}{a:Addr}{k:Kd}{ns:Nat}{pcs:List Pc}{pl kd:Addr}{b:Nat}(h:RS w C M a k ns pcs pl kd b)(s:bC M M'):RS w C M' a k ns pcs pl kd b :=
 ⟨s _ _ h.ins,s _ _ h.lst,let ⟨kvs,e,k⟩:=h.kept;⟨kvs,s _ _ e,k⟩⟩
theorem Kp1.refl (M:DM)(kd:Addr):Kp1 M M kd:=λ_ _ _ e=>e
theorem Kp1.trans {M M1 M2:DM}{kd:Addr}(h:Kp1 M M1 kd)(h':Kp1 M1 M2 kd):Kp1 M M2 kd:=λb n o e=>h' b n o (h b n o e)
theorem Kp1.of {M M':DM}(s:bC M M')(kd:Addr):Kp1 M M' kd:=λb _ o e=>s b o e
theorem aAD {ls:List (Nat×Nat)}{i:Nat}{d:D}(h:(prs ls)[i]?=some d):∃l,ls[i]?=some l/\d=prN l.1 l.2:=by
 unfold prs at h;rw[getElem?_map] at h;cases e:ls[i]? with
 |none=>rw[e] at h;cases h
 |some l=>rw[e] at h;cases h;exact⟨l,rfl,rfl⟩
theorem mF (ls:List (Nat×Nat)):(prs ls).length=ls.length:=by unfold prs;rw[length_map]
structure LkS (ls:List (Nat×Nat)):Prop where
 ne:ls≠[]
 le:ls.length<=2
 ok:∀l∈ls,l.1<6/\l.2<=3
theorem LkS.q {ls:List (Nat×Nat)}(h:LkS ls):OkQ ls:=by
 match ls,h with
 |[],h=>exact absurd rfl h.ne
 |[_],_=>trivial
 |[p,q],h =>
  have a:=h.ok p mem_cons_self;have b:=h.ok q (mem_cons_of_mem _ mem_cons_self);exact⟨⟨a.1,by omega⟩,⟨b.1,by omega⟩⟩
 |_::_::_::_,h=>exact absurd h.le (by show ¬(_+1+1+1<=2);omega)
def tZ (w:World)(C:Addr):DSp:=λds M Q=>∃a k ns pcs pl kd b lk ls,ds=[.ref a,.ref lk]/\RS w C M a k ns pcs pl kd b/\M (.l lk)=some (prs ls)/\ls.length<=2/\∀M',bC M M'->Q (.bl (ls.all λl=>decide (ns<=l.1))) M'
noncomputable abbrev dH:Stmt:=aAg 3 (top 49)
theorem qS:aS ["self","links"] ["self","links"] (aI dH):=by ac_rfl
theorem pL {C_Rounds:Addr}(hF:wS K C_Rounds "flows_on" "Rounds.flows_on" dH ["self","links"])(rN:mg "all"=none)(o_Rounds:xR K C_Rounds ["sort_of_map","many_still","pieces","kept"]):rY P w K mg base 101 C_Rounds "flows_on" ["self","links"] (tZ w C_Rounds):=by
 refine rY.mkZ hF o_Rounds.cls qS (λds M Q ⟨_,_,_,_,_,_,_,_,_,e,_⟩=>by rw[e];rfl) λf cdv A outer s H ds M Q E hr h=>?_;obtain⟨a,k,ns,pcs,pl,kd,b,lk,ls,rfl,R,hlk,hl,q⟩:=h;refine⟨_,(aH (aJ (bV (aCb rfl) rN (aA (pE (⟨rfl,by decide +kernel,by decide +kernel,by decide +kernel,rfl,by decide +kernel⟩:gW ["self","links"] (aI dH) ["link","self"] [none,some 0] _) rfl (aB 1) (λ_ _ _ _ _=>(aO (i:=0) (show Nodup (["link","self"]:List Str) by decide +kernel))) (λ_ _ _ _ _=>(cN yP (aG (aB 0) aC) (fL o_Rounds (by decide) (aB 1))))) aD)))),?_⟩;ac_nf;refine⟨_,hlk,by rw[mF];omega,λi ys M'=>M'=M/\ys=((ls.take i).map λl=>decide (ns<=l.1)).map D.bl,⟨rfl,rfl⟩,λi ys M' _ ⟨e,_⟩ a' e'=>(by cases e';rw[e];exact hlk),?_,?_⟩
 ·rintro i d1 ys M' hd ⟨rfl,rfl⟩;obtain⟨l,hl',rfl⟩:=aAD hd;dsimp only[prN];ac_nf;refine⟨a,_,_,rfl,R.ins,rfl,rfl,?_⟩;rw[pK hl',map_append,map_append];show _=_++[D.bl (decide (ns<=l.1))];congr 3;by_cases c:ns<=l.1
  ·rw[decide_eq_true c,decide_eq_true (by omega:(ns:Int)<=(l.1:Int))]
  ·rw[decide_eq_false c,decide_eq_false (by omega:¬(ns:Int)<=(l.1:Int))]
 rintro ys M' hy ⟨rfl,rfl⟩ p1 hp1;refine⟨_,aL,?_⟩;rw[mF,take_length,all_map];exact bZ (q _ (bC.new hp1 _))
def nQ (w:World)(C:Addr):DSp:=λds M Q=>∃g a k ns pcs pl kd b lk ls,ds=[pcD g,.ref a,.ref lk]/\RS w C M a k ns pcs pl kd b/\k.Ok/\M (.l lk)=some (prs ls)/\LkS ls/\pcB 900 g/\(∀p∈pcs,pcB 250 p)/\b<800 /\
 ∀M',RS w C M' a k ns pcs pl kd (b+2)->Kp1 M M' kd->Q (.bl (cB k ns pcs g ls)) M'
theorem aGl {k:Kd}{pcs:List Pc}{ls:List (Nat×Nat)}{i:Nat}{l:Nat×Nat}{pc:Pc}(h:ls[i]?=some l)(hk:pcs[l.1]?=some pc):(ls.take (i+1)).filterMap (lkP k pcs)=(ls.take i).filterMap (lkP k pcs)++[kM k l.2 pc]:=by rw[pK h,List.filterMap_append,filterMap_cons,show lkP k pcs l=some (kM k l.2 pc) by unfold lkP;rw[hk];rfl];rfl
noncomputable abbrev fH:Stmt:=top 51
theorem xG:aS ["goal","other","links"] ["goal","other","links"] (aI fH):=by ac_rfl
theorem uS {C_Rounds:Addr}(hF:cK K mg "chain_shown" fH ["goal","other","links"])(bJ:mg "isinstance" = none)(qT:mg "list" = none)(rN:mg "all" = none)(cG:mg "len" = none)(aD5:mg "set"=none)(gL:rY P w K mg base 103 C_Rounds "has_link" ["self","thing"] (tV w C_Rounds))(cX:rY P w K mg base 107 C_Rounds "piece_in" ["self","number","n"] (kH w C_Rounds))(qE:Has P w K mg base 106 "is_chain" ["goal","pieces"] nN):Has P w K mg base 108 "chain_shown" ["goal","other","links"] (nQ w C_Rounds):=by
 refine Has.mkZ hF xG (λds M Q ⟨_,_,_,_,_,_,_,_,_,_,e,_⟩=>by rw[e];rfl) λf cdv A outer s H ds M Q E hr h=>?_;obtain⟨g,a,k,ns,pcs,pl,kd,b,lk,ls,rfl,R,ok,hlk,L,bg,hp,hb,q⟩:=h;refine⟨_,(aF (bA (gX (iA (fA (dW (jY (aB 2) bJ qT))) (gG (fA (dW (bV (aCb rfl) rN (aA (pE (⟨rfl,by decide +kernel,by decide +kernel,by decide +kernel,rfl,by decide +kernel⟩:gW ["goal","other","links"] (aI fH) ["link","other"] [none,some 1] _) rfl (aB 2) (λ_ _ _ _ _=>(aO (i:=0) (show Nodup (["link","other"]:List Str) by decide +kernel))) (λ_ _ _ _ _=>(rG gL hr (by decide) (aB 1) (aA (aB 0) aD)))) aD))))))) (aH (aJ dG)) aP)
  (aF (bA (gX (kJ (aR (bR hr) (aG (aB 0) aC) bG) (jS (aR (nJ hr) (aBd hr rfl cG aD5 (aB 2)) (bV eW cG (aA (aB 2) aD)))))) (aH (aJ dG)) aP)
  (aH (aJ (aE qE hr (by decide) (aA (aB 0) (aA (pE (⟨rfl,by decide +kernel,by decide +kernel,by decide +kernel,rfl,by decide +kernel⟩:gW ["goal","other","links"] (aI fH) ["link","other"] [none,some 1] _) rfl (aB 2) (λ_ _ _ _ _=>(aO (i:=0) (show Nodup (["link","other"]:List Str) by decide +kernel))) (λ_ _ _ _ _=>(rG cX hr (by decide) (aB 1) (aA (aG (aB 0) aC) (aA (aG (aB 0) aC) aD))))) aD))))))),?_⟩
 have fin:∀{b':Bool}{M':DM},bC M M'->cB k ns pcs g ls=b'->Dn Q (.bl b') M':=λ{b' M'} s e=>bZ (by rw[<- e];exact q M' ((R.sub s).mono (by omega)) (.of s kd));have tail:ls.all (lkB ns pcs.length) = true->cB k ns pcs g ls = chQ g (ls.filterMap (lkP k pcs))->∀M',bC M M'->∃ds,M' (.l lk) = some ds/\xK (some lk) ds [none,some (.ref a)] (gN 0) (aCQ C_Rounds "piece_in" (kH w C_Rounds) (aBV 1) (iM (dOp jC (aBV 0) (dC (.int 0))) (iM (dOp jC (aBV 0) (dC (.int 1))) nL))) M' λx M1=>nN [pcD g,x] M1 (Dn Q):=λal ec M' sub=>by
  have al:=List.all_eq_true.mp al;have inl:∀l∈ls,∃pc,pcs[l.1]?=some pc:=λl hl=>by have:=al l hl;unfold lkB at this;simp only[Bool.and_eq_true,decide_eq_true_eq] at this;exact⟨_,getElem?_eq_getElem this.1⟩
  refine⟨_,sub _ _ hlk,by rw[mF];have:=L.le;omega,λi ys M2=>RS w C_Rounds M2 a k ns pcs pl kd (b+i)/\Kp1 M' M2 kd/\ys=((ls.take i).filterMap (lkP k pcs)).map pcD,⟨R.sub sub,.refl _ _,rfl⟩,λi ys M2 _ ⟨_,k,_⟩ a' e=>(by cases e;exact k (.l lk) (λz=>nomatch z) _ (sub _ _ hlk)),?_,?_⟩
  ·rintro i d1 ys M2 hd ⟨R2,K2,rfl⟩;obtain⟨l,hl,rfl⟩:=aAD hd;have hi:=(List.getElem?_eq_some_iff.mp hl).1;have:=L.le;obtain⟨pc,hpc⟩:=inl l (mem_of_getElem? hl);dsimp only[prN];ac_nf;refine⟨a,_,rfl,R2.ins,rfl,a,k,l.1,l.2,ns,pcs,pl,kd,b+i,pc,rfl,R2,ok,hpc,hp pc (mem_of_getElem? hpc),(L.ok l (mem_of_getElem? hl)).2,by omega,λM3 R3 K3=>⟨R3,K2.trans K3,?_⟩⟩;rw[aGl hl hpc,map_append];rfl
  ·rintro ys M2 hy ⟨R2,K2,rfl⟩ p hp';rw[mF,take_length] at *;have hle:(ls.filterMap (lkP k pcs)).length<=2:=Nat.le_trans (List.length_filterMap_le _ _) L.le;refine⟨g,p,ls.filterMap (lkP k pcs),rfl,aL,?_,by omega,bg,λr hr'=>?_,M2,bC.new hp' _,by rw[<- ec];exact q M2 (R2.mono (by have:=L.le;omega)) ((Kp1.of sub kd).trans K2)⟩
   ·obtain⟨l,bI,e⟩:=List.exists_cons_of_ne_nil L.ne;obtain⟨pc,hpc⟩:=inl l (by rw[e];exact mem_cons_self);rw[e,filterMap_cons,show lkP k pcs l=some (kM k l.2 pc) by unfold lkP;rw[hpc];rfl];exact List.cons_ne_nil _ _
   ·obtain⟨l,hl,e⟩:=List.mem_filterMap.mp hr';unfold lkP at e;obtain⟨pc,hpc,rfl⟩:=Option.map_eq_some_iff.mp e;have:=(L.ok l hl).2;exact mB (ok.pcB (by omega) (hp pc (mem_of_getElem? hpc))) (by omega)
 ac_nf;refine aAe hlk rfl ?_;ac_nf;refine ifF (by decide) ⟨_,hlk,by rw[mF];have:=L.le;omega,λi ys M'=>M'=M/\ys=((ls.take i).map (lkB ns pcs.length)).map D.bl,⟨rfl,rfl⟩,λi ys M' _ ⟨e,_⟩ a' e'=>(by cases e';rw[e];exact hlk),?_,?_⟩
 ·rintro i d1 ys M' hd ⟨rfl,rfl⟩;obtain⟨l,hl,rfl⟩:=aAD hd;ac_nf;refine⟨a,_,rfl,R.ins,rfl,a,k,l.1,l.2,ns,pcs,pl,kd,b,rfl,R,(L.ok l (mem_of_getElem? hl)).2,rfl,?_⟩;rw[pK hl,map_append,map_append];rfl
 rintro ys M' hy ⟨rfl,rfl⟩ p1 hp1;rw[mF,take_length];refine⟨_,aL,?_⟩;have s1:bC M' (bH M' p1 ((ls.map (lkB ns pcs.length)).map D.bl)):=bC.new hp1 _;have l1:=s1 _ _ hlk;generalize bH M' p1 ((ls.map (lkB ns pcs.length)).map D.bl)=M1 at s1 l1;rw[all_map,show(id ∘ lkB ns pcs.length)=lkB ns pcs.length from rfl];cases al:ls.all (lkB ns pcs.length) with
 |false =>
  refine ifT rfl (fin s1 ?_);unfold cB;rw[al,Bool.false_and,Bool.false_and]
 |true =>
  refine ifF (by decide) ?_;rw[ix0,aQ];refine dif (λc=>?_) (λc=>ifF (by decide) (tail al ?_ M1 s1))
  ·have so:aCF g=true:=by
    cases g with
    |str _ _ _ _=>rfl
    |dot _ _=>exact absurd c (by show("dot":Str) ≠ "stretch";decide)
    |arc _ _ _ _ _ _=>exact absurd c (by show("arc":Str) ≠ "stretch";decide)
    |ring _ _ _ _=>exact absurd c (by show("ring":Str) ≠ "stretch";decide)
   refine⟨lk,ls,rfl,l1,L.q,_,l1,?_⟩;rw[cE,mF];by_cases z:dlP ls=ls.length
   ·refine ifF (by rw[decide_eq_true (by omega)];rfl) (tail al ?_ M1 s1);unfold cB;rw[al,so,decide_eq_true z];rfl
   ·refine ifT (by rw[decide_eq_false (by omega)];rfl) (fin s1 ?_);unfold cB;rw[al,so,decide_eq_false z];rfl
  ·have so:aCF g=false:=by
    cases g with
    |str _ _ _ _=>exact absurd rfl c
    |_=>rfl
   unfold cB;rw[al,so];rfl
def Kp2 (M M':DM)(kd kd2:Addr):Prop:=∀b:AK,b ≠ .d kd->b ≠ .d kd2->∀o,M b=some o->M' b=some o
theorem Kp2.refl (M:DM)(kd kd2:Addr):Kp2 M M kd kd2:=λ_ _ _ _ e=>e
theorem Kp2.trans {M M1 M2:DM}{kd kd2:Addr}(h:Kp2 M M1 kd kd2)(h':Kp2 M1 M2 kd kd2):Kp2 M M2 kd kd2:=λb n n' o e=>h' b n n' o (h b n n' o e)
theorem Kp2.of {M M':DM}(s:bC M M')(kd kd2:Addr):Kp2 M M' kd kd2:=λb _ _ o e=>s b o e
theorem Kp2.l {M M':DM}{kd kd2:Addr}(h:Kp2 M M' kd kd2){a:Addr}{o:List D}(e:M (.l a)=some o):M' (.l a)=some o:=h (.l a) (λz=>nomatch z) (λz=>nomatch z) _ e
theorem Kp1.l {M M':DM}{kd:Addr}(h:Kp1 M M' kd)(kd2:Addr):Kp2 M M' kd kd2:=λb n _ o e=>h b n o e
theorem Kp1.r {M M':DM}{kd:Addr}(h:Kp1 M M' kd)(kd2:Addr):Kp2 M M' kd2 kd:=λb _ n o e=>h b n o e
theorem RS.kp1 {w:World}{C:Addr}{M M':DM}{a:Addr}{k:Kd}{ns:Nat}{pcs:List Pc}{pl kd kd2:Addr}{b:Nat}(h:RS w C M a k ns pcs pl kd b)(kk:Kp1 M M' kd2)(n:kd≠kd2):RS w C M' a k ns pcs pl kd b :=
 ⟨kk (.o a) (λz=>nomatch z) _ h.ins,kk (.l pl) (λz=>nomatch z) _ h.lst,let ⟨kvs,e,r⟩:=h.kept;⟨kvs,kk (.d kd) (λz=>n (AK.d.inj z)) _ e,r⟩⟩
def aBU (M:DM)(pp:Addr)(lss:List (List (Nat×Nat))):Prop:=∃as:List Addr,M (.l pp)=some (as.map D.ref)/\as.length=lss.length/\∀(i:Nat) a ls,as[i]?=some a->lss[i]?=some ls->M (.l a)=some (prs ls)
theorem aBU.kp {M M':DM}{pp kd kd2:Addr}{lss:List (List (Nat×Nat))}(h:aBU M pp lss)(s:Kp2 M M' kd kd2):aBU M' pp lss :=
 let ⟨as,a,b,c⟩:=h;⟨as,s.l a,b,λi x ls e e'=>s.l (c i x ls e e')⟩
def PpQ (M:DM)(pp:Addr)(lss:List (List (Nat×Nat)))(lsss:List (List (List (Nat×Nat)))):Prop:=∃as bs:List Addr,M (.l pp)=some ((as++bs).map D.ref)/\as.length=lss.length/\bs.length=lsss.length /\
 (∀(i:Nat) a ls,as[i]?=some a->lss[i]?=some ls->M (.l a)=some (prs ls))/\∀(i:Nat) b x,bs[i]?=some b->lsss[i]?=some x->aBU M b x
theorem PpQ.sub {M M':DM}{pp:Addr}{lss:List (List (Nat×Nat))}{lsss:List (List (List (Nat×Nat)))}(h:PpQ M pp lss lsss)(s:bC M M'):PpQ M' pp lss lsss :=
 let ⟨as,bs,e,e1,e2,e3,e4⟩:=h;⟨as,bs,s _ _ e,e1,e2,λi a ls x y=>s _ _ (e3 i a ls x y),λi b x y z=>(e4 i b x y z).kp (.of s 0 0)⟩
noncomputable def rF (k:Kd)(st fl st2 fl2:List Pc)(lss:List (List (Nat×Nat)))(lsss:List (List (List (Nat×Nat)))):List Bool :=
 (st.zip lss).map (λx=>cB k st2.length (st2++fl2) x.1 x.2)++(fl.zip lsss).map λx=>flB k st2.length (st2++fl2) x.1 x.2
theorem aE7 (k:Kd)(st fl st2 fl2:List Pc)(lss:List (List (Nat×Nat)))(lsss:List (List (List (Nat×Nat)))):psB k st fl st2 fl2 lss lsss=(rF k st fl st2 fl2 lss lsss).all id:=by unfold psB rF;rw[List.all_append,all_map,all_map];rfl
noncomputable def rdB (k:Kd)(ns:Nat)(pcs:List Pc)(g:Pc)(X:List (List (Nat×Nat))):Bool:=(range X.length).all λn=>match X[n]? with|some ls=>cB k ns pcs (kM k n g) ls|none=>true
theorem range_all {f:Nat->Bool}:∀{n:Nat},(∀i,i<n->f i=true)->(range n).all f=true:=λ{n} h=>List.all_eq_true.mpr λi hi=>h i (List.mem_range.mp hi)
structure aDv (lss:List (List (Nat×Nat)))(lsss:List (List (List (Nat×Nat)))):Prop where
 s:∀ls∈lss,LkS ls
 f:∀X∈lsss,X≠[]/\X.length<=2/\∀ls∈X,LkS ls
def lW (w:World)(C:Addr):DSp:=λds M Q=>∃a k st fl pl kd b a2 st2 fl2 pl2 kd2 b2 pp lss lsss,ds=[.ref a,.ref a2,.ref pp]/\RS w C M a k st.length (st++fl) pl kd b/\RS w C M a2 k st2.length (st2++fl2) pl2 kd2 b2/\kd≠kd2/\k.Ok/\PpQ M pp lss lsss/\lss.length=st.length/\lsss.length=fl.length/\aDv lss lsss/\st.length<=2/\fl.length<=2/\b<100/\b2<100 /\
 (∀p∈st++fl,pcB 250 p)/\(∀p∈st2++fl2,pcB 250 p) /\
 ∀M',RS w C M' a k st.length (st++fl) pl kd (b+8)->RS w C M' a2 k st2.length (st2++fl2) pl2 kd2 (b2+16)->Kp2 M M' kd kd2->Q (.bl (psB k st fl st2 fl2 lss lsss)) M'
noncomputable abbrev iT:Stmt:=top 50
theorem dE:aS ["own","other","papers","number","paper","links_of_rounds","n","links"] ["own","other","papers"] (aI iT):=by ac_rfl
theorem rW {C_Rounds:Addr}(hF:cK K mg "picture_shown" iT ["own","other","papers"])(bJ:mg "isinstance" = none)(qT:mg "list" = none)(cG:mg "len" = none)(kN:mg "enumerate"=none)(o_Rounds:xR K C_Rounds ["sort_of_map","many_still","pieces","kept"])(gP:rY P w K mg base 101 C_Rounds "flows_on" ["self","links"] (tZ w C_Rounds))(cX:rY P w K mg base 107 C_Rounds "piece_in" ["self","number","n"] (kH w C_Rounds))(kZ:Has P w K mg base 108 "chain_shown" ["goal","other","links"] (nQ w C_Rounds)):Has P w K mg base 109 "picture_shown" ["own","other","papers"] (lW w C_Rounds):=by
 refine Has.mkZ hF dE (λds M Q ⟨_,_,_,_,_,_,_,_,_,_,_,_,_,_,_,_,e,_⟩=>by rw[e];rfl) λf cdv A outer s H ds M Q E hr h=>?_;obtain⟨a,k,st,fl,pl,kd,b,a2,st2,fl2,pl2,kd2,b2,pp,lss,lsss,rfl,R,R2,nkd,ok,⟨as,bs,hpp,las,lbs,has1,hbs⟩,ll1,ll2,PS,n1,n2,hb,hb2,hp,hp2,q⟩:=h;refine⟨_,(aF (bA (gX (iA (fA (dW (jY (aB 2) bJ qT))) (gG (aR (nJ hr) (bV eW cG (aA (aB 2) aD)) (bV eW cG (aA (fL o_Rounds (by decide) (aB 0)) aD)))))) (aH (aJ dG)) aP)
  (aF (aA8 PassesOwn.never rfl kN (aA (aB 2) aD) (dI (n:=2) rfl (aV (aO (i:=3) dE.nd) (aV (aO (i:=4) dE.nd) cW))) (oB (aU (i:=5) dE.nd (yL (aR uK (aB 3) (fL o_Rounds (by decide) (aB 0))) (dZ (aA (aB 4) aD)) (aB 4)))
  (aF (bA (gX (iA (fA (dW (jY (aB 5) bJ qT))) (gG (aR (aAC hr) (aB 5) (dZ aD))))) (aH (aJ dG)) aP)
  (aF (aA8 PassesOwn.never rfl kN (aA (aB 5) aD) (dI (n:=2) rfl (aV (aO (i:=6) dE.nd) (aV (aO (i:=7) dE.nd) cW))) (aH (bA (fA (dW (aE kZ hr (by decide) (aA (rG cX hr (by decide) (aB 0) (aA (aB 3) (aA (aB 6) aD))) (aA (aB 1) (aA (aB 7) aD)))))) (aH (aJ dG)) aP)))
  (aH (bA (gX (kJ (aR yP (aB 3) (fL o_Rounds (by decide) (aB 0))) (jS (fA (dW (rG gP hr (by decide) (aB 1) (aA (aG (aB 5) (dM aC)) aD))))))) (aH (aJ dG)) aP))))))
  (aH (aJ dG)))),?_⟩
 ac_nf;refine aAe hpp rfl ?_;ac_nf;have hlen:(as++bs).length=(st++fl).length:=by rw[length_append,length_append];omega
 have hl4:(st++fl).length<=4:=by rw[length_append];omega
 refine ifF (by decide) ⟨_,hpp,a,_,_,rfl,R.ins,rfl,_,R.lst,?_⟩;ac_nf;rw[cE,length_map,length_map];rw[aE7] at q;have rl:(rF k st fl st2 fl2 lss lsss).length=(st++fl).length:=by unfold rF;rw[length_append,length_map,length_map,length_zip,length_zip,length_append];omega
 have rowS:∀(i:Nat) g ls,st[i]?=some g->lss[i]?=some ls->(rF k st fl st2 fl2 lss lsss)[i]?=some (cB k st2.length (st2++fl2) g ls):=λi g ls e1 e2=>by have c:=(List.getElem?_eq_some_iff.mp e1).1;unfold rF;rw[getElem?_append_left (by rw[length_map,length_zip];omega),getElem?_map,show(st.zip lss)[i]?=some (g,ls) from List.getElem?_zip_eq_some.mpr ⟨e1,e2⟩];rfl
 have rowF:∀(i:Nat) g X,fl[i]?=some g->lsss[i]?=some X->(rF k st fl st2 fl2 lss lsss)[st.length+i]?=some (flB k st2.length (st2++fl2) g X):=λi g X e1 e2=>by
  unfold rF;have e0:((st.zip lss).map (λx=>cB k st2.length (st2++fl2) x.1 x.2)).length=st.length:=by rw[length_map,length_zip];omega
  rw[getElem?_append_right (by omega),e0,show st.length+i-st.length=i by omega,getElem?_map,show(fl.zip lsss)[i]?=some (g,X) from List.getElem?_zip_eq_some.mpr ⟨e1,e2⟩];rfl
 generalize rF k st fl st2 fl2 lss lsss=rows at q rl rowS rowF;refine ifF (by rw[decide_eq_true (by omega)];rfl) ⟨_,hpp,λi ρ M'=>RS w C_Rounds M' a k st.length (st++fl) pl kd (b+2*i)/\RS w C_Rounds M' a2 k st2.length (st2++fl2) pl2 kd2 (b2+4*i)/\Kp2 M M' kd kd2/\rows.all id=(rows.drop i).all id/\∃o1 o2 o3 o4 o5,ρ=[some (.ref a),some (.ref a2),some (.ref pp),o1,o2,o3,o4,o5],⟨R,R2,.refl _ _ _,rfl,_,_,_,_,_,rfl⟩,?_,?_,?_⟩
 ·rintro i ρ M' _ ⟨_,_,k,_⟩;exact k.l hpp
 ·rintro i d1 ρ M' hd ⟨Ri,R2i,Ki,ei,o1,o2,o3,o4,o5,rfl⟩;rw[getElem?_map] at hd;obtain⟨pa,hpa,rfl⟩:∃pa,(as++bs)[i]?=some pa/\d1=.ref pa:=by
   cases e:(as++bs)[i]? with
   |none=>rw[e] at hd;cases hd
   |some pa=>rw[e] at hd;cases hd;exact⟨pa,rfl,rfl⟩
  have hi:i<(st++fl).length:=by have:=(List.getElem?_eq_some_iff.mp hpa).1;omega
  obtain⟨g,hg⟩:∃g,(st++fl)[i]?=some g:=⟨_,getElem?_eq_getElem hi⟩;have bg:=hp g (mem_of_getElem? hg);ac_nf;refine⟨rfl,?_⟩;refine⟨λρ' M1=>∃q1 X,aBU M1 q1 X/\X≠[]/\X.length<=2/\(∀ls∈X,LkS ls)/\(rows[i]?=some (rdB k st2.length (st2++fl2) g X&&(decide (i<st.length)||(match X.getLast? with|some ls=>ls.all λl=>decide (st2.length<=l.1)|none=>false))))/\RS w C_Rounds M1 a k st.length (st++fl) pl kd (b+2*i)/\RS w C_Rounds M1 a2 k st2.length (st2++fl2) pl2 kd2 (b2+4*i)/\Kp2 M M1 kd kd2/\ρ'=[some (.ref a),some (.ref a2),some (.ref pp),some (.int i),some (.ref pa),some (.ref q1),o4,o5],?_,?_⟩
  ·refine⟨a,_,_,rfl,Ri.ins,rfl,?_⟩;ac_nf;by_cases c:i<st.length
   ·obtain⟨ls,els⟩:∃ls,lss[i]?=some ls:=⟨_,getElem?_eq_getElem (by omega)⟩;have epa:as[i]?=some pa:=by rw[getElem?_append_left (by omega)] at hpa;exact hpa
    have eg:st[i]?=some g:=by rw[getElem?_append_left c] at hg;exact hg
    refine ifT (decide_eq_true (by omega)) ⟨by decide,λq1 hq1=>?_⟩;have s1:bC M' (bH M' q1 [.ref pa]):=bC.new hq1 _;have lS:=PS.s ls (mem_of_getElem? els);refine⟨q1,[ls],⟨[pa],aL,rfl,λj x l e1 e2=>?_⟩,List.cons_ne_nil _ _,Nat.le_of_ble_eq_true rfl,λl hl=>by rw[List.mem_singleton.mp hl];exact lS,?_,Ri.sub s1,R2i.sub s1,Ki.trans (.of s1 _ _),rfl⟩
    ·cases j with
     |zero=>cases e1;cases e2;exact s1 _ _ (Ki.l (has1 i _ _ epa els))
     |succ j=>cases e1
    ·rw[rowS i g ls eg els,decide_eq_true c,Bool.true_or,Bool.and_true];unfold rdB;show _=some (_&&true);rw[Bool.and_true];show _=some (cB k st2.length (st2++fl2) (kM k 0 g) ls);rw[aCX]
   ·have jl:i-st.length<fl.length:=by rw[length_append] at hi;omega
    obtain⟨X,eX⟩:∃X,lsss[i-st.length]?=some X:=⟨_,getElem?_eq_getElem (by omega)⟩;have epa:bs[i-st.length]?=some pa:=by rw[getElem?_append_right (by omega),las,ll1] at hpa;exact hpa
    have eg:fl[i-st.length]?=some g:=by rw[getElem?_append_right (by omega)] at hg;exact hg
    obtain⟨x1,x2,x3⟩:=PS.f X (mem_of_getElem? eX);refine ifF (decide_eq_false (by omega)) ⟨pa,X,(hbs _ _ _ epa eX).kp Ki,x1,x2,x3,?_,Ri,R2i,Ki,rfl⟩;have:=rowF _ g X eg eX;rw[show st.length+(i-st.length)=i by omega] at this;rw[this,decide_eq_false c,Bool.false_or];rfl
  rintro _ M1 ⟨q1,X,PX,xne,xl,xs,hrow,R1,R21,K1,rfl⟩;obtain⟨xa,hxa,lxa,hxl⟩:=id PX;have es:(rows.drop i).all id=(rows[i]?.getD true&&(rows.drop (i+1)).all id):=by rw[aAG hrow,hrow,all_cons];rfl
  rw[hrow,Option.getD_some] at es;ac_nf;refine aAe hxa rfl ?_;ac_nf;refine ifF (by decide) ⟨by decide,λq2 hq2=>?_⟩;ac_nf;have n12:q1≠q2:=gB hxa hq2;have e2:bH M1 q2 [] (.l q1)=some (xa.map D.ref):=by rw[mM n12];exact hxa
  have xpos:0<X.length:=List.length_pos_iff.mpr xne;refine⟨.inr ⟨⟨_,rfl⟩,_,rfl⟩,false,aAw (n:=19) e2 aL n12 (by rw[length_map];show ¬(xa.length=0);omega),?_⟩;have s2:bC M1 (bH M1 q2 []):=bC.new hq2 _;generalize bH M1 q2 []=M2 at s2 e2 ⊢;have K2:Kp2 M M2 kd kd2:=K1.trans (.of s2 _ _);have R2':=R1.sub s2;have R22:=R21.sub s2;ac_nf;refine ifF (by decide) ⟨_,e2,λj ρ M3=>RS w C_Rounds M3 a k st.length (st++fl) pl kd (b+2*i+j)/\RS w C_Rounds M3 a2 k st2.length (st2++fl2) pl2 kd2 (b2+4*i+2*j)/\Kp2 M1 M3 kd kd2/\(∀m ls,m<j->X[m]?=some ls->cB k st2.length (st2++fl2) (kM k m g) ls=true)/\∃o4 o5,ρ=[some (.ref a),some (.ref a2),some (.ref pp),some (.int i),some (.ref pa),some (.ref q1),o4,o5],⟨R2',R22,.of s2 _ _,λm ls hm=>by omega,_,_,rfl⟩,?_,?_,?_⟩
  ·rintro j ρ M3 _ ⟨_,_,kk,_⟩;exact kk.l hxa
  ·rintro j d2 ρ M3 hd2 ⟨R3,R23,K3,C3,o4,o5,rfl⟩;rw[getElem?_map] at hd2;obtain⟨la,hla,rfl⟩:∃la,xa[j]?=some la/\d2=.ref la:=by
    cases e:xa[j]? with
    |none=>rw[e] at hd2;cases hd2
    |some la=>rw[e] at hd2;cases hd2;exact⟨la,rfl,rfl⟩
   have hj:=(List.getElem?_eq_some_iff.mp hla).1;obtain⟨ls,els⟩:∃ls,X[j]?=some ls:=⟨_,getElem?_eq_getElem (by omega)⟩;have hls:=K3.l (hxl j la ls hla els);ac_nf;refine⟨rfl,a,_,rfl,R3.ins,rfl,a,k,i,j,st.length,st++fl,pl,kd,b+2*i+j,g,rfl,R3,ok,hg,bg,by omega,by omega,λM4 R4 K4=>?_⟩;ac_nf;have R24:=R23.kp1 K4 (Ne.symm nkd);refine⟨kM k j g,a2,k,st2.length,st2++fl2,pl2,kd2,b2+4*i+2*j,la,ls,rfl,R24,ok,K4 (.l la) (λz=>nomatch z) _ hls,xs ls (mem_of_getElem? els),mB (ok.pcB (by omega) bg) (by omega),hp2,by omega,λM5 R5 K5=>?_⟩;ac_nf;have R45:=R4.kp1 K5 nkd;have K15:Kp2 M1 M5 kd kd2:=(K3.trans (K4.l kd2)).trans (K5.r kd);cases z:cB k st2.length (st2++fl2) (kM k j g) ls with
   |false =>
    have zr:rdB k st2.length (st2++fl2) g X=false:=by unfold rdB;rw[List.all_eq_false];exact⟨j,List.mem_range.mpr (by omega),by rw[els];simp[z]⟩
    rw[zr,Bool.false_and,Bool.false_and] at es;rw[ei,es] at q;exact bZ (q M5 (R45.mono (by omega)) (R5.mono (by omega)) (K1.trans K15))
   |true =>
    refine⟨R45.mono (by omega),R5.mono (by omega),K15,λm l hm em=>?_,_,_,rfl⟩;by_cases cm:m=j
    ·subst cm;rw[els] at em;cases em;exact z
    ·exact C3 m l (by omega) em
  ·rintro ρ M3 ⟨R3,R23,K3,C3,o4,o5,rfl⟩;rw[length_map] at R3 R23 C3;have zr:rdB k st2.length (st2++fl2) g X=true:=by unfold rdB;refine range_all λm hm=>?_;obtain⟨ls,els⟩:∃ls,X[m]?=some ls:=⟨_,getElem?_eq_getElem hm⟩;rw[els];exact C3 m ls (by omega) els
   rw[zr,Bool.true_and] at es;have K13:=K1.trans K3;ac_nf;refine⟨a,_,_,rfl,R3.ins,rfl,?_⟩;ac_nf;by_cases c:i<st.length
   ·rw[decide_eq_true c,Bool.true_or,Bool.true_and] at es;exact ifF (decide_eq_false (by omega)) ⟨R3.mono (by omega),R23.mono (by omega),K13,ei.trans es,_,_,_,_,_,rfl⟩
   ·rw[decide_eq_false c,Bool.false_or] at es;obtain⟨ls,els⟩:∃ls,X[X.length-1]?=some ls:=⟨_,getElem?_eq_getElem (by omega)⟩;obtain⟨la,ela⟩:∃la,xa[xa.length-1]?=some la:=⟨_,getElem?_eq_getElem (by omega)⟩;rw[show X.getLast?=some ls by rw[List.getLast?_eq_getElem?];exact els] at es;dsimp only at es;have hls:=K3.l (hxl _ la ls ela (by rw[lxa];exact els));have hat:atI (xa.map D.ref) (-1)=some (.ref la):=by
     have hx:xa=xa.dropLast++[la]:=by have:=List.getLast?_eq_getElem? (l:=xa);rw[ela] at this;obtain⟨ys,e⟩:=List.getLast?_eq_some_iff.mp this;rw[e,List.dropLast_concat]
     rw[hx,map_append];exact aBl _ _
    refine ifT (decide_eq_true (by omega)) ⟨a2,_,rfl,R23.ins,rfl,_,_,K3.l hxa,hat,a2,k,st2.length,st2++fl2,pl2,kd2,_,la,ls,rfl,R23,hls,(xs ls (mem_of_getElem? els)).le,λM4 s4=>?_⟩;ac_nf;have R34:=R3.sub s4;have R24:=R23.sub s4;have K14:=K13.trans (.of s4 _ _);cases z:ls.all λl=>decide (st2.length<=l.1) with
    |false =>
     rw[z,Bool.false_and] at es;rw[ei,es] at q;exact ifT rfl (bZ (q M4 (R34.mono (by omega)) (R24.mono (by omega)) K14))
    |true =>
     rw[z,Bool.true_and] at es;exact ifF rfl ⟨R34.mono (by omega),R24.mono (by omega),K14,ei.trans es,_,_,_,_,_,rfl⟩
 ·rintro ρ M' ⟨Ri,R2i,Ki,ei,o1,o2,o3,o4,o5,rfl⟩;rw[length_map] at Ri R2i ei;have ee:(rows.drop (as++bs).length).all id=true:=by rw[List.drop_of_length_le (by omega)];rfl
  rw[ee] at ei;ac_nf;have:=q M' (Ri.mono (by omega)) (R2i.mono (by omega)) Ki;rw[ei] at this;exact bZ this
structure fK (M:DM)(l e:Addr)(st fl:List Pc):Prop where
 s:M (.l l)=some (st.map pcD)
 f:M (.l e)=some (fl.map pcD)
theorem fK.sub {M M':DM}{l e:Addr}{st fl:List Pc}(h:fK M l e st fl)(s:bC M M'):fK M' l e st fl:=⟨s _ _ h.s,s _ _ h.f⟩
structure aGp (st fl:List Pc):Prop where
 ns:st.length<=2
 nf:fl.length<=2
 b:∀p∈st++fl,pcB 250 p
noncomputable def evD (k:Kd)(l1 e1 l2 e2:Addr):D:=.tup [kdD k,.tup [.ref l1,.ref e1],.tup [.ref l2,.ref e2]]
def pA:DSp:=λds M Q=>∃k l1 l2 e1 e2 st fl st2 fl2 p1 p2 lss lsss lss2 lsss2,ds=[evD k l1 e1 l2 e2,.tup [.ref p1,.ref p2]]/\k.Ok/\fK M l1 e1 st fl/\fK M l2 e2 st2 fl2/\aGp st fl/\aGp st2 fl2 /\
 PpQ M p1 lss lsss/\PpQ M p2 lss2 lsss2/\lss.length=st.length/\lsss.length=fl.length/\lss2.length=st2.length/\lsss2.length=fl2.length/\aDv lss lsss/\aDv lss2 lsss2 /\
 ∀M',bC M M'->Q (.bl (psB k st fl st2 fl2 lss lsss&&psB k st2 fl2 st fl lss2 lsss2)) M'
noncomputable abbrev lA:Stmt:=top 48
theorem eC:aS ["even","papers","sort","one","other","ones","others"] ["even","papers"] (aI lA):=by ac_rfl
theorem uZ {C_Rounds:Addr}(hF:cK K mg "alike_shown" lA ["even","papers"])(bJ:mg "isinstance" = none)(eJ:mg "tuple" = none)(cG:mg "len"=none)(iI:aB9 P w K mg base 101 "Rounds" C_Rounds ["self","sort","picture"] (oG w C_Rounds))(fN:Has P w K mg base 109 "picture_shown" ["own","other","papers"] (lW w C_Rounds)):Has P w K mg base 110 "alike_shown" ["even","papers"] pA:=by
 refine Has.mkZ hF eC (λds M Q ⟨_,_,_,_,_,_,_,_,_,_,_,_,_,_,_,e,_⟩=>by rw[e];rfl) λf cdv A outer s H ds M Q E hr h=>?_;obtain⟨k,l1,l2,e1,e2,st,fl,st2,fl2,p1,p2,lss,lsss,lss2,lsss2,rfl,ok,A1,A2,B1,B2,P1,P2,n1,n2,n3,n4,O1,O2,q⟩:=h;refine⟨_,(aF (dF (aB 0) (dI (n:=3) rfl (aV (aO (i:=2) eC.nd) (aV (aO (i:=3) eC.nd) (aV (aO (i:=4) eC.nd) cW)))))
  (aF (bA (gX (iA (fA (dW (jY (aB 1) bJ eJ))) (gG (aR (nJ hr) (bV eW cG (aA (aB 1) aD)) aC)))) (aH (aJ dG)) aP)
  (aF (aU (i:=5) eC.nd (aA3 iI hr (by decide) (aA (aB 2) (aA (aB 3) aD))))
  (aF (aU (i:=6) eC.nd (aA3 iI hr (by decide) (aA (aB 2) (aA (aB 4) aD))))
  (aH (aJ (eT (aE fN hr (by decide) (aA (aB 5) (aA (aB 6) (aA (aG (aB 1) aC) aD)))) (fC (aE fN hr (by decide) (aA (aB 6) (aA (aB 5) (aA (aG (aB 1) aC) aD)))))))))))),?_⟩
 dsimp only[evD];ac_nf;refine⟨rfl,.inl ⟨_,_,rfl,rfl,ifF rfl ?_⟩⟩;ac_nf;rw[cE];refine ifF (by decide) λx hx1 hx2 hx3=>⟨x,l1,e1,k,st,fl,rfl,gD,by rw[fP];exact A1.s,by rw[fP];exact A1.f,by have:=B1.ns;omega,by have:=B1.nf;omega,λM1 pl kd hkd R1 st1=>⟨rfl,λy hy1 hy2 hy3=>?_⟩⟩;rw[nV] at hkd;have s1:bC M M1:=λb o e=>st1 b (cU e hx3) o (by rw[lY (cU e hx3)];exact e);have A2':=A2.sub s1;refine⟨y,l2,e2,k,st2,fl2,rfl,gD,by rw[fP];exact A2'.s,by rw[fP];exact A2'.f,by have:=B2.ns;omega,by have:=B2.nf;omega,λM2 pl2 kd2 hkd2 R2 st2'=>⟨rfl,?_⟩⟩;rw[nV] at hkd2;have s12:bC M1 M2:=λb o e=>st2' b (cU e hy3) o (by rw[lY (cU e hy3)];exact e);have s2:=s1.trans s12;have nkd:kd≠kd2:=λz=>by obtain⟨kvs,e,_⟩:=R1.kept;rw[z,hkd2] at e;cases e
 have d1:∀b o,M b=some o->b ≠ .d kd/\b ≠ .d kd2:=λb o e=>⟨cU e hkd,cU (s1 b o e) hkd2⟩;have sk:∀{M' M'':DM},bC M M'->Kp2 M' M'' kd kd2->bC M M'':=λsm k b o e=>k b (d1 b o e).1 (d1 b o e).2 o (sm b o e);refine⟨x,k,st,fl,pl,kd,0,y,st2,fl2,pl2,kd2,0,p1,lss,lsss,rfl,R1.sub s12,R2,nkd,ok,P1.sub s2,n1,n2,O1,B1.ns,B1.nf,by decide,by decide,B1.b,B2.b,λM3 R13 R23 K3=>?_⟩;have s3:=sk s2 K3;ac_nf;cases z:psB k st fl st2 fl2 lss lsss with
 |false =>
  have:=q M3 s3;rw[z,Bool.false_and] at this;exact ifF (by decide) (bZ this)
 |true =>
  refine ifT rfl ⟨y,k,st2,fl2,pl2,kd2,0+16,x,st,fl,pl,kd,0+8,p2,lss2,lsss2,rfl,R23,R13,Ne.symm nkd,ok,P2.sub s3,n3,n4,O2,B2.ns,B2.nf,by decide,by decide,B2.b,B1.b,λM4 R24 R14 K4=>?_⟩;have:=q M4 (sk s3 λb n n' o e=>K4 b n' n o e);rw[z,Bool.true_and] at this;exact bZ this
theorem aLE {p r:Rat}{m n:Nat}{M:DM}{Q:DQ}(h1:BQ m p)(h2:BQ n r)(l:m+n<=8998)(q:Q (FQ (p-r)) M):oK [FQ p,FQ r] M Q:=⟨_,_,_,_,rfl,trivial,h1,h2,l,q⟩
theorem aBr {p r:Rat}{m n:Nat}{M:DM}{Q:DQ}(h1:BQ m p)(h2:BQ n r)(l:m+n<=8998)(q:Q (FQ (p*r)) M):jN [FQ p,FQ r] M Q:=⟨_,_,_,_,rfl,trivial,h1,h2,l,q⟩
theorem aMU {p r:Rat}{m n:Nat}{M:DM}{Q:DQ}(h1:BQ m p)(h2:BQ n r)(l:m+n<=8998)(q:Q (FQ (p+r)) M):rS [FQ p,FQ r] M Q:=⟨_,_,_,_,rfl,trivial,h1,h2,l,q⟩
theorem aEn {x y u v:Rat}{M:DM}{Q:DQ}(h1:BQ 4400 x)(h2:BQ 4400 y)(h3:BQ 4400 u)(h4:BQ 4400 v)(q:Q (PQ (x-u) (y-v)) M):sZ [PQ x y,PQ u v] M Q:=⟨_,_,_,_,rfl,h1,h2,h3,h4,q⟩
theorem aBB {x y u v:Rat}{M:DM}{Q:DQ}(h1:BQ 4400 x)(h2:BQ 4400 y)(h3:BQ 4400 u)(h4:BQ 4400 v)(q:Q (PQ (x+u) (y+v)) M):cV [PQ x y,PQ u v] M Q:=⟨_,_,_,_,rfl,h1,h2,h3,h4,q⟩
def cC (M M':DM)(fa:Addr):Prop:=∀b:AK,b ≠ .l fa->∀o,M b=some o->M' b=some o
theorem cC.ad {M M':DM}{fa:Addr}(h:Adv M M' fa):cC M M' fa:=λb n o e=>by rw[h.ak n];exact e
theorem cC.refl (M:DM)(fa:Addr):cC M M fa:=λ_ _ _ e=>e
theorem cC.trans {M M1 M2:DM}{fa:Addr}(h:cC M M1 fa)(h':cC M1 M2 fa):cC M M2 fa:=λb n o e=>h' b n o (h b n o e)
theorem cC.of {M M':DM}(s:bC M M')(fa:Addr):cC M M' fa:=λb _ o e=>s b o e
theorem cC.l {M M':DM}{fa p:Addr}(h:cC M M' fa)(n:p≠fa){o:List D}(e:M (.l p)=some o):M' (.l p)=some o:=h (.l p) (λz=>n (AK.l.inj z)) _ e
theorem eO {M M':DM}{a:Addr}{n:Nat}(h:FdN M a n)(s:bC M M'):FdN M' a n:=let ⟨c,k,f,e,r⟩:=h;⟨c,k,f,s _ _ e,r⟩
theorem aAU {M:DM}{a p:Addr}{n:Nat}(h:FdN M a n)(hp:M (.l p)=none):p≠a:=λz=>by obtain⟨c,k,f,e,_⟩:=h;rw[z,e] at hp;cases hp
theorem bd8 {x:Int}(h1:-200<=x)(h2:x<=200):Bd 8 x:=by unfold Bd;omega
theorem aD6 {z:Int}(h1:-200<=z)(h2:z<=200):IsF 8 (.tup [.int z,.int 1]):=⟨z,(aE4 z).symm,.int (bd8 h1 h2) (by decide)⟩
theorem aF5 {t b:Int}(h0:0<b)(h1:-200<=t)(h2:t<=200)(h3:b<=200):IsF 8 (FQ ((t:Rat)/(b:Rat))):=⟨_,rfl,.make (by omega) (bd8 h1 h2) (bd8 (by omega) h3)⟩
def sB:DSp:=qZ 40000 3 (IsF 8)
noncomputable abbrev oP:Stmt:=top 59
theorem aAI:aS ["_law_feed_here"] ["_law_feed_here"] (aI oP):=by ac_rfl
theorem xS (hF:cK K mg "_law_small" oP ["_law_feed_here"])(aN:Has P w K mg base 101 "_law_draw" ["_law_feed_here","_law_many"] cI)(aAr:Has P w K mg base 102 "ratio" ["top","bottom"] aA6):Has P w K mg base 103 "_law_small" ["_law_feed_here"] sB:=by
 refine Has.mkZ hF aAI tI λf cdv A outer s H ds M Q E hr h=>?_;obtain⟨a,n,rfl,fd,hn,q⟩:=h;refine⟨_,(aF (bA (aR (bR hr) (aE aN hr (by decide) (aA (aB 0) (aA aC aD))) aC) (aH (aJ (aK (aA (aM lP (aE aN hr (by decide) (aA (aB 0) (aA aC aD))) aC) (aA aC aD))))) aP)
  (aH (aJ (aE aAr hr (by decide) (aA (aM lP (aE aN hr (by decide) (aA (aB 0) (aA aC aD))) aC) (aA (aM eD aC (aE aN hr (by decide) (aA (aB 0) (aA aC aD)))) aD)))))),?_⟩
 ac_nf;refine⟨a,2,n,rfl,fd,by omega,by decide,bdk (by decide),λway M1 w0 w1 fd1 av1=>?_⟩;ac_nf;rw[cE];refine dif (λ_=>?_) (λ_=>?_)
 ·refine⟨a,25,_,rfl,fd1,by omega,by decide,bdk (by decide),λr M2 r0 r1 fd2 av2=>?_⟩;exact⟨by decide,M2,.refl _,q _ M2 (aD6 (by omega) (by omega)) (fd2.mono (by omega)) (av1.trans av2)⟩
 ·refine⟨a,49,_,rfl,fd1,by omega,by decide,bdk (by decide),λr M2 r0 r1 fd2 av2=>?_⟩;refine⟨a,6,_,rfl,fd2,by omega,by decide,bdk (by decide),λr' M3 s0 s1 fd3 av3=>?_⟩;exact⟨_,_,rfl,by omega,(aL9 (by omega) (by omega)).mono (by decide),M3,.refl _,q _ M3 (aF5 (by omega) (by omega) (by omega) (by omega)) (fd3.mono (by omega)) ((av1.trans av2).trans av3)⟩
def kT:DSp:=qZ 30000 6 (IsP 8)
noncomputable abbrev qX:Stmt:=top 60
theorem tW:aS ["_law_feed_here","_law_x"] ["_law_feed_here"] (aI qX):=by ac_rfl
theorem aAt (hF:cK K mg "_law_spot" qX ["_law_feed_here"])(kQ:Has P w K mg base 103 "_law_small" ["_law_feed_here"] sB):Has P w K mg base 104 "_law_spot" ["_law_feed_here"] kT:=by
 refine Has.mkZ hF tW tI λf cdv A outer s H ds M Q E hr h=>?_;obtain⟨a,n,rfl,fd,hn,q⟩:=h;refine⟨_,(aF (aU (i:=1) tW.nd (aE kQ hr (by decide) (aA (aB 0) aD)))
  (aH (aJ (aK (aA (aB 1) (aA (aE kQ hr (by decide) (aA (aB 0) aD)) aD)))))),?_⟩
 ac_nf;refine⟨a,_,rfl,fd,by omega,λd M2 ⟨x,ex,hx⟩ fd2 av2=>⟨a,_,rfl,fd2,by omega,λd' M3 ⟨y,ey,hy⟩ fd3 av3=>?_⟩⟩;subst ex ey;exact⟨by decide,M3,.refl _,q _ M3 ⟨x,y,rfl,hx,hy⟩ (fd3.mono (by omega)) (av2.trans av3)⟩
noncomputable def aLd:List D:=[.tup [.tup [.int 0,.int 1],.tup [.int 1,.int 1]],.tup [.tup [.int (-1),.int 1],.tup [.int 0,.int 1]],.tup [.tup [.int 0,.int 1],.tup [.int (-1),.int 1]],.tup [.tup [.int 3,.int 5],.tup [.int 4,.int 5]],.tup [.tup [.int (-4),.int 5],.tup [.int 3,.int 5]],.tup [.tup [.int 5,.int 13],.tup [.int (-12),.int 13]],.tup [.tup [.int (-7),.int 25],.tup [.int (-24),.int 25]],.tup [.tup [.int 12,.int 13],.tup [.int 5,.int 13]]]
theorem bq5 {a:Int}{b:Nat}(nz:b≠0)(cop:a.natAbs.Coprime b)(h1:a.natAbs<32)(h2:b<32):BQ 5 (⟨a,b,nz,cop⟩:Rat):=⟨h1,by show((b:Nat):Int).natAbs<2^5;rw[Int.natAbs_natCast];exact h2⟩
theorem aGd {r:Int}(h0:0<=r)(h1:r<8):∃u v,atI aLd r=some (.tup [FQ u,FQ v])/\BQ 5 u/\BQ 5 v/\u*u+v*v=1/\u≠1:=by
 have:r=0∨r=1∨r=2∨r=3∨r=4∨r=5∨r=6∨r=7:=by omega
 rcases this with rfl|rfl|rfl|rfl|rfl|rfl|rfl|rfl
 ·exact⟨⟨0,1,by decide,by decide⟩,⟨1,1,by decide,by decide⟩,rfl,bq5 _ _ (by decide) (by decide),bq5 _ _ (by decide) (by decide),by decide +kernel,by decide +kernel⟩
 ·exact⟨⟨-1,1,by decide,by decide⟩,⟨0,1,by decide,by decide⟩,rfl,bq5 _ _ (by decide) (by decide),bq5 _ _ (by decide) (by decide),by decide +kernel,by decide +kernel⟩
 ·exact⟨⟨0,1,by decide,by decide⟩,⟨-1,1,by decide,by decide⟩,rfl,bq5 _ _ (by decide) (by decide),bq5 _ _ (by decide) (by decide),by decide +kernel,by decide +kernel⟩
 ·exact⟨⟨3,5,by decide,by decide⟩,⟨4,5,by decide,by decide⟩,rfl,bq5 _ _ (by decide) (by decide),bq5 _ _ (by decide) (by decide),by decide +kernel,by decide +kernel⟩
 ·exact⟨⟨-4,5,by decide,by decide⟩,⟨3,5,by decide,by decide⟩,rfl,bq5 _ _ (by decide) (by decide),bq5 _ _ (by decide) (by decide),by decide +kernel,by decide +kernel⟩
 ·exact⟨⟨5,13,by decide,by decide⟩,⟨-12,13,by decide,by decide⟩,rfl,bq5 _ _ (by decide) (by decide),bq5 _ _ (by decide) (by decide),by decide +kernel,by decide +kernel⟩
 ·exact⟨⟨-7,25,by decide,by decide⟩,⟨-24,25,by decide,by decide⟩,rfl,bq5 _ _ (by decide) (by decide),bq5 _ _ (by decide) (by decide),by decide +kernel,by decide +kernel⟩
 ·exact⟨⟨12,13,by decide,by decide⟩,⟨5,13,by decide,by decide⟩,rfl,bq5 _ _ (by decide) (by decide),bq5 _ _ (by decide) (by decide),by decide +kernel,by decide +kernel⟩
def gI:DSp:=λds M Q=>∃cx cy vx vy r B C,ds=[PQ cx cy,PQ vx vy,.int r]/\BQ B cx/\BQ B cy/\BQ C vx/\BQ C vy/\B+2*C<=700/\0<=r/\r<8/\∀x y,BQ (B+2*C+12) x->BQ (B+2*C+12) y->bU cx cy x y=vx*vx+vy*vy->(¬(vx=0/\vy=0)->¬(x=cx+vx/\y=cy+vy))->Q (PQ x y) M
noncomputable abbrev oO:Stmt:=top 61
theorem jE:aS ["_law_c","_law_v","_law_way","_law_u","_law_w","_law_spun"] ["_law_c","_law_v","_law_way"] (aI oO):=by ac_rfl
theorem xN (hF:cK K mg "_law_bowed" oO ["_law_c","_law_v","_law_way"])(iG:Has P w K mg base 103 "minus" ["one","other"] oK)(lL:Has P w K mg base 102 "plus" ["one","other"] rS)(cS:Has P w K mg base 102 "times" ["one","other"] jN)(bL:Has P w K mg base 104 "together" ["p","q"] cV):Has P w K mg base 105 "_law_bowed" ["_law_c","_law_v","_law_way"] gI:=by
 refine Has.mkZ hF jE (λds M Q ⟨a,b,c,d,e,B,C,z,_⟩=>by rw[z];rfl) λf cdv A outer s H ds M Q E hr h=>?_;obtain⟨cx,cy,vx,vy,r,B,C,rfl,h1,h2,h3,h4,hl,r0,r1,q⟩:=h;refine⟨_,(aF (dF (aG (dZ (aA (aK (aA (aK (aA aC (aA aC aD))) (aA (aK (aA aC (aA aC aD))) aD))) (aA (aK (aA (aK (aA (dM aC) (aA aC aD))) (aA (aK (aA aC (aA aC aD))) aD))) (aA (aK (aA (aK (aA aC (aA aC aD))) (aA (aK (aA (dM aC) (aA aC aD))) aD))) (aA (aK (aA (aK (aA aC (aA aC aD))) (aA (aK (aA aC (aA aC aD))) aD))) (aA (aK (aA (aK (aA (dM aC) (aA aC aD))) (aA (aK (aA aC (aA aC aD))) aD))) (aA (aK (aA (aK (aA aC (aA aC aD))) (aA (aK (aA (dM aC) (aA aC aD))) aD))) (aA (aK (aA (aK (aA (dM aC) (aA aC aD))) (aA (aK (aA (dM aC) (aA aC aD))) aD))) (aA (aK (aA (aK (aA aC (aA aC aD))) (aA (aK (aA aC (aA aC aD))) aD))) aD))))))))) (aB 2)) (dI (n:=2) rfl (aV (aO (i:=3) jE.nd) (aV (aO (i:=4) jE.nd) cW))))
  (aF (aU (i:=5) jE.nd (aK (aA (aE iG hr (by decide) (aA (aE cS hr (by decide) (aA (aB 3) (aA (aG (aB 1) aC) aD))) (aA (aE cS hr (by decide) (aA (aB 4) (aA (aG (aB 1) aC) aD))) aD))) (aA (aE lL hr (by decide) (aA (aE cS hr (by decide) (aA (aB 4) (aA (aG (aB 1) aC) aD))) (aA (aE cS hr (by decide) (aA (aB 3) (aA (aG (aB 1) aC) aD))) aD))) aD))))
  (aH (aJ (aE bL hr (by decide) (aA (aB 0) (aA (aB 5) aD))))))),?_⟩
 ac_nf;obtain⟨u,v,hat,bu,bv,uv,u1⟩:=aGd r0 r1;refine⟨by decide,by decide,by decide,by decide,by decide,by decide,by decide,by decide,by decide,by decide,by decide,by decide,by decide,by decide,by decide,by decide,by decide,by decide,by decide,by decide,by decide,by decide,by decide,by decide,by decide,λp hp=>⟨_,_,aL,hat,?_⟩⟩;have s1:=bC.new hp aLd;ac_nf;refine⟨rfl,aBr bu h3 (by omega) (aBr bv h4 (by omega) (aLE (bu.mul h3) (bv.mul h4) (by omega) (aBr bv h3 (by omega) (aBr bu h4 (by omega) (aMU (bv.mul h3) (bu.mul h4) (by omega) ⟨by decide,?_⟩)))))⟩;ac_nf;have b1:=(bu.mul h3).sub (bv.mul h4);have b2:=(bv.mul h3).add (bu.mul h4);refine aBB (h1.mono (by omega)) (h2.mono (by omega)) (b1.mono (by omega)) (b2.mono (by omega)) ⟨M,s1,q _ _ ((h1.add b1).mono (by omega)) ((h2.add b2).mono (by omega)) ?_ ?_⟩
 ·have:bU cx cy (cx+(u*vx-v*vy)) (cy+(v*vx+u*vy))=(u*u+v*v)*(vx*vx+vy*vy):=by unfold bU;grind
  rw[this,uv];grind
 ·intro nv ⟨ex,ey⟩;have k1:(u-1)*vx-v*vy=0:=by grind
  have k2:v*vx+(u-1)*vy=0:=by grind
  have k3:(2-2*u)*vx=0:=by
   have:((u-1)*(u-1)+v*v)*vx=0:=by
    have:((u-1)*(u-1)+v*v)*vx=(u-1)*((u-1)*vx-v*vy)+v*(v*vx+(u-1)*vy):=by grind
    rw[this,k1,k2];grind
   have e:(u-1)*(u-1)+v*v=2-2*u:=by grind
   rw[<- e];exact this
  have k4:(2-2*u)*vy=0:=by
   have:((u-1)*(u-1)+v*v)*vy=0:=by
    have:((u-1)*(u-1)+v*v)*vy=(u-1)*(v*vx+(u-1)*vy)-v*((u-1)*vx-v*vy):=by grind
    rw[this,k1,k2];grind
   have e:(u-1)*(u-1)+v*v=2-2*u:=by grind
   rw[<- e];exact this
  have u2:2-2*u≠0:=by grind
  exact nv ⟨(Rat.mul_eq_zero.mp k3).resolve_left u2,(Rat.mul_eq_zero.mp k4).resolve_left u2⟩
def aL3 (c s e:Nat):Pc->Prop
 |.dot x y=>BQ s x/\BQ s y
 |.str x y u v=>BQ s x/\BQ s y/\BQ s u/\BQ s v
 |.arc a b x y u v=>BQ c a/\BQ c b/\BQ s x/\BQ s y/\BQ e u/\BQ e v
 |.ring a b x y=>BQ c a/\BQ c b/\BQ s x/\BQ s y
def PcK (c s e:Nat)(pc:Pc):Prop:=aL3 c s e pc/\WfO pc
def aNa (c s e:Nat)(d:D):Prop:=∃pc,d=pcD pc/\PcK c s e pc
theorem aKE (x y u v:Rat):WfO (mkS x y u v):=by
 unfold mkS;split
 ·exact trivial
 ·rename_i h;split
  ·assumption
  ·rename_i h2;show bef u v x y=true;rw[aEc h];cases z:bef x y u v with
   |true=>exact absurd z h2
   |false=>rfl
theorem aKq {c s e:Nat}{x y u v:Rat}(h1:BQ s x)(h2:BQ s y)(h3:BQ s u)(h4:BQ s v):aL3 c s e (mkS x y u v):=by
 unfold mkS;split
 ·exact⟨h1,h2⟩
 ·split
  ·exact⟨h1,h2,h3,h4⟩
  ·exact⟨h3,h4,h1,h2⟩
theorem aIa (px py vx vy:Rat):bU px py (px+vx) (py+vy)=vx*vx+vy*vy:=by unfold bU;grind
def mQ:DSp:=qZ 20000 20 (aNa 8 17 60)
noncomputable abbrev nX:Stmt:=top 62
theorem gS:aS ["_law_feed_here","_law_way","_law_p","_law_v"] ["_law_feed_here"] (aI nX):=by ac_rfl
theorem xM (hF:cK K mg "_law_piece" nX ["_law_feed_here"])(aN:Has P w K mg base 101 "_law_draw" ["_law_feed_here","_law_many"] cI)(dU:Has P w K mg base 104 "_law_spot" ["_law_feed_here"] kT)(jJ:Has P w K mg base 103 "stretch" ["p","q"] mH)(bL:Has P w K mg base 104 "together" ["p","q"] cV)(fZ:Has P w K mg base 105 "_law_bowed" ["_law_c","_law_v","_law_way"] gI):Has P w K mg base 106 "_law_piece" ["_law_feed_here"] mQ:=by
 refine Has.mkZ hF gS tI λf cdv A outer s H ds M Q E hr h=>?_;obtain⟨a,n,rfl,fd,hn,q⟩:=h;refine⟨_,(aF (aU (i:=1) gS.nd (aE aN hr (by decide) (aA (aB 0) (aA aC aD))))
  (aF (aU (i:=2) gS.nd (aE dU hr (by decide) (aA (aB 0) aD)))
  (aF (bA (aR (bR hr) (aB 1) aC) (aH (aJ (aK (aA bG (aA (aB 2) aD))))) aP)
  (aF (aU (i:=3) gS.nd (aE dU hr (by decide) (aA (aB 0) aD)))
  (aF (bA (aR (bR hr) (aB 3) (aK (aA (aK (aA aC (aA aC aD))) (aA (aK (aA aC (aA aC aD))) aD)))) (aH (aU (i:=3) gS.nd (aK (aA (aK (aA aC (aA aC aD))) (aA (aK (aA aC (aA aC aD))) aD))))) aP)
  (aF (bA (aR uK (aB 1) aC) (aH (aJ (aE jJ hr (by decide) (aA (aB 2) (aA (aE bL hr (by decide) (aA (aB 2) (aA (aB 3) aD))) aD))))) aP)
  (aF (bA (aR (bR hr) (aB 1) aC) (aH (aJ (aK (aA bG (aA (aB 2) (aA (aE bL hr (by decide) (aA (aB 2) (aA (aB 3) aD))) aD)))))) aP)
  (aH (aJ (aK (aA bG (aA (aB 2) (aA (aE bL hr (by decide) (aA (aB 2) (aA (aB 3) aD))) (aA (aE fZ hr (by decide) (aA (aB 2) (aA (aB 3) (aA (aE aN hr (by decide) (aA (aB 0) (aA aC aD))) aD)))) aD)))))))))))))),?_⟩
 ac_nf;refine⟨a,6,n,rfl,fd,by omega,by decide,bdk (by decide),λway M1 w0 w1 fd1 av1=>?_⟩;ac_nf;refine⟨a,_,rfl,fd1,by omega,λd M2 ⟨px,py,ed,hpx,hpy⟩ fd2 av2=>?_⟩;subst ed;ac_nf;rw[cE];have m7:∀{z:Rat},BQ 8 z->BQ 17 z:=λh=>h.mono (by decide);have m44:∀{z:Rat},BQ 17 z->BQ 4400 z:=λh=>h.mono (by decide);refine dif (λ_=>?_) (λ_=>?_)
 ·exact⟨by decide,M2,.refl _,q _ M2 ⟨.dot px py,rfl,⟨m7 hpx,m7 hpy⟩,trivial⟩ (fd2.mono (by omega)) (av1.trans av2)⟩
 refine⟨a,_,rfl,fd2,by omega,λd M3 ⟨vx,vy,ed,hvx,hvy⟩ fd3 av3=>?_⟩;subst ed;ac_nf;have av:=(av1.trans av2).trans av3;have bI:∀(vx vy:Rat),¬(vx=0/\vy=0)->BQ 8 vx->BQ 8 vy->(if decide (way<3)=true then cV [PQ px py,PQ vx vy] M3 λx M1=>mH [PQ px py,x] M1 λd M'=>Dn Q d M' else dEq id (.int way) (.int 3) M3 λd M'=>match d with
   |.bl k=>if k = true then cV [PQ px py,PQ vx vy] M' λx M1=>3<=1000/\Dn Q (.tup [.str "ring",PQ px py,x]) M1 else cV [PQ px py,PQ vx vy] M' λx M1=>cI [.ref a,.int 8] M1 λx_1 M1=>gI [PQ px py,PQ vx vy,x_1] M1 λx_1 M1=>4<=1000/\Dn Q (.tup [.str "arc",PQ px py,x,x_1]) M1
   |_=>False):=λvx vy nv hvx hvy=>by
  have j1:BQ 17 (px+vx):=hpx.add hvx;have j2:BQ 17 (py+vy):=hpy.add hvy;have nc:¬(px+vx=px/\py+vy=py):=λz=>nv ⟨by grind,by grind⟩;refine dif (λ_=>?_) (λ_=>?_)
  ·exact aBB (m44 (m7 hpx)) (m44 (m7 hpy)) (m44 (m7 hvx)) (m44 (m7 hvy)) ⟨_,_,_,_,rfl,m44 (m7 hpx),m44 (m7 hpy),m44 j1,m44 j2,M3,.refl _,q _ M3 ⟨_,rfl,aKq (m7 hpx) (m7 hpy) j1 j2,aKE _ _ _ _⟩ (fd3.mono (by omega)) av⟩
  rw[cE];refine dif (λ_=>?_) (λ_=>?_)
  ·exact aBB (m44 (m7 hpx)) (m44 (m7 hpy)) (m44 (m7 hvx)) (m44 (m7 hvy)) ⟨by decide,M3,.refl _,q _ M3 ⟨.ring px py _ _,rfl,⟨hpx,hpy,j1,j2⟩,nc⟩ (fd3.mono (by omega)) av⟩
  ·refine aBB (m44 (m7 hpx)) (m44 (m7 hpy)) (m44 (m7 hvx)) (m44 (m7 hvy)) ⟨a,8,_,rfl,fd3,by omega,by decide,bdk (by decide),λr M4 r0 r1 fd4 av4=>⟨_,_,_,_,_,8,8,rfl,hpx,hpy,hvx,hvy,by decide,r0,r1,λx y hx hy hf hd=>⟨by decide,M4,.refl _,?_⟩⟩⟩;exact q _ M4 ⟨.arc px py _ _ x y,rfl,⟨hpx,hpy,j1,j2,hx.mono (by decide),hy.mono (by decide)⟩,nc,by rw[aIa,hf],hd nv⟩ (fd4.mono (by omega)) (av.trans av4)
 rw[show(D.tup [.tup [.int 0,.int 1],.tup [.int 0,.int 1]])=PQ 0 0 from rfl];refine⟨by decide,by decide,by decide,?_⟩;rw[lE];refine dif (λ_=>⟨by decide,by decide,by decide,?_⟩) (λnv=>bI vx vy nv hvx hvy);exact bI 1 0 (by decide +kernel) (bq1.mono (by decide)) ⟨by show(0:Int).natAbs<2^8;decide,by show((1:Nat):Int).natAbs<2^8;decide⟩
def aI8 (B c:Nat)(Pd:D->Prop):DSp:=λds M Q=>∃a n,ds=[.ref a]/\FdN M a n/\n<=B/\∀d M',Pd d->FdN M' a (n+c)->cC M M' a->Q d M'
def aM1 (d:D):Prop:=∃k:Kd,d=kdD k/\k.Ok
noncomputable def ONS:List D:=[.tup [.int 1,.int 1],.tup [.int 3,.int 2],.tup [.int (-2),.int 1]]
theorem aKr {r:Int}(h0:0<=r)(h1:r<3):∃s,atI ONS r=some (FQ s)/\BQ 3 s:=by
 have:r=0∨r=1∨r=2:=by omega
 rcases this with rfl|rfl|rfl
 ·exact⟨(⟨1,1,by decide,by decide⟩:Rat),rfl,by unfold BQ Bd;decide⟩
 ·exact⟨(⟨3,2,by decide,by decide⟩:Rat),rfl,by unfold BQ Bd;decide⟩
 ·exact⟨(⟨-2,1,by decide,by decide⟩:Rat),rfl,by unfold BQ Bd;decide⟩
noncomputable def ON2:List D:=[.tup [.int 0,.int 1],.tup [.int 1,.int 1]]
theorem aIY {r:Int}(h0:0<=r)(h1:r<2):∃s,atI ON2 r=some (FQ s)/\BQ 3 s:=by
 have:r=0∨r=1:=by omega
 rcases this with rfl|rfl
 ·exact⟨(⟨0,1,by decide,by decide⟩:Rat),rfl,by unfold BQ Bd;decide⟩
 ·exact⟨(⟨1,1,by decide,by decide⟩:Rat),rfl,by unfold BQ Bd;decide⟩
noncomputable def SMS:List D:=[.tup [.int 1,.int 2],.tup [.int 2,.int 3],.tup [.int 1,.int 4]]
theorem aCn {a:Int}{b:Nat}(nz:b≠0)(cop:a.natAbs.Coprime b)(h1:0<a)(h2:a<=4)(h3:b<=4):0<(⟨a,b,nz,cop⟩:Rat)/\∀n,BQ (2*n+1) ((⟨a,b,nz,cop⟩:Rat)^n):=by
 refine⟨aCD.mp h1,λn=>?_⟩;obtain⟨e1,e2⟩:=aCY (⟨a,b,nz,cop⟩:Rat) n;have key:∀m:Nat,m<=4->m^n<2^(2*n+1):=λm hm=>by
  have h4:m^n<=4^n:=Nat.pow_le_pow_left hm n;have h5:(4:Nat)^n=2^(2*n):=by rw[Nat.pow_mul]
  have h6:0<2^(2*n):=Nat.pow_pos (by decide);rw[Nat.pow_succ];omega
 refine⟨?_,?_⟩
 ·show((⟨a,b,nz,cop⟩:Rat)^n).num.natAbs<_;rw[e1];show(a^n).natAbs<_;rw[Int.natAbs_pow];exact key _ (by omega)
 ·show(((⟨a,b,nz,cop⟩:Rat)^n).den:Int).natAbs<_;rw[e2,Int.natAbs_natCast];exact key _ h3
theorem aJP {r:Int}(h0:0<=r)(h1:r<3):∃s,atI SMS r=some (FQ s)/\0<s/\∀n,BQ (2*n+1) (s^n):=by
 have:r=0∨r=1∨r=2:=by omega
 rcases this with rfl|rfl|rfl
 ·exact⟨(⟨1,2,by decide,by decide⟩:Rat),rfl,aCn _ _ (by decide) (by decide) (by decide)⟩
 ·exact⟨(⟨2,3,by decide,by decide⟩:Rat),rfl,aCn _ _ (by decide) (by decide) (by decide)⟩
 ·exact⟨(⟨1,4,by decide,by decide⟩:Rat),rfl,aCn _ _ (by decide) (by decide) (by decide)⟩
def uH:DSp:=aI8 20000 8 aM1
noncomputable abbrev pU:Stmt:=top 65
theorem tY:aS ["_law_feed_here","_law_way"] ["_law_feed_here"] (aI pU):=by ac_rfl
theorem zF (hF:cK K mg "_law_kind" pU ["_law_feed_here"])(aN:Has P w K mg base 101 "_law_draw" ["_law_feed_here","_law_many"] cI)(dU:Has P w K mg base 104 "_law_spot" ["_law_feed_here"] kT):Has P w K mg base 105 "_law_kind" ["_law_feed_here"] uH:=by
 refine Has.mkZ hF tY (λds M Q ⟨_,_,e,_⟩=>by rw[e];rfl) λf cdv A outer s H ds M Q E hr h=>?_;obtain⟨a,n,rfl,fd,hn,q⟩:=h;refine⟨_,(aF (aU (i:=1) tY.nd (aE aN hr (by decide) (aA (aB 0) (aA aC aD))))
  (aF (bA (aR (bR hr) (aB 1) aC) (aH (aJ (aK (aA bG aD)))) aP)
  (aF (bA (aR (bR hr) (aB 1) aC) (aH (aJ (aK (aA bG (aA (aK (aA (aG (dZ (aA (aK (aA aC (aA aC aD))) (aA (aK (aA aC (aA aC aD))) (aA (aK (aA (dM aC) (aA aC aD))) aD)))) (aE aN hr (by decide) (aA (aB 0) (aA aC aD)))) (aA (aG (dZ (aA (aK (aA aC (aA aC aD))) (aA (aK (aA aC (aA aC aD))) aD))) (aE aN hr (by decide) (aA (aB 0) (aA aC aD)))) aD))) aD))))) aP)
  (aH (aJ (aK (aA bG (aA (aE dU hr (by decide) (aA (aB 0) aD)) (aA (aG (dZ (aA (aK (aA aC (aA aC aD))) (aA (aK (aA aC (aA aC aD))) (aA (aK (aA aC (aA aC aD))) aD)))) (aE aN hr (by decide) (aA (aB 0) (aA aC aD)))) aD))))))))),?_⟩
 ac_nf;refine⟨a,3,n,rfl,fd,by omega,by decide,bdk (by decide),λway M1 w0 w1 fd1 av1=>?_⟩;ac_nf;rw[cE];have A1:=cC.ad av1;refine dif (λ_=>?_) (λ_=>?_)
 ·exact⟨by decide,bZ (q _ M1 ⟨.non,rfl,trivial⟩ (fd1.mono (by omega)) A1)⟩
 rw[cE];refine dif (λ_=>?_) (λ_=>?_)
 ·refine⟨by decide,by decide,by decide,by decide,λp hp=>⟨a,3,_,rfl,eO fd1 (bC.new hp _),by omega,by decide,bdk (by decide),λr M2 r0 r1 fd2 av2=>?_⟩⟩;have A2:=(A1.trans (.of (bC.new hp _) a)).trans (cC.ad av2);obtain⟨s1,e1,b1⟩:=aKr r0 r1;refine⟨_,_,by rw[av2.l p (aAU fd1 hp)];exact aL,e1,by decide,by decide,by decide,λp2 hp2=>⟨a,2,_,rfl,eO fd2 (bC.new hp2 _),by omega,by decide,bdk (by decide),λr' M3 r0' r1' fd3 av3=>?_⟩⟩;obtain⟨s2,e2,b2⟩:=aIY r0' r1';exact⟨_,_,by rw[av3.l p2 (aAU fd2 hp2)];exact aL,e2,by decide,by decide,bZ (q _ M3 ⟨.on s1 s2,rfl,b1,b2⟩ (fd3.mono (by omega)) ((A2.trans (.of (bC.new hp2 _) a)).trans (cC.ad av3)))⟩
 ·refine⟨a,_,rfl,fd1,by omega,λd M2 ⟨px,py,ed,hpx,hpy⟩ fd2 av2=>?_⟩;subst ed;refine⟨by decide,by decide,by decide,by decide,λp hp=>⟨a,3,_,rfl,eO fd2 (bC.new hp _),by omega,by decide,bdk (by decide),λr M3 r0 r1 fd3 av3=>?_⟩⟩;obtain⟨s1,e1,b0,b1⟩:=aJP r0 r1;exact⟨_,_,by rw[av3.l p (aAU fd2 hp)];exact aL,e1,by decide,bZ (q _ M3 ⟨.sm px py s1,rfl,b0,hpx,hpy,b1⟩ (fd3.mono (by omega)) (((A1.trans (cC.ad av2)).trans (.of (bC.new hp _) a)).trans (cC.ad av3)))⟩
noncomputable def kF (k:Kd)(n:Nat):D:=FR (k.T n) (k.R n) 0 1 (k.S n)
theorem aIf (k:Kd):k.T 1=(match k with|.non=>0|.on a _=>a|.sm x _ s=>x*(1-s))/\k.R 1=(match k with|.non=>0|.on _ b=>b|.sm _ y s=>y*(1-s))/\k.S 1=(match k with|.sm _ _ s=>s|_=>1):=by
 have p1:∀s:Rat,s^1=s:=λs=>by rw[Rat.pow_succ,Rat.pow_zero,Rat.one_mul]
 cases k with
 |non=>exact⟨rfl,rfl,rfl⟩
 |on a b=>exact⟨by show a*((1:Nat):Rat)=a;rw[show((1:Nat):Rat)=1 from rfl];grind,by show b*((1:Nat):Rat)=b;rw[show((1:Nat):Rat)=1 from rfl];grind,rfl⟩
 |sm x y s=>exact⟨by show x*(1-s^1)=_;rw[p1],by show y*(1-s^1)=_;rw[p1],p1 s⟩
def jG:DSp:=λds M Q=>∃k:Kd,ds=[kdD k]/\k.Ok/\Q (kF k 1) M
noncomputable abbrev oR:Stmt:=top 66
theorem rT:aS ["_law_wanted","_law_less"] ["_law_wanted"] (aI oR):=by ac_rfl
theorem xQ (hF:cK K mg "_law_mover" oR ["_law_wanted"])(iZ:Has P w K mg base 101 "first" [] rV)(iG:Has P w K mg base 103 "minus" ["one","other"] oK)(cS:Has P w K mg base 102 "times" ["one","other"] jN):Has P w K mg base 104 "_law_mover" ["_law_wanted"] jG:=by
 refine Has.mkZ hF rT (λds M Q ⟨_,e,_⟩=>by rw[e];rfl) λf cdv A outer s H ds M Q E hr h=>?_;obtain⟨k,rfl,ok,q⟩:=h;refine⟨_,(aF (bA (aR (bR hr) (aG (aB 0) aC) bG) (aH (aJ (qU iZ hr (by decide)))) aP)
  (aF (bA (aR (bR hr) (aG (aB 0) aC) bG) (aH (aJ (aK (aA (aG (aB 0) aC) (aA aC (aA aC (aA (aK (aA aC (aA aC aD))) aD))))))) aP)
  (aF (aU (i:=1) rT.nd (aE iG hr (by decide) (aA (aK (aA aC (aA aC aD))) (aA (aG (aB 0) aC) aD))))
  (aH (aJ (aK (aA (aK (aA (aE cS hr (by decide) (aA (aG (aG (aB 0) aC) aC) (aA (aB 1) aD))) (aA (aE cS hr (by decide) (aA (aG (aG (aB 0) aC) aC) (aA (aB 1) aD))) aD))) (aA aC (aA aC (aA (aG (aB 0) aC) aD)))))))))),?_⟩
 unfold kF at q;obtain⟨e1,e2,e3⟩:=aIf k;rw[e1,e2,e3] at q;cases k with
 |non =>
  dsimp only[kdD];ac_nf;rw[aQ];exact ifT (by decide) ⟨rfl,bZ q⟩
 |on a b =>
  dsimp only[kdD];ac_nf;rw[aQ];refine ifF (by decide) ?_;rw[aQ];exact ifT (by decide) ⟨by decide,by decide,bZ q⟩
 |sm x y s0 =>
  obtain⟨h0,h1,h2,h3⟩:=ok;have b0:BQ 3 s0:=by have:=h3 1;rw[Rat.pow_succ,Rat.pow_zero,Rat.one_mul] at this;exact this
  dsimp only[kdD];ac_nf;rw[aQ];refine ifF (by decide) ?_;rw[aQ];refine ifF (by decide) ⟨by decide,?_⟩;rw[show(D.tup [.int 1,.int 1])=FQ 1 from rfl];refine aLE bq1 b0 (by decide) ?_;ac_nf;have b1:=bq1.sub b0;exact aBr h1 b1 (by decide) (aBr h2 b1 (by decide) ⟨by decide,by decide,bZ q⟩)
theorem nK (s t r x y:Rat):ldX t 0 1 s x y=afX s t x/\ldY r 0 1 s x y=afX s r y:=by
 refine⟨?_,?_⟩
 ·show x*s+t=t+s*x;grind
 ·show((1:Int):Rat)*y*s+r=r+s*y;rw[show(((1:Int):Rat))=1 from rfl];grind
theorem Kd.Ok.good {k:Kd}(h:k.Ok){n:Nat}(hn:n<32):lV (k.T n) (k.R n) 0 1 (k.S n) 1000:=by obtain⟨a,b,c⟩:=h.bd hn;exact⟨b.mono (by omega),c.mono (by omega),by decide,by decide,.inl rfl,Kd.S_pos h.pos n,a.mono (by omega)⟩
theorem aFE {k:Kd}(ok:k.Ok){m n:Nat}(hm:m<31)(hn:n<31){M:DM}{Q:DQ}(q:Q (kF k (m+n)) M):pH [kF k m,kF k n] M Q:=by refine⟨_,_,_,_,_,_,_,_,_,_,rfl,ok.good (by omega),ok.good (by omega),?_⟩;rw[(nK (k.S m) (k.T m) (k.R m) (k.T n) (k.R n)).1,(nK (k.S m) (k.T m) (k.R m) (k.T n) (k.R n)).2];unfold kF at q;rw[Kd.T_add,Kd.R_add,Kd.S_add] at q;exact q
def mG:DSp:=λds M Q=>∃k n,ds=[kF k 1,.int (n:Nat)]/\k.Ok/\n<=6/\Q (kF k n) M
noncomputable abbrev oQ:Stmt:=top 63
theorem jF:aS ["_law_frame","_law_n","_law_found","_law_turn"] ["_law_frame","_law_n"] (aI oQ):=by ac_rfl
theorem xO (hF:cK K mg "_law_power" oQ ["_law_frame","_law_n"])(dB:mg "range" = none)(iZ:Has P w K mg base 101 "first" [] rV)(lR:Has P w K mg base 106 "behind" ["one","other"] pH):Has P w K mg base 107 "_law_power" ["_law_frame","_law_n"] mG:=by
 refine Has.mkZ hF jF (λds M Q ⟨a,b,z,_⟩=>by rw[z];rfl) λf cdv A outer s H ds M Q E hr h=>?_;obtain⟨k,n,rfl,ok,hn,q⟩:=h;refine⟨_,(aF (aU (i:=2) jF.nd (qU iZ hr (by decide)))
  (aF (vR PassesOwn.never rfl dB (aA (aB 1) aD) (aO (i:=3) jF.nd) (aH (aU (i:=2) jF.nd (aE lR hr (by decide) (aA (aB 0) (aA (aB 2) aD))))))
  (aH (aJ (aB 2))))),?_⟩
 ac_nf;refine⟨rfl,⟨by omega,by omega⟩,?_⟩;have z0:FR 0 0 0 1 1=kF k 0:=by obtain⟨a,b,c⟩:=k.z0;unfold kF;rw[a,b,c]
 refine⟨λi ρ M'=>M'=M/\i<=n/\∃o,ρ=[some (kF k 1),some (.int ((n:Nat):Int)),some (kF k i),o],⟨rfl,by omega,_,by rw[z0]⟩,?_,?_⟩
 ·rintro i ρ M' hi ⟨rfl,hin,o,rfl⟩;ac_nf;refine aFE ok (by decide) (by omega) ?_;ac_nf;exact⟨rfl,by omega,_,by rw[Nat.add_comm 1 i]⟩
 ·rintro ρ M' ⟨rfl,_,o,rfl⟩;ac_nf;exact⟨M',.refl _,q⟩
theorem aKM {k:Kd}(ok:k.Ok){n:Nat}{p:Pc}(h:WfO p):ldP (k.T n) (k.R n) 0 1 (k.S n) p=kM k n p:=by
 have s0:=Kd.S_pos ok.pos n;cases p with
 |dot x y=>simp only[ldP,kM,afP,(nK (k.S n) (k.T n) (k.R n) _ _).1,(nK (k.S n) (k.T n) (k.R n) _ _).2]
 |str x y u v =>
  have hb:bef x y u v=true:=h;have ne:¬(x=u/\y=v):=λz=>by rw[z.1,z.2,aBJ] at hb;cases hb
  simp only[ldP,kM,afP,(nK (k.S n) (k.T n) (k.R n) _ _).1,(nK (k.S n) (k.T n) (k.R n) _ _).2];unfold mkS;rw[if_neg (λz=>ne ⟨(jV s0 _ _ _).mp z.1,(jV s0 _ _ _).mp z.2⟩),zX s0,if_pos hb]
 |arc a b c d e f =>
  unfold ldP;dsimp only;rw[if_neg (by decide)];simp only[kM,afP,(nK (k.S n) (k.T n) (k.R n) _ _).1,(nK (k.S n) (k.T n) (k.R n) _ _).2]
 |ring a b c d=>simp only[ldP,kM,afP,(nK (k.S n) (k.T n) (k.R n) _ _).1,(nK (k.S n) (k.T n) (k.R n) _ _).2]
theorem aCw {k:Kd}(ok:k.Ok){n:Nat}(hn:n<32){p:Pc}(h:WfO p)(b:pcB 300 p){M:DM}{Q:DQ}(q:Q (pcD (kM k n p)) M):jA [kF k n,pcD p] M Q :=
 ⟨_,_,_,_,_,p,rfl,ok.good hn,mB b (by decide),by rw[aKM ok h];exact q⟩
noncomputable def BYS:List D:=[.tup [.int 0,.int 1],.tup [.int 1,.int 1],.tup [.int 1,.int 2],.tup [.int 1,.int 3],.tup [.int 5,.int 7]]
theorem aKa {r:Int}(h0:0<=r)(h1:r<5):∃s,atI BYS r=some (FQ s)/\BQ 3 s/\(s=0∨0<s):=by
 have:r=0∨r=1∨r=2∨r=3∨r=4:=by omega
 rcases this with rfl|rfl|rfl|rfl|rfl
 ·exact⟨(⟨0,1,by decide,by decide⟩:Rat),rfl,by unfold BQ Bd;decide,.inl rfl⟩
 ·exact⟨(⟨1,1,by decide,by decide⟩:Rat),rfl,by unfold BQ Bd;decide,.inr (by decide +kernel)⟩
 ·exact⟨(⟨1,2,by decide,by decide⟩:Rat),rfl,by unfold BQ Bd;decide,.inr (by decide +kernel)⟩
 ·exact⟨(⟨1,3,by decide,by decide⟩:Rat),rfl,by unfold BQ Bd;decide,.inr (by decide +kernel)⟩
 ·exact⟨(⟨5,7,by decide,by decide⟩:Rat),rfl,by unfold BQ Bd;decide,.inr (by decide +kernel)⟩
def aFp:Pc->Rat->Rat->Prop
 |.str x y _ _,X,Y=>¬(X=x/\Y=y)->bef x y X Y=true
 |.ring cx cy ax ay,X,Y=>bU cx cy X Y=bU cx cy ax ay
 |_,_,_=>True
theorem aI6 {x y u v s:Rat}(hb:bef x y u v=true)(h:s=0∨0<s)(ne:¬(x+(u-x)*s=x/\y+(v-y)*s=y)):bef x y (x+(u-x)*s) (y+(v-y)*s)=true:=by
 rcases h with rfl|h
 ·exact absurd ⟨by grind,by grind⟩ ne
 ·have e1:=zX h (x-s*x) (y-s*y) x y u v;have f:∀a b:Rat,afX s (a-s*a) a=a/\afX s (a-s*a) b=a+(b-a)*s:=λa b=>by unfold afX;exact⟨by grind,by grind⟩
  rw[(f x u).1,(f x u).2,(f y v).1,(f y v).2] at e1;rw[e1];exact hb
def kB:DSp:=λds M Q=>∃a n pc c s e B,ds=[.ref a,pcD pc]/\PcK c s e pc/\2*s+3*c+14<=B/\3*s+5<=B/\B<=620/\FdN M a n/\n<=20000/\∀x y M',BQ B x->BQ B y->aFp pc x y->FdN M' a (n+1)->cC M M' a->Q (PQ x y) M'
noncomputable abbrev lQ:Stmt:=top 64
theorem jZ:aS ["_law_feed_here","_law_piece_here","_law_by","_law_way"] ["_law_feed_here","_law_piece_here"] (aI lQ):=by ac_rfl
theorem uO (hF:cK K mg "_law_spot_of" lQ ["_law_feed_here","_law_piece_here"])(aN:Has P w K mg base 101 "_law_draw" ["_law_feed_here","_law_many"] cI)(pO:Has P w K mg base 104 "off" ["p","q"] sZ)(bL:Has P w K mg base 104 "together" ["p","q"] cV)(cS:Has P w K mg base 102 "times" ["one","other"] jN)(fZ:Has P w K mg base 105 "_law_bowed" ["_law_c","_law_v","_law_way"] gI):Has P w K mg base 106 "_law_spot_of" ["_law_feed_here","_law_piece_here"] kB:=by
 refine Has.mkZ hF jZ (λds M Q ⟨_,_,_,_,_,_,_,z,_⟩=>by rw[z];rfl) λf cdv A outer s H ds M Q E hr h=>?_;obtain⟨a,n,pc,c,s,e,B,rfl,⟨hB,hW⟩,l1,l2,l3,fd,hn,q⟩:=h;refine⟨_,(aF (bA (aR (bR hr) (aG (aB 1) aC) bG) (aH (aJ (aG (aB 1) aC))) aP)
  (aF (bA (aR (bR hr) (aG (aB 1) aC) bG) (aF (aU (i:=2) jZ.nd (aG (dZ (aA (aK (aA aC (aA aC aD))) (aA (aK (aA aC (aA aC aD))) (aA (aK (aA aC (aA aC aD))) (aA (aK (aA aC (aA aC aD))) (aA (aK (aA aC (aA aC aD))) aD)))))) (aE aN hr (by decide) (aA (aB 0) (aA aC aD)))))
  (aF (aU (i:=3) jZ.nd (aE pO hr (by decide) (aA (aG (aB 1) aC) (aA (aG (aB 1) aC) aD))))
  (aH (aJ (aE bL hr (by decide) (aA (aG (aB 1) aC) (aA (aK (aA (aE cS hr (by decide) (aA (aG (aB 3) aC) (aA (aB 2) aD))) (aA (aE cS hr (by decide) (aA (aG (aB 3) aC) (aA (aB 2) aD))) aD))) aD))))))) aP)
  (aH (aJ (aE fZ hr (by decide) (aA (aG (aB 1) aC) (aA (aE pO hr (by decide) (aA (aG (aB 1) aC) (aA (aG (aB 1) aC) aD))) (aA (aE aN hr (by decide) (aA (aB 0) (aA aC aD))) aD)))))))),?_⟩
 have up:∀{D:Nat}{z:Rat},BQ D z->D<=4400->BQ 4400 z:=λh l=>h.mono l;have aHL:∀c1 c2 a1 a2:Rat,BQ c c1->BQ c c2->BQ s a1->BQ s a2->(∀x y,bU c1 c2 x y=bU c1 c2 a1 a2->aFp pc x y)->(sZ [PQ a1 a2,PQ c1 c2] M λx M1=>cI [.ref a,.int 8] M1 λy M2=>gI [PQ c1 c2,x,y] M2 (Dn Q)):=λc1 c2 a1 a2 h1 h2 h3 h4 sk=>by refine aEn (up h3 (by omega)) (up h4 (by omega)) (up h1 (by omega)) (up h2 (by omega)) ?_;refine⟨a,8,_,rfl,fd,by omega,by decide,bdk (by decide),λr M1 r0 r1 fd1 av1=>?_⟩;refine⟨_,_,_,_,_,c,s+c+1,rfl,h1,h2,h3.sub h1,h4.sub h2,by omega,r0,r1,λx y hx hy hf _=>bZ (q x y M1 (hx.mono (by omega)) (hy.mono (by omega)) (sk x y ?_) fd1 (cC.ad av1))⟩;rw[hf];unfold bU;grind
 cases pc with
 |dot x y =>
  dsimp only[pcD];ac_nf;rw[aQ];exact ifT (by decide) (bZ (q x y M (hB.1.mono (by omega)) (hB.2.mono (by omega)) trivial (fd.mono (by omega)) (.refl _ _)))
 |str x y u v =>
  obtain⟨h1,h2,h3,h4⟩:=hB;dsimp only[pcD];ac_nf;rw[aQ];refine ifF (by decide) ?_;rw[aQ];refine ifT (by decide) ⟨by decide,by decide,by decide,by decide,by decide,by decide,λp hp=>?_⟩;rw[show([.tup [.int 0,.int 1],.tup [.int 1,.int 1],.tup [.int 1,.int 2],.tup [.int 1,.int 3],.tup [.int 5,.int 7]]:List D)=BYS from rfl];have npa:p≠a:=aAU fd hp;refine⟨a,5,_,rfl,eO fd (bC.new hp _),by omega,by decide,bdk (by decide),λr M1 r0 r1 fd1 av1=>?_⟩;obtain⟨sb,hs,bs,s0⟩:=aKa r0 r1;refine⟨_,_,by rw[av1.l p npa];exact aL,hs,?_⟩;ac_nf;refine aEn (up h3 (by omega)) (up h4 (by omega)) (up h1 (by omega)) (up h2 (by omega)) ?_;ac_nf;refine aBr (h3.sub h1) bs (by omega) (aBr (h4.sub h2) bs (by omega) ⟨by decide,?_⟩);ac_nf;have b1:=(h3.sub h1).mul bs;have b2:=(h4.sub h2).mul bs;exact aBB (up h1 (by omega)) (up h2 (by omega)) (up b1 (by omega)) (up b2 (by omega)) (bZ (q _ _ M1 ((h1.add b1).mono (by omega)) ((h2.add b2).mono (by omega)) (λne=>aI6 hW s0 ne) fd1 ((cC.of (bC.new hp _) a).trans (cC.ad av1))))
 |ring c1 c2 a1 a2 =>
  dsimp only[pcD];ac_nf;rw[aQ];refine ifF (by decide) ?_;rw[aQ];exact ifF (by decide) (aHL c1 c2 a1 a2 hB.1 hB.2.1 hB.2.2.1 hB.2.2.2 λx y h=>h)
 |arc c1 c2 a1 a2 b1 b2 =>
  dsimp only[pcD];ac_nf;rw[aQ];refine ifF (by decide) ?_;rw[aQ];exact ifF (by decide) (aHL c1 c2 a1 a2 hB.1 hB.2.1 hB.2.2.1 hB.2.2.2.1 λx y h=>trivial)
theorem PcK.mono {c s e c' s' e':Nat}{p:Pc}(h:PcK c s e p)(h1:c<=c')(h2:s<=s')(h3:e<=e'):PcK c' s' e' p:=by
 refine⟨?_,h.2⟩;have b:=h.1;cases p with
 |dot x y=>exact⟨b.1.mono h2,b.2.mono h2⟩
 |str x y u v=>exact⟨b.1.mono h2,b.2.1.mono h2,b.2.2.1.mono h2,b.2.2.2.mono h2⟩
 |arc x y u v z w=>exact⟨b.1.mono h1,b.2.1.mono h1,b.2.2.1.mono h2,b.2.2.2.1.mono h2,b.2.2.2.2.1.mono h3,b.2.2.2.2.2.mono h3⟩
 |ring x y u v=>exact⟨b.1.mono h1,b.2.1.mono h1,b.2.2.1.mono h2,b.2.2.2.mono h2⟩
theorem PcK.pcB {c s e B:Nat}{p:Pc}(h:PcK c s e p)(h1:c<=B)(h2:s<=B)(h3:e<=B):pcB B p:=by
 have b:=h.1;cases p with
 |dot x y=>exact⟨b.1.mono h2,b.2.mono h2⟩
 |str x y u v=>exact⟨b.1.mono h2,b.2.1.mono h2,b.2.2.1.mono h2,b.2.2.2.mono h2⟩
 |arc x y u v z w=>exact⟨b.1.mono h1,b.2.1.mono h1,b.2.2.1.mono h2,b.2.2.2.1.mono h2,b.2.2.2.2.1.mono h3,b.2.2.2.2.2.mono h3⟩
 |ring x y u v=>exact⟨b.1.mono h1,b.2.1.mono h1,b.2.2.1.mono h2,b.2.2.2.mono h2⟩
def rR:DSp:=λds M Q=>∃pc c s e,ds=[pcD pc]/\PcK c s e pc/\c<=100/\s<=100/\e<=100/\∀pc',PcK c (2*s+c+2) (2*e+c+2) pc'->Q (pcD pc') M
noncomputable abbrev kL:Stmt:=top 67
theorem zI:aS ["_law_piece_here"] ["_law_piece_here"] (aI kL):=by ac_rfl
theorem xV (hF:cK K mg "_law_wider" kL ["_law_piece_here"])(eJ:mg "tuple" = none)(pO:Has P w K mg base 104 "off" ["p","q"] sZ)(bL:Has P w K mg base 104 "together" ["p","q"] cV):Has P w K mg base 105 "_law_wider" ["_law_piece_here"] rR:=by
 refine Has.mkZ hF zI (λds M Q ⟨_,_,_,_,z,_⟩=>by rw[z];rfl) λf cdv A outer s H ds M Q E hr h=>?_;obtain⟨pc,c,s,e,rfl,pk,l1,l2,l3,q⟩:=h;refine⟨_,(aF (bA (gX (iA (aR (bR hr) (aG (aB 0) aC) bG) (gG (aR (bR hr) (aG (aB 0) aC) bG)))) (aH (aJ (aB 0))) aP)
  (aH (aJ (aM aAR (jL (aB 0) oZ (jU aC)) (jM vT eJ (aA (aCJ (⟨rfl,by decide +kernel,by decide +kernel,by decide +kernel,rfl,by decide +kernel⟩:gW ["_law_piece_here"] (aI kL) ["_law_p","_law_piece_here"] [none,some 0] _) rfl (jL (aB 0) (jU aC) oZ) (λ_ _ _ _ _=>(aO (i:=0) (show Nodup (["_law_p","_law_piece_here"]:List Str) by decide +kernel))) (λ_ _ _ _ _=>(aE bL hr (by decide) (aA (aB 0) (aA (aE pO hr (by decide) (aA (aB 0) (aA (aG (aB 1) aC) aD))) aD))))) aD)))))),?_⟩
 have m2:=pk.mono (c':=c) (s':=2*s+c+2) (e':=2*e+c+2) (by omega) (by omega) (by omega);have up:∀{D:Nat}{z:Rat},BQ D z->D<=4400->BQ 4400 z:=λh l=>h.mono l;cases pc with
 |dot x y =>
  dsimp only[pcD];ac_nf;rw[aQ];exact ifT (by decide) (bZ (q _ m2))
 |str x y u v =>
  dsimp only[pcD];ac_nf;rw[aQ];refine ifF (by decide) ?_;rw[aQ];exact ifT (by decide) (bZ (q _ m2))
 |ring c1 c2 a1 a2 =>
  dsimp only[pcD];ac_nf;rw[aQ];refine ifF (by decide) ?_;rw[aQ];refine ifF (by decide) ?_;obtain⟨⟨h1,h2,h3,h4⟩,hW⟩:=pk;refine⟨λz=>absurd (show(2:Nat)=3 from z.2) (by decide),λz=>absurd (show(2:Nat)=0 from z.1) (by decide),?_⟩;show itT (.tup [PQ a1 a2]) _ _ _ _ _;rw[nA];refine lK (Nat.le_of_ble_eq_true rfl) ?_;ac_nf;refine aEn (up h3 (by omega)) (up h4 (by omega)) (up h1 (by omega)) (up h2 (by omega)) ?_;ac_nf;refine aBB (up h3 (by omega)) (up h4 (by omega)) (up (h3.sub h1) (by omega)) (up (h4.sub h2) (by omega)) ?_;ac_nf;intro p hp;exact⟨_,aL,Nat.le_of_ble_eq_true rfl,M,bC.new hp _,q (.ring c1 c2 (a1+(a1-c1)) (a2+(a2-c2))) ⟨⟨h1,h2,(h3.add (h3.sub h1)).mono (by omega),(h4.add (h4.sub h2)).mono (by omega)⟩,λz=>hW ⟨by have:=z.1;grind,by have:=z.2;grind⟩⟩⟩
 |arc c1 c2 a1 a2 b1 b2 =>
  dsimp only[pcD];ac_nf;rw[aQ];refine ifF (by decide) ?_;rw[aQ];refine ifF (by decide) ?_;obtain⟨⟨h1,h2,h3,h4,h5,h6⟩,w1,w2,w3⟩:=pk;refine⟨λz=>absurd (show(2:Nat)=4 from z.2) (by decide),λz=>absurd (show(2:Nat)=0 from z.1) (by decide),?_⟩;show itT (.tup [PQ a1 a2,PQ b1 b2]) _ _ _ _ _;rw[nA];refine lK (Nat.le_of_ble_eq_true rfl) ?_;ac_nf;refine aEn (up h3 (by omega)) (up h4 (by omega)) (up h1 (by omega)) (up h2 (by omega)) ?_;ac_nf;refine aBB (up h3 (by omega)) (up h4 (by omega)) (up (h3.sub h1) (by omega)) (up (h4.sub h2) (by omega)) ?_;ac_nf;refine aEn (up h5 (by omega)) (up h6 (by omega)) (up h1 (by omega)) (up h2 (by omega)) ?_;ac_nf;refine aBB (up h5 (by omega)) (up h6 (by omega)) (up (h5.sub h1) (by omega)) (up (h6.sub h2) (by omega)) ?_;ac_nf;intro p hp;refine⟨_,aL,Nat.le_of_ble_eq_true rfl,M,bC.new hp _,q (.arc c1 c2 (a1+(a1-c1)) (a2+(a2-c2)) (b1+(b1-c1)) (b2+(b2-c2))) ⟨⟨h1,h2,(h3.add (h3.sub h1)).mono (by omega),(h4.add (h4.sub h2)).mono (by omega),(h5.add (h5.sub h1)).mono (by omega),(h6.add (h6.sub h2)).mono (by omega)⟩,λz=>w1 ⟨by have:=z.1;grind,by have:=z.2;grind⟩,?_,λz=>w3 ⟨by have:=z.1;grind,by have:=z.2;grind⟩⟩⟩;unfold bU at w2 ⊢;grind
theorem aC7 {cx cy a b:Rat}(h:bU cx cy a b=0):a=cx/\b=cy:=by
 unfold bU at h;have sq:∀z:Rat,0<=z*z:=λz=>by
  rcases (show 0<=z∨z<=0 by grind) with c|c
  ·exact Rat.mul_nonneg c c
  ·have:=Rat.mul_nonneg (show 0<=-z by grind) (show 0<=-z by grind);grind
 have z0:∀z:Rat,z*z=0->z=0:=λz e=>by rcases Rat.mul_eq_zero.mp e with h|h<;>exact h
 have h1:=sq (a-cx);have h2:=sq (b-cy);have e1:=z0 (a-cx) (by grind);have e2:=z0 (b-cy) (by grind);exact⟨by grind,by grind⟩
theorem PcK.kM {k:Kd}(ok:k.Ok){n:Nat}(hn:n<=2){c s e:Nat}{p:Pc}(h:PcK c s e p):PcK (c+26) (s+26) (e+26) (kM k n p):=by
 refine⟨?_,h.2.kM ok.pos⟩;have af:∀{B:Nat}{x y:Rat},BQ B x->BQ B y->BQ (B+26) (afX (k.S n) (k.T n) x)/\BQ (B+26) (afX (k.S n) (k.R n) y):=λhx hy=>let ⟨a,b⟩:=ok.af (n:=n) (by omega) hx hy;⟨a.mono (by omega),b.mono (by omega)⟩
 have b:=h.1;cases p with
 |dot x y=>exact af b.1 b.2
 |str x y u v =>
  obtain⟨a1,a2,a3,a4⟩:=b;exact⟨(af a1 a2).1,(af a1 a2).2,(af a3 a4).1,(af a3 a4).2⟩
 |arc x y u v z w =>
  obtain⟨a1,a2,a3,a4,a5,a6⟩:=b;exact⟨(af a1 a2).1,(af a1 a2).2,(af a3 a4).1,(af a3 a4).2,(af a5 a6).1,(af a5 a6).2⟩
 |ring x y u v =>
  obtain⟨a1,a2,a3,a4⟩:=b;exact⟨(af a1 a2).1,(af a1 a2).2,(af a3 a4).1,(af a3 a4).2⟩
def uG:DSp:=λds M Q=>∃a n k pl pcs,ds=[.ref a,kdD k,.ref pl]/\FdN M a n/\n<=15000/\k.Ok/\M (.l pl)=some (pcs.map pcD)/\pcs.length<=10/\pl≠a/\(∀pc∈pcs,PcK 8 17 60 pc) /\
 ∀pc M',(pcs=[]->PcK 8 17 60 pc)->PcK 34 202 208 pc->FdN M' a (n+30)->cC M M' a->Q (pcD pc) M'
noncomputable abbrev qK:Stmt:=top 68
theorem kW:aS ["_law_feed_here","_law_wanted","_law_pieces","_law_piece_here","_law_p"] ["_law_feed_here","_law_wanted","_law_pieces"] (aI qK):=by ac_rfl
theorem aAd (hF:cK K mg "_law_part" qK ["_law_feed_here","_law_wanted","_law_pieces"])(cG:mg "len" = none)(aN:Has P w K mg base 101 "_law_draw" ["_law_feed_here","_law_many"] cI)(oJ:Has P w K mg base 106 "_law_piece" ["_law_feed_here"] mQ)(gC:Has P w K mg base 106 "led_piece" ["frame","piece"] jA)(gA:Has P w K mg base 107 "_law_power" ["_law_frame","_law_n"] mG)(dJ:Has P w K mg base 104 "_law_mover" ["_law_wanted"] jG)(oV:Has P w K mg base 105 "_law_wider" ["_law_piece_here"] rR)(eM:Has P w K mg base 106 "_law_spot_of" ["_law_feed_here","_law_piece_here"] kB):Has P w K mg base 108 "_law_part" ["_law_feed_here","_law_wanted","_law_pieces"] uG:=by
 refine Has.mkZ hF kW (λds M Q ⟨_,_,_,_,_,z,_⟩=>by rw[z];rfl) λf cdv A outer s H ds M Q E hr h=>?_;obtain⟨a,n,k,pl,pcs,rfl,fd,hn,ok,hpl,hlen,npl,pk,q⟩:=h;refine⟨_,(aF (bA (gX (iA (aR (aAC hr) (aB 2) (dZ aD)) (gG (aR (bR hr) (aE aN hr (by decide) (aA (aB 0) (aA aC aD))) aC)))) (aH (aJ (aE oJ hr (by decide) (aA (aB 0) aD)))) aP)
  (aF (aU (i:=3) kW.nd (aG (aB 2) (aE aN hr (by decide) (aA (aB 0) (aA (bV eW cG (aA (aB 2) aD)) aD)))))
  (oB (bA (aR (bR hr) (aE aN hr (by decide) (aA (aB 0) (aA aC aD))) aC) (aH (aU (i:=3) kW.nd (aE gC hr (by decide) (aA (aE gA hr (by decide) (aA (aE dJ hr (by decide) (aA (aB 1) aD)) (aA (aE aN hr (by decide) (aA (aB 0) (aA aC aD))) aD))) (aA (aB 3) aD))))) aP)
  (aF (bA (aR (bR hr) (aE aN hr (by decide) (aA (aB 0) (aA aC aD))) aC) (aH (aJ (aE oV hr (by decide) (aA (aB 3) aD)))) aP)
  (aF (aU (i:=4) kW.nd (aE eM hr (by decide) (aA (aB 0) (aA (aB 3) aD))))
  (aF (bA (gX (kJ (aR (bR hr) (aG (aB 3) aC) bG) (kJ (aR (aBO hr) (aB 4) (jL (aB 3) (jU aC) oZ) rfl) (jS (aR (bR hr) (aE aN hr (by decide) (aA (aB 0) (aA aC aD))) aC))))) (aH (aJ (aK (aA bG (aA (aG (aB 3) aC) (aA (aB 4) aD)))))) aP)
  (aF (bA (gX (kJ (aR (bR hr) (aG (aB 3) aC) bG) (jS (aR (nJ hr) (aB 4) (aG (aB 3) aC))))) (aH (aJ (aK (aA bG (aA (aG (aB 3) aC) (aA (aB 4) (aA (aG (aB 3) aC) aD))))))) aP)
  (aH (aJ (aB 3)))))))))),?_⟩
 ac_nf;refine⟨by decide,λp0 hp0=>?_⟩;ac_nf;have n0:pl≠p0:=gB hpl hp0;have s0:bC M (bH M p0 []):=bC.new hp0 _;have hpl0:=s0 _ _ hpl;have fd0:=eO fd s0;have e0:bH M p0 [] (.l p0)=some []:=aL;have A0:cC M (bH M p0 []) a:=.of s0 a;generalize bH M p0 []=M0 at hpl0 fd0 e0 A0 ⊢;have one:∀(m:Nat)(M2:DM),FdN M2 a m->m<=n+1->cC M M2 a->mQ [.ref a] M2 (Dn Q):=λm M2 fd2 hm A2=>⟨a,m,rfl,fd2,by omega,λd M3 ⟨pc,ed,pk3⟩ fd3 av3=>by subst ed;exact bZ (q pc M3 (λ_=>pk3) (pk3.mono (by decide) (by decide) (by decide)) (fd3.mono (by omega)) (A2.trans (cC.ad av3)))⟩
 by_cases ep:pcs=[]
 ·subst ep;exact⟨.inr ⟨⟨_,rfl⟩,_,rfl⟩,true,aBz (n:=19) hpl0 e0 n0 (λx hx=>by cases hx),ifT rfl (one n M0 fd0 (by omega) A0)⟩
 refine⟨.inr ⟨⟨_,rfl⟩,_,rfl⟩,false,aAw (n:=19) hpl0 e0 n0 (by rw[length_map];exact λe=>ep (List.length_eq_zero_iff.mp e)),?_⟩;refine ifF (by decide) ⟨a,3,n,rfl,fd0,by omega,by decide,bdk (by decide),λr M1 r0 r1 fd1 av1=>?_⟩;have A1:=A0.trans (cC.ad av1);have hpl1:=(cC.ad av1).l npl hpl0;ac_nf;rw[cE];refine dif (λ_=>one _ M1 fd1 (by omega) A1) (λ_=>?_);have lpos:0<pcs.length:=List.length_pos_iff.mpr ep;refine⟨_,hpl1,a,_,_,rfl,fd1,by omega,by rw[length_map];omega,Bd.mono (bd8 (by omega) (by rw[length_map];omega)) (by decide),λj M2 j0 j1 fd2 av2=>?_⟩;rw[length_map] at j1;obtain⟨j,rfl⟩:∃i:Nat,j=(i:Int):=⟨j.toNat,by omega⟩;have hj:j<pcs.length:=by omega
 have hpl2:=(cC.ad av2).l npl hpl1;have A2:=A1.trans (cC.ad av2);have pkj:=pk pcs[j] (getElem_mem hj);refine⟨_,pcD pcs[j],hpl2,mU (by rw[getElem?_map,getElem?_eq_getElem hj];rfl),?_⟩;generalize pcs[j]=pc0 at pkj ⊢;refine⟨λρ' M'=>∃pc m,PcK 34 43 86 pc/\FdN M' a m/\m<=n+5/\cC M M' a/\ρ'=[some (.ref a),some (kdD k),some (.ref pl),some (pcD pc),none],?_,?_⟩
 ·refine⟨a,2,_,rfl,fd2,by omega,by decide,bdk (by decide),λr M3 r0 r1 fd3 av3=>?_⟩;have A3:=A2.trans (cC.ad av3);ac_nf;rw[cE];refine dif (λ_=>?_) (λ_=>⟨pc0,_,pkj.mono (by decide) (by decide) (by decide),fd3,by omega,A3,rfl⟩);refine⟨k,rfl,ok,?_⟩;refine⟨a,3,_,rfl,fd3,by omega,by decide,bdk (by decide),λr' M4 r0' r1' fd4 av4=>?_⟩;obtain⟨m,rfl⟩:∃i:Nat,r'=(i:Int):=⟨r'.toNat,by omega⟩;refine⟨k,m,rfl,ok,by omega,?_⟩;refine aCw ok (by omega) pkj.2 (pkj.pcB (by decide) (by decide) (by decide)) ?_;exact⟨kM k m pc0,_,(pkj.kM ok (by omega)).mono (by decide) (by decide) (by decide),fd4,by omega,A3.trans (cC.ad av4),rfl⟩
 rintro _ M3 ⟨pc,m,pk3,fd3,hm,A3,rfl⟩;ac_nf;refine⟨a,4,_,rfl,fd3,by omega,by decide,bdk (by decide),λr M4 r0 r1 fd4 av4=>?_⟩;have A4:=A3.trans (cC.ad av4);ac_nf;rw[cE];refine dif (λ_=>⟨pc,34,43,86,rfl,pk3,by decide,by decide,by decide,λpc' pk'=>bZ (q pc' M4 (λz=>absurd z ep) (pk'.mono (by decide) (by decide) (by decide)) (fd4.mono (by omega)) A4)⟩) (λ_=>?_);refine⟨a,_,pc,34,43,86,202,rfl,pk3,by decide,by decide,by decide,fd4,by omega,λX Y M5 bX bY sk fd5 A5'=>?_⟩;have A5:=A4.trans A5';ac_nf;have me:Dn Q (pcD pc) M5:=bZ (q pc M5 (λz=>absurd z ep) (pk3.mono (by decide) (by decide) (by decide)) (fd5.mono (by omega)) A5);cases pc with
 |dot x y =>
  dsimp only[pcD];ac_nf;rw[aQ];refine ifF (by decide) ?_;rw[aQ];exact ifF (by decide) me
 |arc c1 c2 a1 a2 b1 b2 =>
  dsimp only[pcD];ac_nf;rw[aQ];refine ifF (by decide) ?_;rw[aQ];exact ifF (by decide) me
 |ring c1 c2 a1 a2 =>
  dsimp only[pcD];ac_nf;rw[aQ];refine ifF (by decide) (ifF rfl ?_);rw[aQ];refine ifT (by decide) ?_;rw[lE];refine nE (λc=>?_) (λc=>?_)
  ·have ne:¬(X=a1/\Y=a2):=λz=>by rw[decide_eq_true z] at c;cases c
   obtain⟨⟨h1,h2,h3,h4⟩,hW⟩:=pk3;have hf:bU c1 c2 X Y=bU c1 c2 a1 a2:=sk;exact⟨by decide,bZ (q (.arc c1 c2 X Y a1 a2) M5 (λz=>absurd z ep) ⟨⟨h1,h2,bX,bY,h3.mono (by decide),h4.mono (by decide)⟩,λz=>hW (aC7 (by rw[<- hf,z.1,z.2];unfold bU;grind)),hf,λz=>ne ⟨z.1.symm,z.2.symm⟩⟩ (fd5.mono (by omega)) A5)⟩
  ·exact me
 |str x y u v =>
  dsimp only[pcD];ac_nf;rw[aQ];refine ifT (by decide) (nM ?_);refine⟨[(x,y),(u,v)],X,Y,rfl,rfl,?_⟩;have bI:∀{M6:DM},FdN M6 a (m+3)->cC M M6 a->Dn Q (pcD (.str x y u v)) M6:=λf6 A6=>bZ (q _ _ (λz=>absurd z ep) (pk3.mono (by decide) (by decide) (by decide)) (f6.mono (by omega)) A6);refine nE (λc=>?_) (λc=>?_)
  ·have ne:¬(X=x/\Y=y):=λz=>by rw[z.1,z.2] at c;simp at c
   refine⟨a,2,_,rfl,fd5,by omega,by decide,bdk (by decide),λr' M6 r0' r1' fd6 av6=>?_⟩;have A6:=A5.trans (cC.ad av6);ac_nf;rw[cE];refine nE (λ_=>?_) (λ_=>?_)
   ·obtain⟨⟨h1,h2,h3,h4⟩,hW⟩:=pk3;exact⟨by decide,bZ (q (.str x y X Y) M6 (λz=>absurd z ep) ⟨⟨h1.mono (by decide),h2.mono (by decide),bX,bY⟩,sk ne⟩ (fd6.mono (by omega)) A6)⟩
   ·rw[aQ];exact ifF (by decide) (bI (fd6.mono (by omega)) A6)
  ·refine ifF (by decide) ?_;rw[aQ];exact ifF (by decide) (bI (fd5.mono (by omega)) A5)
theorem fG {M:DM}{a l:Addr}{n:Nat}{ps:List Pc}(h:FdN M a n)(e:M (.l l)=some (ps.map pcD)):l≠a:=λz=>by
 obtain⟨c,k,f,e',_⟩:=h;rw[z,e'] at e;have e:=Option.some.inj e;cases ps with
 |nil=>cases e
 |cons p ps =>
  have:=(List.cons.inj e).1;rw[aMs] at this;cases this
noncomputable def kdW:Kd->Str
 |.non=>"none"
 |.on _ _=>"on"
 |.sm _ _ _=>"smaller"
theorem aMW {k:Kd}{M:DM}{Q:DQ}:jC (kdD k) (.int 0) M Q=Q (.str (kdW k)) M:=by cases k<;>rfl
structure aMt (pcs st fl:List Pc):Prop where
 ns:st.length<=2
 nf:fl.length<=2
 a:pcs=[]->∀p∈st++fl,PcK 8 17 60 p
 b:∀p∈st++fl,PcK 34 202 208 p
def nY:DSp:=λds M Q=>∃a n k pl pcs,ds=[.ref a,kdD k,.ref pl]/\FdN M a n/\n<=10000/\k.Ok/\M (.l pl)=some (pcs.map pcD)/\pcs.length<=10/\pl≠a/\(∀pc∈pcs,PcK 8 17 60 pc) /\
 ∀l e st fl M',fK M' l e st fl->aMt pcs st fl->FdN M' a (n+200)->cC M M' a->Q (.tup [.ref l,.ref e]) M'
noncomputable abbrev fJ:Stmt:=top 69
theorem gR:aS ["_law_feed_here","_law_wanted","_law_pieces","_law_still","_law_flow"] ["_law_feed_here","_law_wanted","_law_pieces"] (aI fJ):=by ac_rfl
theorem uY (hF:cK K mg "_law_picture" fJ ["_law_feed_here","_law_wanted","_law_pieces"])(dB:mg "range" = none)(aN:Has P w K mg base 101 "_law_draw" ["_law_feed_here","_law_many"] cI)(mW:Has P w K mg base 108 "_law_part" ["_law_feed_here","_law_wanted","_law_pieces"] uG):Has P w K mg base 109 "_law_picture" ["_law_feed_here","_law_wanted","_law_pieces"] nY:=by
 refine Has.mkZ hF gR (λds M Q ⟨_,_,_,_,_,z,_⟩=>by rw[z];rfl) λf cdv A outer s H ds M Q E hr h=>?_;obtain⟨a,n,k,pl,pcs,rfl,fd,hn,ok,hpl,hlen,npl,pk,q⟩:=h;refine⟨_,(aF (vO (i:=3) (⟨rfl,by decide +kernel,by decide +kernel,by decide +kernel,rfl,by decide +kernel⟩:gW ["_law_feed_here","_law_wanted","_law_pieces","_law_still","_law_flow"] (aI fJ) ["_law_k","_law_feed_here","_law_wanted","_law_pieces"] [none,some 0,some 1,some 2] _) rfl gR.nd dB (aA (aE aN hr (by decide) (aA (aB 0) (aA aC aD))) aD) (λ_ _ _ _ _=>(aO (i:=0) (show Nodup (["_law_k","_law_feed_here","_law_wanted","_law_pieces"]:List Str) by decide +kernel))) (λ_ _ _ _ _=>(aE mW hr (by decide) (aA (aB 1) (aA (aB 2) (aA (aB 3) aD))))))
  (aF (aU (i:=4) gR.nd (dZ aD))
  (oB (bA (aR (nJ hr) (aG (aB 1) aC) bG) (aH (vO (i:=4) (⟨rfl,by decide +kernel,by decide +kernel,by decide +kernel,rfl,by decide +kernel⟩:gW ["_law_feed_here","_law_wanted","_law_pieces","_law_still","_law_flow"] (aI fJ) ["_law_k","_law_feed_here","_law_wanted","_law_pieces"] [none,some 0,some 1,some 2] _) rfl gR.nd dB (aA (aE aN hr (by decide) (aA (aB 0) (aA aC aD))) aD) (λ_ _ _ _ _=>(aO (i:=0) (show Nodup (["_law_k","_law_feed_here","_law_wanted","_law_pieces"]:List Str) by decide +kernel))) (λ_ _ _ _ _=>(aE mW hr (by decide) (aA (aB 1) (aA (aB 2) (aA (aB 3) aD))))))) aP)
  (aH (aJ (aK (aA (aB 3) (aA (aB 4) aD)))))))),?_⟩
 ac_nf;refine⟨a,3,n,rfl,fd,by omega,by decide,bdk (by decide),λr M1 r0 r1 fd1 av1=>?_⟩;obtain⟨r,rfl⟩:∃i:Nat,r=(i:Int):=⟨r.toNat,by omega⟩;have A1:=cC.ad av1;refine⟨⟨by omega,by omega⟩,by omega,λi ys M'=>FdN M' a (n+1+30*i)/\cC M M' a/\i<=r/\∃st,ys=st.map pcD/\st.length=i/\∀p∈st,(pcs=[]->PcK 8 17 60 p)/\PcK 34 202 208 p,⟨fd1,A1,by omega,[],rfl,rfl,λp hp=>by cases hp⟩,?_,?_⟩
 ·rintro i ys M' hi ⟨fd',A',hir,st,rfl,ls,hst⟩;rw[Int.toNat_natCast] at hi;ac_nf;refine⟨a,_,k,pl,pcs,rfl,fd',by omega,ok,A'.l npl hpl,hlen,npl,pk,λpc M2 c1 c2 fd2 A2=>⟨fd2.mono (by omega),A'.trans A2,by omega,st++[pc],by rw[map_append];rfl,by rw[length_append,ls];rfl,λp hp=>?_⟩⟩;rcases List.mem_append.mp hp with h|h
  ·exact hst p h
  ·rw[List.mem_singleton.mp h];exact⟨c1,c2⟩
 rintro ys M2 hy ⟨fd2,A2,_,st,rfl,ls,hst⟩ p1 hp1;rw[Int.toNat_natCast] at ls fd2;have s2:bC M2 (bH M2 p1 (st.map pcD)):=bC.new hp1 _;have e1:bH M2 p1 (st.map pcD) (.l p1)=some (st.map pcD):=aL;have fd3:=eO fd2 s2;have A3:=A2.trans (.of s2 a);generalize bH M2 p1 (st.map pcD)=M3 at e1 fd3 A3 ⊢;have np1:p1≠a:=fG fd3 e1;ac_nf;refine⟨by decide,λp2 hp2=>?_⟩;have s3:bC M3 (bH M3 p2 []):=bC.new hp2 _;have e2:bH M3 p2 [] (.l p2)=some (([]:List Pc).map pcD):=aL;have e1':=s3 _ _ e1;have fd4:=eO fd3 s3;have A4:=A3.trans (.of s3 a);generalize bH M3 p2 []=M4 at e2 e1' fd4 A4 ⊢;have fin:∀(l2:Addr)(fl:List Pc) (M5:DM),M5 (.l l2)=some (fl.map pcD)->M5 (.l p1)=some (st.map pcD)->fl.length<=2->(∀p∈fl,(pcs=[]->PcK 8 17 60 p)/\PcK 34 202 208 p)->FdN M5 a (n+200)->cC M M5 a->Dn Q (.tup [.ref p1,.ref l2]) M5:=λl2 fl M5 h1 h2 h3 h4 h5 h6=>bZ (q p1 l2 st fl M5 ⟨h2,h1⟩ ⟨by omega,h3,λz p hp=>(List.mem_append.mp hp).elim (λh=>(hst p h).1 z) (λh=>(h4 p h).1 z),λp hp=>(List.mem_append.mp hp).elim (λh=>(hst p h).2) (λh=>(h4 p h).2)⟩ h5 h6);ac_nf;refine⟨λρ' M5=>∃(l2:Addr)(fl:List Pc),M5 (.l l2)=some (fl.map pcD)/\M5 (.l p1)=some (st.map pcD)/\fl.length<=2/\(∀p∈fl,(pcs=[]->PcK 8 17 60 p)/\PcK 34 202 208 p)/\FdN M5 a (n+200)/\cC M M5 a/\ρ'=[some (.ref a),some (kdD k),some (.ref pl),some (.ref p1),some (.ref l2)],?_,?_⟩
 ·rw[aMW,aQ];refine nE (λ_=>?_) (λ_=>⟨p2,[],e2,e1',Nat.zero_le _,λp hp=>(by cases hp),fd4.mono (by omega),A4,rfl⟩);refine⟨a,3,_,rfl,fd4,by omega,by decide,bdk (by decide),λr' M5 r0' r1' fd5 av5=>?_⟩;obtain⟨r',rfl⟩:∃i:Nat,r'=(i:Int):=⟨r'.toNat,by omega⟩;have A5:=cC.ad av5;refine⟨⟨by omega,by omega⟩,by omega,λi ys M'=>FdN M' a (n+80+30*i)/\cC M4 M' a/\i<=r'/\∃fl,ys=fl.map pcD/\fl.length=i/\∀p∈fl,(pcs=[]->PcK 8 17 60 p)/\PcK 34 202 208 p,⟨fd5.mono (by omega),A5,by omega,[],rfl,rfl,λp hp=>by cases hp⟩,?_,?_⟩
  ·rintro i ys M' hi ⟨fd',A',hir,fl,rfl,lf,hfl⟩;rw[Int.toNat_natCast] at hi;ac_nf;refine⟨a,_,k,pl,pcs,rfl,fd',by omega,ok,A'.l npl (A4.l npl hpl),hlen,npl,pk,λpc M2 c1 c2 fd2 A2=>⟨fd2.mono (by omega),A'.trans A2,by omega,fl++[pc],by rw[map_append];rfl,by rw[length_append,lf];rfl,λp hp=>?_⟩⟩;rcases List.mem_append.mp hp with h|h
   ·exact hfl p h
   ·rw[List.mem_singleton.mp h];exact⟨c1,c2⟩
  rintro ys M6 hy ⟨fd6,A6,_,fl,rfl,lf,hfl⟩ p3 hp3;rw[Int.toNat_natCast] at lf fd6;have s6:bC M6 (bH M6 p3 (fl.map pcD)):=bC.new hp3 _;exact⟨p3,fl,aL,s6 _ _ (A6.l np1 e1'),by omega,hfl,(eO fd6 s6).mono (by omega),(A4.trans A6).trans (.of s6 a),rfl⟩
 ·rintro _ M5 ⟨l2,fl,h1,h2,h3,h4,h5,h6,rfl⟩;ac_nf;exact⟨by decide,fin l2 fl M5 h1 h2 h3 h4 h5 h6⟩
def uL:DSp:=λds M Q=>∃a n l e st fl,ds=[.ref a,.tup [.ref l,.ref e]]/\FdN M a n/\n<=10000/\fK M l e st fl/\st.length<=2/\fl.length<=2/\∀i r M',i<6->r<=3->FdN M' a (n+2)->cC M M' a->Q (prN i r) M'
noncomputable abbrev pY:Stmt:=top 70
theorem oF:aS ["_law_feed_here","_law_given","_law_many","_law_number"] ["_law_feed_here","_law_given"] (aI pY):=by ac_rfl
theorem aAP (hF:cK K mg "_law_link" pY ["_law_feed_here","_law_given"])(cG:mg "len" = none)(aEX:mg "max" = none)(rD:mg "int" = none)(aN:Has P w K mg base 101 "_law_draw" ["_law_feed_here","_law_many"] cI):Has P w K mg base 102 "_law_link" ["_law_feed_here","_law_given"] uL:=by
 refine Has.mkZ hF oF (λds M Q ⟨_,_,_,_,_,_,z,_⟩=>by rw[z];rfl) λf cdv A outer s H ds M Q E hr h=>?_;obtain⟨a,n,l,e,st,fl,rfl,fd,hn,pic,n1,n2,q⟩:=h;refine⟨_,(aF (aU (i:=2) oF.nd (aM eD (bV eW cG (aA (aG (aB 1) aC) aD)) (bV eW cG (aA (aG (aB 1) aC) aD))))
  (aF (aU (i:=3) oF.nd (aE aN hr (by decide) (aA (aB 0) (aA (bV (aIo rfl) aEX (aA aC (aA (aB 2) aD))) aD))))
  (aH (aJ (aK (aA (aB 3) (aA (aM bW (aE aN hr (by decide) (aA (aB 0) (aA aC aD))) (jM aFu rD (aA (cN yP (aB 3) (bV eW cG (aA (aG (aB 1) aC) aD))) aD))) aD))))))),?_⟩
 ac_nf;refine⟨_,pic.s,_,pic.f,?_⟩;rw[length_map,length_map];ac_nf;generalize hm:(if (st.length:Int)+(fl.length:Int) > 1 then (st.length:Int)+(fl.length:Int) else 1)=m;have hm1:1<=m/\m<=4:=by rw[<- hm];split<;>omega
 refine⟨a,m,n,rfl,fd,by omega,by omega,Bd.mono (bd8 (by omega) (by omega)) (by decide),λi M1 i0 i1 fd1 av1=>?_⟩;ac_nf;refine⟨a,4,_,rfl,fd1,by omega,by decide,bdk (by decide),λr M2 r0 r1 fd2 av2=>?_⟩;have A2:=(cC.ad av1).trans (cC.ad av2);refine⟨_,A2.l (fG fd pic.s) pic.s,?_⟩;obtain⟨i,rfl⟩:∃j:Nat,i=(j:Int):=⟨i.toNat,by omega⟩;obtain⟨r,rfl⟩:∃j:Nat,r=(j:Int):=⟨r.toNat,by omega⟩;rw[length_map];ac_nf;refine⟨qN (by split<;>(unfold Bd;decide)),by decide,?_⟩;by_cases c:(st.length:Int)<=(i:Int)
 ·rw[if_pos (decide_eq_true c),Int.mul_one];exact bZ (q i r M2 (by omega) (by omega) fd2 A2)
 ·rw[if_neg (by rw[decide_eq_false c];decide),Int.mul_zero];exact bZ (q i 0 M2 (by omega) (by omega) fd2 A2)
def aEJ (M:DM)(z:Addr):Prop:=∀ls:List (Nat×Nat),ls≠[]->M (.l z)≠some (prs ls)
theorem lT {M:DM}{a:Addr}{n:Nat}(h:FdN M a n):aEJ M a:=λls ne e=>by
 obtain⟨c,k,f,e',_⟩:=h;rw[e'] at e;cases ls with
 |nil=>exact ne rfl
 |cons l ls=>cases (List.cons.inj (Option.some.inj e)).1
theorem aCp {M:DM}{a:Addr}{xs:List Addr}(h:M (.l a)=some (xs.map D.ref)):aEJ M a:=λls ne e=>by
 rw[h] at e;cases ls with
 |nil=>exact ne rfl
 |cons l ls =>
  cases xs with
  |nil=>cases (Option.some.inj e)
  |cons x xs=>cases (List.cons.inj (Option.some.inj e)).1
theorem aAb {M:DM}{a b:Addr}{n:Nat}{xs:List Addr}(h:FdN M a n)(e:M (.l b)=some (xs.map D.ref)):b≠a:=λz=>by
 obtain⟨c,k,f,e',_⟩:=h;rw[z,e'] at e;cases xs with
 |nil=>cases (Option.some.inj e)
 |cons x xs=>cases (List.cons.inj (Option.some.inj e)).1
def eG (M:DM)(as:List Addr)(lss:List (List (Nat×Nat))):Prop:=as.length=lss.length/\∀(i:Nat) a ls,as[i]?=some a->lss[i]?=some ls->M (.l a)=some (prs ls)
theorem eG.adv {M M':DM}{as:List Addr}{lss:List (List (Nat×Nat))}{z:Addr}(h:eG M as lss)(ok:∀ls∈lss,LkS ls)(A:cC M M' z)(nz:aEJ M z):eG M' as lss :=
 ⟨h.1,λi a ls e1 e2=>A.l (λw=>nz ls (ok ls (mem_of_getElem? e2)).ne (by rw[<- w];exact h.2 i a ls e1 e2)) (h.2 i a ls e1 e2)⟩
theorem eG.sub {M M':DM}{as:List Addr}{lss:List (List (Nat×Nat))}(h:eG M as lss)(s:bC M M'):eG M' as lss:=⟨h.1,λi a ls e1 e2=>s _ _ (h.2 i a ls e1 e2)⟩
theorem eG.nil {M:DM}:eG M [] []:=⟨rfl,λi a ls e=>by cases e⟩
theorem eG.snoc {M:DM}{as:List Addr}{lss:List (List (Nat×Nat))}{p:Addr}{ls:List (Nat×Nat)}(h:eG M as lss)(e:M (.l p)=some (prs ls)):eG M (as++[p]) (lss++[ls]):=by
 refine⟨by rw[length_append,length_append,h.1];rfl,λi a l e1 e2=>?_⟩;by_cases c:i<as.length
 ·rw[getElem?_append_left c] at e1;rw[getElem?_append_left (by rw[<- h.1];exact c)] at e2;exact h.2 i a l e1 e2
 ·rw[getElem?_append_right (by omega)] at e1;rw[getElem?_append_right (by rw[<- h.1];omega),<- h.1] at e2;have z:i-as.length=0:=by
   rcases Nat.eq_zero_or_pos (i-as.length) with z|z
   ·exact z
   ·rw[List.getElem?_eq_none (by show 1<=_;omega)] at e1;cases e1
  rw[z] at e1 e2;cases e1;cases e2;exact e
theorem oM {α:Type}{P:α->Prop}{xs:List α}{x:α}(h:∀y∈xs,P y)(hx:P x):∀y∈xs++[x],P y:=λy hy=>(List.mem_append.mp hy).elim (h y) λz=>by rw[List.mem_singleton.mp z];exact hx
def kO:DSp:=λds M Q=>∃a n l e st fl,ds=[.ref a,.tup [.ref l,.ref e]]/\FdN M a n/\n<=5000/\fK M l e st fl/\st.length<=2/\fl.length<=2/\∀p ls M',LkS ls->M' (.l p)=some (prs ls)->FdN M' a (n+5)->cC M M' a->Q (.ref p) M'
noncomputable abbrev fE:Stmt:=top 71
theorem sE:aS ["_law_feed_here","_law_given"] ["_law_feed_here","_law_given"] (aI fE):=by ac_rfl
theorem qM (hF:cK K mg "_law_chain_told" fE ["_law_feed_here","_law_given"])(dB:mg "range" = none)(aN:Has P w K mg base 101 "_law_draw" ["_law_feed_here","_law_many"] cI)(qB:Has P w K mg base 102 "_law_link" ["_law_feed_here","_law_given"] uL):Has P w K mg base 103 "_law_chain_told" ["_law_feed_here","_law_given"] kO:=by
 refine Has.mkZ hF sE (λds M Q ⟨_,_,_,_,_,_,z,_⟩=>by rw[z];rfl) λf cdv A outer s H ds M Q E hr h=>?_;obtain⟨a,n,l,e,st,fl,rfl,fd,hn,pic,n1,n2,q⟩:=h;refine⟨_,(aH (aJ (aCA (⟨rfl,by decide +kernel,by decide +kernel,by decide +kernel,rfl,by decide +kernel⟩:gW ["_law_feed_here","_law_given"] (aI fE) ["_law_k","_law_feed_here","_law_given"] [none,some 0,some 1] _) rfl dB (aA (aM eD aC (aM eQ (aE aN hr (by decide) (aA (aB 0) (aA aC aD))) aC)) aD) (λ_ _ _ _ _=>(aO (i:=0) (show Nodup (["_law_k","_law_feed_here","_law_given"]:List Str) by decide +kernel))) (λ_ _ _ _ _=>(aE qB hr (by decide) (aA (aB 1) (aA (aB 2) aD))))))),?_⟩;ac_nf;refine⟨a,4,n,rfl,fd,by omega,by decide,bdk (by decide),λr M1 r0 r1 fd1 av1=>?_⟩;ac_nf;obtain⟨m,hm,hm1,hm2⟩:∃m:Nat,1+r.fdiv 3=(m:Int)/\1<=m/\m<=2:=by
  have:r=0∨r=1∨r=2∨r=3:=by omega
  rcases this with rfl|rfl|rfl|rfl
  ·exact⟨1,by decide,by decide,by decide⟩
  ·exact⟨1,by decide,by decide,by decide⟩
  ·exact⟨1,by decide,by decide,by decide⟩
  ·exact⟨2,by decide,by decide,by decide⟩
 refine⟨⟨by decide,by decide⟩,?_⟩;rw[hm];have nl:=fG fd pic.s;have ne':=fG fd pic.f;have A1:=cC.ad av1;refine⟨⟨by omega,by omega⟩,by omega,λi ys M'=>FdN M' a (n+1+2*i)/\cC M M' a/\i<=m/\∃ls,ys=prs ls/\ls.length=i/\∀x∈ls,x.1<6/\x.2<=3,⟨fd1,A1,by omega,[],rfl,rfl,λp hp=>by cases hp⟩,?_,?_⟩
 ·rintro i ys M' hi ⟨fd',A',hir,ls,rfl,ll,hls⟩;rw[Int.toNat_natCast] at hi;ac_nf;refine⟨a,_,l,e,st,fl,rfl,fd',by omega,⟨A'.l nl pic.s,A'.l ne' pic.f⟩,n1,n2,λx y M2 hx hy fd2 A2=>⟨fd2.mono (by omega),A'.trans A2,by omega,ls++[(x,y)],by unfold prs;rw[map_append];rfl,by rw[length_append,ll];rfl,oM hls ⟨hx,hy⟩⟩⟩
 rintro ys M2 hy ⟨fd2,A2,_,ls,rfl,ll,hls⟩ p1 hp1;rw[Int.toNat_natCast] at ll fd2;have s2:bC M2 (bH M2 p1 (prs ls)):=bC.new hp1 _;exact bZ (q p1 ls _ ⟨λz=>by rw[z] at ll;simp at ll;omega,by omega,hls⟩ aL ((eO fd2 s2).mono (by omega)) (A2.trans (.of s2 a)))
def pR:DSp:=λds M Q=>∃a n l e st fl l2 e2 st2 fl2,ds=[.ref a,.tup [.ref l,.ref e],.tup [.ref l2,.ref e2]]/\FdN M a n/\n<=2000/\fK M l e st fl/\fK M l2 e2 st2 fl2/\st.length<=2/\fl.length<=2/\st2.length<=2/\fl2.length<=2 /\
 ∀pp lss lsss M',PpQ M' pp lss lsss->lss.length=st.length->lsss.length=fl.length->aDv lss lsss->FdN M' a (n+50)->cC M M' a->Q (.ref pp) M'
noncomputable abbrev gQ:Stmt:=top 72
theorem lF:aS ["_law_feed_here","_law_one","_law_given","_law_found","_law_piece_here"] ["_law_feed_here","_law_one","_law_given"] (aI gQ):=by ac_rfl
theorem wF (hF:cK K mg "_law_papers" gQ ["_law_feed_here","_law_one","_law_given"])(dB:mg "range" = none)(aN:Has P w K mg base 101 "_law_draw" ["_law_feed_here","_law_many"] cI)(fD:Has P w K mg base 103 "_law_chain_told" ["_law_feed_here","_law_given"] kO):Has P w K mg base 104 "_law_papers" ["_law_feed_here","_law_one","_law_given"] pR:=by
 refine Has.mkZ hF lF (λds M Q ⟨_,_,_,_,_,_,_,_,_,_,z,_⟩=>by rw[z];rfl) λf cdv A outer s H ds M Q E hr h=>?_;obtain⟨a,n,l,e,st,fl,l2,e2,st2,fl2,rfl,fd,hn,pic,pic2,n1,n2,n3,n4,q⟩:=h;refine⟨_,(aF (aBS (i:=3) (⟨rfl,by decide +kernel,by decide +kernel,by decide +kernel,rfl,by decide +kernel⟩:gW ["_law_feed_here","_law_one","_law_given","_law_found","_law_piece_here"] (aI gQ) ["_law_piece_here","_law_feed_here","_law_given"] [none,some 0,some 2] _) rfl lF.nd (aG (aB 1) aC) (λ_ _ _ _ _=>(aO (i:=0) (show Nodup (["_law_piece_here","_law_feed_here","_law_given"]:List Str) by decide +kernel))) (λ_ _ _ _ _=>(aE fD hr (by decide) (aA (aB 1) (aA (aB 2) aD)))))
  (aF (rZ PassesOwn.never rfl (aG (aB 1) aC) (aO (i:=4) lF.nd) (aH (aEI (aCf (aB 3) (aCA (⟨rfl,by decide +kernel,by decide +kernel,by decide +kernel,rfl,by decide +kernel⟩:gW ["_law_feed_here","_law_one","_law_given","_law_found","_law_piece_here"] (aI gQ) ["_law_k","_law_feed_here","_law_given"] [none,some 0,some 2] _) rfl dB (aA (aM eD aC (aE aN hr (by decide) (aA (aB 0) (aA aC aD)))) aD) (λ_ _ _ _ _=>(aO (i:=0) (show Nodup (["_law_k","_law_feed_here","_law_given"]:List Str) by decide +kernel))) (λ_ _ _ _ _=>(aE fD hr (by decide) (aA (aB 1) (aA (aB 2) aD)))))))))
  (aH (aJ (aB 3))))),?_⟩
 have nl:=fG fd pic.s;have nf:=fG fd pic.f;have nl2:=fG fd pic2.s;have nf2:=fG fd pic2.f;ac_nf;refine⟨_,pic.s,by rw[length_map];omega,λi ys M'=>FdN M' a (n+5*i)/\cC M M' a/\∃as lss,ys=as.map D.ref/\as.length=i/\eG M' as lss/\∀ls∈lss,LkS ls,⟨fd,.refl _ _,[],[],rfl,rfl,.nil,λ_ h=>by cases h⟩,λi ys M' _ ⟨_,A',_⟩ a' e'=>(by cases e';exact A'.l nl pic.s),?_,?_⟩
 ·rintro i d1 ys M' hd ⟨fd',A',as,lss,rfl,ll,R,ok⟩;have hi:i<2:=by have:=(List.getElem?_eq_some_iff.mp hd).1;rw[length_map] at this;omega
  ac_nf;refine⟨a,_,l2,e2,st2,fl2,rfl,fd',by omega,⟨A'.l nl2 pic2.s,A'.l nf2 pic2.f⟩,n3,n4,λp ls M2 L hp fd2 A2=>⟨fd2.mono (by omega),A'.trans A2,as++[p],lss++[ls],by rw[map_append];rfl,by rw[length_append,ll];rfl,(R.adv ok A2 (lT fd')).snoc hp,oM ok L⟩⟩
 rintro ys M1 hy ⟨fd1,A1,as,lss,rfl,ll,R1,ok⟩ pp hpp;rw[length_map] at ll fd1;have s1:bC M1 (bH M1 pp (as.map D.ref)):=bC.new hpp _;have e1:bH M1 pp (as.map D.ref) (.l pp)=some (as.map D.ref):=aL;have npa:pp≠a:=aAU fd1 hpp;have newp:∀b o,M b=some o->b ≠ .l a->b ≠ .l pp:=λb o eb nb=>cU (A1 b nb o eb) hpp;have fd2:=eO fd1 s1;have A2:=A1.trans (.of s1 a);have R2:=R1.sub s1;generalize bH M1 pp (as.map D.ref)=M2 at e1 fd2 A2 R2 ⊢;ac_nf;refine⟨_,A2.l nf pic.f,λi ρ M'=>FdN M' a (n+10+12*i)/\cC M M' a/\(∃bs lsss,M' (.l pp)=some ((as++bs).map D.ref)/\bs.length=i/\lsss.length=i/\eG M' as lss/\(∀(j:Nat) b X,bs[j]?=some b->lsss[j]?=some X->aBU M' b X)/\(∀b∈bs,b≠pp)/\∀X∈lsss,X≠[]/\X.length<=2/\∀ls∈X,LkS ls)/\∃o1,ρ=[some (.ref a),some (.tup [.ref l,.ref e]),some (.tup [.ref l2,.ref e2]),some (.ref pp),o1],⟨fd2.mono (by omega),A2,⟨[],[],by rw[append_nil];exact e1,rfl,rfl,R2,λj b X e=>(by cases e),λb h=>(by cases h),λX h=>(by cases h)⟩,_,rfl⟩,?_,?_,?_⟩
 ·rintro i ρ M' _ ⟨_,A',_⟩ a' e';cases e';exact A'.l nf pic.f
 ·rintro i d1 ρ M' hd ⟨fd',A',⟨bs,lsss,ep,lb,lx,R',hb,nb,okx⟩,o1,rfl⟩;have hi:i<2:=by have:=(List.getElem?_eq_some_iff.mp hd).1;rw[length_map] at this;omega
  ac_nf;refine⟨⟨_,ep⟩,a,2,_,rfl,fd',by omega,by decide,bdk (by decide),λr M3 r0 r1 fd3 av3=>?_⟩;obtain⟨r,rfl⟩:∃j:Nat,r=(j:Int):=⟨r.toNat,by omega⟩;have A3:=cC.ad av3;ac_nf;rw[show(1:Int)+(r:Int)=((1+r:Nat):Int) by omega];refine⟨⟨by omega,by omega⟩,by omega,λj ys M4=>FdN M4 a (n+10+12*i+1+5*j)/\cC M' M4 a/\j<=1+r/\∃xs X,ys=xs.map D.ref/\xs.length=j/\eG M4 xs X/\∀ls∈X,LkS ls,⟨fd3,A3,by omega,[],[],rfl,rfl,.nil,λ_ h=>by cases h⟩,?_,?_⟩
  ·rintro j ys M4 hj ⟨fd4,A4,hjr,xs,X,rfl,lxs,RX,okX⟩;rw[Int.toNat_natCast] at hj;ac_nf;have A04:=A'.trans A4;refine⟨a,_,l2,e2,st2,fl2,rfl,fd4,by omega,⟨A04.l nl2 pic2.s,A04.l nf2 pic2.f⟩,n3,n4,λp ls M5 L hp fd5 A5=>⟨fd5.mono (by omega),A4.trans A5,by omega,xs++[p],X++[ls],by rw[map_append];rfl,by rw[length_append,lxs];rfl,(RX.adv okX A5 (lT fd4)).snoc hp,oM okX L⟩⟩
  rintro ys M4 hy ⟨fd4,A4,_,xs,X,rfl,lxs,RX,okX⟩ p1 hp1;rw[Int.toNat_natCast] at lxs fd4;have ep4:=A4.l npa ep;have np1:p1≠pp:=λz=>by rw[z,ep4] at hp1;cases hp1
  have s4:bC M4 (bH M4 p1 (xs.map D.ref)):=bC.new hp1 _;have e4:bH M4 p1 (xs.map D.ref) (.l p1)=some (xs.map D.ref):=aL;have ep5:=s4 _ _ ep4;have fd5:=eO fd4 s4;have A5:=A4.trans (.of s4 a);have RX5:=RX.sub s4;have R5:=R'.adv ok A5 (lT fd');have hb5:∀(j:Nat) b X,bs[j]?=some b->lsss[j]?=some X->aBU (bH M4 p1 (xs.map D.ref)) b X:=λj b X h1 h2=>by obtain⟨cs,ec,RC⟩:=hb j b X h1 h2;exact⟨cs,A5.l (aAb fd' ec) ec,eG.adv RC (okx X (mem_of_getElem? h2)).2.2 A5 (lT fd')⟩
  generalize bH M4 p1 (xs.map D.ref)=M5 at e4 ep5 fd5 A5 RX5 R5 hb5 ⊢;ac_nf;refine⟨_,_,rfl,ep5,by rw[length_map,length_append];omega,?_⟩;have stay:∀b:AK,b ≠ .l pp->bH M5 pp ((as++bs).map D.ref++[.ref p1]) b=M5 b:=λb h=>wA h;have ep6:bH M5 pp ((as++bs).map D.ref++[.ref p1]) (.l pp)=some ((as++(bs++[p1])).map D.ref):=by rw[aL,<- List.append_assoc,map_append (l₁:=as++bs)];rfl
  generalize bH M5 pp ((as++bs).map D.ref++[.ref p1])=M6 at stay ep6 ⊢;have npr:=aCp ep5;have AP:cC M5 M6 pp:=λb h o e=>by rw[stay b h];exact e
  have A06:cC M M6 a:=λb nb o eb=>AP b (newp b o eb nb) o ((A'.trans A5) b nb o eb);have fd6:FdN M6 a (n+10+12*i+1+5*(1+r)):=by obtain⟨c,k,f,ee,r⟩:=fd5;exact⟨c,k,f,AP.l (Ne.symm npa) ee,r⟩
  have lX:X.length=1+r:=by rw[<- RX5.1,lxs]
  refine⟨fd6.mono (by omega),A06,⟨bs++[p1],lsss++[X],ep6,by rw[length_append,lb];rfl,by rw[length_append,lx];rfl,R5.adv ok AP npr,λj b Y h1 h2=>?_,oM nb np1,oM okx ⟨λz=>(by rw[z] at lX;simp at lX;omega),by omega,okX⟩⟩,_,rfl⟩;by_cases c:j<bs.length
  ·rw[getElem?_append_left c] at h1;rw[getElem?_append_left (by omega)] at h2;obtain⟨cs,ec,RC⟩:=hb5 j b Y h1 h2;exact⟨cs,AP.l (nb b (mem_of_getElem? h1)) ec,eG.adv RC (okx Y (mem_of_getElem? h2)).2.2 AP npr⟩
  ·rw[getElem?_append_right (by omega)] at h1 h2;have z:j-bs.length=0:=by
    rcases Nat.eq_zero_or_pos (j-bs.length) with z|z
    ·exact z
    ·rw[List.getElem?_eq_none (by show 1<=_;omega)] at h1;cases h1
   rw[z] at h1;rw[show j-lsss.length=0 by omega] at h2;cases h1;cases h2;exact⟨xs,AP.l np1 e4,RX5.adv okX AP npr⟩
 ·rintro ρ M' ⟨fd',A',⟨bs,lsss,ep,lb,lx,R',hb,nb,okx⟩,o1,rfl⟩;rw[length_map] at lb lx fd';ac_nf;exact bZ (q pp lss lsss M' ⟨as,bs,ep,R'.1,by omega,R'.2,hb⟩ (by rw[<- R'.1];exact ll) lx ⟨ok,okx⟩ (fd'.mono (by omega)) A')
theorem aEM {f:Pc->Bool}(xs:List Pc):id ((xs.map f).any λb=>b==true)=xs.any f:=by show(xs.map f).any (λb=>b==true)=_;rw[List.any_map];congr 1;funext p;show(f p==true)=f p;cases f p<;>rfl
def xE:DSp:=λds M Q=>∃k l1 e1 l2 e2 l e st fl X Y v N,ds=[evD k l1 e1 l2 e2,.int (v:Nat),PQ X Y,.int (N:Nat)]/\k.Ok/\(v=0/\l=l1/\e=e1∨v=1/\l=l2/\e=e2)/\fK M l e st fl/\st.length<=2/\fl.length<=2/\(∀p∈st++fl,pcB 250 p/\WfO p)/\N<=31/\BQ 900 X/\BQ 900 Y/\∀M',bC M M'->Q (.bl (nR k st fl X Y N)) M'
noncomputable abbrev lZ:Stmt:=top 73
theorem hZ:aS ["_law_even","_law_which","_law_point_here","_law_most","_law_still","_law_flow","_law_frame","_law_n"] ["_law_even","_law_which","_law_point_here","_law_most"] (aI lZ):=by ac_rfl
theorem aBu (hF:cK K mg "_law_has" lZ ["_law_even","_law_which","_law_point_here","_law_most"])(dB:mg "range" = none)(sI:Has P w K mg base 104 "on" ["piece","p"] aBy)(gC:Has P w K mg base 106 "led_piece" ["frame","piece"] jA)(iZ:Has P w K mg base 101 "first" [] rV)(lR:Has P w K mg base 106 "behind" ["one","other"] pH)(dJ:Has P w K mg base 104 "_law_mover" ["_law_wanted"] jG):Has P w K mg base 107 "_law_has" ["_law_even","_law_which","_law_point_here","_law_most"] xE:=by
 refine Has.mkZ hF hZ (λds M Q ⟨_,_,_,_,_,_,_,_,_,_,_,_,_,z,_⟩=>by rw[z];rfl) λf cdv A outer s H ds M Q E hr h=>?_;obtain⟨k,l1,e1,l2,e2,l,e,st,fl,X,Y,v,N,rfl,ok,hv,pic,n1,n2,bp,hN,bX,bY,q⟩:=h;refine⟨_,(aF (dF (aG (aB 0) (aM eD aC (aB 1))) (dI (n:=2) rfl (aV (aO (i:=4) hZ.nd) (aV (aO (i:=5) hZ.nd) cW))))
  (aF (bA (aR (aEg hr) dG (pE (⟨rfl,by decide +kernel,by decide +kernel,by decide +kernel,rfl,by decide +kernel⟩:gW ["_law_even","_law_which","_law_point_here","_law_most","_law_still","_law_flow","_law_frame","_law_n"] (aI lZ) ["_law_piece_here","_law_point_here"] [none,some 2] _) rfl (aB 4) (λ_ _ _ _ _=>(aO (i:=0) (show Nodup (["_law_piece_here","_law_point_here"]:List Str) by decide +kernel))) (λ_ _ _ _ _=>(aE sI hr (by decide) (aA (aB 0) (aA (aB 1) aD))))) rfl) (aH (aJ dG)) aP)
  (aF (aU (i:=6) hZ.nd (qU iZ hr (by decide)))
  (aF (vR PassesOwn.never rfl dB (aA (aB 3) aD) (aO (i:=7) hZ.nd) (aF (bA (aR (aEg hr) dG (pE (⟨rfl,by decide +kernel,by decide +kernel,by decide +kernel,rfl,by decide +kernel⟩:gW ["_law_even","_law_which","_law_point_here","_law_most","_law_still","_law_flow","_law_frame","_law_n"] (aI lZ) ["_law_piece_here","_law_point_here","_law_frame"] [none,some 2,some 6] _) rfl (aB 5) (λ_ _ _ _ _=>(aO (i:=0) (show Nodup (["_law_piece_here","_law_point_here","_law_frame"]:List Str) by decide +kernel))) (λ_ _ _ _ _=>(aE sI hr (by decide) (aA (aE gC hr (by decide) (aA (aB 2) (aA (aB 0) aD))) (aA (aB 1) aD))))) rfl) (aH (aJ dG)) aP)
  (aH (aU (i:=6) hZ.nd (aE lR hr (by decide) (aA (aB 6) (aA (aE dJ hr (by decide) (aA (aG (aB 0) aC) aD)) aD)))))))
  (aH (aJ dG)))))),?_⟩
 dsimp only[evD];ac_nf;rw[show atI [kdD k,D.tup [D.ref l1,D.ref e1],D.tup [D.ref l2,D.ref e2]] (1+(v:Int))=some (.tup [.ref l,.ref e]) by rcases hv with⟨rfl,rfl,rfl⟩|⟨rfl,rfl,rfl⟩<;>rfl];ac_nf;have ev0:∀{b:Bool}{M':DM},bC M M'->nR k st fl X Y N=b->Dn Q (.bl b) M':=λ{b M'} s' e'=>bZ (by rw[<- e'];exact q M' s');refine⟨rfl,_,pic.s,by rw[length_map];omega,λi ys M'=>M'=M/\ys=((st.take i).map λp=>onP p X Y).map D.bl,⟨rfl,rfl⟩,λi ys M' _ ⟨e',_⟩ a' e''=>(by cases e'';rw[e'];exact pic.s),?_,?_⟩
 ·rintro i d1 ys M' hd ⟨rfl,rfl⟩;obtain⟨p,hp,rfl⟩:=rM hd;ac_nf;refine⟨p,X,Y,rfl,mB (bp p (mem_append_left _ (mem_of_getElem? hp))).1 (by decide),bX,bY,rfl,?_⟩;rw[pK hp,map_append,map_append];rfl
 rintro ys M' hy ⟨rfl,rfl⟩ p1 hp1;rw[length_map,take_length];refine⟨_,aL,?_⟩;have s1:bC M' (bH M' p1 ((st.map λp=>onP p X Y).map D.bl)):=bC.new hp1 _;generalize bH M' p1 ((st.map λp=>onP p X Y).map D.bl)=M1 at s1 ⊢;rw[aEM];cases z:st.any λp=>onP p X Y with
 |true=>exact ifT rfl (ev0 s1 (by unfold nR;rw[z];rfl))
 |false =>
  refine ifF (by decide) ⟨rfl,⟨by omega,by omega⟩,?_⟩;have z0:FR 0 0 0 1 1=kF k 0:=by obtain⟨a,b,c⟩:=k.z0;unfold kF;rw[a,b,c]
  refine⟨λi ρ M2=>bC M' M2/\((range i).any λn=>fl.any λp=>onP (kM k n p) X Y)=false/\i<=N/\∃o,ρ=[some (.tup [kdD k,.tup [.ref l1,.ref e1],.tup [.ref l2,.ref e2]]),some (.int (v:Int)),some (PQ X Y),some (.int (N:Int)),some (.ref l),some (.ref e),some (kF k i),o],⟨s1,rfl,by omega,_,by rw[z0]⟩,?_,?_⟩
  ·rintro i ρ M2 hi ⟨s2,r2,hin,o,rfl⟩;rw[Int.toNat_natCast] at hi;have hf:=s2 _ _ pic.f;ac_nf;refine⟨_,hf,by rw[length_map];omega,λj ys M3=>M3=M2/\ys=((fl.take j).map λp=>onP (kM k i p) X Y).map D.bl,⟨rfl,rfl⟩,λj ys M3 _ ⟨e',_⟩ a' e''=>(by cases e'';rw[e'];exact hf),?_,?_⟩
   ·rintro j d1 ys M3 hd ⟨rfl,rfl⟩;obtain⟨p,hp,rfl⟩:=rM hd;obtain⟨b1,b2⟩:=bp p (mem_append_right _ (mem_of_getElem? hp));ac_nf;refine aCw ok (by omega) b2 (mB b1 (by decide)) ?_;ac_nf;refine⟨kM k i p,X,Y,rfl,mB (ok.pcB (by omega) b1) (by omega),bX,bY,rfl,?_⟩;rw[pK hp,map_append,map_append];rfl
   rintro ys M3 hy' ⟨rfl,rfl⟩ p3 hp3;rw[length_map,take_length];refine⟨_,aL,?_⟩;have s3:bC M' (bH M3 p3 ((fl.map λp=>onP (kM k i p) X Y).map D.bl)):=s2.trans (bC.new hp3 _);generalize bH M3 p3 ((fl.map λp=>onP (kM k i p) X Y).map D.bl)=M4 at s3 ⊢;rw[aEM];cases z':fl.any λp=>onP (kM k i p) X Y with
   |true =>
    refine ifT rfl (ev0 s3 ?_);unfold nR;rw[Bool.or_eq_true];exact .inr (List.any_eq_true.mpr ⟨i,List.mem_range.mpr (by omega),z'⟩)
   |false =>
    refine ifF (by decide) ?_;ac_nf;refine⟨k,rfl,ok,?_⟩;ac_nf;refine aFE ok (by omega) (by decide) ?_;ac_nf;refine⟨s3,?_,by omega,_,rfl⟩;rw[List.range_succ,List.any_append,r2,any_cons,z'];rfl
  ·rintro ρ M2 ⟨s2,r2,_,o,rfl⟩;rw[Int.toNat_natCast] at r2;ac_nf;refine ev0 s2 ?_;unfold nR;rw[z,r2];rfl
def rL:DSp:=λds M Q=>∃a n k l1 e1 l2 e2 st fl st2 fl2,ds=[.ref a,evD k l1 e1 l2 e2]/\FdN M a n/\n<=5000/\k.Ok/\fK M l1 e1 st fl/\fK M l2 e2 st2 fl2/\st.length<=2/\fl.length<=2/\st2.length<=2/\fl2.length<=2/\(∀p∈st++fl,PcK 34 202 208 p)/\(∀p∈st2++fl2,PcK 34 202 208 p) /\
 ∀r v X Y M',M' (.l r)=some [.int (v:Nat),PQ X Y]->v<=1->BQ 900 X->BQ 900 Y->FdN M' a (n+20)->cC M M' a->Q (.ref r) M'
noncomputable abbrev nW:Stmt:=top 74
theorem eI:aS ["_law_feed_here","_law_even","_law_which","_law_still","_law_flow","_law_at","_law_point_here"] ["_law_feed_here","_law_even"] (aI nW):=by ac_rfl
theorem xL (hF:cK K mg "_law_point" nW ["_law_feed_here","_law_even"])(cG:mg "len" = none)(aN:Has P w K mg base 101 "_law_draw" ["_law_feed_here","_law_many"] cI)(dU:Has P w K mg base 104 "_law_spot" ["_law_feed_here"] kT)(eM:Has P w K mg base 106 "_law_spot_of" ["_law_feed_here","_law_piece_here"] kB)(gA:Has P w K mg base 107 "_law_power" ["_law_frame","_law_n"] mG)(dJ:Has P w K mg base 104 "_law_mover" ["_law_wanted"] jG)(rK:Has P w K mg base 105 "led" ["frame","p"] vY):Has P w K mg base 108 "_law_point" ["_law_feed_here","_law_even"] rL:=by
 refine Has.mkZ hF eI (λds M Q ⟨_,_,_,_,_,_,_,_,_,_,_,z,_⟩=>by rw[z];rfl) λf cdv A outer s H ds M Q E hr h=>?_;obtain⟨a,n,k,l1,e1,l2,e2,st1,fl1,st2,fl2,rfl,fd,hn,ok,pic1,pic2,n1,n2,n3,n4,b1,b2,q⟩:=h;refine⟨_,(aF (aU (i:=2) eI.nd (aE aN hr (by decide) (aA (aB 0) (aA aC aD))))
  (aF (dF (aG (aB 1) (aM eD aC (aB 2))) (dI (n:=2) rfl (aV (aO (i:=3) eI.nd) (aV (aO (i:=4) eI.nd) cW))))
  (aF (bA (aR (aAC hr) (aM eD (aB 3) (aB 4)) (dZ aD)) (aH (aJ (dZ (aA (aB 2) (aA (aE dU hr (by decide) (aA (aB 0) aD)) aD))))) aP)
  (aF (aU (i:=5) eI.nd (aE aN hr (by decide) (aA (aB 0) (aA (bV eW cG (aA (aM eD (aB 3) (aB 4)) aD)) aD))))
  (aF (aU (i:=6) eI.nd (aE eM hr (by decide) (aA (aB 0) (aA (aG (aM eD (aB 3) (aB 4)) (aB 5)) aD))))
  (oB (bA (aR yP (aB 5) (bV eW cG (aA (aB 3) aD))) (aH (aU (i:=6) eI.nd (aE rK hr (by decide) (aA (aE gA hr (by decide) (aA (aE dJ hr (by decide) (aA (aG (aB 1) aC) aD)) (aA (aE aN hr (by decide) (aA (aB 0) (aA aC aD))) aD))) (aA (aB 6) aD))))) aP)
  (aH (aJ (dZ (aA (aB 2) (aA (aB 6) aD))))))))))),?_⟩
 dsimp only[evD];ac_nf;refine⟨a,2,n,rfl,fd,by omega,by decide,bdk (by decide),λv M1 v0 v1 fd1 av1=>?_⟩;obtain⟨v,rfl⟩:∃j:Nat,v=(j:Int):=⟨v.toNat,by omega⟩;obtain⟨l,e,st,fl,pic,m1,m2,b,ei⟩:∃l e st fl,fK M l e st fl/\st.length<=2/\fl.length<=2/\(∀p∈st++fl,PcK 34 202 208 p)/\atI [kdD k,D.tup [D.ref l1,D.ref e1],D.tup [D.ref l2,D.ref e2]] (1+(v:Int))=some (.tup [.ref l,.ref e]):=by
  rcases (show v=0∨v=1 by omega) with rfl|rfl
  ·exact⟨l1,e1,st1,fl1,pic1,n1,n2,b1,rfl⟩
  ·exact⟨l2,e2,st2,fl2,pic2,n3,n4,b2,rfl⟩
 have A1:=cC.ad av1;have nl:=fG fd pic.s;have nf:=fG fd pic.f;ac_nf;rw[ei];ac_nf;have hs1:=A1.l nl pic.s;have hf1:=A1.l nf pic.f;refine⟨rfl,_,_,hs1,hf1,by rw[length_map,length_map];omega,λp hp=>⟨by decide,λp0 hp0=>?_⟩⟩;have e0:bH (bH M1 p (st.map pcD++fl.map pcD)) p0 [] (.l p0)=some []:=aL;have s0:bC M1 (bH (bH M1 p (st.map pcD++fl.map pcD)) p0 []):=(bC.new hp _).trans (bC.new hp0 _);have ep:bH (bH M1 p (st.map pcD++fl.map pcD)) p0 [] (.l p)=some ((st++fl).map pcD):=by rw[(bC.new hp0 _) _ _ aL,map_append]
 have np:p≠p0:=gB aL hp0;generalize bH (bH M1 p (st.map pcD++fl.map pcD)) p0 []=M2 at e0 s0 ep ⊢;have fd2:=eO fd1 s0;have A2:=A1.trans (.of s0 a);have fin:∀{X Y:Rat}{M3:DM},BQ 900 X->BQ 900 Y->FdN M3 a (n+20)->cC M M3 a->∀r,M3 (.l r)=none->Dn Q (.ref r) (bH M3 r [.int (v:Nat),PQ X Y]):=λ{X Y M3} h1 h2 h3 h4 r hr=>bZ (q r v X Y _ aL (by omega) h1 h2 (eO h3 (bC.new hr _)) (h4.trans (.of (bC.new hr _) a)));by_cases z:st++fl=[]
 ·refine⟨.inr ⟨⟨_,rfl⟩,_,rfl⟩,true,aBz (n:=19) (by rw[ep,z];rfl) e0 np (λx hx=>by cases hx),ifT rfl ⟨a,_,rfl,fd2,by omega,λd M3 ⟨x,y,ed,hx,hy⟩ fd3 av3=>?_⟩⟩;subst ed;exact⟨by decide,fin (hx.mono (by decide)) (hy.mono (by decide)) (fd3.mono (by omega)) (A2.trans (cC.ad av3))⟩
 refine⟨.inr ⟨⟨_,rfl⟩,_,rfl⟩,false,aAw (n:=19) ep e0 np (by rw[length_map];exact λe=>z (List.length_eq_zero_iff.mp e)),?_⟩;have hlen:(st++fl).length<=4:=by rw[length_append];omega
 have lpos:0<(st++fl).length:=List.length_pos_iff.mpr z;have hs2:=s0 _ _ hs1;have hf2:=s0 _ _ hf1;refine ifF (by decide) ⟨_,_,hs2,hf2,by rw[length_map,length_map];omega,λp1 hp1=>⟨_,aL,?_⟩⟩;have s1:bC M2 (bH M2 p1 (st.map pcD++fl.map pcD)):=bC.new hp1 _;generalize bH M2 p1 (st.map pcD++fl.map pcD)=M3 at s1 ⊢;rw[<- map_append,length_map];refine⟨a,_,_,rfl,eO fd2 s1,by omega,by omega,Bd.mono (bd8 (by omega) (by omega)) (by decide),λj M4 j0 j1 fd4 av4=>?_⟩;obtain⟨j,rfl⟩:∃i:Nat,j=(i:Int):=⟨j.toNat,by omega⟩;have hj:j<(st++fl).length:=by omega
 have A4:=(A2.trans (.of s1 a)).trans (cC.ad av4);have hs4:=A4.l nl pic.s;have hf4:=A4.l nf pic.f;ac_nf;refine⟨_,_,hs4,hf4,by rw[length_map,length_map];omega,λp2 hp2=>?_⟩;have s4:bC M4 (bH M4 p2 (st.map pcD++fl.map pcD)):=bC.new hp2 _;have e4:bH M4 p2 (st.map pcD++fl.map pcD) (.l p2)=some ((st++fl).map pcD):=by rw[aL,map_append]
 generalize bH M4 p2 (st.map pcD++fl.map pcD)=M5 at s4 e4 ⊢;have fd5:=eO fd4 s4;have A5:=A4.trans (.of s4 a);ac_nf;refine⟨_,pcD (st++fl)[j],e4,mU (by rw[getElem?_map,getElem?_eq_getElem hj];rfl),?_⟩;have pk:=b _ (getElem_mem hj);refine⟨a,_,_,34,202,208,620,rfl,pk,by decide,by decide,by decide,fd5,by omega,λX Y M6 bX bY _ fd6 A6=>?_⟩;have A06:=A5.trans A6;ac_nf;refine⟨λρ' M7=>∃X Y,BQ 900 X/\BQ 900 Y/\FdN M7 a (n+20)/\cC M M7 a/\ρ'=[some (.ref a),some (.tup [kdD k,.tup [.ref l1,.ref e1],.tup [.ref l2,.ref e2]]),some (.int (v:Int)),some (.ref l),some (.ref e),some (.int (j:Int)),some (PQ X Y)],?_,?_⟩
 ·refine⟨_,A06.l nl pic.s,?_⟩;rw[length_map];ac_nf;refine dif (λ_=>?_) (λ_=>⟨X,Y,bX.mono (by decide),bY.mono (by decide),fd6.mono (by omega),A06,rfl⟩);refine⟨k,rfl,ok,?_⟩;ac_nf;refine⟨a,7,_,rfl,fd6,by omega,by decide,bdk (by decide),λr M7 r0 r1 fd7 av7=>?_⟩;obtain⟨r,rfl⟩:∃i:Nat,r=(i:Int):=⟨r.toNat,by omega⟩;ac_nf;refine⟨k,r,rfl,ok,by omega,?_⟩;ac_nf;refine⟨_,_,_,_,_,X,Y,rfl,ok.good (by omega),bX.mono (by decide),bY.mono (by decide),?_⟩;rw[(nK (k.S r) (k.T r) (k.R r) X Y).1,(nK (k.S r) (k.T r) (k.R r) X Y).2];obtain⟨c1,c2⟩:=ok.af (n:=r) (by omega) bX bY;exact⟨_,_,c1.mono (by omega),c2.mono (by omega),fd7.mono (by omega),A06.trans (cC.ad av7),rfl⟩
 ·rintro _ M7 ⟨X,Y,h1,h2,h3,h4,rfl⟩;ac_nf;exact⟨by decide,fin h1 h2 h3 h4⟩
theorem aKU (xs:List D)(lo hi:Option Int):(Dd.cutD xs lo hi).length<=xs.length:=by unfold Dd.cutD;rw[length_take,length_drop];omega
theorem zG {lss:List (List (Nat×Nat))}{lsss:List (List (List (Nat×Nat)))}(h:aDv lss lsss):(∀ls∈lss,aEG ls)/\∀x∈lsss,∀ls∈x,aEG ls :=
 ⟨λls m=>⟨λl hl=>((h.s ls m).ok l hl).2⟩,λx m ls m'=>⟨λl hl=>(((h.f x m).2.2 ls m').ok l hl).2⟩⟩
theorem PpQ.adv {M M':DM}{pp a:Addr}{n:Nat}{lss:List (List (Nat×Nat))}{lsss:List (List (List (Nat×Nat)))}(h:PpQ M pp lss lsss)(ps:aDv lss lsss)(fd:FdN M a n)(A:cC M M' a):PpQ M' pp lss lsss:=by obtain⟨as,bs,e,e1,e2,e3,e4⟩:=h;have R:eG M' as lss:=eG.adv ⟨e1,e3⟩ ps.s A (lT fd);refine⟨as,bs,A.l (aAb fd e) e,e1,e2,R.2,λi b x h1 h2=>?_⟩;obtain⟨cs,ec,RC⟩:=e4 i b x h1 h2;exact⟨cs,A.l (aAb fd ec) ec,eG.adv RC (ps.f x (mem_of_getElem? h2)).2.2 A (lT fd)⟩
def sp_law:DSp:=λds M Q=>∃ns:List Int,ds=[.fz (ns.map D.int)]/\ns.length<=63/\∀M',Q (.bl true) M'
noncomputable abbrev rJ:Stmt:=top 75
theorem lM:aS ["_law_script","_law_cell","_law_feed_here","_law_wanted","_law_one","_law_even","_law_k","_law_papers_here","_law_which","_law_point_here"] ["_law_script"] (aI rJ):=by ac_rfl
theorem aHm {f0:Addr}{fd0:FuncData}(hF:L2.Fun K "law" "law" rJ f0 fd0)(dB:mg "range" = none)(lI:Has P w K mg base 101 "_law_cell_at" ["_law_script","_law_k"] oA)(pZ:Has P w K mg base 101 "_law_feed" ["_law_cell"] tR)(qH:Has P w K mg base 105 "_law_kind" ["_law_feed_here"] uH)(iF:Has P w K mg base 109 "_law_picture" ["_law_feed_here","_law_wanted","_law_pieces"] nY)(jB:Has P w K mg base 104 "_law_papers" ["_law_feed_here","_law_one","_law_given"] pR)(oS:Has P w K mg base 108 "_law_point" ["_law_feed_here","_law_even"] rL)(lB:Has P w K mg base 110 "alike_shown" ["even","papers"] pA)(pI:Has P w K mg base 107 "_law_has" ["_law_even","_law_which","_law_point_here","_law_most"] xE):kC P w K mg base CX0 151 f0 fd0 ["_law_script"] (pT K sp_law):=by
 refine Fun.okZ hF lM (λds M Q ⟨ns,e,_⟩=>by rw[e];rfl) λcdv A outer s H ds M Q E hr h=>?_;obtain⟨ns,rfl,hl,q⟩:=h;refine⟨_,(aF (rZ PassesOwn.never rfl (aM eD (dZ (aA (aE lI hr (by decide) (aA (aB 0) (aA aC aD))) aD)) (aDJ (aB 0) (jU aC) (jU aC))) (aO (i:=1) lM.nd) (aF (aU (i:=2) lM.nd (aE pZ hr (by decide) (aA (aB 1) aD)))
  (aF (aU (i:=3) lM.nd (aE qH hr (by decide) (aA (aB 2) aD)))
  (aF (aU (i:=4) lM.nd (aE iF hr (by decide) (aA (aB 2) (aA (aB 3) (aA (dZ aD) aD)))))
  (aF (aU (i:=5) lM.nd (aK (aA (aB 3) (aA (aB 4) (aA (aE iF hr (by decide) (aA (aB 2) (aA (aB 3) (aA (aM eD (aG (aB 4) aC) (aG (aB 4) aC)) aD)))) aD)))))
  (aH (vR PassesOwn.never rfl dB (aA aC aD) (aO (i:=6) lM.nd) (aF (aU (i:=7) lM.nd (aK (aA (aE jB hr (by decide) (aA (aB 2) (aA (aG (aB 5) aC) (aA (aG (aB 5) aC) aD)))) (aA (aE jB hr (by decide) (aA (aB 2) (aA (aG (aB 5) aC) (aA (aG (aB 5) aC) aD)))) aD))))
  (aF (dF (aE oS hr (by decide) (aA (aB 2) (aA (aB 5) aD))) (dI (n:=2) rfl (aV (aO (i:=8) lM.nd) (aV (aO (i:=9) lM.nd) cW))))
  (aH (bA (gX (kJ (dW (aE lB hr (by decide) (aA (aB 5) (aA (aB 7) aD)))) (jS (dW (aE pI hr (by decide) (aA (aB 5) (aA (aB 8) (aA (aB 9) (aA aC aD))))))))) (aH (bA (fA (dW (aE pI hr (by decide) (aA (aB 5) (aA (aM lP aC (aB 8)) (aA (aB 9) (aA aC aD))))))) (aH (aJ dG)) aP)) aP)))))))))))
  (aH (aJ dG))),?_⟩
 ac_nf;refine⟨ns,0,rfl,λc0=>⟨by decide,λp hp p1 hp1=>⟨_,_,by rw[mM (gB aL hp1)];exact aL,aL,?_,λp2 hp2=>⟨_,aL,?_⟩⟩⟩⟩
 ·have:=aKU (ns.map D.int) (some 1) (some 3);rw[length_map] at this;show 1+_<=1000;omega
 have allI:∀(i:Nat)(d:D),([.int c0]++Dd.cutD (ns.map D.int) (some 1) (some 3))[i]?=some d->∃c,d=.int c:=λi d e=>by
  rcases List.mem_append.mp (mem_of_getElem? e) with z|z
  ·exact⟨c0,List.mem_singleton.mp z⟩
  ·obtain⟨c,_,rfl⟩:=List.mem_map.mp (aHu z);exact⟨c,rfl⟩
 have hL:bH (bH (bH M p [.int c0]) p1 (Dd.cutD (ns.map D.int) (some 1) (some 3))) p2 ([.int c0]++Dd.cutD (ns.map D.int) (some 1) (some 3)) (.l p2)=some ([.int c0]++Dd.cutD (ns.map D.int) (some 1) (some 3)):=aL;generalize bH (bH (bH M p [.int c0]) p1 (Dd.cutD (ns.map D.int) (some 1) (some 3))) p2 ([.int c0]++Dd.cutD (ns.map D.int) (some 1) (some 3))=M0 at hL ⊢;generalize [.int c0]++Dd.cutD (ns.map D.int) (some 1) (some 3)=cs at allI hL ⊢;refine⟨λi ρ M'=>bC M0 M'/\∃o1 o2 o3 o4 o5 o6 o7 o8 o9,ρ=[some (.fz (ns.map D.int)),o1,o2,o3,o4,o5,o6,o7,o8,o9],⟨.refl _,_,_,_,_,_,_,_,_,_,rfl⟩,?_,?_,?_⟩
 ·rintro i ρ M' _ ⟨s',_⟩ a' e;cases e;exact s' _ _ hL
 ·rintro i d1 ρ M' hd ⟨s0,o1,o2,o3,o4,o5,o6,o7,o8,o9,rfl⟩;obtain⟨c,rfl⟩:=allI i d1 hd;ac_nf;refine⟨c,rfl,λfa M1 hfa f1 a1=>?_⟩;have n0:∀b o,M0 b=some o->b ≠ .l fa:=λb o e=>cU (s0 b o e) hfa;have sA:∀{Ma Mb:DM},bC M0 Ma->cC Ma Mb fa->bC M0 Mb:=λsa a b o e=>a b (n0 b o e) o (sa b o e);have s1:=sA s0 (cC.ad a1);ac_nf;refine⟨fa,_,rfl,f1,by decide,λd M2 ⟨kd,ed,ok⟩ f2 a2=>?_⟩;subst ed;have s2:=sA s1 a2;ac_nf;refine⟨by decide,λq0 hq0=>?_⟩;have sq:bC M2 (bH M2 q0 []):=bC.new hq0 _;have e0:bH M2 q0 [] (.l q0)=some (([]:List Pc).map pcD):=aL;generalize bH M2 q0 []=M3 at sq e0 ⊢;have f3:=eO f2 sq;have s3:=s2.trans sq;refine⟨fa,_,kd,q0,[],rfl,f3,by decide,ok,e0,Nat.zero_le _,fG f3 e0,λpc h=>(by cases h),λl1 e1 st fl M4 pic1 D1 f4 a4=>?_⟩;have s4:=sA s3 a4;have k1:=D1.a rfl;ac_nf;refine⟨_,_,pic1.s,pic1.f,by rw[length_map,length_map];have:=D1.ns;have:=D1.nf;omega,λq1 hq1=>?_⟩;have sq1:bC M4 (bH M4 q1 (st.map pcD++fl.map pcD)):=bC.new hq1 _;have eq1:bH M4 q1 (st.map pcD++fl.map pcD) (.l q1)=some ((st++fl).map pcD):=by rw[aL,map_append]
  generalize bH M4 q1 (st.map pcD++fl.map pcD)=M5 at sq1 eq1 ⊢;have f5:=eO f4 sq1;have s5:=s4.trans sq1;have nl1:=fG f4 pic1.s;have nf1:=fG f4 pic1.f;refine⟨fa,_,kd,q1,st++fl,rfl,f5,by decide,ok,eq1,by rw[length_append];have:=D1.ns;have:=D1.nf;omega,fG f5 eq1,k1,λl2 e2 st2 fl2 M6 pic2 D2 f6 a6=>?_⟩;have s6:=sA s5 a6;have pic16:fK M6 l1 e1 st fl:=⟨a6.l nl1 (sq1 _ _ pic1.s),a6.l nf1 (sq1 _ _ pic1.f)⟩;have nl2:=fG f6 pic2.s;have nf2:=fG f6 pic2.f;ac_nf;refine⟨by decide,⟨by decide,by decide⟩,λj ρ M7=>cC M6 M7 fa/\FdN M7 fa (0+8+200+200+130*j)/\∃o6 o7 o8 o9,ρ=[some (.fz (ns.map D.int)),some (.int c),some (.ref fa),some (kdD kd),some (.tup [.ref l1,.ref e1]),some (evD kd l1 e1 l2 e2),o6,o7,o8,o9],⟨.refl _ _,f6,_,_,_,_,rfl⟩,?_,?_⟩
  ·rintro j ρ M7 hj ⟨a7,f7,o6,o7,o8,o9,rfl⟩;have hj6:j<6:=hj;have P1:fK M7 l1 e1 st fl:=⟨a7.l nl1 pic16.s,a7.l nf1 pic16.f⟩;have P2:fK M7 l2 e2 st2 fl2:=⟨a7.l nl2 pic2.s,a7.l nf2 pic2.f⟩;dsimp only[evD];ac_nf;refine⟨fa,_,l1,e1,st,fl,l2,e2,st2,fl2,rfl,f7,by omega,P1,P2,D1.ns,D1.nf,D2.ns,D2.nf,λpp lss lsss M8 pq1 n1 n2 ps1 f8 a8=>?_⟩;ac_nf;refine⟨fa,_,l2,e2,st2,fl2,l1,e1,st,fl,rfl,f8,by omega,⟨a8.l nl2 P2.s,a8.l nf2 P2.f⟩,⟨a8.l nl1 P1.s,a8.l nf1 P1.f⟩,D2.ns,D2.nf,D1.ns,D1.nf,λpp2 lss2 lsss2 M9 pq2 n3 n4 ps2 f9 a9=>⟨by decide,?_⟩⟩;have a79:=a8.trans a9;refine⟨fa,_,kd,l1,e1,l2,e2,st,fl,st2,fl2,rfl,f9,by omega,ok,⟨a79.l nl1 P1.s,a79.l nf1 P1.f⟩,⟨a79.l nl2 P2.s,a79.l nf2 P2.f⟩,D1.ns,D1.nf,D2.ns,D2.nf,D1.b,D2.b,λr v X Y M10 er hv bX bY f10 a10=>?_⟩;have a710:=a79.trans a10;have Q1:fK M10 l1 e1 st fl:=⟨a710.l nl1 P1.s,a710.l nf1 P1.f⟩;have Q2:fK M10 l2 e2 st2 fl2:=⟨a710.l nl2 P2.s,a710.l nf2 P2.f⟩;have pq1':=(pq1.adv ps1 f8 a9).adv ps1 f9 a10;have pq2':=pq2.adv ps2 f9 a10;have a610:=a7.trans a710;have g10:FdN M10 fa (0+8+200+200+130*(j+1)):=f10.mono (by omega);have B1:aGp st fl:=⟨D1.ns,D1.nf,λp hp=>(D1.b p hp).pcB (by decide) (by decide) (by decide)⟩;have B2:aGp st2 fl2:=⟨D2.ns,D2.nf,λp hp=>(D2.b p hp).pcB (by decide) (by decide) (by decide)⟩;have W1:yJ st fl:=⟨λp hp=>(D1.b p (mem_append_left _ hp)).2,λp hp=>(D1.b p (mem_append_right _ hp)).2⟩;have W2:yJ st2 fl2:=⟨λp hp=>(D2.b p (mem_append_left _ hp)).2,λp hp=>(D2.b p (mem_append_right _ hp)).2⟩;have nx:∀{M':DM}{o6 o7 o8 o9:Option D},bC M10 M'->cC M6 M' fa/\FdN M' fa (0+8+200+200+130*(j+1))/\∃p6 p7 p8 p9,[some (.fz (ns.map D.int)),some (.int c),some (.ref fa),some (kdD kd),some (.tup [.ref l1,.ref e1]),some (evD kd l1 e1 l2 e2),o6,o7,o8,o9]=[some (.fz (ns.map D.int)),some (.int c),some (.ref fa),some (kdD kd),some (.tup [.ref l1,.ref e1]),some (evD kd l1 e1 l2 e2),p6,p7,p8,p9]:=λs'=>⟨a610.trans (.of s' fa),eO g10 s',_,_,_,_,rfl⟩;ac_nf;refine⟨_,er,rfl,?_⟩;ac_nf;refine⟨kd,l1,l2,e1,e2,st,fl,st2,fl2,pp,pp2,lss,lsss,lss2,lsss2,rfl,ok,Q1,Q2,B1,B2,pq1',pq2',n1,n2,n3,n4,ps1,ps2,λM11 s11=>?_⟩;ac_nf;cases z:(psB kd st fl st2 fl2 lss lsss&&psB kd st2 fl2 st fl lss2 lsss2) with
   |false=>exact ifF (by decide) (nx s11)
   |true =>
    rw[Bool.and_eq_true] at z;refine ifT rfl ?_;have C1:∀p∈st++fl,pcB 250 p/\WfO p:=λp hp=>⟨B1.b p hp,(D1.b p hp).2⟩;have C2:∀p∈st2++fl2,pcB 250 p/\WfO p:=λp hp=>⟨B2.b p hp,(D2.b p hp).2⟩;obtain⟨la,ea,lb,eb,sa,fla,sb,flb,hva,hvb,PA,PB,m1,m2,m3,m4,CA,CB,imp⟩:∃la ea lb eb sa fla sb flb,(v=0/\la=l1/\ea=e1∨v=1/\la=l2/\ea=e2)/\(1-v=0/\lb=l1/\eb=e1∨1-v=1/\lb=l2/\eb=e2)/\fK M10 la ea sa fla/\fK M10 lb eb sb flb/\sa.length<=2/\fla.length<=2/\sb.length<=2/\flb.length<=2/\(∀p∈sa++fla,pcB 250 p/\WfO p)/\(∀p∈sb++flb,pcB 250 p/\WfO p)/\(nR kd sa fla X Y 13=true->nR kd sb flb X Y 31=true):=by
     rcases (show v=0∨v=1 by omega) with rfl|rfl
     ·exact⟨l1,e1,l2,e2,st,fl,st2,fl2,.inl ⟨rfl,rfl,rfl⟩,.inr ⟨rfl,rfl,rfl⟩,Q1,Q2,D1.ns,D1.nf,D2.ns,D2.nf,C1,C2,zA ok.pos W1 W2 n1 n2 (zG ps1).1 (zG ps1).2 z.1⟩
     ·exact⟨l2,e2,l1,e1,st2,fl2,st,fl,.inr ⟨rfl,rfl,rfl⟩,.inl ⟨rfl,rfl,rfl⟩,Q2,Q1,D2.ns,D2.nf,D1.ns,D1.nf,C2,C1,zA ok.pos W2 W1 n3 n4 (zG ps2).1 (zG ps2).2 z.2⟩
    refine⟨kd,l1,e1,l2,e2,la,ea,sa,fla,X,Y,v,13,rfl,ok,hva,PA.sub s11,m1,m2,CA,by decide,bX,bY,λM12 s12=>?_⟩;ac_nf;cases y:nR kd sa fla X Y 13 with
    |false=>exact ifF (by decide) (nx (s11.trans s12))
    |true =>
     rw[show(1:Int)-(v:Int)=((1-v:Nat):Int) by omega];refine ifT rfl ⟨kd,l1,e1,l2,e2,lb,eb,sb,flb,X,Y,1-v,31,rfl,ok,hvb,PB.sub (s11.trans s12),m3,m4,CB,by decide,bX,bY,λM13 s13=>?_⟩;rw[imp y];exact ifF (by decide) (nx ((s11.trans s12).trans s13))
  ·rintro ρ M7 ⟨a7,f7,o6,o7,o8,o9,rfl⟩;ac_nf;exact⟨sA s6 a7,_,_,_,_,_,_,_,_,_,rfl⟩
 ·rintro ρ M' ⟨_,o1,o2,o3,o4,o5,o6,o7,o8,o9,rfl⟩;ac_nf;exact bZ (q M')
theorem law_here (ns:List Int)(hl:ns.length<=63)(M:DM):sp_law [.fz (ns.map D.int)] M λd _=>d=.bl true:=⟨ns,rfl,hl,λ_=>rfl⟩
end
local macro_rules | `(tactic|subst_eqs) => `(tactic|(intro _ _ _ _ _ _ us hl;first |(obtain ⟨_,h⟩ := us1 hl;subst h;rfl) |(obtain ⟨_,_,h⟩ := us2 hl;subst h;rfl) |(obtain ⟨_,_,_,h⟩ := us3 hl;subst h;rfl) |(obtain ⟨_,_,_,_,h⟩ := us4 hl;subst h;rfl)))
theorem all_mk {l:PySem.W.OpenLaw}{w:World}{K:Frag}{h:Heap}{mg:Str->Option Value}{fa f0 f1 f2 f3 f4 f5 f6 f7 f8 f9 f10 f11 f12 f13 f14 f15 f16 f17 f18 f19 f20 f21 f22 f23 f24 f25 f26 f27 f28 f29 f30 f31 f32 f33 f34 f35 f36 f37 f42 f43 f44 f45 f46 f47 f48 f49 f50 f51 f52 f53 f54 f55 f56 f57 f58 f59 f60 f61:Addr}(X:K.In h)(G:h.Ns mainGlobals mg)(hfa:mg "law"=some (.ref fa)){C_Rounds:Addr}(ac_Rounds:nsIn K mainGlobals "Rounds"=some (some (.ref C_Rounds)))(oc_Rounds:Cls K C_Rounds)(on_Rounds_sort_of_map:findIn K (.ref C_Rounds) "sort_of_map"=some none)(on_Rounds_many_still:findIn K (.ref C_Rounds) "many_still"=some none)(on_Rounds_pieces:findIn K (.ref C_Rounds) "pieces"=some none)(on_Rounds_kept:findIn K (.ref C_Rounds) "kept"=some none){od61 an61:Option Addr}{sl61:Array (Option Value)}{oc61 kV61 dc61 pm61 cd61 ct61:Value}(b0:FK K "greatest_divisor" f0 fU)(b1:FK K "plus" f1 aCv)(b2:FK K "minus" f2 aAa)(b3:FK K "times" f3 zP)(b4:FK K "ratio" f4 aAF)(b5:FK K "below" f5 aAo)(b6:FK K "together" f6 qW)(b7:FK K "off" f7 aEe)(b8:FK K "grown" f8 aAi)(b9:FK K "turned" f9 wY)(b10:FK K "on_one_bottom" f10 iW)(b11:FK K "sign" f11 aCl)(b12:FK K "scaled_far" f12 mT)(b13:FK K "farther" f13 sP)(b14:FK K "side" f14 aBN)(b15:FK K "before" f15 xH)(b16:FK K "stretch" f16 tO)(b17:FK K "on_straight" f17 lH)(b18:FK K "ahead" f18 zT)(b19:FK K "on" f19 aI7)(b20:FK K "led" f20 aEW)(b21:FK K "first" f21 aAz)(b22:FK K "behind" f22 wD)(b23:FK K "led_piece" f23 kR)(b24:FK K "raised_whole" f24 kD)(b25:FK K "raised" f25 vU)(b26:FK K "_law_feed" f26 qQ)(b27:FK K "_law_draw" f27 qR)(b28:FK K "_law_cell_at" f28 lO)(b29:FK K "same_carrier" f29 jW)(b30:FK K "leads_straight" f30 gZ)(b31:FK K "leads_round" f31 lN)(b32:FK K "stepped_point" f32 iV)(b33:FK K "stepped_piece" f33 fO)(b34:FK K "is_chain" f34 mY)(b35:FK K "is_whole" f35 qD)(b36:FK K "is_round" f36 qV)(b37:FK K "is_place" f37 pX)(bi38:∃f fd,Mk K C_Rounds f/\L2.Fun K "__init__" "Rounds.__init__" iD f fd)(bm39:∃f fd,aBY K C_Rounds "piece_in" f/\L2.Fun K "piece_in" "Rounds.piece_in" eU f fd)(bm40:∃f fd,aBY K C_Rounds "has_link" f/\L2.Fun K "has_link" "Rounds.has_link" eP f fd)(bm41:∃f fd,aBY K C_Rounds "flows_on" f/\L2.Fun K "flows_on" "Rounds.flows_on" dH f fd)(b42:FK K "chain_shown" f42 fH)(b43:FK K "picture_shown" f43 iT)(b44:FK K "alike_shown" f44 lA)(b45:FK K "_law_small" f45 oP)(b46:FK K "_law_spot" f46 qX)(b47:FK K "_law_bowed" f47 oO)(b48:FK K "_law_piece" f48 nX)(b49:FK K "_law_kind" f49 pU)(b50:FK K "_law_mover" f50 oR)(b51:FK K "_law_power" f51 oQ)(b52:FK K "_law_spot_of" f52 lQ)(b53:FK K "_law_wider" f53 kL)(b54:FK K "_law_part" f54 qK)(b55:FK K "_law_picture" f55 fJ)(b56:FK K "_law_link" f56 pY)(b57:FK K "_law_chain_told" f57 fE)(b58:FK K "_law_papers" f58 gQ)(b59:FK K "_law_has" f59 lZ)(b60:FK K "_law_point" f60 nW)(a61:nsIn K mainGlobals "law" = some (some (.ref f61)))(l61:K.lookup f61 = some ⟨oc61,od61,.func (fnOf "law" "law" (mJ rJ) (eR rJ) (aI rJ) .none kV61 dc61 pm61 an61 cd61 ct61),sl61⟩)(c61:codeIn K cd61 "law"=true)(k61:keepIn K (.ref f61)=true)(z_abs:nsIn K mainGlobals "abs"=some none)(z_all:nsIn K mainGlobals "all"=some none)(z_bool:nsIn K mainGlobals "bool"=some none)(z_enumerate:nsIn K mainGlobals "enumerate"=some none)(z_int:nsIn K mainGlobals "int"=some none)(z_isinstance:nsIn K mainGlobals "isinstance"=some none)(z_len:nsIn K mainGlobals "len"=some none)(z_list:nsIn K mainGlobals "list"=some none)(z_max:nsIn K mainGlobals "max"=some none)(z_range:nsIn K mainGlobals "range"=some none)(z_set:nsIn K mainGlobals "set"=some none)(z_tuple:nsIn K mainGlobals "tuple"=some none){GFREE_KINDS:Addr}{odGFREE_KINDS:Option Addr}{nGFREE_KINDS:Nat}{slGFREE_KINDS:Array (Option Value)}{tGFREE_KINDS_0:Tok}{tGFREE_KINDS_1:Tok}(ag_FREE_KINDS:nsIn K mainGlobals "FREE_KINDS"=some (some (.ref GFREE_KINDS)))(lGFREE_KINDS:K.lookup GFREE_KINDS = some ⟨.type "tuple",odGFREE_KINDS,.seq #[.str "on" tGFREE_KINDS_0,.str "none" tGFREE_KINDS_1] nGFREE_KINDS,slGFREE_KINDS⟩){GMIDDLE:Addr}{odGMIDDLE:Option Addr}{nGMIDDLE:Nat}{slGMIDDLE:Array (Option Value)}{GMIDDLE_0:Addr}{odGMIDDLE_0:Option Addr}{nGMIDDLE_0:Nat}{slGMIDDLE_0:Array (Option Value)}{tGMIDDLE_0_0:Tok}{tGMIDDLE_0_1:Tok}{GMIDDLE_1:Addr}{odGMIDDLE_1:Option Addr}{nGMIDDLE_1:Nat}{slGMIDDLE_1:Array (Option Value)}{tGMIDDLE_1_0:Tok}{tGMIDDLE_1_1:Tok}(ag_MIDDLE:nsIn K mainGlobals "MIDDLE"=some (some (.ref GMIDDLE)))(lGMIDDLE:K.lookup GMIDDLE = some ⟨.type "tuple",odGMIDDLE,.seq #[.ref GMIDDLE_0,.ref GMIDDLE_1] nGMIDDLE,slGMIDDLE⟩)(lGMIDDLE_0:K.lookup GMIDDLE_0 = some ⟨.type "tuple",odGMIDDLE_0,.seq #[.int 0 tGMIDDLE_0_0,.int 1 tGMIDDLE_0_1] nGMIDDLE_0,slGMIDDLE_0⟩)(lGMIDDLE_1:K.lookup GMIDDLE_1 = some ⟨.type "tuple",odGMIDDLE_1,.seq #[.int 0 tGMIDDLE_1_0,.int 1 tGMIDDLE_1_1] nGMIDDLE_1,slGMIDDLE_1⟩){tGMOST_ROUND:Tok}(ag_MOST_ROUND:nsIn K mainGlobals "MOST_ROUND"=some (some (.int 2000 tGMOST_ROUND))){GONE:Addr}{odGONE:Option Addr}{nGONE:Nat}{slGONE:Array (Option Value)}{tGONE_0:Tok}{tGONE_1:Tok}(ag_ONE:nsIn K mainGlobals "ONE"=some (some (.ref GONE)))(lGONE:K.lookup GONE = some ⟨.type "tuple",odGONE,.seq #[.int 1 tGONE_0,.int 1 tGONE_1] nGONE,slGONE⟩):∃fd:FuncData,(∀(s:Shared)(v:Value),BindsTo s fd ⟨[v],[]⟩ [("_law_script",v)])/\∀base:Heap,K.In base->base.Ns mainGlobals mg->kC l.prog w K mg base CX0 151 fa fd ["_law_script"] (pT K sp_law):=by
 have e:=hfa.symm.trans (mg_of X G a61);cases e;have H0:=b0.has X G (ps:=["one","other"]) (by subst_eqs)
 have H1:=b1.has X G (ps:=["one","other"]) (by subst_eqs)
 have H2:=b2.has X G (ps:=["one","other"]) (by subst_eqs)
 have H3:=b3.has X G (ps:=["one","other"]) (by subst_eqs)
 have H4:=b4.has X G (ps:=["top","bottom"]) (by subst_eqs)
 have H5:=b5.has X G (ps:=["one","other"]) (by subst_eqs)
 have H6:=b6.has X G (ps:=["p","q"]) (by subst_eqs)
 have H7:=b7.has X G (ps:=["p","q"]) (by subst_eqs)
 have H8:=b8.has X G (ps:=["p","number"]) (by subst_eqs)
 have H9:=b9.has X G (ps:=["p","quarters"]) (by subst_eqs)
 have H10:=b10.has X G (ps:=["p"]) (by subst_eqs)
 have H11:=b11.has X G (ps:=["number"]) (by subst_eqs)
 have H12:=b12.has X G (ps:=["c","p"]) (by subst_eqs)
 have H13:=b13.has X G (ps:=["c","p","q"]) (by subst_eqs)
 have H14:=b14.has X G (ps:=["a","b","p"]) (by subst_eqs)
 have H15:=b15.has X G (ps:=["p","q"]) (by subst_eqs)
 have H16:=b16.has X G (ps:=["p","q"]) (by subst_eqs)
 have H17:=b17.has X G (ps:=["piece","p"]) (by subst_eqs)
 have H18:=b18.has X G (ps:=["c","a","p","q"]) (by subst_eqs)
 have H19:=b19.has X G (ps:=["piece","p"]) (by subst_eqs)
 have H20:=b20.has X G (ps:=["frame","p"]) (by subst_eqs)
 have H21:=b21.has X G (ps:=[]) λ_ _ _ _ _ _ us hl=>by obtain rfl:=us0 hl;rfl
 have H22:=b22.has X G (ps:=["one","other"]) (by subst_eqs)
 have H23:=b23.has X G (ps:=["frame","piece"]) (by subst_eqs)
 have H24:=b24.has X G (ps:=["number","n"]) (by subst_eqs)
 have H25:=b25.has X G (ps:=["number","n"]) (by subst_eqs)
 have H26:=b26.has X G (ps:=["_law_cell"]) (by subst_eqs)
 have H27:=b27.has X G (ps:=["_law_feed_here","_law_many"]) (by subst_eqs)
 have H28:=b28.has X G (ps:=["_law_script","_law_k"]) (by subst_eqs)
 have H29:=b29.has X G (ps:=["one","other"]) (by subst_eqs)
 have H30:=b30.has X G (ps:=["goal","pieces"]) (by subst_eqs)
 have H31:=b31.has X G (ps:=["goal","pieces"]) (by subst_eqs)
 have H32:=b32.has X G (ps:=["kind","n","p"]) (by subst_eqs)
 have H33:=b33.has X G (ps:=["kind","n","piece"]) (by subst_eqs)
 have H34:=b34.has X G (ps:=["goal","pieces"]) (by subst_eqs)
 have H35:=b35.has X G (ps:=["thing"]) (by subst_eqs)
 have H36:=b36.has X G (ps:=["thing","sort"]) (by subst_eqs)
 have H37:=b37.has X G (ps:=["thing","things"]) (by subst_eqs)
 have H38:aE3 K mg "Rounds" C_Rounds "Rounds.__init__" iD ["self","sort","picture"]:=by obtain⟨f,fd,hm,F⟩:=bi38;exact⟨f,fd,hm,mg_of X G ac_Rounds,F,F.binds (ps:=["self","sort","picture"]) (by subst_eqs)⟩
 have H39:wS K C_Rounds "piece_in" "Rounds.piece_in" eU ["self","number","n"]:=by obtain⟨f,fd,hm,F⟩:=bm39;exact⟨f,fd,hm,F,F.binds (ps:=["self","number","n"]) (by subst_eqs)⟩
 have H40:wS K C_Rounds "has_link" "Rounds.has_link" eP ["self","thing"]:=by obtain⟨f,fd,hm,F⟩:=bm40;exact⟨f,fd,hm,F,F.binds (ps:=["self","thing"]) (by subst_eqs)⟩
 have H41:wS K C_Rounds "flows_on" "Rounds.flows_on" dH ["self","links"]:=by obtain⟨f,fd,hm,F⟩:=bm41;exact⟨f,fd,hm,F,F.binds (ps:=["self","links"]) (by subst_eqs)⟩
 have H42:=b42.has X G (ps:=["goal","other","links"]) (by subst_eqs)
 have H43:=b43.has X G (ps:=["own","other","papers"]) (by subst_eqs)
 have H44:=b44.has X G (ps:=["even","papers"]) (by subst_eqs)
 have H45:=b45.has X G (ps:=["_law_feed_here"]) (by subst_eqs)
 have H46:=b46.has X G (ps:=["_law_feed_here"]) (by subst_eqs)
 have H47:=b47.has X G (ps:=["_law_c","_law_v","_law_way"]) (by subst_eqs)
 have H48:=b48.has X G (ps:=["_law_feed_here"]) (by subst_eqs)
 have H49:=b49.has X G (ps:=["_law_feed_here"]) (by subst_eqs)
 have H50:=b50.has X G (ps:=["_law_wanted"]) (by subst_eqs)
 have H51:=b51.has X G (ps:=["_law_frame","_law_n"]) (by subst_eqs)
 have H52:=b52.has X G (ps:=["_law_feed_here","_law_piece_here"]) (by subst_eqs)
 have H53:=b53.has X G (ps:=["_law_piece_here"]) (by subst_eqs)
 have H54:=b54.has X G (ps:=["_law_feed_here","_law_wanted","_law_pieces"]) (by subst_eqs)
 have H55:=b55.has X G (ps:=["_law_feed_here","_law_wanted","_law_pieces"]) (by subst_eqs)
 have H56:=b56.has X G (ps:=["_law_feed_here","_law_given"]) (by subst_eqs)
 have H57:=b57.has X G (ps:=["_law_feed_here","_law_given"]) (by subst_eqs)
 have H58:=b58.has X G (ps:=["_law_feed_here","_law_one","_law_given"]) (by subst_eqs)
 have H59:=b59.has X G (ps:=["_law_even","_law_which","_law_point_here","_law_most"]) (by subst_eqs)
 have H60:=b60.has X G (ps:=["_law_feed_here","_law_even"]) (by subst_eqs)
 have F61:=fun_mk (st:=rJ) l61 c61 k61;have o_Rounds:xR K C_Rounds ["sort_of_map","many_still","pieces","kept"]:=⟨oc_Rounds,λf hf=>by
  simp only[mem_cons,not_mem_nil,or_false] at hf;rcases hf with rfl|rfl|rfl|rfl
  ·exact on_Rounds_sort_of_map
  ·exact on_Rounds_many_still
  ·exact on_Rounds_pieces
  ·exact on_Rounds_kept⟩
 have aD3:=mg_none_of X G z_abs;have rN:=mg_none_of X G z_all;have aB1:=mg_none_of X G z_bool;have kN:=mg_none_of X G z_enumerate;have rD:=mg_none_of X G z_int;have bJ:=mg_none_of X G z_isinstance;have cG:=mg_none_of X G z_len;have qT:=mg_none_of X G z_list;have aEX:=mg_none_of X G z_max;have dB:=mg_none_of X G z_range;have aD5:=mg_none_of X G z_set;have eJ:=mg_none_of X G z_tuple;have nC:xU K mg "FREE_KINDS" (.tup [.str "on",.str "none"]):=⟨_,.ref GFREE_KINDS,mg_of X G ag_FREE_KINDS,rfl,λH=>(cM (xs:=[.str "on",.str "none"]) (.inr ⟨_,_,_,lGFREE_KINDS,rfl,rfl,by show(2:Nat)<=sizeLine;decide,(.cons ⟨_,rfl⟩ (.cons ⟨_,rfl⟩ .nil))⟩) (bN aAc (bN aAc cL)))⟩;have xB:xU K mg "MIDDLE" aMG:=⟨_,.ref GMIDDLE,mg_of X G ag_MIDDLE,rfl,λH=>(cM (xs:=[.ref GMIDDLE_0,.ref GMIDDLE_1]) (.inr ⟨_,_,_,lGMIDDLE,rfl,rfl,by show(2:Nat)<=sizeLine;decide,(.cons rfl (.cons rfl .nil))⟩) (bN (cM (xs:=[.int (0),.int (1)]) (.inr ⟨_,_,_,lGMIDDLE_0,rfl,rfl,by show(2:Nat)<=sizeLine;decide,(.cons ⟨_,rfl⟩ (.cons ⟨_,rfl⟩ .nil))⟩) (bN cA (bN cA cL))) (bN (cM (xs:=[.int (0),.int (1)]) (.inr ⟨_,_,_,lGMIDDLE_1,rfl,rfl,by show(2:Nat)<=sizeLine;decide,(.cons ⟨_,rfl⟩ (.cons ⟨_,rfl⟩ .nil))⟩) (bN cA (bN cA cL))) cL)))⟩;have mR:xU K mg "MOST_ROUND" (.int 2000):=⟨_,.int 2000,mg_of X G ag_MOST_ROUND,⟨_,rfl⟩,λH=>cA⟩;have aFv:xU K mg "ONE" aLq:=⟨_,.ref GONE,mg_of X G ag_ONE,rfl,λH=>(cM (xs:=[.int (1),.int (1)]) (.inr ⟨_,_,_,lGONE,rfl,rfl,by show(2:Nat)<=sizeLine;decide,(.cons ⟨_,rfl⟩ (.cons ⟨_,rfl⟩ .nil))⟩) (bN cA (bN cA cL)))⟩;refine⟨fnOf "law" "law" (mJ rJ) (eR rJ) (aI rJ) .none kV61 dc61 pm61 an61 cd61 ct61,λs v=>.of_eq rfl,λbase _ _=>?_⟩;have bF:=oE (P:=l.prog) (w:=w) (base:=base) H0 aD3;have lL:=aFg H1 bF;have iG:=aDx H2 lL;have cS:=aDq H3 bF;have aAr:=aDl H4 bF;have vH:=aDW (P:=l.prog) (w:=w) (base:=base) H5;have bL:=zM H6 lL;have pO:=aHI H7 iG;have mZ:=aDO H8 cS;have wP:=aCj (P:=l.prog) (w:=w) (base:=base) H9;have cF:=rB (P:=l.prog) (w:=w) (base:=base) H10;have sW:=aEQ (P:=l.prog) (w:=w) (base:=base) H11;have jD:=vX H12 cF;have jK:=aBa H13 jD sW;have lJ:=aFa H14 cF sW;have jR:=aCe H15 vH;have jJ:=aBh H16 jR;have lG:=uN H17 lJ jR;have pG:=aDZ H18 lJ;have sI:=aKF H19 lG jK pG;have rK:=aGJ H20 bL mZ wP;have iZ:=aDX (P:=l.prog) (w:=w) (base:=base) H21 xB aFv;have lR:=aBT H22 rK cS;have gC:=xX H23 rK jJ eJ;have eE:=tP (P:=l.prog) (w:=w) (base:=base) H24;have vQ:=aCh H25 eE;have pZ:=zQ (P:=l.prog) (w:=w) (base:=base) H26 rD;have aN:=aAQ (P:=l.prog) (w:=w) (base:=base) H27;have lI:=uU (P:=l.prog) (w:=w) (base:=base) H28 cG;have jP:=sS H29 lJ jK;have iB:=qF H30 sI;have lD:=uR H31 cG sI pG;have iU:=sK H32 bL pO mZ vQ;have iS:=rA H33 eJ iU;have qE:=aAu H34 cG rN sI jP iB lD;have eH:=aAf (P:=l.prog) (w:=w) (base:=base) H35 bJ rD aB1;have qO:=aAq H36 eH nC mR;have qP:=zR H37 cG eH;have iI:=uP (mg:=mg) (P:=l.prog) (w:=w) (base:=base) H38 cG o_Rounds;have cX:=pN (mg:=mg) H39 o_Rounds iS;have gL:=pM (mg:=mg) H40 bJ eJ cG o_Rounds qP eH qO;have gP:=pL (mg:=mg) (P:=l.prog) (w:=w) (base:=base) H41 rN o_Rounds;have kZ:=uS H42 bJ qT rN cG aD5 gL cX qE;have fN:=rW H43 bJ qT cG kN o_Rounds gP cX kZ;have lB:=uZ H44 bJ eJ cG iI fN;have kQ:=xS H45 aN aAr;have dU:=aAt H46 kQ;have fZ:=xN H47 iG lL cS bL;have oJ:=xM H48 aN dU jJ bL fZ;have qH:=zF H49 aN dU;have dJ:=xQ H50 iZ iG cS;have gA:=xO H51 dB iZ lR;have eM:=uO H52 aN pO bL cS fZ;have oV:=xV H53 eJ pO bL;have mW:=aAd H54 cG aN oJ gC gA dJ oV eM;have iF:=uY H55 dB aN mW;have qB:=aAP H56 cG aEX rD aN;have fD:=qM H57 dB aN qB;have jB:=wF H58 dB aN fD;have pI:=aBu H59 dB sI gC iZ lR dJ;have oS:=xL H60 cG aN dU eM gA dJ rK;exact aHm (P:=l.prog) (w:=w) (base:=base) F61 dB lI pZ qH iF jB oS lB pI
end Lw
namespace PySem.W.Fast
local macro_rules|`(#check $s:str)=>do
 let mut n:=0;let mut k:=0;let mut o:=#[]
 for c in s.getString.toList do
  n:=n*85+(if c.toNat<91 then c.toNat-35 else c.toNat-37);k:=k+1
  if k=10 then
   let i:=Lean.mkIdent (.mkSimple s!"tw{n}")
   o:=o.push (←`(command|noncomputable def $i:ident:Unit:=()));n:=0;k:=0
 return Lean.mkNullNode (o.map (·.raw))
#check "@KTSi'3^EZ9=%rZZU$<d/>*.?;9#)?K8GZ(0v0exs8O:5`EV^d&EoC-Io41$J1DtEc2W]vhv=n?cbY&w>ZJO:m+'ni(XZP0y'gqMlMTfE)th2hXQa_js^,S:6oMSO?Yr`YQsp_Z.C=PrTZv7=/V%fpdW.M0lGO5.gYp)mT%#9S%f4KnFVtl8'7Pq;8muQ6G#FAH-/d]j>%m#TllWUk.&Ju=KaM$ZTMK]7dN(UHVWhy:Onmjrey_M2_+L(XZR_W47]p?2&1dwSd&-)i*jxgL2da3Y^4Z1g1(2PIr0we#=A8;N;e61rwy*_D@MA;ZcT@jJG>%>2iiH*>-MHOMrP`_/-i_afJ]PAH<?x4GHC2B52jG)n-2]87nscNNTLoP^Y@&=EQ7a=T)tZNNIZ)*^I6Dau@phFH,jvnt7]woyQ+tp+MLp)?448a+'x>u+]vT4kxQr,-AvwfxZDJ>CUx#&9.rc.x-B/@DX'+'K*+GwgmT$sVDge#.,EiJPoK_N13er$@iHkg9Kr,u)X_T6#ysV]+IqRW-?/Rp+NIh0FjVJLfgyhImyTck_aC2I794lw0/p<kKq0T`^K<Mm#6,R'Djw_u%w?,y+O>H6%trQ]?bT7(baaQn$i_t0q/C:ge3ey](umhX0ewyGLQS)Y8?XuPgtP/1)cSRk+XiI*yh;9uIrl4L6IXPr%iS*?r)Bx+51tWfc3@#olFdW4&);1D5)vJ23>.I_q;Zb_4VF^JM'g''#TORZ.MkR`qVJtOOv)cO#GJ'Sl*yZt*:^H]b]Vb<3(L(Ipj5%90_e+4,x4josV.P?IS.-$qJtX'-fB#E^S;,3mP/jCP$dik;4=VulmMgk1B$Hsk>KTRR?Rr]#1=J8DarHoxJ0ShSZ9&ya:_(NMTww:E"
end PySem.W.Fast
open PySem PySem.W PyProof.Rows
set_option maxRecDepth 100000 in
set_option maxHeartbeats 0 in
theorem PySem.Challenge.cw_arcmill_k88_whole_what_is_let_by_is_so_holds : PySem.Challenge.rw_arcmill_k88_whole_what_is_let_by_is_so.Holds := by
 w_on;o_law;k_head;(case hw=>w_witness2)
 k_fill
 refine Dd.walk_ofD (l:=PySem.Challenge.rw_arcmill_k88_whole_what_is_let_by_is_so) (n:=63) (k:=151) (x:="_law_script") (sp:=Lw.sp_law) rfl (by decide) rfl ⟨rfl,by decide,by decide⟩ (λw h Y=>PySem.W.kIn_of Y) ?F Lw.law_here
 case F =>
  intro w mg fa h KX G hmg
  refine' Lw.all_mk KX G hmg ?ac_Rounds ?oc_Rounds ?on_Rounds_sort_of_map ?on_Rounds_many_still ?on_Rounds_pieces ?on_Rounds_kept ?b0 ?b1 ?b2 ?b3 ?b4 ?b5 ?b6 ?b7 ?b8 ?b9 ?b10 ?b11 ?b12 ?b13 ?b14 ?b15 ?b16 ?b17 ?b18 ?b19 ?b20 ?b21 ?b22 ?b23 ?b24 ?b25 ?b26 ?b27 ?b28 ?b29 ?b30 ?b31 ?b32 ?b33 ?b34 ?b35 ?b36 ?b37 ?bi38 ?bm39 ?bm40 ?bm41 ?b42 ?b43 ?b44 ?b45 ?b46 ?b47 ?b48 ?b49 ?b50 ?b51 ?b52 ?b53 ?b54 ?b55 ?b56 ?b57 ?b58 ?b59 ?b60 ?a61 ?l61 ?c61 ?k61 ?z_abs ?z_all ?z_bool ?z_enumerate ?z_int ?z_isinstance ?z_len ?z_list ?z_max ?z_range ?z_set ?z_tuple ?ag_FREE_KINDS ?lGFREE_KINDS ?ag_MIDDLE ?lGMIDDLE ?lGMIDDLE_0 ?lGMIDDLE_1 ?ag_MOST_ROUND ?ag_ONE ?lGONE
  (case ac_Rounds=>k_is)
  (case oc_Rounds=>exact⟨by k_is,by k_is,by k_is,by k_is⟩)
  (case on_Rounds_sort_of_map|on_Rounds_many_still|on_Rounds_pieces|on_Rounds_kept =>k_is)
  (case b0|b1|b2|b3|b4|b5|b6|b7|b8|b9|b10|b11|b12|b13|b14|b15|b16|b17|b18|b19|b20|b21|b22|b23|b24|b25|b26|b27|b28|b29|b30|b31|b32|b33|b34|b35|b36|b37 =>exact⟨by k_is,_,L2.fun_mk (by k_is) (by k_is) (by k_is)⟩)
  (case bi38=>exact⟨_,_,⟨by k_is,by k_is,by k_is,by k_is⟩,L2.fun_mk (by k_is) (by k_is) (by k_is)⟩)
  (case bm39=>exact⟨_,_,⟨by k_is,by k_is,by k_is⟩,L2.fun_mk (by k_is) (by k_is) (by k_is)⟩)
  (case bm40=>exact⟨_,_,⟨by k_is,by k_is,by k_is⟩,L2.fun_mk (by k_is) (by k_is) (by k_is)⟩)
  (case bm41=>exact⟨_,_,⟨by k_is,by k_is,by k_is⟩,L2.fun_mk (by k_is) (by k_is) (by k_is)⟩)
  (case b42|b43|b44|b45|b46|b47|b48|b49|b50|b51|b52|b53|b54|b55|b56|b57|b58|b59|b60 =>exact⟨by k_is,_,L2.fun_mk (by k_is) (by k_is) (by k_is)⟩)
  (case a61|l61|c61|k61|z_abs|z_all|z_bool|z_enumerate|z_int|z_isinstance|z_len|z_list|z_max|z_range|z_set|z_tuple|ag_FREE_KINDS|lGFREE_KINDS|ag_MIDDLE|lGMIDDLE|lGMIDDLE_0|lGMIDDLE_1|ag_MOST_ROUND|ag_ONE|lGONE =>k_is)
