import PyProof.Rows.All
import Wide.All
import OpenK.AllK
import Wide.FinOn
import Lean
import PyProof.EqAt
import PyProof.EqKinds
import PyProof.TupleCall
import PyProof.NeKinds
import PyProof.IsRules
import PyProof.CompFree
import KE.LcSums
import PyProof.FactsAll.range_1
import PyProof.SeqRoads2
import KE.KRevSl
import PyProof.ZipIter
import PyProof.TupleIter
import PyProof.FitsBits
import PyProof.NoPylong
import KE.IntBitsLaws
import PyProof.CompMap
import PyProof.AutoSeq1
import PyProof.SeqInW
import KE.KDictList
import PyProof.Rows.TupDisplay
import KE.KSortTup
import PyProof.Rows.SortKeyStr
import PyProof.ListMulRoad
import PyProof.Rows.SumAny
import PyProof.StrLawsOcc
import PyProof.FitsReplace
import PyProof.CollectIter
import PyProof.Rows.CountFlat
import PyProof.Draws
import PyProof.EnumMake
import PyProof.Rows.TupTab
import PyProof.Rows.SetFrom
import KE.KLam
import PySem.Challenge.RW_arcmill_k42_joined_on_a_circle
set_option Elab.async false
set_option linter.all false
set_option bootstrap.genMatcherCode false
set_option maxRecDepth 100000
open List (range mem_cons_self mem_cons_of_mem mem_append_left mem_append_right append_nil replicate length_take getElem?_map mem_of_getElem? length_append length_map size_toArray length_drop length_set replicate_succ flatten_cons map_nil map_cons length_cons toArray getElem?_set all_cons lookup_cons getElem?_eq_getElem getElem_mem append_assoc map_append nodup_nil map_map getElem?_eq_none getD_eq_getElem?_getD zip_cons_cons length_nil pairwise_singleton pairwise_map foldl_cons mem_singleton nodup_append map take_length Nodup mem_append filter_append filter_nil)
open PySem.W (instObj methodObj Frag lookIn kitOne kia_one kitx_list keepIn callWith_K fnOf codeIn nsIn mg_of CodeHd tabObj envX mg_none_of)
namespace L2
open PySem PySem.Spec PyProof.Rows
noncomputable abbrev Key:=Sum Int Str
noncomputable def aHZ:Key->Value->Bool
 |.inl k,v=>Value.isInt k v
 |.inr x,v=>Value.isStrOf x v
noncomputable def aJw (w:World):Key->Int
 |.inl k=>hashInt k
 |.inr x=>hashStr w x
theorem eC:∀{k:Key}{v:Value},aHZ k v=true->(∃i t,k=Sum.inl i/\v=Value.int i t)∨(∃x t,k=Sum.inr x/\v=Value.str x t)
 |.inl i,v,h=>by obtain⟨t,e⟩:=Value.isInt_shape (k:=i) (v:=v) h;exact .inl ⟨i,t,rfl,e⟩
 |.inr x,v,h=>by obtain⟨t,e⟩:=Value.isStrOf_shape (x:=x) (v:=v) h;exact .inr ⟨x,t,rfl,e⟩
theorem aIN (a b:Int):decide ((Sum.inl a:Key)=Sum.inl b)=(a==b):=by
 by_cases e:a=b
 ·subst e;simp
 ·have h:¬(Sum.inl a:Key)=Sum.inl b:=λq=>e (Sum.inl.inj q);rw[decide_eq_false h];exact(beq_eq_false_iff_ne.mpr e).symm
theorem aJr (a b:Str):decide ((Sum.inr a:Key)=Sum.inr b)=decide (a=b):=by
 by_cases e:a=b
 ·subst e;simp
 ·have h:¬(Sum.inr a:Key)=Sum.inr b:=λq=>e (Sum.inr.inj q);rw[decide_eq_false h,decide_eq_false e]
theorem aJU (a:Int)(b:Str):decide ((Sum.inl a:Key)=Sum.inr b)=false:=decide_eq_false (λq=>nomatch q)
theorem aKH (a:Str)(b:Int):decide ((Sum.inr a:Key)=Sum.inl b)=false:=decide_eq_false (λq=>nomatch q)
noncomputable def aCf (prog:Program)(w:World):PySem.KeyKind prog w Key where
 is:=aHZ
 hash:=aJw w
 inj:=λv a b ha hb=>by
  rcases eC ha with⟨i,t,rfl,rfl⟩|⟨x,t,rfl,rfl⟩
  ·rcases eC hb with⟨j,u,rfl,e⟩|⟨y,u,rfl,e⟩
   ·injection e with e1 _;rw[e1]
   ·exact nomatch e
  ·rcases eC hb with⟨j,u,rfl,e⟩|⟨y,u,rfl,e⟩
   ·exact nomatch e
   ·injection e with e1 _;rw[e1]
 byValue:=λk v h=>by rcases eC h with⟨i,t,rfl,rfl⟩|⟨x,t,rfl,rfl⟩<;>rfl
 pyHash:=λhv h=>by
  rcases eC hv with⟨i,t,rfl,rfl⟩|⟨x,t,rfl,rfl⟩
  ·exact wpAny_pyHash_int h
  ·exact wpAny_pyHash_str h
 eqBool:=λhu hv h=>by
  rcases eC hu with⟨i,t,rfl,rfl⟩|⟨x,t,rfl,rfl⟩
  ·rcases eC hv with⟨j,u,rfl,rfl⟩|⟨y,u,rfl,rfl⟩
   ·rw[aIN] at h;exact wpAny_eqBool_int h
   ·rw[aJU] at h;exact SeqAt.EqAt.int_str i t y u _ _ _ _ h
  ·rcases eC hv with⟨j,u,rfl,rfl⟩|⟨y,u,rfl,rfl⟩
   ·rw[aKH] at h;exact SeqAt.EqAt.str_int x t j u _ _ _ _ h
   ·rw[aJr] at h;exact wpAny_eqBool_str h
 «strs»:=λk x t v h=>by
  rcases eC h with⟨i,u,rfl,e⟩|⟨y,u,rfl,e⟩
  ·exact nomatch e
  ·injection e with e1 _
   subst e1;cases v<;>rfl
inductive V where
 |non|bl (b:Bool)|int (i:Int)|str (x:Str)|byt (b:Array UInt8)|flt (b:UInt64)|ref (a:Addr)|ty (n:String)
 deriving DecidableEq
def RelV:V->Value->Prop
 |.non,u=>u=Value.none
 |.bl b,u=>u=Value.bool b
 |.int i,u=>∃t,u=Value.int i t
 |.str x,u=>∃t,u=Value.str x t
 |.byt b,u=>∃t,u=Value.bytes b t
 |.flt b,u=>∃t,u=Value.float b t
 |.ref a,u=>u=Value.ref a
 |.ty n,u=>u=Value.type n
abbrev bU:List V->List Value->Prop:=Paired RelV
theorem bU.length {xs:List V}{us:List Value}(r:bU xs us):xs.length=us.length:=Paired.length r
theorem bU.get:∀{xs:List V}{us:List Value} {i:Nat} {x:V},bU xs us->xs[i]?=some x->∃u,us[i]?=some u/\RelV x u
 |_,_,_,_,.nil,e=>by simp at e
 |_,_,0,_,.cons r _,e=>by simp at e;subst e;exact⟨_,rfl,r⟩
 |_,_,i+1,x,.cons _ t,e=>by obtain⟨u,h1,h2⟩:=bU.get (i:=i) (x:=x) t (by simpa using e);exact⟨u,by simpa using h1,h2⟩
theorem bU.set {x:V}{u:Value}(r:RelV x u):∀{xs:List V}{us:List Value} (i:Nat),bU xs us->bU (xs.set i x) (us.set i u)
 |_,_,_,.nil=>.nil
 |_,_,0,.cons _ t=>.cons r t
 |_,_,i+1,.cons q t=>.cons q (bU.set r i t)
theorem bU.append:∀{xs ys:List V}{us ws:List Value},bU xs us->bU ys ws->bU (xs++ys) (us++ws)
 |_,_,_,_,.nil,s=>s
 |_,_,_,_,.cons r t,s=>.cons r (bU.append t s)
theorem bU.take:∀{xs:List V}{us:List Value} (n:Nat),bU xs us->bU (xs.take n) (us.take n)
 |_,_,0,_=>.nil
 |_,_,_+1,.nil=>.nil
 |_,_,n+1,.cons r t=>.cons r (bU.take n t)
theorem bU.drop:∀{xs:List V}{us:List Value} (n:Nat),bU xs us->bU (xs.drop n) (us.drop n)
 |_,_,0,r=>r
 |_,_,_+1,.nil=>.nil
 |_,_,n+1,.cons _ t=>bU.drop n t
def aKe:Option V->Option Value->Prop
 |some v,some u=>RelV v u
 |none,none=>True
 |_,_=>False
def KV {κ:Type}:List (κ×V)->List (κ×Value)->Prop:=Paired λ(p:κ×V)(q:κ×Value)=>p.1=q.1/\RelV p.2 q.2
noncomputable def kV:Key->V
 |.inl i=>.int i
 |.inr x=>.str x
inductive HO where
  |lst (xs:List V)
  |tup (xs:List V)
  |dK (kvs:List (Key×V))|dT (kvs:List (List Key×V))
  |set (S:Int->Bool) (n:Nat)
  |ins (C dx:Addr) (fs:List (Str×V))
  |own (x:Addr)
  |xd (fs:List (Str×V))
  |met (f x:Addr)
  |rng (lo hi:Int)
  |frz (o:Obj) (u:HO)
  |tbl (ps:Array Value)
  |ext (φ:Heap->Prop)
noncomputable abbrev Hp:=Addr->Option HO
noncomputable def upd (H:Hp)(a:Addr)(o:HO):Hp:=λb=>if b=a then some o else H b
theorem bI {H:Hp}{a:Addr}{o:HO}:upd H a o a=some o:=by unfold upd;rw[if_pos rfl]
theorem aL {H:Hp}{a b:Addr}{o:HO}(h:b≠a):upd H a o b=H b:=by unfold upd;rw[if_neg h]
theorem tZ {H:Hp}{a b:Addr}{o u:HO}(h:H a=some o)(h':H b=some u)(d:o≠u):a≠b:=by intro e;subst e;rw[h] at h';exact d (Option.some.inj h')
theorem aU {H:Hp}{a b:Addr}{o:HO}(h:H a=some o)(h':H b=none):a≠b:=by intro e;subst e;rw[h] at h';cases h'
section
variable (P:Program)(w:World)
def fR (H:Hp)(h:Heap)(a:Addr):HO->Prop
 |.lst xs=>xs.length<=sizeLine/\∃(its:List Value)(n:Nat),bU xs its/\h.get? a = some { cls:=.type "list",data:=.seq its.toArray n }
 |.tup xs=>xs.length<=sizeLine/\∃its:List Value,bU xs its/\IsTup h a its.toArray
 |.dK kvs=>kvs.length<=sizeLine/\(a==sysModules)=false/\∃vs,KV kvs vs/\h.DictOf (aCf P w) a vs
 |.dT kvs=>kvs.length<=sizeLine/\(a==sysModules)=false/\∃xs:List (List Key×Addr×Value),
   Paired (λ(p:List Key×V)(q:List Key×Addr×Value)=>p.1=q.1/\H q.2.1=some (.tup (p.1.map kV))/\RelV p.2 q.2.2) kvs xs /\
   ∃o es ep,h.get? a=some o/\o.ExactDict/\o.data=.dict es ep/\es.toList=xs.map (entryOfKey (tupleKind (aCf P w)))/\(xs.map (·.1)).Nodup
 |.set S n=>h.SetOf (intKind P w) a S n
 |.ins C dx fs=>H dx=some (.own a)/\fs.length<=1000/\dx≠a/\h.get? a=some (instObj C dx) /\
   ∃mA,h.Ns1 dx mA/\(∀f,aKe (fs.lookup f) (mA f))/\PySem.Within mA (fs.map (·.1))
 |.own _=>∃o,h.get? a=some o
 |.xd fs=>∃mA,h.Ns1 a mA/\∀f,aKe (fs.lookup f) (mA f)
 |.rng lo hi=>∃t u v,h.get? a = some { cls:=.type "range",data:=.fields #[.int lo t,.int hi u,.int 1 v] }
 |.frz o u=>h.get? a=some o/\fR H h a u
 |.tbl ps=>h.get? a=some { cls:=.none,data:=.fields ps }
 |.met f x=>h.get? a=some (methodObj (.ref f) (.ref x))
 |.ext φ=>φ h/\(∃o,h.get? a=some o)/\∀h1 h2:Heap,φ h1->(∀o,h1.get? a=some o->h2.get? a=some o)->φ h2
def HOk (H:Hp)(h:Heap):Prop:=∀a o,H a=some o->fR P w H h a o
end
section
variable {P:Program}{w:World}{H H':Hp}{h h':Heap}{a:Addr}{o:HO}
theorem fR.lt (x:fR P w H h a o):a<h.objs.size:=by
 cases o with
 |lst xs=>obtain⟨_,_,_,_,e⟩:=x;exact Heap.lt_size e
 |tup xs=>obtain⟨_,_,_,p⟩:=x;exact p.lt
 |dK kvs=>obtain⟨_,_,_,_,o,_,_,e,_⟩:=x;exact Heap.lt_size e
 |dT kvs=>obtain⟨_,_,_,_,o,_,_,e,_⟩:=x;exact Heap.lt_size e
 |set S n=>obtain⟨o,_,_,_,e,_⟩:=x;exact Heap.lt_size e
 |ins C dx fs=>obtain⟨_,_,_,e,_⟩:=x;exact Heap.lt_size e
 |own y=>obtain⟨_,e⟩:=x;exact Heap.lt_size e
 |xd fs=>obtain⟨_,⟨_,_,_,e,_⟩,_⟩:=x;exact Heap.lt_size e
 |rng lo hi=>obtain⟨_,_,_,e⟩:=x;exact Heap.lt_size e
 |frz ob u=>obtain⟨e,_⟩:=x;exact Heap.lt_size e
 |tbl ps=>exact Heap.lt_size (show h.get? a=some _ from x)
 |met f y=>exact Heap.lt_size (show h.get? a=some _ from x)
 |ext φ=>obtain⟨_,⟨_,e⟩,_⟩:=x;exact Heap.lt_size e
theorem Paired.mapP {α β:Type}{F G:α->β->Prop}:∀{l₁:List α}{l₂:List β},Paired F l₁ l₂->(∀a b,F a b->G a b)->Paired G l₁ l₂
 |_,_,.nil,_=>.nil
 |_,_,.cons r t,f=>.cons (f _ _ r) (Paired.mapP t f)
theorem fR.stay (x:fR P w H h a o)(k:∀b u,(b=a∨H b=some (.own a))->h.get? b=some u->h'.get? b=some u)(ho:∀b,H b=some (.own a)->H' b=some (.own a))(ht:∀b xs,H b=some (.tup xs)->H' b=some (.tup xs)):fR P w H' h' a o:=by
 induction o with
 |lst xs=>obtain⟨z,its,n,r,e⟩:=x;exact⟨z,its,n,r,k _ _ (.inl rfl) e⟩
 |tup xs=>obtain⟨z,its,r,ob,e,c⟩:=x;exact⟨z,its,r,ob,k _ _ (.inl rfl) e,c⟩
 |dK kvs=>obtain⟨z,y,vs,r,ob,es,ep,e,c⟩:=x;exact⟨z,y,vs,r,ob,es,ep,k _ _ (.inl rfl) e,c⟩
 |dT kvs =>
  obtain⟨z,y,xs,r,ob,es,ep,e,c⟩:=x;exact⟨z,y,xs,Paired.mapP r λp q z=>⟨z.1,ht _ _ z.2.1,z.2.2⟩,ob,es,ep,k _ _ (.inl rfl) e,c⟩
 |set S n=>obtain⟨ob,es,ep,t,e,c⟩:=x;exact⟨ob,es,ep,t,k _ _ (.inl rfl) e,c⟩
 |ins C dx fs =>
  obtain⟨d,z,ne,e,mA,⟨od,es,ep,e2,c⟩,r⟩:=x;exact⟨ho _ d,z,ne,k _ _ (.inl rfl) e,mA,⟨od,es,ep,k _ _ (.inr d) e2,c⟩,r⟩
 |own y=>obtain⟨ob,e⟩:=x;exact⟨ob,k _ _ (.inl rfl) e⟩
 |xd fs=>obtain⟨mA,⟨od,es,ep,e,c⟩,r⟩:=x;exact⟨mA,⟨od,es,ep,k _ _ (.inl rfl) e,c⟩,r⟩
 |rng lo hi=>obtain⟨t,u,v,e⟩:=x;exact⟨t,u,v,k _ _ (.inl rfl) e⟩
 |frz ob u ih=>obtain⟨e,q⟩:=x;exact⟨k _ _ (.inl rfl) e,ih q⟩
 |tbl ps =>
  have e:h.get? a=some { cls:=.none,data:=.fields ps }:=x;show h'.get? a=some { cls:=.none,data:=.fields ps };exact k a _ (.inl rfl) e
 |met f y =>
  have e:h.get? a=some (methodObj (.ref f) (.ref y)):=x;show h'.get? a=some (methodObj (.ref f) (.ref y));exact k a _ (.inl rfl) e
 |ext φ=>obtain⟨p,⟨o,e⟩,st⟩:=x;exact⟨st _ _ p λo q=>k _ _ (.inl rfl) q,⟨o,k _ _ (.inl rfl) e⟩,st⟩
theorem HOk.lt (x:HOk P w H h)(e:H a=some o):a<h.objs.size:=(x a o e).lt
theorem HOk.fresh (x:HOk P w H h)(e:h.objs.size<=a):H a=none:=by
 cases q:H a with
 |none=>rfl
 |some u=>exact absurd (Nat.lt_of_lt_of_le (x.lt q) e) (Nat.lt_irrefl _)
theorem HOk.kept (x:HOk P w H h)(k:∀b u,h.get? b=some u->h'.get? b=some u):HOk P w H h':=λa o e =>
 (x a o e).stay (λb u _ q=>k b u q) (λ_ q=>q) λ_ _ q=>q
theorem HOk.laid (x:HOk P w H h)(k:∀b u,h.get? b=some u->h'.get? b=some u)(hp:h.objs.size<=a)(new:fR P w (upd H a o) h' a o):HOk P w (upd H a o) h':=λb u e=>by
 have hn:=x.fresh hp;by_cases hb:b=a
 ·subst hb;rw[bI] at e;cases e;exact new
 ·rw[aL hb] at e;exact(x b u e).stay (λc v _ q=>k c v q) (λc q=>by rw[aL (aU q hn)];exact q) λc xs q=>by rw[aL (aU q hn)];exact q
end
def Rd (H:Hp)(a:Addr)(u:HO):Prop:=H a=some u ∨ ∃o,H a=some (.frz o u)
theorem Rd.ok {P:Program}{w:World}{H:Hp}{h:Heap}{a:Addr}{u:HO}(r:Rd H a u)(x:HOk P w H h):fR P w H h a u:=by
 rcases r with r|⟨o,r⟩
 ·exact x a u r
 ·obtain⟨_,q⟩:=x a _ r;exact q
def Mut:Option HO->Prop
 |some (.lst _)=>True
 |some (.dK _)=>True
 |some (.dT _)=>True
 |some (.set _ _)=>True
 |some (.ins _ _ _)=>True
 |some (.ext _)=>True
 |_=>False
section
variable {P:Program}{w:World}{H:Hp}{h h':Heap}{x e:Addr}{o':HO}
theorem HOk.write (ok:HOk P w H h)(mu:Mut (H x))(he:e=x∨H e=some (.own x))(k:∀b u,b≠e->h.get? b=some u->h'.get? b=some u)(heo:∃u,h'.get? e=some u)(new:fR P w (upd H x o') h' x o'):HOk P w (upd H x o') h':=λb u q=>by
 have nown:∀c y,H c=some (.own y)->c≠x:=λc y r z=>by subst z;rw[r] at mu;exact mu
 have ntup:∀c xs,H c=some (.tup xs)->c≠x:=λc xs r z=>by subst z;rw[r] at mu;exact mu
 by_cases hb:b=x
 ·subst hb;rw[bI] at q;cases q;exact new
 ·rw[aL hb] at q;by_cases hbe:b=e
  ·have q':H b=some (.own x):=by
    rcases he with z|z
    ·exact absurd (hbe.trans z) hb
    ·rw[hbe];exact z
   rw[q] at q';cases q';obtain⟨v,hv⟩:=heo;exact⟨v,by rw[hbe];exact hv⟩
  ·refine(ok b u q).stay (λc v hc r=>k c v ?_ r) (λc r=>by rw[aL (nown c b r)];exact r) λc xs r=>by rw[aL (ntup c xs r)];exact r
   rcases hc with rfl|hc
   ·exact hbe
   ·rintro rfl;rcases he with z|z
    ·exact nown c b hc z
    ·rw[hc] at z;cases z;exact hb rfl
end
structure Un (fs ex:List Addr)(H H':Hp)(h h':Heap):Prop where
 keep:∀b o,h.get? b=some o->H b=none->b∉fs->b∉ex->h'.get? b=some o
 slot:∀b o,h.get? b=some o->H b=none->b∈fs->b∉ex->∃sl,h'.get? b=some { o with slots:=sl }
 free:∀b o,h.get? b=some o->H b=none->b∉ex->H' b=none
 there:∀b o,h.get? b=some o->b∉ex->∃o',h'.get? b=some o'
 tups:∀b xs,H b=some (.tup xs)->H' b=some (.tup xs)
 frzs:∀b o u,H b=some (.frz o u)->H' b=some (.frz o u)
 tbls:∀b ps,H b=some (.tbl ps)->∃more,H' b=some (.tbl (ps++more))
section
variable {fs fs' ex ex':List Addr}{H H1 H2:Hp}{h h1 h2 h':Heap}{a x e:Addr}{o:HO}
theorem Un.any (u:Un fs ex H H1 h h1){b:Addr}{ob:Obj}(q:h.get? b=some ob)(n:H b=none)(hx:b∉ex):∃sl,h1.get? b=some { ob with slots:=sl }:=by
 by_cases hb:b∈fs
 ·exact u.slot b ob q n hb hx
 ·exact⟨ob.slots,u.keep b ob q n hb hx⟩
theorem Un.trans (a:Un fs ex H H1 h h1)(b:Un fs ex H1 H2 h1 h2):Un fs ex H H2 h h2 where
 keep:=λc ob q n hc hx=>b.keep c ob (a.keep c ob q n hc hx) (a.free c ob q n hx) hc hx
 slot:=λc ob q n hc hx=>by obtain⟨sl,e1⟩:=a.slot c ob q n hc hx;obtain⟨sl',e2⟩:=b.slot c _ e1 (a.free c ob q n hx) hc hx;exact⟨sl',e2⟩
 free:=λc ob q n hx=>by obtain⟨o',e1⟩:=a.there c ob q hx;exact b.free c o' e1 (a.free c ob q n hx) hx
 there:=λc ob q hx=>by obtain⟨o',e1⟩:=a.there c ob q hx;exact b.there c o' e1 hx
 tups:=λc xs q=>b.tups c xs (a.tups c xs q)
 frzs:=λc ob xs q=>b.frzs c ob xs (a.frzs c ob xs q)
 tbls:=λc ps q=>by obtain⟨m1,e1⟩:=a.tbls c ps q;obtain⟨m2,e2⟩:=b.tbls c _ e1;exact⟨m1++m2,by rw[e2,Array.append_assoc]⟩
theorem Un.kept (k:∀b u,h.get? b=some u->h'.get? b=some u):Un fs ex H H h h' :=
 ⟨λb ob q _ _ _=>k b ob q,λb ob q _ _ _=>⟨ob.slots,k b ob q⟩,λ_ _ _ n _=>n,λb ob q _=>⟨ob,k b ob q⟩,λ_ _ q=>q,λ_ _ _ q=>q,λ_ ps q=>⟨#[],by rw[q];simp⟩⟩
theorem Un.refl:Un fs ex H H h h:=Un.kept λ_ _ q=>q
theorem Un.laid (k:∀b u,h.get? b=some u->h'.get? b=some u)(hp:h.objs.size<=a)(hn:H a=none):Un fs ex H (upd H a o) h h' where
 keep:=λb u q _ _ _=>k b u q
 slot:=λb u q _ _ _=>⟨u.slots,k b u q⟩
 free:=λb u q n _=>by rw[aL (Nat.ne_of_lt (Nat.lt_of_lt_of_le (Heap.lt_size q) hp))];exact n
 there:=λb u q _=>⟨u,k b u q⟩
 tups:=λb xs q=>by rw[aL (aU q hn)];exact q
 frzs:=λb u xs q=>by rw[aL (aU q hn)];exact q
 tbls:=λb ps q=>⟨#[],by rw[aL (aU q hn),q];simp⟩
theorem Un.write (mu:Mut (H x))(he:e=x∨H e=some (.own x))(k:∀b u,b≠e->h.get? b=some u->h'.get? b=some u)(heo:∃u,h'.get? e=some u):Un fs ex H (upd H x o) h h':=by
 have hx:∀b,H b=none->b≠x:=λb n z=>by subst z;rw[n] at mu;exact mu
 have hb:∀b,H b=none->b≠e:=λb n z=>by
  subst z;rcases he with r|r
  ·exact hx b n r
  ·rw[n] at r;cases r
 have hm:∀b u,H b=some u->¬Mut (some u)->b≠x:=λb u q nm z=>by subst z;rw[q] at mu;exact nm mu
 refine⟨λb u q n _ _=>k b u (hb b n) q,λb u q n _ _=>⟨u.slots,k b u (hb b n) q⟩,λb u q n _=>by rw[aL (hx b n)];exact n,λb u q _=>?_,
  λb xs q=>by rw[aL (hm b _ q λz=>z)];exact q,λb u xs q=>by rw[aL (hm b _ q λz=>z)];exact q,λb ps q=>⟨#[],by rw[aL (hm b _ q λz=>z),q];simp⟩⟩
 by_cases hbe:b=e
 ·subst hbe;exact heo
 ·exact⟨u,k b u hbe q⟩
end
noncomputable def trk (h:Heap)(H:Hp):List Addr:=(range h.objs.size).filter λa=>(H a).isSome
noncomputable def vB (h:Heap)(H:Hp):Heap:=PySem.W.hideAll h (trk h H)
theorem aCZ (h:Heap)(H:Hp):(vB h H).objs.size=h.objs.size:=PySem.W.hideAll_size _ _
theorem aFG {h:Heap}{H:Hp}{b:Addr}{o:Obj}(e:h.get? b=some o)(n:H b=none):(vB h H).get? b=some o :=
 PySem.W.hideAll_get _ e λhm=>by have q:(H b).isSome=true:=(List.mem_filter.mp hm).2;rw[n] at q;simp at q
theorem aHy {h:Heap}{H:Hp}{b:Addr}{o:Obj}(e:(vB h H).get? b=some o):h.get? b=some o/\H b=none:=by
 have e':h.get? b=some o:=PySem.W.of_hideAll (trk h H) e;refine⟨e',?_⟩;cases q:H b with
 |none=>rfl
 |some x =>
  have hm:b∈trk h H:=List.mem_filter.mpr ⟨List.mem_range.mpr (Heap.lt_size e'),by simp[q]⟩;have z:(vB h H).get? b=none:=PySem.W.hideAll_none (trk h H) hm;rw[z] at e;cases e
noncomputable def oZ (g h:Heap)(L:Addr):List (Addr×Obj):=(range h.objs.size).filterMap λa=>if a=L∨(g.get? a).isSome=true then none else (h.get? a).map λo=>(a,o)
theorem oB {g h:Heap}{L a:Addr}{o:Obj}(h1:a≠L)(h2:g.get? a=none)(h3:h.get? a=some o):(a,o)∈oZ g h L :=
 List.mem_filterMap.mpr ⟨a,List.mem_range.mpr (Heap.lt_size h3),by simp[h1,h2,h3]⟩
theorem wC {g h:Heap}{L:Addr}{p:Addr×Obj}(hp:p∈oZ g h L):p.1≠L/\g.get? p.1=none/\h.get? p.1=some p.2:=by
 obtain⟨b,_,e⟩:=List.mem_filterMap.mp hp;split at e
 ·cases e
 ·rename_i hn;cases q:h.get? b with
  |none=>rw[q] at e;simp at e
  |some u =>
   rw[q] at e;simp only[Option.map_some,Option.some.injEq] at e;subst e;refine⟨λz=>hn (.inl z),?_,q⟩;show g.get? b=none;cases r:g.get? b with
   |none=>rfl
   |some v=>exact(hn (.inr (by simp[r]))).elim
noncomputable def cH (g h:Heap)(L d:Addr):List (Addr×Obj):=(oZ g h L).filter λp=>decide (p.1≠d)
theorem aBa {g h:Heap}{L:Addr}:News g L h (oZ g h L):=λp hp=>let ⟨a,b,c⟩:=wC hp;⟨c,a,b⟩
structure Mod (K:Frag)(mg:Str->Option Value)(base:Heap):Prop where
 kin:K.In base
 glob:base.Ns mainGlobals mg
 blt:∃mb,base.Ns builtinsNs mb/\∀x:Str,x ≠ "__name__"->mb x=bootBuiltins x
 nolimit:base.NoLimit
structure Cx where
 prog:Program
 w:World
 K:Frag
 mg:Str->Option Value
 base:Heap
 A:Around
 N:List Str
 s₀:Shared
 H₀:Hp
 env:Env
 outer:List Env
 stack:List Env
 ex:List Addr
 fn:Str->Bool
 calm:Bool
 pn:List (Addr×Obj)
 xe:Value->Shared->Prop
noncomputable def frs (l:List Env):List Addr:=l.filterMap (·.frame)
noncomputable abbrev Cx.fs (X:Cx):List Addr:=frs X.outer
def Vis (sc:Scope)(x:Str):Prop:=sc.names.lookup x=some .local∨sc.names.lookup x=some .cell∨sc.names.lookup x=some .free
def Loc (sc:Scope)(x:Str):Prop:=sc.names.lookup x=some .local∨sc.names.lookup x=some .cell
def aLb (env:Env)(h:Heap)(m:Str->Option Value)(x:Str)(u:Value):Prop :=
 (env.kindOf x=some .local/\m x=some u)∨((env.kindOf x=some .cell∨env.kindOf x=some .free)/\∃c,env.cells.lookup x=some c/\h.IsCell c (some u))
structure Cx.Ok (X:Cx):Prop where
 mod:Mod X.K X.mg X.base
 kind:X.env.scope.kind=.function
 glob:X.env.globals=mainGlobals
 blt:X.env.builtins=builtinsNs
 above:X.s₀.heap.objs.size<=X.env.locals
 inj:∀x y c,X.env.cells.lookup x=some c->X.env.cells.lookup y=some c->x=y
 has:∀x,(X.env.kindOf x=some .cell∨X.env.kindOf x=some .free)->∃c,X.env.cells.lookup x=some c
 cab:∀x c,X.fn x=true->X.env.cells.lookup x=some c->X.s₀.heap.objs.size<=c
 hd:X.calm=true->X.A.handled=none
 frames:X.A.frames=some X.stack
 stk:X.stack=X.outer∨(X.stack=X.env::X.outer/\X.env.frame=some X.env.locals)
 exf:∀b∈X.ex,b≠X.env.locals/\∀x c,X.env.cells.lookup x=some c->c≠b
 bs:∀b o,X.base.get? b=some o->X.s₀.heap.get? b=some o/\X.H₀ b=none
 bsz:X.base.objs.size<=X.s₀.heap.objs.size
 noex:∀b o,X.base.get? b=some o->b∉X.ex
 exfs:∀b∈X.ex,b∉X.fs
 funs:X.s₀.heap.FunFrames X.base X.outer
 frf:∀b∈X.fs,X.H₀ b=none
structure Inv (X:Cx)(pins:List (Addr×Obj))(σ:List (Option V))(H:Hp)(s:Shared):Prop where
 ok:X.Ok
 os:s.os=X.s₀.os
 bare:AllBare s.gens
 base:Un X.fs X.ex X.H₀ H X.s₀.heap s.heap
 loc:∃m,s.heap.Ns X.env.locals m/\∀(i:Nat)(x:Str) (v:V),X.N[i]?=some x->σ[i]?=some (some v)->Vis X.env.scope x->∃u,RelV v u/\aLb X.env s.heap m x u
 cell:∀x c,X.env.cells.lookup x=some c->∃v,s.heap.IsCell c v
 free:H X.env.locals=none
 freeC:∀x c,X.env.cells.lookup x=some c->H c=none
 pin:∀p∈X.pn++pins,s.heap.get? p.1=some p.2/\H p.1=none/\p.1≠X.env.locals/\p.1∉X.fs/\∀v,p.2.data ≠ .cell v
 hok:HOk X.prog X.w H s.heap
 len:σ.length=X.N.length
section
variable {X:Cx}{pins:List (Addr×Obj)}{σ:List (Option V)}{H H':Hp}{s:Shared}{h':Heap}
theorem Cx.Ok.nofr (ok:X.Ok){b:Addr}{o:Obj}(e:X.base.get? b=some o):b∉X.fs:=λhb=>by have:=(ok.funs.mem hb).1;rw[e] at this;cases this
theorem Inv.bs (I:Inv X pins σ H s):∀b o,X.base.get? b=some o->s.heap.get? b=some o/\H b=none:=λb o e =>
 ⟨I.base.keep b o (I.ok.bs b o e).1 (I.ok.bs b o e).2 (I.ok.nofr e) (I.ok.noex b o e),I.base.free b o (I.ok.bs b o e).1 (I.ok.bs b o e).2 (I.ok.noex b o e)⟩
theorem Inv.bk (I:Inv X pins σ H s):∀b o,X.base.get? b=some o->s.heap.get? b=some o:=λb o e=>(I.bs b o e).1
theorem Inv.mod (I:Inv X pins σ H s):Mod X.K X.mg X.base:=I.ok.mod
theorem Inv.kIn (I:Inv X pins σ H s):X.K.In s.heap:=I.ok.mod.kin.keeps I.bk
theorem Inv.fr (I:Inv X pins σ H s):∃m,Fr X.base X.env.locals s.heap m :=
 let ⟨m,hn,_⟩:=I.loc
 ⟨m,hn,I.bk,Nat.le_trans I.ok.bsz I.ok.above⟩
theorem Inv.lt (I:Inv X pins σ H s):X.env.locals<s.heap.objs.size:=let ⟨_,hn,_⟩:=I.loc;hn.lt
theorem Inv.sz (I:Inv X pins σ H s):X.s₀.heap.objs.size<=s.heap.objs.size:=Nat.le_trans I.ok.above (Nat.le_of_lt I.lt)
theorem Inv.nofs (I:Inv X pins σ H s){a:Addr}(h:s.heap.objs.size<=a):a∉X.fs:=λhb=>by obtain⟨_,o,ho,_⟩:=I.ok.funs.mem hb;exact absurd (Nat.lt_of_lt_of_le (Heap.lt_size ho) (Nat.le_trans I.sz h)) (Nat.lt_irrefl _)
theorem Inv.cne (I:Inv X pins σ H s):∀x c,X.env.cells.lookup x=some c->c≠X.env.locals:=λx c e z=>by obtain⟨v,o,ho,hd⟩:=I.cell x c e;obtain⟨m,⟨o',es,ep,ho',hd',_⟩,_⟩:=I.loc;rw[z,ho'] at ho;cases ho;rw[hd'] at hd;cases hd
theorem Inv.funs (I:Inv X pins σ H s):s.heap.FunFrames X.base X.outer:=by
 have all:∀(l:List Env),(∀b∈frs l,b∈X.fs)->X.s₀.heap.FunFrames X.base l->s.heap.FunFrames X.base l:=by
  intro l
  induction l with
  |nil=>intro _ _;trivial
  |cons env r ih =>
   intro hs hl;obtain⟨hk,⟨L,o,hf,hn,ho,hd⟩,hr⟩:=hl;have hL:L∈X.fs:=hs L (by unfold frs;rw[List.filterMap_cons,hf];exact mem_cons_self);obtain⟨sl,e⟩:=I.base.slot L o ho (I.ok.frf L hL) hL λz=>I.ok.exfs L z hL;exact⟨hk,⟨L,_,hf,hn,e,hd⟩,ih (λb hb=>hs b (by unfold frs;rw[List.filterMap_cons,hf];exact mem_cons_of_mem _ hb)) hr⟩
 exact all X.outer (λ_ hb=>hb) I.ok.funs
theorem Inv.stack (I:Inv X pins σ H s):s.heap.FunFrames X.base X.stack:=by
 rcases I.ok.stk with e|⟨e,hf⟩
 ·rw[e];exact I.funs
 ·rw[e];obtain⟨m,hn,_⟩:=I.loc;refine .cons (by rw[I.ok.kind];decide) hf hn ?_ I.funs;exact Heap.get?_none_of_le (Nat.le_trans I.ok.bsz I.ok.above)
theorem Inv.stkSub (I:Inv X pins σ H s):∀b∈frs X.stack,b∈X.env.locals::X.fs:=λb hb=>by
 rcases I.ok.stk with e|⟨e,hf⟩
 ·rw[e] at hb;exact mem_cons_of_mem _ hb
 ·rw[e] at hb;unfold frs at hb;rw[List.filterMap_cons,hf] at hb;exact hb
theorem Inv.stkFree (I:Inv X pins σ H s):∀b∈frs X.stack,H b=none:=λb hb=>by
 rcases List.mem_cons.mp (I.stkSub b hb) with e|hb
 ·rw[e];exact I.free
 ·obtain⟨_,o,ho,_⟩:=I.ok.funs.mem hb;exact I.base.free b o ho (I.ok.frf b hb) λz=>I.ok.exfs b z hb
theorem Inv.step {g':Array GenState}{t':Nat}{d':Drawn}{ch:List Addr}(I:Inv X pins σ H s)(hch:∀b∈ch,(b∈X.ex∨X.s₀.heap.objs.size<=b)/\b≠X.env.locals/\(∀x c,X.env.cells.lookup x=some c->c≠b)/\∀p∈X.pn++pins,p.1≠b)(keep:∀b o,b≠X.env.locals->b∉X.fs->b∉ch->s.heap.get? b=some o->H b=none->h'.get? b=some o)(slot:∀b o,b≠X.env.locals->b∈X.fs->b∉ch->s.heap.get? b=some o->H b=none->∃sl,h'.get? b=some { o with slots:=sl })(free:∀b o,b∉ch->s.heap.get? b=some o->H b=none->H' b=none)(there:∀b o,b∉ch->s.heap.get? b=some o->∃o',h'.get? b=some o')(tups:∀b xs,H b=some (.tup xs)->H' b=some (.tup xs))(frzs:∀b o u,H b=some (.frz o u)->H' b=some (.frz o u))(tbls:∀b ps,H b=some (.tbl ps)->∃more,H' b=some (.tbl (ps++more)))(ns:∀m,s.heap.Ns X.env.locals m->h'.Ns X.env.locals m)(hok:HOk X.prog X.w H' h')(hg:AllBare g') :
  Inv X pins σ H' { s with heap:=h',gens:=g',drawn:=d',toks:=t' }:=by
 have neL:∀b o,X.s₀.heap.get? b=some o->b≠X.env.locals:=λb o e=>Nat.ne_of_lt (Nat.lt_of_lt_of_le (Heap.lt_size e) I.ok.above);have neC:∀b o,X.s₀.heap.get? b=some o->b∉X.ex->b∉ch:=λb o e hx hb=>by
  rcases (hch b hb).1 with z|z
  ·exact hx z
  ·exact absurd (Nat.lt_of_lt_of_le (Heap.lt_size e) z) (Nat.lt_irrefl _)
 have cellK:∀x c,X.env.cells.lookup x=some c->∀v,s.heap.IsCell c v->h'.IsCell c v:=λx c e v ⟨o,ho,hd⟩=>by
  have nch:c∉ch:=λz=>(hch c z).2.2.1 x c e rfl;by_cases hc:c∈X.fs
  ·obtain⟨sl,q⟩:=slot c o (I.cne x c e) hc nch ho (I.freeC x c e);exact⟨_,q,hd⟩
  ·exact⟨o,keep c o (I.cne x c e) hc nch ho (I.freeC x c e),hd⟩
 refine⟨I.ok,I.os,hg,⟨λb o e n hb hx=>?_,λb o e n hb hx=>?_,λb o e n hx=>?_,λb o e hx=>?_,λb xs e=>tups b xs (I.base.tups b xs e),λb o xs e=>frzs b o xs (I.base.frzs b o xs e),λb ps e=>?_⟩,?_,λx c e=>?_,?_,λx c e=>?_,λp hp=>?_,hok,I.len⟩
 ·exact keep b o (neL b o e) hb (neC b o e hx) (I.base.keep b o e n hb hx) (I.base.free b o e n hx)
 ·obtain⟨sl,e1⟩:=I.base.slot b o e n hb hx;obtain⟨sl',e2⟩:=slot b _ (neL b o e) hb (neC b o e hx) e1 (I.base.free b o e n hx);exact⟨sl',e2⟩
 ·obtain⟨o',e1⟩:=I.base.there b o e hx;exact free b o' (neC b o e hx) e1 (I.base.free b o e n hx)
 ·obtain⟨o',e1⟩:=I.base.there b o e hx;exact there b o' (neC b o e hx) e1
 ·obtain⟨m1,e1⟩:=I.base.tbls b ps e;obtain⟨m2,e2⟩:=tbls b _ e1;exact⟨m1++m2,by rw[e2,Array.append_assoc]⟩
 ·obtain⟨m,hn,hl⟩:=I.loc;refine⟨m,ns m hn,λi x v e1 e2 e3=>?_⟩;obtain⟨u,r,l⟩:=hl i x v e1 e2 e3;refine⟨u,r,?_⟩;rcases l with l|⟨k,c,e,z⟩
  ·exact .inl l
  ·exact .inr ⟨k,c,e,cellK x c e _ z⟩
 ·obtain⟨v,z⟩:=I.cell x c e;exact⟨v,cellK x c e v z⟩
 ·obtain⟨m,⟨o,_,_,ho,_⟩,_⟩:=I.loc;exact free _ o (λz=>(hch _ z).2.1 rfl) ho I.free
 ·obtain⟨v,o,ho,hd⟩:=I.cell x c e;exact free c o (λz=>(hch c z).2.2.1 x c e rfl) ho (I.freeC x c e)
 ·obtain⟨e,n,ne,nf,d⟩:=I.pin p hp;have nch:p.1∉ch:=λz=>(hch p.1 z).2.2.2 p hp rfl;exact⟨keep p.1 p.2 ne nf nch e n,free p.1 p.2 nch e n,ne,nf,d⟩
theorem Inv.un {t':Nat}(I:Inv X pins σ H s)(u:Un X.fs [] H H' s.heap h')(hok:HOk X.prog X.w H' h'):Inv X pins σ H' { s with heap:=h',toks:=t' }:=by
 obtain⟨m,⟨o,es,ep,ho,r⟩,_⟩:=id I.loc;obtain⟨sl,hL⟩:=u.any ho I.free (by simp);exact I.step (g':=s.gens) (d':=s.drawn) (ch:=[]) (λ_ z=>nomatch z) (λb o _ hb _ e n=>u.keep b o e n hb (by simp)) (λb o _ hb _ e n=>u.slot b o e n hb (by simp)) (λb o _ e n=>u.free b o e n (by simp)) (λb o _ e=>u.there b o e (by simp)) u.tups u.frzs u.tbls (λm' hm=>by obtain⟨o',es',ep',ho',r'⟩:=hm;rw[ho] at ho';cases ho';exact⟨_,es',ep',hL,r'⟩) hok I.bare
theorem Inv.call {g':Array GenState}{t':Nat}{d':Drawn}{ch:List Addr}(I:Inv X pins σ H s)(u:Un (frs X.stack) ch H H' s.heap h')(hok:HOk X.prog X.w H' h')(hg:AllBare g')(hch:∀b∈ch,(b∈X.ex∨X.s₀.heap.objs.size<=b)/\b≠X.env.locals/\(∀x c,X.env.cells.lookup x=some c->c≠b)/\∀p∈X.pn++pins,p.1≠b) :
  Inv X pins σ H' { s with heap:=h',gens:=g',drawn:=d',toks:=t' }:=by
 obtain⟨m,⟨o,es,ep,ho,r⟩,_⟩:=id I.loc;obtain⟨sl,hL⟩:=u.any ho I.free λz=>(hch _ z).2.1 rfl;exact I.step (ch:=ch) hch (λb o hL hb hc e n=>u.keep b o e n (λz=>(List.mem_cons.mp (I.stkSub b z)).elim hL hb) hc) (λb o _ _ hc e n=>u.any e n hc) (λb o hc e n=>u.free b o e n hc) (λb o hc e=>u.there b o e hc) u.tups u.frzs u.tbls (λm' hm=>by obtain⟨o',es',ep',ho',r'⟩:=hm;rw[ho] at ho';cases ho';exact⟨_,es',ep',hL,r'⟩) hok hg
theorem Inv.turned {t':Nat}{it:Addr}(I:Inv X pins σ H s)(k:∀b o,b≠it->s.heap.get? b=some o->h'.get? b=some o)(hn:H it=none)(hL:it≠X.env.locals)(h1:it∈X.ex∨X.s₀.heap.objs.size<=it)(h2:∀x c,X.env.cells.lookup x=some c->c≠it)(h3:∀p∈X.pn++pins,p.1≠it):Inv X pins σ H { s with heap:=h',toks:=t' }:=by
 have nit:∀b u,H b=some u->b≠it:=λb u e z=>by rw[z,hn] at e;cases e
 refine I.step (g':=s.gens) (d':=s.drawn) (ch:=[it]) (λb hb=>?_) (λb o _ _ hc e _=>k b o (λz=>hc (by simp[z])) e) (λb o _ _ hc e _=>⟨o.slots,k b o (λz=>hc (by simp[z])) e⟩) (λ_ _ _ _ n=>n)
  (λb o hc e=>⟨o,k b o (λz=>hc (by simp[z])) e⟩) (λ_ _ e=>e) (λ_ _ _ e=>e) (λb ps e=>⟨#[],by rw[e];simp⟩) (λm hm=>?_) (λb u e=>?_) I.bare
 ·have e:b=it:=by simpa using hb
  subst e;exact⟨h1,hL,h2,h3⟩
 ·obtain⟨o,es,ep,ho,r⟩:=hm;exact⟨o,es,ep,k _ o (Ne.symm hL) ho,r⟩
 ·refine(I.hok b u e).stay (λc v hc q=>k c v ?_ q) (λ_ q=>q) λ_ _ q=>q;rcases hc with z|z
  ·rw[z];exact nit b u e
  ·exact nit c _ z
theorem Inv.tok (I:Inv X pins σ H s)(t:Nat):Inv X pins σ H { s with toks:=t }:=I.un (h':=s.heap) (t':=t) Un.refl I.hok
theorem Inv.kept {t':Nat}(I:Inv X pins σ H s)(k:∀b u,s.heap.get? b=some u->h'.get? b=some u):Inv X pins σ H { s with heap:=h',toks:=t' }:=I.un (Un.kept k) (I.hok.kept k)
theorem Inv.laid {a:Addr}{o:HO}{t':Nat}(I:Inv X pins σ H s)(k:∀b u,s.heap.get? b=some u->h'.get? b=some u)(hp:s.heap.objs.size<=a)(new:fR X.prog X.w (upd H a o) h' a o) :
  Inv X pins σ (upd H a o) { s with heap:=h',toks:=t' }:=I.un (Un.laid k hp (I.hok.fresh hp)) (I.hok.laid k hp new)
theorem Inv.write {x e:Addr}{o:HO}{t':Nat}(I:Inv X pins σ H s)(mu:Mut (H x))(he:e=x∨H e=some (.own x))(k:∀b u,b≠e->s.heap.get? b=some u->h'.get? b=some u)(heo:∃u,h'.get? e=some u)(new:fR X.prog X.w (upd H x o) h' x o):Inv X pins σ (upd H x o) { s with heap:=h',toks:=t' }:=I.un (Un.write mu he k heo) (I.hok.write mu he k heo new)
theorem Inv.pins_of {pins':List (Addr×Obj)}(I:Inv X pins σ H s)(h:∀p∈pins',s.heap.get? p.1=some p.2/\H p.1=none/\p.1≠X.env.locals/\p.1∉X.fs/\∀v,p.2.data ≠ .cell v):Inv X pins' σ H s :=
 ⟨I.ok,I.os,I.bare,I.base,I.loc,I.cell,I.free,I.freeC,λp hp=>(List.mem_append.mp hp).elim (λz=>I.pin p (mem_append_left _ z)) (h p),I.hok,I.len⟩
theorem aAO {N:List Str}(hN:N.Nodup){i j:Nat}{x:Str}(a:N[i]?=some x)(b:N[j]?=some x):i=j:=by obtain⟨h1,e1⟩:=List.getElem?_eq_some_iff.mp a;obtain⟨h2,e2⟩:=List.getElem?_eq_some_iff.mp b;exact(List.getElem_inj hN).mp (e1.trans e2.symm)
theorem xO {M:Model}{A:Around}{E:Value->Shared->Prop}{i:Nat}{x:Str}{v:V}{u:Value}{Q:Unit->Shared->Prop}(I:Inv X pins σ H s)(hN:X.N.Nodup)(hi:X.N[i]?=some x)(hx:Loc X.env.scope x)(r:RelV v u)(h:∀s',Inv X pins (σ.set i (some v)) H s'->(∃a,Heap.SameBut a s.heap s'.heap/\(a=X.env.locals∨X.env.cells.lookup x=some a))->Q () s')(hf:X.fn x=true∨X.env.scope.names.lookup x=some .local:=by first|exact .inl rfl|exact .inr rfl|assumption):wpAny M A (storeName X.env x u) Q E s:=by
 obtain⟨m,hn,hl⟩:=id I.loc;have hcls:(X.env.scope.kind == .class||(X.env.scope.kind == .module&&X.env.locals != X.env.globals))=false:=by rw[I.ok.kind];rfl
 have hiσ:i<σ.length:=by rw[I.len];exact(List.getElem?_eq_some_iff.mp hi).1
 have cne:=I.cne;have tracked:∀{a:Addr}{h':Heap},(∃o,s.heap.get? a=some o/\H a=none)->Heap.SameBut a s.heap h'->HOk X.prog X.w H h':=λ{a h'} ha hs b ob e=>by
  obtain⟨_,_,hfree⟩:=ha;refine(I.hok b ob e).stay (λc w' hc q=>(hs.2 c ?_).trans q) (λ_ q=>q) λ_ _ q=>q;rintro rfl;rcases hc with rfl|hc
  ·rw[hfree] at e;cases e
  ·rw[hfree] at hc;cases hc
 rcases hx with hk|hk
 ·refine wpAny_storeName_local hk hn (λh' hn' hs=>?_) hcls;obtain⟨oL,_,_,hoL,_⟩:=id hn;refine h _ ⟨I.ok,I.os,I.bare,⟨λb o e n hb hx=>?_,λb o e n hb hx=>?_,I.base.free,λb o e hx=>?_,I.base.tups,I.base.frzs,I.base.tbls⟩,⟨_,hn',λj y v' e1 e2 e3=>?_⟩,λy c e=>?_,I.free,I.freeC,λp hp=>?_,tracked ⟨oL,hoL,I.free⟩ hs,by simpa using I.len⟩ ⟨_,hs,.inl rfl⟩
  ·exact(hs.2 b (Nat.ne_of_lt (Nat.lt_of_lt_of_le (Heap.lt_size e) I.ok.above))).trans (I.base.keep b o e n hb hx)
  ·obtain⟨sl,e1⟩:=I.base.slot b o e n hb hx;exact⟨sl,(hs.2 b (Nat.ne_of_lt (Nat.lt_of_lt_of_le (Heap.lt_size e) I.ok.above))).trans e1⟩
  ·obtain⟨o',e1⟩:=I.base.there b o e hx;exact⟨o',(hs.2 b (Nat.ne_of_lt (Nat.lt_of_lt_of_le (Heap.lt_size e) I.ok.above))).trans e1⟩
  ·by_cases hj:j=i
   ·subst hj;rw[hi] at e1;cases e1;rw[List.getElem?_set_self hiσ] at e2;cases e2;exact⟨u,r,.inl ⟨hk,by simp⟩⟩
   ·rw[List.getElem?_set_ne (Ne.symm hj)] at e2;obtain⟨u',r',q⟩:=hl j y v' e1 e2 e3;refine⟨u',r',?_⟩;rcases q with⟨k,e⟩|⟨k,c,e,z⟩
    ·refine .inl ⟨k,?_⟩;have:y≠x:=λe=>hj (aAO hN e1 (e ▸ hi));simp[this,e]
    ·exact .inr ⟨k,c,e,z.sameBut hs (cne y c e)⟩
  ·obtain⟨w',z⟩:=I.cell y c e;exact⟨w',z.sameBut hs (cne y c e)⟩
  ·obtain⟨e,n,ne,nf,d⟩:=I.pin p hp;exact⟨(hs.2 p.1 ne).trans e,n,ne,nf,d⟩
 ·have hfn:X.fn x=true:=by
   rcases hf with z|z
   ·exact z
   ·rw[z] at hk;cases hk
  obtain⟨c,hc⟩:=I.ok.has x (.inl hk);obtain⟨w',z⟩:=I.cell x c hc;refine wpAny_storeName_cell I.ok.kind hk hc z (λh' hc' hs=>?_);obtain⟨oc,hoc,hocd⟩:=id z;refine h { s with heap:=h' } ⟨I.ok,I.os,I.bare,⟨λb o e n hb hx=>?_,λb o e n hb hx=>?_,I.base.free,λb o e hx=>?_,I.base.tups,I.base.frzs,I.base.tbls⟩,⟨m,hn.sameBut hs (Ne.symm (cne x c hc)),λj y v' e1 e2 e3=>?_⟩,λy c' e=>?_,I.free,I.freeC,λp hp=>?_,tracked ⟨oc,hoc,I.freeC x c hc⟩ hs,by simpa using I.len⟩ ⟨c,hs,.inr hc⟩
  ·exact(hs.2 b (Nat.ne_of_lt (Nat.lt_of_lt_of_le (Heap.lt_size e) (I.ok.cab x c hfn hc)))).trans (I.base.keep b o e n hb hx)
  ·obtain⟨sl,e1⟩:=I.base.slot b o e n hb hx;exact⟨sl,(hs.2 b (Nat.ne_of_lt (Nat.lt_of_lt_of_le (Heap.lt_size e) (I.ok.cab x c hfn hc)))).trans e1⟩
  ·obtain⟨o',e1⟩:=I.base.there b o e hx;exact⟨o',(hs.2 b (Nat.ne_of_lt (Nat.lt_of_lt_of_le (Heap.lt_size e) (I.ok.cab x c hfn hc)))).trans e1⟩
  ·by_cases hj:j=i
   ·subst hj;rw[hi] at e1;cases e1;rw[List.getElem?_set_self hiσ] at e2;cases e2;exact⟨u,r,.inr ⟨.inl hk,c,hc,hc'⟩⟩
   ·rw[List.getElem?_set_ne (Ne.symm hj)] at e2;obtain⟨u',r',q⟩:=hl j y v' e1 e2 e3;refine⟨u',r',?_⟩;rcases q with q|⟨k,c',e,z'⟩
    ·exact .inl q
    ·refine .inr ⟨k,c',e,z'.sameBut hs ?_⟩;rintro rfl;exact hj (aAO hN e1 (I.ok.inj _ _ _ e hc ▸ hi))
  ·by_cases hcc:c'=c
   ·subst hcc;exact⟨_,hc'⟩
   ·obtain⟨w2,z2⟩:=I.cell y c' e;exact⟨w2,z2.sameBut hs hcc⟩
  ·obtain⟨e,n,ne,nf,d⟩:=I.pin p hp;refine⟨(hs.2 p.1 ?_).trans e,n,ne,nf,d⟩;intro q;rw[q,hoc] at e;have q':oc=p.2:=Option.some.inj e;exact d w' (by rw[<- q'];exact hocd)
theorem nG {M:Model}{A:Around}{E:Value->Shared->Prop}{i:Nat}{x:Str}{v:V}{u:Value}{Q:Unit->Shared->Prop}(I:Inv X pins σ H s)(hN:X.N.Nodup)(hi:X.N[i]?=some x)(hx:Loc X.env.scope x)(r:RelV v u)(h:∀s',Inv X pins (σ.set i (some v)) H s'->Q () s')(hf:X.fn x=true∨X.env.scope.names.lookup x=some .local:=by first|exact .inl rfl|exact .inr rfl|assumption):wpAny M A (storeName X.env x u) Q E s :=
 xO I hN hi hx r (λs' I' _=>h s' I') hf
theorem Inv.call' {s':Shared}{ch:List Addr}(I:Inv X pins σ H s)(ho:s'.os=s.os)(u:Un (frs X.stack) ch H H' s.heap s'.heap)(hok:HOk X.prog X.w H' s'.heap)(hg:AllBare s'.gens)(hch:∀b∈ch,(b∈X.ex∨X.s₀.heap.objs.size<=b)/\b≠X.env.locals/\(∀x c,X.env.cells.lookup x=some c->c≠b)/\∀p∈X.pn++pins,p.1≠b):Inv X pins σ H' s':=by obtain⟨h',g',d',t',o'⟩:=s';have e:o'=s.os:=ho;subst e;exact I.call (g':=g') (t':=t') (d':=d') u hok hg hch
end
abbrev XK:=Value->Option Addr->Hp->Prop
noncomputable abbrev St:=List (Option V)
abbrev VK:=V->Hp->Prop
abbrev TE:=St->Hp->VK->Prop
abbrev TT:=St->Hp->(Bool->Hp->Prop)->Prop
abbrev TA:=St->Hp->(List V->Hp->Prop)->Prop
structure uD where
 nx:St->Hp->Prop
 rt:VK
 bk:St->Hp->Prop:=λ_ _=>False
 ct:St->Hp->Prop:=λ_ _=>False
abbrev TS:=uD->St->Hp->Prop
def EP (X:Cx)(pins:List (Addr×Obj))(σ:St)(Q:VK)(u:Value)(s':Shared):Prop:=∃v H',Inv X pins σ H' s'/\RelV v u/\Q v H'
def TP (X:Cx)(pins:List (Addr×Obj))(σ:St)(Q:Bool->Hp->Prop)(b:Bool)(s':Shared):Prop:=∃H',Inv X pins σ H' s'/\Q b H'
def AP (X:Cx)(pins:List (Addr×Obj))(σ:St)(Q:List V->Hp->Prop)(us:List Value)(s':Shared):Prop:=∃vs H',Inv X pins σ H' s'/\bU vs us/\Q vs H'
def SP (X:Cx)(pins:List (Addr×Obj))(D:uD)(f:Flow)(s':Shared):Prop :=
 match f with
 |.next=>∃σ' H',Inv X pins σ' H' s'/\D.nx σ' H'
 |.brk=>∃σ' H',Inv X pins σ' H' s'/\D.bk σ' H'
 |.cont=>∃σ' H',Inv X pins σ' H' s'/\D.ct σ' H'
 |.ret u=>∃v σ' H',Inv X pins σ' H' s'/\RelV v u/\D.rt v H'
def PE (X:Cx)(e:Expr)(t:TE):Prop :=
 ∀(pins:List (Addr×Obj)) (s:Shared) (σ:St) (H:Hp) (Q:VK),Inv X pins σ H s->t σ H Q->wpAny (model X.prog X.w) X.A (eval e X.env) (EP X pins σ Q) X.xe s
def PT (X:Cx)(e:Expr)(t:TT):Prop :=
 ∀(pins:List (Addr×Obj)) (s:Shared) (σ:St) (H:Hp) (Q:Bool->Hp->Prop),Inv X pins σ H s->t σ H Q->wpAny (model X.prog X.w) X.A (isTrue e X.env (eval e X.env)) (TP X pins σ Q) X.xe s
def PW (X:Cx)(e:Expr)(t:TT):Prop :=
 ∀(whole:Sem Value)(pins:List (Addr×Obj)) (s:Shared) (σ:St) (H:Hp) (Q:Bool->Hp->Prop),Inv X pins σ H s->t σ H Q->wpAny (model X.prog X.w) X.A (isTrue e X.env whole) (TP X pins σ Q) X.xe s
theorem PW.pt {X:Cx}{e:Expr}{t:TT}(h:PW X e t):PT X e t:=h _
def PA (X:Cx)(es:List Expr)(t:TA):Prop :=
 ∀(pos:Pos)(pins:List (Addr×Obj)) (s:Shared) (σ:St) (H:Hp) (Q:List V->Hp->Prop),Inv X pins σ H s->t σ H Q->wpAny (model X.prog X.w) X.A (spliced (backTo pos (starEach es X.env))) (AP X pins σ Q) X.xe s
def PS (X:Cx)(st:Stmt)(t:TS):Prop :=
 ∀(pins:List (Addr×Obj)) (s:Shared) (σ:St) (H:Hp) (D:uD),Inv X pins σ H s->t D σ H->wpAny (model X.prog X.w) X.A (exec st X.env) (SP X pins D) X.xe s
def PSs (X:Cx)(st:List Stmt)(t:TS):Prop :=
 ∀(pins:List (Addr×Obj)) (s:Shared) (σ:St) (H:Hp) (D:uD),Inv X pins σ H s->t D σ H->wpAny (model X.prog X.w) X.A (execs st X.env) (SP X pins D) X.xe s
theorem thn {α:Type}{t:Sem α}{Q Q':α->Shared->Prop}{M:Model}{A:Around}{E:Value->Shared->Prop}{s:Shared}(h:wpAny M A t Q E s)(hQ:∀a s,Q a s->Q' a s):wpAny M A t Q' E s:=wpAny_mono h hQ λ_ _ x=>x
section
variable {X:Cx}
def aMw (i:Nat):TE:=λσ H Q=>∃v,σ[i]?=some (some v)/\Q v H
def tC (v:V):TE:=λ_ H Q=>Q v H
theorem aD9 {i:Nat}{x:Str}{pos:Pos}(hN:X.N[i]?=some x)(hv:Vis X.env.scope x)(hd:(x==("__debug__":Str))=false:=by decide)(hcd:(x==("__classdict__":Str))=false:=by decide):PE X (.Name x pos) (aMw i):=by
 intro pins s σ H Q I h;obtain⟨v,e,h⟩:=h;obtain⟨m,hn,hl⟩:=I.loc;obtain⟨u,r,l⟩:=hl i x v hN e hv;have fin:EP X pins σ Q u s:=⟨v,H,I,r,h⟩;rcases l with⟨hk,hm⟩|⟨hk,c,hc,hcell⟩
 ·exact wpAny_Name (wpAny_loadName_local I.ok.kind hk hn hm fin) hd
 ·rcases hk with hk|hk
  ·exact wpAny_Name (wpAny_loadName_cell I.ok.kind hk hc hcell fin) hd
  ·exact wpAny_Name (wpAny_loadName_free I.ok.kind hk hc hcell fin hcd) hd
theorem aKr {i j pos}:PE X (.Constant (.int i) j pos) (tC (.int i)):=λ_ _ _ H _ I h=>wpAny_Constant_int ⟨.int i,H,I.tok _,⟨_,rfl⟩,h⟩
theorem aLp {b j pos}:PE X (.Constant (.bool b) j pos) (tC (.bl b)):=λ_ _ _ H _ I h=>Constant_bool ⟨.bl b,H,I,rfl,h⟩
theorem aJB {j pos}:PE X (.Constant .none j pos) (tC .non):=λ_ _ _ H _ I h=>Constant_none ⟨.non,H,I,rfl,h⟩
theorem aKB {x j pos}:PE X (.Constant (.str x) j pos) (tC (.str x)):=λ_ _ _ H _ I h=>Calls.Constant_str ⟨.str x,H,I.tok _,⟨_,rfl⟩,h⟩
def Gl (X:Cx)(x:Str):Prop:=X.env.kindOf x=some .globalImplicit
theorem yM {E:Value->Shared->Prop}{pins:List (Addr×Obj)}{s:Shared}{σ:St}{H:Hp}{x:Str}{u:Value}{pos:Pos}{Q:Value->Shared->Prop}(I:Inv X pins σ H s)(hg:Gl X x)(hm:X.mg x=some u)(h:Q u s)(hd:(x==("__debug__":Str))=false:=by decide):wpAny (model X.prog X.w) X.A (eval (.Name x pos) X.env) Q E s :=
 Calls.Name_function_global I.ok.kind hg (Calls.loadGlobal_global (by rw[I.ok.glob];exact I.mod.glob.keeps I.bk) hm h) hd
theorem yP {E:Value->Shared->Prop}{pins:List (Addr×Obj)}{s:Shared}{σ:St}{H:Hp}{x:Str}{u:Value}{pos:Pos}{Q:Value->Shared->Prop}(I:Inv X pins σ H s)(hg:Gl X x)(hm:X.mg x=none)(hv:bootBuiltins x=some u)(h:Q u s)(hn:x ≠ "__name__":=by decide)(hd:(x==("__debug__":Str))=false:=by decide):wpAny (model X.prog X.w) X.A (eval (.Name x pos) X.env) Q E s:=by obtain⟨mb,h1,h2⟩:=I.mod.blt;exact Calls.Name_function_global I.ok.kind hg (Calls.loadGlobal_builtin (by rw[I.ok.glob];exact I.mod.glob.keeps I.bk) hm (by rw[I.ok.blt];exact h1.keeps I.bk) ((h2 x hn).trans hv) h) hd
theorem aGH {x:Str}{v:V}{u:Value}{pos:Pos}(hg:Gl X x)(hm:X.mg x=some u)(r:RelV v u)(hd:(x==("__debug__":Str))=false:=by decide):PE X (.Name x pos) (tC v) :=
 λ_ _ _ H _ I h=>yM I hg hm ⟨v,H,I,r,h⟩ hd
theorem aG8 {x:Str}{v:V}{u:Value}{pos:Pos}(hg:Gl X x)(hm:X.mg x = none)(hv:bootBuiltins x = some u)(r:RelV v u)(hn:x ≠ "__name__":=by decide)(hd:(x==("__debug__":Str))=false:=by decide):PE X (.Name x pos) (tC v) :=
 λ_ _ _ H _ I h=>yP I hg hm hv ⟨v,H,I,r,h⟩ hn hd
variable {a b:Expr}{ta tb:TE}{pos:Pos}
def tB (t:TE):TT:=λσ H Q=>t σ H λx H1=>∃c,x=.bl c/\Q c H1
theorem aIQ {e:Expr}{t:TE}(h:PE X e t)(he:∀whole,isTrue e X.env whole=(do let v <- whole;standAt e.pos;holding [v] (truthy v)):=by intro _;rfl):PT X e (tB t):=by intro pins s σ H Q I hw;refine isTrue_plain (thn (h pins s σ H _ I hw) λv s1 ⟨x,H1,I1,r1,q1⟩=>?_) (he _);obtain⟨d,rfl,q⟩:=q1;cases r1;exact wpAny_truthy_bool ⟨H1,I1,q⟩
variable {tA tB':TT}{cH:List Expr}
def aMJ (t u:TT):TT:=λσ H Q=>t σ H λc H1=>if c=true then u σ H1 Q else Q false H1
def tOr (t u:TT):TT:=λσ H Q=>t σ H λc H1=>if c=true then Q true H1 else u σ H1 Q
def aNd (t:TT):TT:=λσ H Q=>t σ H λc H1=>Q (!c) H1
theorem aGx (ha:PT X a tA):PW X (.BoolOp .And [a] pos) tA:=by
 intro wh pins s σ H Q I h;refine isTrue_and (thn (ha pins s σ H Q I h) λc s1 e=>?_);cases c with
 |true=>exact isTrue_and_nil e
 |false=>exact e
theorem aIf (ha:PT X a tA):PW X (.BoolOp .Or [a] pos) tA:=by
 intro wh pins s σ H Q I h;refine isTrue_or (thn (ha pins s σ H Q I h) λc s1 e=>?_);cases c with
 |false=>exact isTrue_or_nil e
 |true=>exact e
theorem aIH (ha:PT X a tA)(hb:PW X (.BoolOp .And (b::cH) pos) tB'):PW X (.BoolOp .And (a::b::cH) pos) (aMJ tA tB'):=by
 intro wh pins s σ H Q I h;refine isTrue_and (thn (ha pins s σ H _ I h) λc s1 ⟨H1,I1,q1⟩=>?_);cases c with
 |true=>exact hb wh pins s1 σ H1 Q I1 q1
 |false=>exact⟨H1,I1,q1⟩
theorem aLs (ha:PT X a tA)(hb:PW X (.BoolOp .Or (b::cH) pos) tB'):PW X (.BoolOp .Or (a::b::cH) pos) (tOr tA tB'):=by
 intro wh pins s σ H Q I h;refine isTrue_or (thn (ha pins s σ H _ I h) λc s1 ⟨H1,I1,q1⟩=>?_);cases c with
 |true=>exact⟨H1,I1,q1⟩
 |false=>exact hb wh pins s1 σ H1 Q I1 q1
theorem aJq (ha:PT X a tA):PT X (.UnaryOp .Not a pos) (aNd tA):=by intro pins s σ H Q I h;exact isTrue_not (ha pins s σ H (λc H1=>Q (!c) H1) I h)
def aLa (ta tb:TE):TE:=λσ H Q=>ta σ H λx H1=>∃c,x=.bl c/\if c=true then tb σ H1 Q else Q (.bl false) H1
def aMA (ta tb:TE):TE:=λσ H Q=>ta σ H λx H1=>∃c,x=.bl c/\if c=true then Q (.bl true) H1 else tb σ H1 Q
def aKO (ta:TE):TE:=λσ H Q=>ta σ H λx H1=>∃c,x=.bl c/\Q (.bl (!c)) H1
theorem aKj {op}{t:TE}(h:PE X a t):PE X (.BoolOp op [a] pos) t:=λpins s σ H Q I hw=>BoolOp_one (h pins s σ H Q I hw)
theorem aIW (ha:PE X a ta)(hb:PE X (.BoolOp .And (b::cH) pos) tb):PE X (.BoolOp .And (a::b::cH) pos) (aLa ta tb):=by
 intro pins s σ H Q I h;refine BoolOp_and (thn (ha pins s σ H _ I h) λv s1 ⟨x,H1,I1,r1,q1⟩=>?_);obtain⟨c,rfl,q1⟩:=q1;cases r1;refine wpAny_truthy_bool ?_;cases c with
 |true=>exact hb pins s1 σ H1 Q I1 q1
 |false=>exact⟨.bl false,H1,I1,rfl,q1⟩
theorem aLQ (ha:PE X a ta)(hb:PE X (.BoolOp .Or (b::cH) pos) tb):PE X (.BoolOp .Or (a::b::cH) pos) (aMA ta tb):=by
 intro pins s σ H Q I h;refine BoolOp_or (thn (ha pins s σ H _ I h) λv s1 ⟨x,H1,I1,r1,q1⟩=>?_);obtain⟨c,rfl,q1⟩:=q1;cases r1;refine wpAny_truthy_bool ?_;cases c with
 |false=>exact hb pins s1 σ H1 Q I1 q1
 |true=>exact⟨.bl true,H1,I1,rfl,q1⟩
theorem aIk (ha:PE X a ta):PE X (.UnaryOp .Not a pos) (aKO ta):=by intro pins s σ H Q I h;refine UnaryOp_ (thn (ha pins s σ H _ I h) λv s1 ⟨x,H1,I1,r1,q1⟩=>?_);obtain⟨c,rfl,q1⟩:=q1;cases r1;exact not_of (wpAny_truthy_bool ⟨.bl (!c),H1,I1,rfl,q1⟩)
def tIf (t:TT)(ta tb:TE):TE:=λσ H Q=>t σ H λc H1=>if c=true then ta σ H1 Q else tb σ H1 Q
theorem aFp {c:Expr}(hc:PT X c tA)(ha:PE X a ta)(hb:PE X b tb):PE X (.IfExp c a b pos) (tIf tA ta tb):=by
 intro pins s σ H Q I h;refine wpAny_IfExp (thn (hc pins s σ H _ I h) λd s1 ⟨H1,I1,q1⟩=>?_);cases d with
 |true=>exact ha pins s1 σ H1 Q I1 q1
 |false=>exact hb pins s1 σ H1 Q I1 q1
end
def SqL (K:Frag)(H:Hp)(a:Addr)(xs:List V):Prop :=
 Rd H a (.lst xs) ∨
  ∃(o:Obj)(its:Array Value) (n:Nat),K.lookup a = some o/\o.cls = .type "list"/\o.dict=none/\o.data=.seq its n/\its.size<=sizeLine/\bU xs its.toList
def SqT (K:Frag)(H:Hp)(a:Addr)(xs:List V):Prop :=
 Rd H a (.tup xs) ∨
  ∃(o:Obj)(its:Array Value) (n:Nat),K.lookup a = some o/\o.cls = .type "tuple"/\o.data=.seq its n/\its.size<=sizeLine/\bU xs its.toList
noncomputable def aMy:Value->Option V
 |.none=>some .non
 |.bool b=>some (.bl b)
 |.int i _=>some (.int i)
 |.str x _=>some (.str x)
 |.bytes b _=>some (.byt b)
 |.float b _=>some (.flt b)
 |.ref a=>some (.ref a)
 |.type n=>some (.ty n)
 |_=>none
theorem RelV.abs {x:V}{u:Value}(r:RelV x u):aMy u=some x:=by
 cases x with
 |non=>cases r;rfl
 |bl _=>cases r;rfl
 |int _=>obtain⟨t,rfl⟩:=r;rfl
 |str _=>obtain⟨t,rfl⟩:=r;rfl
 |byt _=>obtain⟨t,rfl⟩:=r;rfl
 |flt _=>obtain⟨t,rfl⟩:=r;rfl
 |ref _=>cases r;rfl
 |ty _=>cases r;rfl
theorem RelV.inj {x y:V}{u:Value}(r:RelV x u)(q:RelV y u):x=y:=Option.some.inj (r.abs.symm.trans q.abs)
theorem bU.inj:∀{xs ys:List V}{us:List Value},bU xs us->bU ys us->xs=ys
 |_,_,_,.nil,.nil=>rfl
 |_,_,_,.cons r t,.cons r' t'=>by rw[r.inj r',bU.inj t t']
section
variable {X:Cx}{pins:List (Addr×Obj)}{σ:St}{H:Hp}{s:Shared}{a:Addr}{xs ys:List V}
theorem SqL.of {K:Frag}(h:H a=some (.lst xs)):SqL K H a xs:=.inl (.inl h)
theorem SqT.of {K:Frag}(h:H a=some (.tup xs)):SqT K H a xs:=.inl (.inl h)
theorem Inv.list (I:Inv X pins σ H s)(h:SqL X.K H a xs):∃its:List Value,bU xs its/\PlainL s.heap a its.toArray/\xs.length<=sizeLine:=by
 rcases h with h|⟨o,its,n,hk,hc,hd,hs,hz,r⟩
 ·obtain⟨z,its,n,r,e⟩:=h.ok I.hok;exact⟨its,r,⟨_,n,e,rfl,rfl,rfl⟩,z⟩
 ·refine⟨its.toList,r,⟨o,n,I.kIn a o hk,hc,hd,by simpa using hs⟩,?_⟩;have e:=r.length;simp only[Array.length_toList] at e;omega
theorem Inv.tuple (I:Inv X pins σ H s)(h:SqT X.K H a xs):∃its:List Value,bU xs its/\IsTup s.heap a its.toArray/\xs.length<=sizeLine:=by
 rcases h with h|⟨o,its,n,hk,hc,hs,hz,r⟩
 ·obtain⟨z,its,r,p⟩:=h.ok I.hok;exact⟨its,r,p,z⟩
 ·refine⟨its.toList,r,⟨o,I.kIn a o hk,hc,n,by simpa using hs⟩,?_⟩;have e:=r.length;simp only[Array.length_toList] at e;omega
theorem Inv.list_inj (I:Inv X pins σ H s)(h:SqL X.K H a xs)(h':SqL X.K H a ys):xs=ys:=by
 obtain⟨its,r,⟨o,n,e,_,_,d⟩,_⟩:=I.list h;obtain⟨its',r',⟨o',n',e',_,_,d'⟩,_⟩:=I.list h';rw[e] at e';cases e';rw[d] at d';injection d' with d1 _
 have:its=its':=by simpa using congrArg Array.toList d1
 subst this;exact r.inj r'
theorem Inv.tuple_inj (I:Inv X pins σ H s)(h:SqT X.K H a xs)(h':SqT X.K H a ys):xs=ys:=by
 obtain⟨its,r,⟨o,e,_,n,d⟩,_⟩:=I.tuple h;obtain⟨its',r',⟨o',e',_,n',d'⟩,_⟩:=I.tuple h';rw[e] at e';cases e';rw[d] at d';injection d' with d1 _
 have:its=its':=by simpa using congrArg Array.toList d1
 subst this;exact r.inj r'
end
noncomputable abbrev Cx.wish (X:Cx)(E:Value->Shared->Prop):Cx:={ X with xe:=E }
noncomputable abbrev Cx.nox (X:Cx):Cx:=X.wish λ_ _=>False
theorem Cx.Ok.wish {X:Cx}(ok:X.Ok)(E:Value->Shared->Prop):(X.wish E).Ok :=
 ⟨ok.mod,ok.kind,ok.glob,ok.blt,ok.above,ok.inj,ok.has,ok.cab,ok.hd,ok.frames,ok.stk,ok.exf,ok.bs,ok.bsz,ok.noex,ok.exfs,ok.funs,ok.frf⟩
theorem Cx.Ok.unwish {X:Cx}{E:Value->Shared->Prop}(ok:(X.wish E).Ok):X.Ok :=
 ⟨ok.mod,ok.kind,ok.glob,ok.blt,ok.above,ok.inj,ok.has,ok.cab,ok.hd,ok.frames,ok.stk,ok.exf,ok.bs,ok.bsz,ok.noex,ok.exfs,ok.funs,ok.frf⟩
section
variable {X:Cx}{pins:List (Addr×Obj)}{σ:St}{H:Hp}{s:Shared}{E:Value->Shared->Prop}
theorem Inv.wish (I:Inv X pins σ H s)(E:Value->Shared->Prop):Inv (X.wish E) pins σ H s:=⟨I.ok.wish E,I.os,I.bare,I.base,I.loc,I.cell,I.free,I.freeC,I.pin,I.hok,I.len⟩
theorem Inv.unwish (I:Inv (X.wish E) pins σ H s):Inv X pins σ H s:=⟨I.ok.unwish,I.os,I.bare,I.base,I.loc,I.cell,I.free,I.freeC,I.pin,I.hok,I.len⟩
theorem SP.unwish {D:uD}{f:Flow}{s':Shared}(h:SP (X.wish E) pins D f s'):SP X pins D f s':=by
 cases f with
 |next=>obtain⟨σ',H',I,q⟩:=h;exact⟨σ',H',I.unwish,q⟩
 |brk=>obtain⟨σ',H',I,q⟩:=h;exact⟨σ',H',I.unwish,q⟩
 |cont=>obtain⟨σ',H',I,q⟩:=h;exact⟨σ',H',I.unwish,q⟩
 |ret u=>obtain⟨v,σ',H',I,r,q⟩:=h;exact⟨v,σ',H',I.unwish,r,q⟩
theorem PSs.nox {st:List Stmt}{t:TS}(h:PSs X.nox st t):PSs X st t:=λpins s σ H D I hw =>
 wpAny_mono (h pins s σ H D (I.wish _) hw) (λ_ _ q=>q.unwish) λ_ _ z=>False.elim z
end
section
variable {X:Cx}{st:Stmt}{cH:List Stmt}{t u:TS}{e:Expr}{te:TE}{pos:Pos}
def aLi:TS:=λD σ H=>D.nx σ H
def aMG (t u:TS):TS:=λD σ H=>t { D with nx:=u D } σ H
theorem aHv:PSs X [] aLi:=λ_ _ σ H _ I h=>wpAny_execs_nil ⟨σ,H,I,h⟩
theorem aAT (h1:PS X st t)(h2:PSs X cH u):PSs X (st::cH) (aMG t u):=by
 intro pins s σ H D I h;refine wpAny_execs_cons (thn (h1 pins s σ H { D with nx:=u D } I h) λf s1 q=>?_);cases f with
 |next =>
  obtain⟨σ',H',I',q⟩:=q;exact h2 pins s1 σ' H' D I' q
 |ret v=>exact q
 |brk=>exact q
 |cont=>exact q
theorem aGg (h1:PS X st t):PSs X [st] t:=by
 intro pins s σ H D I h;refine wpAny_execs_cons (thn (h1 pins s σ H D I h) λf s1 q=>?_);cases f with
 |next=>exact wpAny_execs_nil q
 |ret v=>exact q
 |brk=>exact q
 |cont=>exact q
theorem Inv.quiet {pins:List (Addr×Obj)}{σ:St}{H:Hp}{s:Shared}(I:Inv X pins σ H s):interactive X.env=false:=by simp[interactive,I.ok.kind]
def aLq (te:TE):TS:=λD σ H=>te σ H λ_ H1=>D.nx σ H1
theorem aGK (he:PE X e te)(hs:swapsWith e none pos.line X.env=pure false:=by rfl):PS X (.Expr e pos) (aLq te):=by intro pins s σ H D I h;exact wpAny_Expr_any (thn (he pins s σ H _ I h) λv s1 ⟨x,H1,I1,r1,q1⟩=>⟨σ,H1,I1,q1⟩) I.quiet hs
def aME (te:TE):TS:=λD σ H=>te σ H D.rt
theorem aKw (he:PE X e te):PS X (.Return (some e) pos) (aME te):=by intro pins s σ H D I h;exact wpAny_Return_some (thn (he pins s σ H _ I h) λv s1 ⟨x,H1,I1,r1,q1⟩=>⟨x,σ,H1,I1,r1,q1⟩)
def aMX (c:TT)(t u:TS):TS:=λD σ H=>c σ H λb H1=>if b=true then t D σ H1 else u D σ H1
theorem aLz {c:Expr}{a b:List Stmt}{tc:TT}(hc:PT X c tc)(ha:PSs X a t)(hb:PSs X b u):PS X (.If c a b pos) (aMX tc t u):=by
 intro pins s σ H D I h;refine wpAny_If (thn (hc pins s σ H _ I h) λd s1 ⟨H1,I1,q1⟩=>?_);cases d with
 |true=>exact ha pins s1 σ H1 D I1 q1
 |false=>exact hb pins s1 σ H1 D I1 q1
end
abbrev TG:=V->St->Hp->(St->Hp->Prop)->Prop
abbrev TGs:=List V->St->Hp->(St->Hp->Prop)->Prop
def PG (X:Cx)(target:Expr)(t:TG):Prop :=
 ∀(pins:List (Addr×Obj)) (s:Shared) (σ:St) (H:Hp) (v:V) (u:Value) (Q:St->Hp->Prop),Inv X pins σ H s->RelV v u->t v σ H Q ->
  wpAny (model X.prog X.w) X.A (assign target X.env u) (λ_ s'=>∃σ' H',Inv X pins σ' H' s'/\Q σ' H') X.xe s
def PGs (X:Cx)(ts:List Expr)(t:TGs):Prop :=
 ∀(pins:List (Addr×Obj)) (s:Shared) (σ:St) (H:Hp) (vs:List V) (us:List Value) (Q:St->Hp->Prop),Inv X pins σ H s->bU vs us->t vs σ H Q ->
  wpAny (model X.prog X.w) X.A (assignInOrder ((assignEach ts X.env).map (·.2)) us) (λ_ s'=>∃σ' H',Inv X pins σ' H' s'/\Q σ' H') X.xe s
abbrev aIt:=V->V->V->Hp->(Hp->Prop)->Prop
def aJW (X:Cx)(t:aIt):Prop :=
 ∀(pins:List (Addr×Obj)) (s:Shared) (σ:St) (H:Hp) (o i v:V) (ov iv u:Value) (Q:Hp->Prop),Inv X pins σ H s->RelV o ov->RelV i iv->RelV v u->t o i v H Q ->
  wpAny (model X.prog X.w) X.A (setItem ov iv u) (λ_ s'=>∃H',Inv X pins σ H' s'/\Q H') X.xe s
abbrev TIp:=V->V->Hp->VK->Prop
def PIp (X:Cx)(op:Operator)(t:TIp):Prop :=
 ∀(pins:List (Addr×Obj)) (s:Shared) (σ:St) (H:Hp) (x y:V) (v u:Value) (Q:VK),Inv X pins σ H s->RelV x v->RelV y u->t x y H Q ->
  wpAny (model X.prog X.w) X.A (inplaceOp op v u) (EP X pins σ Q) X.xe s
section
variable {X:Cx}{pos:Pos}
def aHC (i:Nat):TG:=λv σ H Q=>Q (σ.set i (some v)) H
theorem aGW {i:Nat}{x:Str}(hN:X.N.Nodup)(hi:X.N[i]?=some x)(hx:Loc X.env.scope x)(hf:X.fn x=true∨X.env.scope.names.lookup x=some .local:=by first|exact .inl rfl|exact .inr rfl|assumption):PG X (.Name x pos) (aHC i):=by intro pins s σ H v u Q I r h;exact wpAny_assign_Name (nG I hN hi hx r (λs' I'=>⟨_,H,I',h⟩) hf)
def aM2:TGs:=λvs σ H Q=>vs=[]/\Q σ H
def aK1 (t:TG)(u:TGs):TGs:=λvs σ H Q=>∃v r,vs=v::r/\t v σ H λσ' H'=>u r σ' H' Q
theorem aG7:PGs X [] aM2:=by intro pins s σ H vs us Q I r h;obtain⟨e,h⟩:=h;subst e;cases r;exact assignInOrder_nil ⟨σ,H,I,h⟩
theorem aEJ {e:Expr}{es:List Expr}{t:TG}{u:TGs}(h1:PG X e t)(h2:PGs X es u)(hs:(assignEach (e::es) X.env).map (·.2)=assign e X.env::(assignEach es X.env).map (·.2):=by rfl):PGs X (e::es) (aK1 t u):=by
 intro pins s σ H vs us Q I r h;obtain⟨v,vr,e1,h⟩:=h;subst e1;cases r with
 |cons r rr =>
  rw[hs];refine assignInOrder_cons (thn (h1 pins s σ H _ _ _ I r h) λ_ s1 ⟨σ1,H1,I1,q1⟩=>?_);exact h2 pins s1 σ1 H1 _ _ Q I1 rr q1
def aMH (K:Frag)(n:Nat)(t:TGs):TG:=λv σ H Q=>∃a xs,v=.ref a/\SqT K H a xs/\xs.length=n/\t xs σ H Q
theorem aH5 {es:List Expr}{k:Nat}{t:TGs}{n:Nat}(hc:X.calm=true)(h:PGs X es t)(hn:(assignEach es X.env).length=n:=by rfl)(hst:(assignEach es X.env).findIdx? (·.1)=none:=by rfl):PG X (.Tuple es k pos) (aMH X.K n t):=by intro pins s σ H v u Q I r hw;obtain⟨a,xs,e1,hq,hl,hw⟩:=hw;subst e1;cases r;obtain⟨its,rv,ht,hz⟩:=I.tuple hq;refine assign_Tuple_tuple (I.ok.hd hc) ht (by simp[hn,<- hl,rv.length]) hst λh' hx=>?_;have I1:Inv X pins σ H { s with heap:=h' }:=I.kept (t':=s.toks) λb o e=>hx b o (Nat.ne_of_lt (Heap.lt_size e)) e;exact h pins _ σ H xs _ Q I1 (by simpa using rv) hw
def aMs (to ti:TE)(t:aIt):TG:=λv σ H Q=>to σ H λo H1=>ti σ H1 λi H2=>t o i v H2 λH3=>Q σ H3
theorem aEd {o i:Expr}{to ti:TE}{t:aIt}(ho:PE X o to)(hi:PE X i ti)(hs:aJW X t)(ha:∀v,assign (.Subscript o i pos) X.env v=(do
   let ov <- holding [v] (eval o X.env)
   let iv <- holding [v,ov] (eval i X.env)
   standAt pos
   holding [v,ov,iv] (setItem ov iv v)
   release [v,ov,iv] []):=by intro _;rfl):PG X (.Subscript o i pos) (aMs to ti t):=by
 intro pins s σ H v u Q I r h;rw[ha];refine wpAny_bind (wpAny_holding (thn (ho pins s σ H _ I h) λov s1 ⟨x,H1,I1,r1,q1⟩=>?_));refine wpAny_bind (wpAny_holding (thn (hi pins s1 σ H1 _ I1 q1) λiv s2 ⟨y,H2,I2,r2,q2⟩=>?_));refine wpAny_bind (wpAny_standAt (wpAny_bind (wpAny_holding (thn (hs pins s2 σ H2 x y v ov iv u _ I2 r1 r2 r q2) λ_ s3 ⟨H3,I3,q3⟩=>?_))));exact wpAny_release ⟨σ,H3,I3,q3⟩
def aLl (te:TE)(g:TG):TS:=λD σ H=>te σ H λx H1=>g x σ H1 D.nx
theorem aJY {tg e:Expr}{te:TE}{g:TG}(he:PE X e te)(hg:PG X tg g)(hs:swapsWithSole [tg] e pos.line X.env=pure false:=by rfl)(hw:swappedStores [tg] e X.env=pure none:=by rfl)(h1:(assignEach [tg] X.env).map (·.2)=[assign tg X.env]:=by rfl):PS X (.Assign [tg] e pos) (aLl te g):=by intro pins s σ H D I h;refine wpAny_Assign_stores (thn (he pins s σ H _ I h) λv s1 ⟨x,H1,I1,r1,q1⟩=>?_) hs hw;rw[h1];exact thn (hg pins s1 σ H1 x v _ I1 r1 q1) λ_ s2 q=>q
theorem aIT {i:Nat}{x:Str}{e:Expr}{te:TE}{pos':Pos}(hN:X.N.Nodup)(hi:X.N[i]?=some x)(hx:Loc X.env.scope x)(he:PE X e te)(hs:swapsWith e (some (.Name x pos')) pos.line X.env=pure false:=by rfl)(hf:X.fn x=true∨X.env.scope.names.lookup x=some .local:=by first|exact .inl rfl|exact .inr rfl|assumption) :
  PS X (.Assign [.Name x pos'] e pos) (aLl te (aHC i)):=by
 intro pins s σ H D I h;refine wpAny_Assign_Name (thn (he pins s σ H _ I h) λv s1 ⟨y,H1,I1,r1,q1⟩=>?_) hs;exact nG I1 hN hi hx r1 (λs2 I2=>⟨_,H1,I2,q1⟩) hf
def aMq (i j:Nat)(ta:TA):TS:=λD σ H=>ta σ H λvs H1=>∃v w,vs=[v,w]/\D.nx ((σ.set i (some v)).set j (some w)) H1
theorem aJS {i j:Nat}{x y:Str}{a b:Expr}{ta:TA}{px py pt:Pos}{kt k2 pt2}(hc:X.calm=true)(hN:X.N.Nodup)(hi:X.N[i]?=some x)(hj:X.N[j]?=some y)(hij:i≠j)(hx:X.env.scope.names.lookup x=some .local)(hy:X.env.scope.names.lookup y=some .local)(ha:PA X [a,b] ta)(hw:swappedStores [.Tuple [.Name x px,.Name y py] kt pt] (.Tuple [a,b] k2 pt2) X.env=pure (some [x,y]))(hs:swapsWithSole [.Tuple [.Name x px,.Name y py] kt pt] (.Tuple [a,b] k2 pt2) pos.line X.env=pure false:=by rfl) :
  PS X (.Assign [.Tuple [.Name x px,.Name y py] kt pt] (.Tuple [a,b] k2 pt2) pos) (aMq i j ta):=by
 intro pins s σ H D I h;rw[exec_Assign_arm];refine wpAny_bind (wpAny_standAt ?_);rw[hs];refine wpAny_bind (wpAny_pure ?_);rw[if_neg (by decide)];refine wpAny_bind (Tuple_ (thn (ha _ pins s σ H _ I h) λus s1 ⟨vs,H1,I1,r1,q1⟩=>?_));obtain⟨v,w,e1,q1⟩:=q1;subst e1;obtain⟨u1,u2,rfl,rv,rw'⟩:∃u1 u2,us=[u1,u2]/\RelV v u1/\RelV w u2:=by
  cases r1 with
  |cons p q =>
   cases q with
   |cons p' q' =>
    cases q';exact⟨_,_,rfl,p,p'⟩
 refine wpAny_newObj_type ?_ (by show 2<=sizeLine;decide);have I2:Inv X pins σ H1 { s1 with heap:=s1.heap.push { cls:=.type "tuple",data:=.seq [u1,u2].toArray } }:=I1.kept (t':=s1.toks) λb o e=>Heap.get?_push_of_some _ e;rw[hw];refine wpAny_bind (wpAny_pure ?_);show wpAny (model X.prog X.w) X.A (do rule "assign.swapped-stores";let items <- unpackItems (.ref s1.heap.objs.size) 2 none;assignInOrder [λv=>bindName X.env y v,λv=>bindName X.env x v] items.reverse;pure Flow.next) _ _ _;refine wpAny_bind (wpAny_rule (wpAny_bind (unpackItems_tuple (items:=#[u1,u2]) (I.ok.hd hc) (IsTup.new s1.heap _) λh' hx'=>?_)));have I3:=I2.kept (h':=h') (t':=s1.toks) λb o e=>hx' b o (Nat.ne_of_lt (Heap.lt_size e)) e;show wpAny _ _ (assignInOrder [λv=>bindName X.env y v,λv=>bindName X.env x v] [u2,u1] >>= λ_=>pure Flow.next) _ _ _;refine wpAny_bind (assignInOrder_cons (wpAny_bindName (nG I3 hN hj (.inl hy) rw' (λs2 I4=>?_) (.inr hy))));refine assignInOrder_cons (wpAny_bindName (nG I4 hN hi (.inl hx) rv (λs3 I5=>assignInOrder_nil (wpAny_pure ?_)) (.inr hx)));rw[List.set_comm _ _ (Ne.symm hij)] at I5;exact⟨_,H1,I5,q1⟩
def aMY (i:Nat)(te:TE)(ti:TIp):TS:=λD σ H=>∃x,σ[i]?=some (some x)/\te σ H λy H1=>ti x y H1 λz H2=>D.nx (σ.set i (some z)) H2
theorem aDL {i:Nat}{x:Str}{e:Expr}{te:TE}{op:Operator}{ti:TIp}{pos':Pos}(hN:X.N.Nodup)(hi:X.N[i]?=some x)(hx:Loc X.env.scope x)(he:PE X e te)(ho:PIp X op ti)(hf:X.fn x=true∨X.env.scope.names.lookup x=some .local:=by first|exact .inl rfl|exact .inr rfl|assumption) :
  PS X (.AugAssign (.Name x pos') op e pos) (aMY i te ti):=by
 intro pins s σ H D I h;obtain⟨v,e1,h⟩:=h;obtain⟨m,hn,hl⟩:=I.loc;have vis:Vis X.env.scope x:=by rcases hx with k|k;exact .inl k;exact .inr (.inl k)
 obtain⟨u,r,l⟩:=hl i x v hi e1 vis;refine wpAny_AugAssign_Name ?_;have go:wpAny (model X.prog X.w) X.A (eval e X.env) (λw s₂=>wpAny (model X.prog X.w) X.A (inplaceOp op u w) (λr s₃=>wpAny (model X.prog X.w) X.A (storeName X.env x r) (λ_=>SP X pins D .next) X.xe s₃) X.xe s₂) X.xe s:=by refine thn (he pins s σ H _ I h) λw s1 ⟨y,H1,I1,r1,q1⟩=>?_;refine thn (ho pins s1 σ H1 v y u w _ I1 r r1 q1) λz s2 ⟨zv,H2,I2,r2,q2⟩=>?_;exact nG I2 hN hi hx r2 (λs3 I3=>⟨_,H2,I3,q2⟩) hf
 rcases l with⟨hk,hm⟩|⟨hk,c,hc,hcell⟩
 ·exact wpAny_loadName_local I.ok.kind hk hn hm go
 ·rcases hk with hk|hk
  ·exact wpAny_loadName_cell I.ok.kind hk hc hcell go
  ·rcases hx with k|k
   ·have:X.env.scope.names.lookup x=some .free:=hk;rw[k] at this;cases this
   ·have:X.env.scope.names.lookup x=some .free:=hk;rw[k] at this;cases this
noncomputable def ipI (f:Int->Int->Int):TIp:=λx y H Q=>∃i j,x=.int i/\y=.int j/\Q (.int (f i j)) H
theorem aIS:PIp X .Add (ipI λi j=>i+j):=by intro pins s σ H x y v u Q I r1 r2 h;obtain⟨i,j,e1,e2,q⟩:=h;subst e1;subst e2;obtain⟨t,rfl⟩:=r1;obtain⟨t',rfl⟩:=r2;exact iadd_int ⟨.int _,H,I.tok _,⟨_,rfl⟩,q⟩
end
section
variable {X:Cx}{pos:Pos}
def aJx (c:TT)(tb:TS):TS:=λD σ H=>∃W:Nat->St->Hp->Prop,(∃m,W m σ H)/\∀m σ H,W m σ H ->
 c σ H λb H1=>if b=true then ∃N:St->Hp->Prop,(∀σ' H',N σ' H'->∃m',m'<m/\W m' σ' H')/\tb { D with nx:=N,ct:=N,bk:=D.nx } σ H1 else D.nx σ H1
theorem aFi {c:Expr}{body:List Stmt}{tc:TT}{tb:TS}(hp:PassesOwn (model X.prog X.w) X.A X.env X.xe)(hc:PT X c tc)(hb:PSs X body tb):PS X (.While c body [] pos) (aJx tc tb):=by
 intro pins s σ H D I h;obtain⟨W,⟨m0,w0⟩,turn⟩:=h;refine wpAny_While (codeAny_whileLoop (λn s'=>∃σ' H',Inv X pins σ' H' s'/\W n σ' H') ?_ m0 ⟨σ,H,I,w0⟩);rintro n s1 ⟨σ1,H1,I1,w1⟩;refine wpAny_passesOwn hp (thn (hc pins s1 σ1 H1 _ I1 (turn n σ1 H1 w1)) λb s2 ⟨H2,I2,q2⟩=>?_);cases b with
 |true =>
  obtain⟨N,hN,q2⟩:=q2;rw[if_pos rfl];refine wpAny_passesOwn hp (thn (hb pins s2 σ1 H2 _ I2 q2) λf s3 q3=>?_);cases f with
  |next =>
   obtain⟨σ3,H3,I3,n3⟩:=q3;obtain⟨m',hm,w3⟩:=hN σ3 H3 n3;exact⟨m',hm,σ3,H3,I3,w3⟩
  |cont =>
   obtain⟨σ3,H3,I3,n3⟩:=q3;obtain⟨m',hm,w3⟩:=hN σ3 H3 n3;exact⟨m',hm,σ3,H3,I3,w3⟩
  |brk=>exact q3
  |ret v=>exact q3
 |false =>
  rw[if_neg Bool.false_ne_true];exact wpAny_execs_nil ⟨σ1,H2,I2,q2⟩
end
structure It where
 go:Nat->Hp->Prop
 yld:Nat->Hp->V->Hp->Prop
 stop:Nat->Hp->Prop
def yD (X:Cx)(pins:List (Addr×Obj))(H:Hp)(b:Addr):Prop :=
 H b=none/\b≠X.env.locals/\b∉X.fs/\(b∈X.ex∨X.s₀.heap.objs.size<=b)/\(∀x c,X.env.cells.lookup x=some c->c≠b)/\∀p∈X.pn++pins,p.1≠b
theorem Inv.fpOk {X:Cx}{pins:List (Addr×Obj)}{σ:St}{H H':Hp}{s:Shared}{b:Addr}(I:Inv X pins σ H s)(hb:s.heap.objs.size<=b)(hn:H' b=none):yD X pins H' b:=by
 refine⟨hn,Nat.ne_of_gt (Nat.lt_of_lt_of_le I.lt hb),I.nofs hb,.inr (Nat.le_trans I.sz hb),λx c e z=>?_,λp hp z=>?_⟩
 ·obtain⟨v,q⟩:=I.cell x c e;exact absurd (Nat.lt_of_lt_of_le q.lt (by rw[z];exact hb)) (Nat.lt_irrefl _)
 ·exact absurd (Nat.lt_of_lt_of_le (Heap.lt_size (I.pin p hp).1) (by rw[z];exact hb)) (Nat.lt_irrefl _)
structure aHe (P:Program)(w:World)(K:Frag)(tg:Expr)(J:It)(fp:List Addr)(it:Addr)(tn:Nat->Heap->Prop):Prop where
 mem:it∈fp
 obj:∀i h,tn i h->∀b∈fp,∃o,h.get? b=some o/\∀v,o.data ≠ .cell v
 keep:∀i h h',tn i h->(∀b∈fp,∀o,h.get? b=some o->h'.get? b=some o)->tn i h'
 item:∀(X:Cx),X.prog=P->X.w=w->X.K=K->X.calm=true->∀(i:Nat)(pins:List (Addr×Obj)) (s:Shared) (σ:St) (H:Hp) (E:Value->Shared->Prop),Inv X pins σ H s->(∀b∈fp,yD X pins H b)->tn i s.heap->J.go i H ->
  wpAny (model P w) X.A (pyNext (.ref it)) (λr s1=>∃u,r=some u /\
   wpAny (model P w) X.A (letOwnedTupleGo tg (.ref it) u) (λ_ s2=>∃x H',Inv X pins σ H' s2/\RelV x u/\J.yld i H x H'/\tn (i+1) s2.heap/\∀b∈fp,H' b=none) E s1) E s
 done:∀(X:Cx),X.prog=P->X.w=w->X.K=K->X.calm=true->∀(i:Nat)(pins:List (Addr×Obj)) (s:Shared) (σ:St) (H:Hp) (E:Value->Shared->Prop),Inv X pins σ H s->(∀b∈fp,yD X pins H b)->tn i s.heap->J.stop i H ->
  wpAny (model P w) X.A (pyNext (.ref it)) (λr s1=>r=none/\Inv X pins σ H s1) E s
 self:∀(A:Around)(i:Nat) (s:Shared) (Q:Value->Shared->Prop) (E:Value->Shared->Prop),tn i s.heap->Q (.ref it) s->wpAny (model P w) A (pyIter (.ref it)) Q E s
abbrev TI:=St->Hp->(It->Hp->Prop)->Prop
def PIE (X:Cx)(pins:List (Addr×Obj))(σ:St)(tg:Expr)(R:It->Hp->Prop)(itv:Value)(s2:Shared):Prop :=
 ∃(it:Addr)(fp:List Addr) (tn:Nat->Heap->Prop) (J:It) (H':Hp),itv=.ref it/\Inv X pins σ H' s2/\aHe X.prog X.w X.K tg J fp it tn/\tn 0 s2.heap/\(∀b∈fp,yD X pins H' b)/\R J H'
def PI (X:Cx)(tg iter:Expr)(wi:TI):Prop :=
 ∀(pins:List (Addr×Obj)) (s:Shared) (σ:St) (H:Hp) (R:It->Hp->Prop),Inv X pins σ H s->wi σ H R ->
  wpAny (model X.prog X.w) X.A (eval iter X.env) (λv s1=>wpAny (model X.prog X.w) X.A (pyIter v) (PIE X pins σ tg R) X.xe s1) X.xe s
theorem aEm {M:Model}{A:Around}{E:Value->Shared->Prop}{s:Shared}{tg:Expr}{it:Addr}{u:Value}{o:Obj}{n:String}{vs:Array Value}{Q:Unit->Shared->Prop}(ho:s.heap.get? it=some o)(hc:o.cls=.type n)(hd:o.data=.fields vs)(hn:["enumerate","zip","dict_itemiterator","dict_reverseitemiterator","odict_iterator","itertools.zip_longest","itertools.pairwise"].contains n=false)(hQ:Q () s):wpAny M A (letOwnedTupleGo tg (.ref it) u) Q E s:=by
 unfold letOwnedTupleGo;cases tg<;>first
  |exact wpAny_pure hQ
  |(cases u<;>first
    |exact wpAny_pure hQ
    |(
      refine wpAny_bind (wpAny_load ho ?_);rw[hc,hd];show wpAny M A (if (["enumerate","zip","dict_itemiterator","dict_reverseitemiterator","odict_iterator","itertools.zip_longest","itertools.pairwise"].contains n&&vs[0]?==some (rawInt _))=true then _ else _) Q E s;rw[if_neg (by intro h;rw[hn,Bool.false_and] at h;cases h)];exact wpAny_pure hQ))
noncomputable def Itl (K:Frag)(a:Addr):It :=
 ⟨λi H=>∃xs x,SqL K H a xs/\xs[i]?=some x,λi H x H'=>H'=H/\∀xs,SqL K H a xs->xs[i]?=some x,λi H=>∃xs,SqL K H a xs/\xs.length<=i⟩
noncomputable def Itr (lo:Int)(n:Nat):It:=⟨λi _=>i<n,λi H x H'=>H'=H/\x=.int (lo+i),λi _=>n<=i⟩
theorem aDg {P:Program}{w:World}{K:Frag}{tg:Expr}(a it:Addr):aHe P w K tg (Itl K a) [it] it (λi h=>h.IsListIter it a i) where
 mem:=by simp
 obj:=λi h st b hb=>by
  have e:b=it:=by simpa using hb
  subst e;obtain⟨o,e,c,d⟩:=st;exact⟨o,e,λv z=>by rw[d] at z;cases z⟩
 keep:=λi h h' st k=>st.at λo e=>k it (by simp) o e
 item:=by intro X hP hw hK hc i pins s σ H E I hf st hg;subst hP hw hK;obtain⟨xs,x,hq,hx⟩:=hg;obtain⟨its,rv,p,hz⟩:=I.list hq;obtain⟨u,hu,ru⟩:=rv.get hx;obtain⟨f0,f1,f2,f3,f4,f5⟩:=hf it (by simp);refine wpAny_pyNext_list_item st p.isList (x:=u) (by simpa using hu) λh' st' sb=>?_;have I1:Inv X pins σ H { s with heap:=h' }:=I.turned (t':=s.toks) (λb o hb e=>(sb.2 b hb).trans e) f0 f1 f3 f4 f5;obtain⟨o,e,c,d⟩:=id st';exact⟨u,rfl,aEm (s:={ s with heap:=h' }) e c d (by decide) ⟨x,H,I1,ru,⟨rfl,λys hy=>by rw[I.list_inj hy hq];exact hx⟩,st',λb hb=>(hf b hb).1⟩⟩
 done:=by intro X hP hw hK hc i pins s σ H E I hf st hg;subst hP hw hK;obtain⟨xs,hq,hx⟩:=hg;obtain⟨its,rv,p,hz⟩:=I.list hq;obtain⟨f0,f1,f2,f3,f4,f5⟩:=hf it (by simp);have hl:=rv.length;exact wpAny_pyNext_list_end (I.ok.hd hc) st p.isList (by simp;omega) λh' eb=>⟨rfl,I.turned (t':=s.toks) (λb o hb e=>eb b o hb e) f0 f1 f3 f4 f5⟩
 self:=λ_ _ _ _ _ st h=>wpAny_pyIter_listiter st h
theorem aBx {P:Program}{w:World}{K:Frag}{tg:Expr}(it:Addr)(lo:Int)(n:Nat):aHe P w K tg (Itr lo n) [it] it (λi h=>IsRangeIter h it (lo+(i:Nat)*1) ((n:Int)-(i:Nat)) 1) where
 mem:=by simp
 obj:=λi h st b hb=>by
  have e:b=it:=by simpa using hb
  subst e;exact⟨_,st,λv z=>by have z':Data.fields _=Data.cell v:=z;cases z'⟩
 keep:=λi h h' st k=>k it (by simp) _ st
 item:=by intro X hP hw hK hc i pins s σ H E I hf st hg;subst hP hw hK;obtain⟨f0,f1,f2,f3,f4,f5⟩:=hf it (by simp);have W:=Walks.range (prog:=X.prog) (w:=X.w) (I.ok.hd hc) it lo 1 n;refine W.item i s _ _ hg st λv h' tk hv st' kk=>?_;obtain⟨t,rfl⟩:=hv;have I1:Inv X pins σ H { s with heap:=h',toks:=tk }:=I.turned (λb o hb e=>kk b o (by simpa using hb) e) f0 f1 f3 f4 f5;refine⟨_,rfl,aEm (s:={ s with heap:=h',toks:=tk }) (n:="range_iterator") st' rfl rfl (by decide) ⟨.int (lo+i),H,I1,⟨t,?_⟩,⟨rfl,rfl⟩,st',λb hb=>(hf b hb).1⟩⟩;rw[Int.mul_one]
 done:=by intro X hP hw hK hc i pins s σ H E I hf st hg;subst hP hw hK;obtain⟨f0,f1,f2,f3,f4,f5⟩:=hf it (by simp);exact wpAny_pyNext_range_end (I.ok.hd hc) st (by have:n<=i:=hg;omega) λh' eb=>⟨rfl,I.turned (t':=s.toks) (λb o hb e=>eb b o hb e) f0 f1 f3 f4 f5⟩
 self:=λ_ _ _ _ _ st h=>wpAny_pyIter_rangeiter st h
section
variable {X:Cx}{tg:Expr}
noncomputable def aMa (K:Frag)(tl:TE):TI:=λσ H R=>tl σ H λx H1=>∃a,x=.ref a/\(∃xs,SqL K H1 a xs)/\R (Itl K a) H1
theorem uO {l:Expr}{tl:TE}(hl:PE X l tl):PI X tg l (aMa X.K tl):=by
 intro pins s σ H R I h;refine thn (hl pins s σ H _ I h) λv s1 ⟨x,H1,I1,r1,q1⟩=>?_;obtain⟨a,e,⟨xs,hq⟩,q⟩:=q1;subst e;cases r1;obtain⟨its,rv,p,hz⟩:=I1.list hq;refine wpAny_pyIter_list p.isList ?_;refine⟨s1.heap.objs.size,[s1.heap.objs.size],_,_,H1,rfl,I1.kept (t':=s1.toks) λb o e=>Heap.get?_push_of_some _ e,aDg a _,⟨_,Heap.get?_push_size _ rfl,rfl,rfl⟩,λb hb=>?_,q⟩;have e:b=s1.heap.objs.size:=by simpa using hb
 subst e;exact I1.fpOk (Nat.le_refl _) (I1.hok.fresh (Nat.le_refl _))
theorem aFT {pins:List (Addr×Obj)}{σ:St}{H:Hp}{s:Shared}{R:It->Hp->Prop}{E:Value->Shared->Prop}{lo hi:Int}{t u v:Tok}{tk:Nat}(I:Inv X pins σ H s)(h1:-(2^62)<=lo)(h2:lo<2^62)(h3:-(2^62)<=hi)(h4:hi<2^62)(q:R (Itr lo (hi-lo).toNat) H):wpAny (model X.prog X.w) X.A (pyIter (.ref s.heap.objs.size)) (PIE X pins σ tg R) E { s with heap:=s.heap.push { cls:=.type "range",data:=.fields #[.int lo t,.int hi u,.int 1 v] },toks:=tk }:=by
 refine wpAny_pyIter_range (IsRange.new ..) (small_one h1 h2 h3 h4) ?_;have I1:Inv X pins σ H { s with heap:=s.heap.push { cls:=.type "range",data:=.fields #[.int lo t,.int hi u,.int 1 v] },toks:=tk }:=I.kept λb o e=>Heap.get?_push_of_some _ e;refine⟨(s.heap.push { cls:=.type "range",data:=.fields #[.int lo t,.int hi u,.int 1 v] }).objs.size,[(s.heap.push { cls:=.type "range",data:=.fields #[.int lo t,.int hi u,.int 1 v] }).objs.size],_,_,H,rfl,
  I1.kept (t':=tk) λb o e=>Heap.get?_push_of_some _ e,aBx _ lo (hi-lo).toNat,?_,λb hb=>?_,q⟩
 ·have e1:lo+((0:Nat):Int)*1=lo:=by simp
  have e2:(((hi-lo).toNat:Nat):Int)-((0:Nat):Int)=Builtin.Range.rangeSize lo hi 1:=by rw[rangeSize_one];split<;>omega
  show IsRangeIter _ _ (lo+((0:Nat):Int)*1) ((((hi-lo).toNat:Nat):Int)-((0:Nat):Int)) 1;rw[e1,e2];exact Heap.get?_push_size _ rfl
 ·have e:b = (s.heap.push { cls:=.type "range",data:=.fields #[.int lo t,.int hi u,.int 1 v] }).objs.size:=by simpa using hb
  subst e;exact I1.fpOk (Nat.le_refl _) (I1.hok.fresh (Nat.le_refl _))
noncomputable def aL6 (ta:TA):TI:=λσ H R=>ta σ H λvs H1=>∃j:Int,vs=[.int j]/\-(2^62)<=j/\j<2^62/\R (Itr 0 j.toNat) H1
theorem aDq {a:Expr}{ta:TA}{p pos:Pos}(hg:Gl X "range")(hm:X.mg "range" = none)(ha:PA X [a] ta)(hs:starEach [a] X.env = [(false,eval a X.env)]:=by rfl):PI X tg (.Call (.Name "range" p) [a] [] pos) (aL6 ta):=by
 intro pins s σ H R I h;refine Call_ (yP I hg hm boot_range (PyProof.Rows.callWith_type1 (thn (ha pos pins s σ H _ I h) λus s1 ⟨vs,H1,I1,r1,q1⟩=>?_) hs rfl));obtain⟨j,e,q1,q2,q⟩:=q1;subst e;cases r1 with
 |cons r rr =>
  cases rr;obtain⟨t,rfl⟩:=r;exact call_range_1 (aFT I1 (by omega) (by omega) q1 q2 (by simpa using q))
def aLt (wi:TI)(g:TG)(tb:TS):TS:=λD σ H=>wi σ H λJ H1=>∃W:Nat->Nat->St->Hp->Prop,(∃m,W 0 m σ H1)/\∀i m σ H,W i m σ H ->
 (J.stop i H/\D.nx σ H)∨(J.go i H/\∃N:St->Hp->Prop,(∀σ' H',N σ' H'->∃m',m'<m/\W (i+1) m' σ' H')/\∀x H',J.yld i H x H'->g x σ H' λσ2 H2=>tb { D with nx:=N,ct:=N,bk:=D.nx } σ2 H2)
noncomputable def zO (fp:List Addr)(h:Heap):List (Addr×Obj):=fp.filterMap λb=>(h.get? b).map λo=>(b,o)
theorem fL {fp:List Addr}{h:Heap}{b:Addr}{o:Obj}(hb:b∈fp)(e:h.get? b=some o):(b,o)∈zO fp h:=List.mem_filterMap.mpr ⟨b,hb,by rw[e];rfl⟩
theorem aC3 {fp:List Addr}{h:Heap}{p:Addr×Obj}(hp:p∈zO fp h):p.1∈fp/\h.get? p.1=some p.2:=by
 obtain⟨b,hb,e⟩:=List.mem_filterMap.mp hp;cases q:h.get? b with
 |none=>rw[q] at e;cases e
 |some o =>
  rw[q] at e;have e':(b,o)=p:=Option.some.inj e;subst e';exact⟨hb,q⟩
theorem Inv.pinned {pins:List (Addr×Obj)}{σ:St}{H:Hp}{s:Shared}{fp:List Addr}(I:Inv X pins σ H s)(hf:∀b∈fp,yD X pins H b)(ho:∀b∈fp,∃o,s.heap.get? b=some o/\∀v,o.data ≠ .cell v):Inv X (pins++zO fp s.heap) σ H s :=
 I.pins_of λp hp=>(List.mem_append.mp hp).elim (λz=>I.pin p (mem_append_right _ z)) λz=>by obtain⟨hb,e⟩:=aC3 z;obtain⟨f0,f1,f2,_⟩:=hf p.1 hb;obtain⟨o,e',d⟩:=ho p.1 hb;rw[e] at e';cases e';exact⟨e,f0,f1,f2,d⟩
theorem Inv.unpinned {pins pl:List (Addr×Obj)}{σ:St}{H:Hp}{s:Shared}(I:Inv X (pins++pl) σ H s):Inv X pins σ H s:=I.pins_of λp hp=>I.pin p (mem_append_right _ (mem_append_left _ hp))
theorem aBG {iter:Expr}{body:List Stmt}{wi:TI}{g:TG}{tb:TS}{pos:Pos}(hp:PassesOwn (model X.prog X.w) X.A X.env X.xe)(hc:X.calm=true)(hi:PI X tg iter wi)(hg:PG X tg g)(hb:PSs X body tb)(hs:∀x,foldedSetIterable iter X.env x=pure x:=by intro _;rfl):PS X (.For tg iter body [] pos) (aLt wi g tb):=by
 intro pins s σ H D I h;refine wpAny_For (thn (hi pins s σ H _ I h) λv s1 h1=>thn h1 λitv s2 h2=>?_) hs;obtain⟨it,fp,tn,J,H2,e,I2,T,st2,f2,W,⟨m0,w0⟩,turn⟩:=h2;subst e;have stat:∀{H':Hp},(∀b∈fp,H' b=none)->∀b∈fp,yD X pins H' b:=λhn b hb=>⟨hn b hb,(f2 b hb).2⟩;refine codeAny_forLoop_any (λn s'=>∃i σ' H',Inv X pins σ' H' s'/\tn i s'.heap/\(∀b∈fp,H' b=none)/\W i n σ' H') ?_ m0 ⟨0,σ,H2,I2,st2,λb hb=>(f2 b hb).1,w0⟩;rintro n s3 ⟨i,σ3,H3,I3,st3,fr3,w3⟩;rcases turn i n σ3 H3 w3 with⟨stop,qn⟩|⟨go,N,hN,step⟩
 ·refine wpAny_passesOwn hp (thn (T.done X rfl rfl rfl hc i pins s3 σ3 H3 X.xe I3 (stat fr3) st3 stop) λr s4 ⟨hr,I4⟩=>?_);subst hr;exact wpAny_execs_nil ⟨σ3,H3,I4,qn⟩
 ·refine wpAny_passesOwn hp (thn (T.item X rfl rfl rfl hc i pins s3 σ3 H3 X.xe I3 (stat fr3) st3 go) λr s4 ⟨u,hr,h4⟩=>?_);subst hr;refine wpAny_passesOwn hp (thn h4 λ_ s5 ⟨x,H5,I5,r5,y5,st5,fr5⟩=>?_);have I5':=I5.pinned (stat fr5) (T.obj _ _ st5);refine wpAny_passesOwn hp (thn (hg _ s5 σ3 H5 x u _ I5' r5 (step x H5 y5)) λ_ s6 ⟨σ6,H6,I6,q6⟩=>?_);refine wpAny_passesOwn hp (thn (hb _ s6 σ6 H6 _ I6 q6) λf s7 q7=>?_);have again:∀{σ7:St}{H7:Hp},Inv X (pins++zO fp s5.heap) σ7 H7 s7->N σ7 H7->∃m,m<n/\∃i σ' H',Inv X pins σ' H' s7/\tn i s7.heap/\(∀b∈fp,H' b=none)/\W i m σ' H':=λ{σ7 H7} I7 n7=>by obtain⟨m',hm,w7⟩:=hN σ7 H7 n7;refine⟨m',hm,i+1,σ7,H7,I7.unpinned,T.keep _ _ _ st5 λb hb o e=>(I7.pin (b,o) (mem_append_right _ (mem_append_right _ (fL hb e)))).1,λb hb=>?_,w7⟩;obtain⟨o,e,d⟩:=T.obj _ _ st5 b hb;exact(I7.pin (b,o) (mem_append_right _ (mem_append_right _ (fL hb e)))).2.1
  cases f with
  |next=>obtain⟨σ7,H7,I7,n7⟩:=q7;exact again I7 n7
  |cont=>obtain⟨σ7,H7,I7,n7⟩:=q7;exact again I7 n7
  |brk=>obtain⟨σ7,H7,I7,q7⟩:=q7;exact⟨σ7,H7,I7.unpinned,q7⟩
  |ret v=>obtain⟨x7,σ7,H7,I7,r7,q7⟩:=q7;exact⟨x7,σ7,H7,I7.unpinned,r7,q7⟩
end
abbrev R2:=V->V->Hp->VK->Prop
def OpR (X:Cx)(f:Value->Value->Sem Value)(r:R2):Prop :=
 ∀(pins:List (Addr×Obj)) (s:Shared) (σ:St) (H:Hp) (x y:V) (v u:Value) (Q:VK),Inv X pins σ H s->RelV x v->RelV y u->r x y H Q ->
  wpAny (model X.prog X.w) X.A (f v u) (EP X pins σ Q) X.xe s
def UnR (X:Cx)(f:Value->Sem Value)(r:V->Hp->VK->Prop):Prop :=
 ∀(pins:List (Addr×Obj)) (s:Shared) (σ:St) (H:Hp) (x:V) (v:Value) (Q:VK),Inv X pins σ H s->RelV x v->r x H Q ->
  wpAny (model X.prog X.w) X.A (f v) (EP X pins σ Q) X.xe s
def lN (X:Cx)(f:Value)(r:List V->Hp->VK->Prop):Prop :=
 ∀(pins:List (Addr×Obj)) (s:Shared) (σ:St) (H:Hp) (xs:List V) (us:List Value) (Q:VK),Inv X pins σ H s->bU xs us->r xs H Q ->
  wpAny (model X.prog X.w) X.A (call f us) (EP X pins σ Q) X.xe s
def tOp (r:R2)(ta tb:TE):TE:=λσ H Q=>ta σ H λx H1=>tb σ H1 λy H2=>r x y H2 Q
def tUn (r:V->Hp->VK->Prop)(ta:TE):TE:=λσ H Q=>ta σ H λx H1=>r x H1 Q
def rI (C:Int->Int->Prop)(g:Int->Int->V):R2:=λx y H Q=>∃i j,x=.int i/\y=.int j/\C i j/\Q (g i j) H
def rI0 (g:Int->Int->V):R2:=λx y H Q=>∃i j,x=.int i/\y=.int j/\Q (g i j) H
def rU (g:Int->V):V->Hp->VK->Prop:=λx H Q=>∃i,x=.int i/\Q (g i) H
section
variable {X:Cx}{a b c:Expr}{ta tb tc:TE}{pos:Pos}
theorem aKc (ha:PE X a ta)(hb:PE X b tb){pins:List (Addr×Obj)}{s:Shared}{σ:St}{H:Hp}{R:V->V->Hp->Prop}(I:Inv X pins σ H s)(h:ta σ H λx H1=>tb σ H1 λy H2=>R x y H2){Q:Value->Shared->Prop}{f:Value->Value->Sem Value}(hf:∀v u s2 x y H2,Inv X pins σ H2 s2->RelV x v->RelV y u->R x y H2->wpAny (model X.prog X.w) X.A (f v u) Q X.xe s2) :
  wpAny (model X.prog X.w) X.A (eval a X.env) (λv s₁=>wpAny (model X.prog X.w) X.A (eval b X.env) (λu s₂=>wpAny (model X.prog X.w) X.A (f v u) Q X.xe s₂) X.xe s₁) X.xe s:=by
 refine thn (ha pins s σ H _ I h) λv s1 ⟨x,H1,I1,r1,q1⟩=>?_;refine thn (hb pins s1 σ H1 _ I1 q1) λu s2 ⟨y,H2,I2,r2,q2⟩=>?_;exact hf v u s2 x y H2 I2 r1 r2 q2
theorem aKK {op:Operator}{r:R2}(ho:OpR X (binaryOp op) r)(ha:PE X a ta)(hb:PE X b tb):PE X (.BinOp a op b pos) (tOp r ta tb):=by intro pins s σ H Q I h;exact wpAny_BinOp (aKc ha hb I h λv u s2 x y H2 I2 rx ry q=>ho pins s2 σ H2 x y v u Q I2 rx ry q)
theorem aL8 {op:UnaryOp}{r:V->Hp->VK->Prop}(ho:UnR X (unaryOp op) r)(ha:PE X a ta):PE X (.UnaryOp op a pos) (tUn r ta):=by intro pins s σ H Q I h;exact UnaryOp_ (thn (ha pins s σ H _ I h) λv s1 ⟨x,H1,I1,r1,q1⟩=>ho pins s1 σ H1 x v Q I1 r1 q1)
theorem opI {f:Value->Value->Sem Value}{C:Int->Int->Prop}{g:Int->Int->Int}(rule:∀(i j:Int)(t u:Tok) (s:Shared) (Q:Value->Shared->Prop) (E:Value->Shared->Prop),C i j->Q (.int (g i j) s.toks) { s with toks:=s.toks+1 }->wpAny (model X.prog X.w) X.A (f (.int i t) (.int j u)) Q E s) :
  OpR X f (rI C λi j=>.int (g i j)):=by
 intro pins s σ H x y v u Q I rx ry h;obtain⟨i,j,rfl,rfl,hc,q⟩:=h;obtain⟨t,rfl⟩:=rx;obtain⟨t',rfl⟩:=ry;exact rule i j t t' s _ _ hc ⟨.int (g i j),H,I.tok _,⟨_,rfl⟩,q⟩
theorem aLE {f:Value->Value->Sem Value}{g:Int->Int->Int}(rule:∀(i j:Int)(t u:Tok) (s:Shared) (Q:Value->Shared->Prop) (E:Value->Shared->Prop),Q (.int (g i j) s.toks) { s with toks:=s.toks+1 }->wpAny (model X.prog X.w) X.A (f (.int i t) (.int j u)) Q E s) :
  OpR X f (rI0 λi j=>.int (g i j)):=by
 intro pins s σ H x y v u Q I rx ry h;obtain⟨i,j,rfl,rfl,q⟩:=h;obtain⟨t,rfl⟩:=rx;obtain⟨t',rfl⟩:=ry;exact rule i j t t' s _ _ ⟨.int (g i j),H,I.tok _,⟨_,rfl⟩,q⟩
theorem aI3 {f:Value->Value->Sem Value}{g:Int->Int->Bool}(rule:∀(i j:Int)(t u:Tok) (s:Shared) (Q:Value->Shared->Prop) (E:Value->Shared->Prop),Q (.bool (g i j)) s->wpAny (model X.prog X.w) X.A (f (.int i t) (.int j u)) Q E s) :
  OpR X f (rI0 λi j=>.bl (g i j)):=by
 intro pins s σ H x y v u Q I rx ry h;obtain⟨i,j,rfl,rfl,q⟩:=h;obtain⟨t,rfl⟩:=rx;obtain⟨t',rfl⟩:=ry;exact rule i j t t' s _ _ ⟨.bl (g i j),H,I,rfl,q⟩
def aLX (i j:Int):Prop:=0<=j/\j<=1000000/\i.natAbs<2^64
theorem aKC:OpR X (binaryOp .Add) (rI0 λi j=>.int (i+j)):=aLE λ_ _ _ _ _ _ _ q=>add_int q
theorem aKu:OpR X (binaryOp .Sub) (rI0 λi j=>.int (i-j)):=aLE λ_ _ _ _ _ _ _ q=>sub_int q
theorem aGh:OpR X (binaryOp .Mod) (rI (λ_ j=>j≠0) λi j=>.int (i.fmod j)):=opI λ_ _ _ _ _ _ _ hc q=>mod_int' hc q
theorem aKg:OpR X (binaryOp .Pow) (rI aLX λi j=>.int (i^j.toNat)):=opI λ_ _ _ _ _ _ _ hc q=>pow_int_small hc.1 hc.2.1 hc.2.2 q
theorem unI {f:Value->Sem Value}{g:Int->Int}(rule:∀(i:Int)(t:Tok) (s:Shared) (Q:Value->Shared->Prop) (E:Value->Shared->Prop),Q (.int (g i) s.toks) { s with toks:=s.toks+1 }->wpAny (model X.prog X.w) X.A (f (.int i t)) Q E s) :
  UnR X f (rU λi=>.int (g i)):=by
 intro pins s σ H x v Q I rx h;obtain⟨i,rfl,q⟩:=h;obtain⟨t,rfl⟩:=rx;exact rule i t s _ _ ⟨.int (g i),H,I.tok _,⟨_,rfl⟩,q⟩
theorem aJa:UnR X (unaryOp .USub) (rU λi=>.int (-i)):=unI λ_ _ _ _ _ q=>neg_int q
end
section
variable {X:Cx}{a b c:Expr}{ta tb tc:TE}{pos:Pos}
theorem aK2:OpR X (compareOp .Lt) (rI0 λi j=>.bl (decide (i<j))):=aI3 λ_ _ _ _ _ _ _ q=>lt_int q
theorem aLJ:OpR X (compareOp .Gt) (rI0 λi j=>.bl (decide (j<i))):=aI3 λ_ _ _ _ _ _ _ q=>gt_int q
theorem aMp:OpR X (compareOp .GtE) (rI0 λi j=>.bl (decide (j<=i))):=aI3 λ_ _ _ _ _ _ _ q=>ge_int q
theorem aAl (b:Expr){op:CmpOp}(h:op ≠ .In:=by decide)(h2:op ≠ .NotIn:=by decide):behindInMarks op b=false:=by
 have e1:(op==CmpOp.In)=false:=by cases op<;>first|rfl|exact absurd rfl h
 have e2:(op==CmpOp.NotIn)=false:=by cases op<;>first|rfl|exact absurd rfl h2
 cases b<;>simp[behindInMarks,e1,e2]
theorem aGF {op:CmpOp}{r:R2}(ho:OpR X (compareOp op) r)(ha:PE X a ta)(hb:PE X b tb)(hm:behindInMarks op b=false):PE X (.Compare a [op] [b] pos) (tOp r ta tb):=by intro pins s σ H Q I h;exact wpAny_Compare1 (aKc ha hb I h λv u s2 x y H2 I2 rx ry q=>ho pins s2 σ H2 x y v u Q I2 rx ry q) hm
def aLW (t:TE):TT:=λσ H Q=>t σ H λx H'=>∃k,x=.bl k/\Q k H'
theorem aGA {op:CmpOp}{r:R2}(ho:OpR X (compareOp op) r)(ha:PE X a ta)(hb:PE X b tb)(hm:behindInMarks op b=false):PT X (.Compare a [op] [b] pos) (aLW (tOp r ta tb)):=by
 intro pins s σ H Q I h;refine wpAny_isTrue_Compare1 (thn (ha pins s σ H _ I h) λv s1 ⟨x,H1,I1,r1,q1⟩=>thn (hb pins s1 σ H1 _ I1 q1) λu s2 ⟨y,H2,I2,r2,q2⟩ =>
  thn (ho pins s2 σ H2 x y v u _ I2 r1 r2 q2) λc s3 ⟨z,H3,I3,r3,k,e,q3⟩=>?_) hm
 subst e;cases r3;exact wpAny_truthy_bool ⟨H3,I3,q3⟩
theorem yE:(sizeLine:Nat)<2^63:=by rw[sizeLine_eq];decide
theorem rW {x:V}{us:List Value}(r:bU [x] us):∃u,us=[u]/\RelV x u:=by
 cases r with
 |cons r1 r2=>cases r2;exact⟨_,rfl,r1⟩
theorem aHQ {x y:V}{us:List Value}(r:bU [x,y] us):∃u w',us=[u,w']/\RelV x u/\RelV y w':=by
 cases r with
 |cons r1 r2 =>
  cases r2 with
  |cons r3 r4=>cases r4;exact⟨_,_,rfl,r1,r3⟩
theorem aEF:lN X (.builtin "abs") (λxs H Q=>∃i,xs=[.int i]/\Q (.int (if i<0 then -i else i)) H):=by intro pins s σ H xs us Q I r h;obtain⟨i,rfl,q⟩:=h;obtain⟨u,rfl,t,rfl⟩:=rW r;exact call_abs_int λu tk=>⟨.int (if i<0 then -i else i),H,I.tok _,⟨_,rfl⟩,q⟩
theorem aDp (hc:X.calm = true):lN X (.builtin "min") (λxs H Q=>∃i j,xs=[.int i,.int j]/\Q (.int (if j<i then j else i)) H):=by
 intro pins s σ H xs us Q I r h;obtain⟨i,j,rfl,q⟩:=h;obtain⟨u,w',rfl,⟨t,rfl⟩,⟨t',rfl⟩⟩:=aHQ r;refine min_two_ints (I.ok.hd hc) λh' tk k=>⟨_,H,I.kept k,?_,q⟩;by_cases hj:j<i
 ·rw[if_pos hj,if_pos hj];exact⟨_,rfl⟩
 ·rw[if_neg hj,if_neg hj];exact⟨_,rfl⟩
theorem aDF:lN X (.type "int") (λxs H Q=>(∃i,xs=[.int i]/\Q (.int i) H) ∨ ∃k,xs=[.bl k]/\Q (.int (if k then 1 else 0)) H):=by
 intro pins s σ H xs us Q I r h;rcases h with⟨i,rfl,q⟩|⟨k,rfl,q⟩
 ·obtain⟨u,rfl,t,rfl⟩:=rW r;exact call_int_int ⟨.int i,H,I,⟨_,rfl⟩,q⟩
 ·obtain⟨u,rfl,r1⟩:=rW r;cases r1;exact call_int_bool ⟨.int (if k then 1 else 0),H,I.tok _,⟨_,rfl⟩,q⟩
end
structure aJ9 (h:Heap)(x dx C:Addr)(mA:Str->Option Value):Prop where
 obj:h.get? x=some (instObj C dx)
 ns:h.Ns1 dx mA
 ne:dx≠x
theorem aDD {h:Heap}{dx:Addr}{mA:Str->Option Value}(n:h.Ns1 dx mA):∃od,h.get? dx=some od/\∀name,lookIn name od=some (mA name):=by
 obtain⟨o,es,ep,ho,hd,hk,_,hm⟩:=n;refine⟨o,ho,λname=>?_⟩;have e:=hm name;unfold nsFind findBy at e;rw[<- Array.find?_toList] at e;unfold lookIn;rw[hd];dsimp only;split
 ·rename_i y q;rw[q] at e;exact congrArg some e
 ·rename_i q;rw[q] at e;have a:es.toList.any (·.refKey)=false:=by rw[List.any_eq_false];intro y hy;obtain⟨z,t,hkey⟩:=hk y (Array.mem_toList_iff.mp hy);simp[DictEntry.refKey,hkey]
  have a':¬es.toList.any (·.refKey)=true:=by rw[a];exact Bool.false_ne_true
  rw[if_neg a'];exact congrArg some e
theorem aJ9.look {h:Heap}{x dx C:Addr}{mA:Str->Option Value}(I:aJ9 h x dx C mA):∃od,PySem.W.InstAt h x (instObj C dx) C (some od)/\∀name,lookIn name od=some (mA name) :=
 let ⟨od,ho,hl⟩:=aDD I.ns
 ⟨od,⟨I.obj,rfl,rfl,ho⟩,hl⟩
section
variable {prog:Program}{w:World}{A:Around}{E:Value->Shared->Prop}{s:Shared}{K:Frag}{x dx C f:Addr}{mA:Str->Option Value}{name:Str}{v:Value}
end
section
variable {P:Program}{w:World}{H H':Hp}{h h':Heap}{a C dx:Addr}{fs fs':List (Str×V)}
theorem aHc (hok:HOk P w H h)(e:H a=some (.ins C dx fs)):∃mA,aJ9 h a dx C mA/\(∀f,aKe (fs.lookup f) (mA f))/\PySem.Within mA (fs.map (·.1))/\fs.length<=1000/\H dx=some (.own a):=by obtain⟨d,z,ne,ob,mA,n,r,q⟩:=(show fR P w H h a (.ins C dx fs) from hok a _ e);exact⟨mA,⟨ob,n,ne⟩,r,q,z,d⟩
end
structure Cls (K:Frag)(C:Addr):Prop where
 pg:PySem.W.plainGet K C Str.empty=true
 hd:PySem.W.hasDictIn K C=true
 po:PySem.W.plainOver K C=true
 sa:PySem.W.findIn K (.ref C) "__setattr__" = some (some (.builtin "object.__setattr__"))
theorem Cls.get {K:Frag}{C:Addr}(c:Cls K C)(f:Str):PySem.W.plainGet K C f=true:=c.pg
section
variable {X:Cx}{pins:List (Addr×Obj)}{σ:St}{H:Hp}{s:Shared}{a C dx:Addr}{fs:List (Str×V)}{f:Str}{v:V}{A:Around}{E:Value->Shared->Prop}
end
section
variable {X:Cx}{o e value:Expr}{f:Str}{pos pos' tpos:Pos}{ta tv:TE}
end
section
variable {X:Cx}{pins:List (Addr×Obj)}{σ:St}{H:Hp}{s:Shared}{A:Around}{E:Value->Shared->Prop}{Q:Value->Shared->Prop}{c:Value}{b:Bool}
inductive uH (K:Frag) (H:Hp):V->Value->Prop where
 |non:uH K H .non (.type "NoneType")
 |bl (x:Bool):uH K H (.bl x) (.type "bool")
 |int (i:Int):uH K H (.int i) (.type "int")
 |str (x:Str):uH K H (.str x) (.type "str")
 |flt (x:UInt64):uH K H (.flt x) (.type "float")
 |lst {a:Addr} {xs:List V} (e:H a = some (.lst xs)):uH K H (.ref a) (.type "list")
 |frz {a:Addr} {o:Obj} {xs:List V} (e:H a = some (.frz o (.lst xs))):uH K H (.ref a) (.type "list")
 |tup {a:Addr} {xs:List V} (e:H a = some (.tup xs)):uH K H (.ref a) (.type "tuple")
 |dK {a:Addr} {kvs:List (Key×V)} (e:H a = some (.dK kvs)):uH K H (.ref a) (.type "dict")
 |dT {a:Addr} {kvs:List (List Key×V)} (e:H a = some (.dT kvs)):uH K H (.ref a) (.type "dict")
 |ins {a C dx:Addr} {fs:List (Str×V)} (e:H a = some (.ins C dx fs)) (cl:Cls K C) (ha:PySem.W.findIn K (.ref C) "__class__" = some (some (.builtin "object.__class__")))
   (hn:PySem.W.specialIn K (.builtin "object.__class__") "__get__" = some (some (.builtin "getset_descriptor.__get__"))) (htk:PySem.W.takesIn K (.builtin "object.__class__")=some true)
   (hm:PySem.W.mroIn K C (.type "object")=some true):uH K H (.ref a) (.ref C)
theorem lM {x:V}{u t:Value}(I:Inv X pins σ H s)(rx:RelV x u)(ty:uH X.K H x t)(e:kitOne X.K t c=some b)(h:∀tk,Q (.bool b) { s with toks:=tk }) :
  wpAny (model X.prog X.w) A (call (.builtin "isinstance") [u,c]) Q E s:=by
 cases ty with
 |non=>cases (show u=Value.none from rx);exact kia_one PySem.W.kitx_none I.kIn True.intro e (λz=>nomatch z) h
 |bl y=>cases (show u=Value.bool y from rx);exact kia_one PySem.W.kitx_bool I.kIn True.intro e (λz=>nomatch z) h
 |int i=>obtain⟨t,q⟩:=(show ∃t,u=Value.int i t from rx);cases q;exact kia_one PySem.W.kitx_int I.kIn True.intro e (λz=>nomatch z) h
 |str y=>obtain⟨t,q⟩:=(show ∃t,u=Value.str y t from rx);cases q;exact kia_one PySem.W.kitx_str I.kIn True.intro e (λz=>nomatch z) h
 |flt y=>obtain⟨t,q⟩:=(show ∃t,u=Value.float y t from rx);cases q;exact kia_one PySem.W.kitx_float I.kIn True.intro e (λz=>nomatch z) h
 |@lst a xs ea =>
  cases (show u=Value.ref a from rx);obtain⟨_,_,n,_,h1⟩:=(show fR X.prog X.w H s.heap a (.lst xs) from I.hok a _ ea);exact kia_one kitx_list I.kIn ⟨_,h1,rfl⟩ e (λz=>nomatch z) h
 |@frz a ob xs ea =>
  cases (show u=Value.ref a from rx);obtain⟨_,_,_,n,_,h1⟩:=(show fR X.prog X.w H s.heap a (.frz ob (.lst xs)) from I.hok a _ ea);exact kia_one kitx_list I.kIn ⟨_,h1,rfl⟩ e (λz=>nomatch z) h
 |@tup a xs ea =>
  cases (show u=Value.ref a from rx);obtain⟨_,_,_,p⟩:=(show fR X.prog X.w H s.heap a (.tup xs) from I.hok a _ ea);obtain⟨o,h1,h2,_⟩:=p;exact kia_one PySem.W.kitx_tuple I.kIn ⟨o,h1,h2⟩ e (λz=>nomatch z) h
 |@dK a kvs ea =>
  cases (show u=Value.ref a from rx);obtain⟨_,_,vs,_,p⟩:=(show fR X.prog X.w H s.heap a (.dK kvs) from I.hok a _ ea);obtain⟨o,es,ep,h1,h2,_⟩:=p;exact kia_one PySem.W.kitx_dict I.kIn ⟨o,h1,h2.1⟩ e (λz=>nomatch z) h
 |@dT a kvs ea =>
  cases (show u=Value.ref a from rx);obtain⟨_,_,xs,_,o,es,ep,h1,h2,_⟩:=(show fR X.prog X.w H s.heap a (.dT kvs) from I.hok a _ ea);exact kia_one PySem.W.kitx_dict I.kIn ⟨o,h1,h2.1⟩ e (λz=>nomatch z) h
 |@ins a C dx fs ea cl ha hn htk hm =>
  cases (show u=Value.ref a from rx);obtain⟨mA,O,_⟩:=aHc I.hok ea;obtain⟨od,J,_⟩:=O.look;exact kia_one (PySem.W.kitx_own (cl.get _) cl.hd ha hn htk hm) I.kIn J e (λz=>nomatch z) h
end
structure dZ (k:Nat)(A:Around):Prop where
 hd:A.handled=none
 dp:A.depth+3*k+5<recursionLimit
 un:A.units+16*k+200<cLine
theorem dZ.mono {j k:Nat}{A:Around}(r:dZ k A)(h:j<=k):dZ j A:=⟨r.hd,by have:=r.dp;omega,by have:=r.un;omega⟩
theorem dZ.deeper {k:Nat}{A:Around}(r:dZ (k+1) A)(env:Env):dZ k (A.deeper env) :=
 ⟨r.hd,by have:=r.dp;show A.depth+1+3*k+5<_;omega,by have:=r.un;show A.units+3+16*k+200<_;omega⟩
theorem dZ.depth {k:Nat}{A:Around}(r:dZ k A):A.depth<recursionLimit:=by have:=r.dp;omega
theorem dZ.units {k:Nat}{A:Around}(r:dZ k A):A.units+64<cLine:=by have:=r.un;omega
def aNf:TA:=λ_ H Q=>Q [] H
def aLP (ta:TE)(tr:TA):TA:=λσ H Q=>ta σ H λx H1=>tr σ H1 λxs H2=>Q (x::xs) H2
section
variable {X:Cx}{e:Expr}{es:List Expr}{te:TE}{t:TA}{pos:Pos}
theorem aB8:PA X [] aNf:=λ_ _ _ _ H Q I h=>Calls.spliced_nil ⟨[],H,I,.nil,h⟩
theorem rL (ha:PE X e te)(hr:PA X es t)(hs:starEach (e::es) X.env=(false,eval e X.env)::starEach es X.env:=by rfl):PA X (e::es) (aLP te t):=by intro pos pins s σ H Q I h;rw[hs];show wpAny _ _ (spliced ((false,eval e X.env)::backTo pos (starEach es X.env))) _ _ s;refine Calls.spliced_cons (thn (ha pins s σ H _ I h) λu s1 ⟨x,H1,I1,r1,q1⟩=>?_);exact thn (hr pos pins s1 σ H1 _ I1 q1) λus s2 ⟨xs,H2,I2,r2,q2⟩=>⟨x::xs,H2,I2,.cons r1 r2,q2⟩
def aMP (t:TA):TE:=λσ H Q=>t σ H λxs H1=>xs.length<=sizeLine/\∀p,H1 p=none->Q (.ref p) (upd H1 p (.tup xs))
def aMO (t:TA):TE:=λσ H Q=>t σ H λxs H1=>xs.length<=sizeLine/\∀p,H1 p=none->Q (.ref p) (upd H1 p (.lst xs))
theorem aJu {x1}(h:PA X es t):PE X (.Tuple es x1 pos) (aMP t):=by intro pins s σ H Q I hq;refine wpAny_Tuple_spliced (thn (h pos pins s σ H _ I hq) λus s1 ⟨xs,H1,I1,r,z,q⟩=>⟨by rw[<- r.length];exact z,?_⟩);have hf:H1 s1.heap.objs.size=none:=I1.hok.fresh (Nat.le_refl _);refine⟨.ref s1.heap.objs.size,upd H1 s1.heap.objs.size (.tup xs),I1.laid (t':=s1.toks) (λb u e=>Heap.get?_push_of_some _ e) (Nat.le_refl _) ?_,rfl,q _ hf⟩;exact⟨z,us,r,⟨_,Heap.get?_push_size _ rfl,rfl,_,rfl⟩⟩
theorem aIo (h:PA X es t):PE X (.List es pos) (aMO t):=by intro pins s σ H Q I hq;refine wpAny_List_spliced (thn (h pos pins s σ H _ I hq) λus s1 ⟨xs,H1,I1,r,z,q⟩=>⟨by rw[<- r.length];exact z,?_⟩);have hf:H1 s1.heap.objs.size=none:=I1.hok.fresh (Nat.le_refl _);refine⟨.ref s1.heap.objs.size,upd H1 s1.heap.objs.size (.lst xs),I1.laid (t':=s1.toks) (λb u e=>Heap.get?_push_of_some _ e) (Nat.le_refl _) ?_,rfl,q _ hf⟩;exact⟨z,us,0,r,Heap.get?_push_size _ rfl⟩
end
abbrev Sp:=List V->Hp->VK->XK->Prop
abbrev CXT:=List Env->Hp->Shared->XK->Value->Shared->Prop
structure aDr (P:Program)(w:World)(K:Frag)(mg:Str->Option Value)(base:Heap)(A:Around)(outer:List Env)(s:Shared)(H:Hp):Prop where
 frames:A.frames=some outer
 mod:Mod K mg base
 bs:∀b o,base.get? b=some o->s.heap.get? b=some o/\H b=none
 bsz:base.objs.size<=s.heap.objs.size
 funs:s.heap.FunFrames base outer
 frf:∀b∈frs outer,H b=none
 hok:HOk P w H s.heap
 bare:AllBare s.gens
def CE (outer:List Env)(P:Program)(w:World)(H:Hp)(s:Shared)(Q:VK)(u:Value)(s':Shared):Prop :=
 ∃v H',s'.os=s.os/\AllBare s'.gens/\Un (frs outer) [] H H' s.heap s'.heap/\HOk P w H' s'.heap/\RelV v u/\Q v H'
def CR (CX:CXT)(outer:List Env)(P:Program)(w:World)(H:Hp)(s:Shared)(Q:VK)(E:XK)(r:Result)(s':Shared):Prop :=
 match r with
 |.ok (.ret u)=>CE outer P w H s Q u s'
 |.ok _=>False
 |.error e=>CX outer H s E e s'
structure mX (P:Program)(w:World)(K:Frag)(mg:Str->Option Value)(base:Heap)(CX:CXT)(k:Nat)(f:Addr)(fd:FuncData)(ps:List Str)(sp:Sp):Prop where
 len:∀vs H Q E,sp vs H Q E->vs.length=ps.length
 run:∀(A:Around)(outer:List Env) (s:Shared) (H:Hp) (args:Args) (us:List Value) (vs:List V) (Q:VK) (E:XK),dZ k A->aDr P w K mg base A outer s H->BindsTo s fd args (ps.zip us)->bU vs us->sp vs H Q E ->
  codeAny (model P w) A (.call (.ref f) args) (CR CX outer P w H s Q E) s
theorem mX.mono {P:Program}{w:World}{K:Frag}{mg:Str->Option Value}{base:Heap}{CX:CXT}{j k:Nat}{f:Addr}{fd:FuncData}{ps:List Str}{sp:Sp}(F:mX P w K mg base CX j f fd ps sp)(h:j<=k) :
  mX P w K mg base CX k f fd ps sp:=⟨F.len,λA outer s H args us vs Q E hr=>F.run A outer s H args us vs Q E (hr.mono h)⟩
theorem mX.imp {P:Program}{w:World}{K:Frag}{mg:Str->Option Value}{base:Heap}{CX:CXT}{k:Nat}{f:Addr}{fd:FuncData}{ps:List Str}{sp sp':Sp}(F:mX P w K mg base CX k f fd ps sp)(h:∀vs H Q E,sp' vs H Q E->sp vs H Q E):mX P w K mg base CX k f fd ps sp' :=
 ⟨λvs H Q E q=>F.len vs H Q E (h _ _ _ _ q),λA outer s H args us vs Q E hr he hb hv hs=>F.run A outer s H args us vs Q E hr he hb hv (h _ _ _ _ hs)⟩
section
variable {X:Cx}{pins:List (Addr×Obj)}{σ:St}{H:Hp}{s s':Shared}
theorem Inv.env0 (I:Inv X pins σ H s):aDr X.prog X.w X.K X.mg X.base X.A X.stack s H :=
 ⟨I.ok.frames,I.ok.mod,I.bs,Nat.le_trans I.ok.bsz I.sz,I.stack,I.stkFree,I.hok,I.bare⟩
theorem Inv.after {Q:VK}{u:Value}(I:Inv X pins σ H s)(h:CE X.stack X.prog X.w H s Q u s'):EP X pins σ Q u s':=by obtain⟨v,H',os,bare,un,hok,r,q⟩:=h;obtain⟨hh,g,d,t,os'⟩:=s';obtain rfl:os'=s.os:=os;exact⟨v,H',I.call (h':=hh) (g':=g) (d':=d) (t':=t) (ch:=[]) un hok bare (λb z=>absurd z (by simp)),r,q⟩
end
def aLA (sp:Sp)(dvs:List V)(E:XK)(t:TA):TE:=λσ H Q=>t σ H λvs H1=>sp (vs++dvs) H1 Q E
def tS (K:Frag)(fd:FuncData)(ps:List Str)(ds:List Value):Prop :=
 ∀(s:Shared)(us:List Value),K.In s.heap->(us++ds).length=ps.length->BindsTo s fd ⟨us,[]⟩ (ps.zip (us++ds))
theorem tS.all {K:Frag}{fd:FuncData}{ps:List Str}(h:∀us:List Value,us.length=ps.length->bindArgs fd ⟨us,[]⟩=pure (ps.zip us)):tS K fd ps []:=λs us _ hl=>by rw[append_nil] at hl ⊢;exact .of_eq (h us hl)
def yX (CX:CXT)(X:Cx)(E:XK):Prop:=∀(pins:List (Addr×Obj)) (σ:St) (H:Hp) (s:Shared) (e:Value) (s':Shared),Inv X pins σ H s->CX X.stack H s E e s'->X.xe e s'
section
variable {X:Cx}{CX:CXT}{k:Nat}{f C:Addr}{fd:FuncData}{ps:List Str}{sp:Sp}{dvs:List V}{ds:List Value}{E:XK}{x m:Str}{p pos apos:Pos}{e o:Expr}{es:List Expr}{ta:TE}{t:TA}
theorem aFI {pins:List (Addr×Obj)}{σ:St}{H:Hp}{s:Shared}{Q:VK}{us:List Value}{vs:List V}(F:mX X.prog X.w X.K X.mg X.base CX k f fd ps sp)(hr:dZ k X.A)(hb:tS X.K fd ps ds)(hd:bU dvs ds)(hx:yX CX X E)(I:Inv X pins σ H s)(r:bU vs us)(h:sp (vs++dvs) H Q E):wpAny (model X.prog X.w) X.A (call (.ref f) us) (EP X pins σ Q) X.xe s:=by
 have r2:bU (vs++dvs) (us++ds):=r.append hd;have hl:(us++ds).length=ps.length:=by rw[<- r2.length];exact F.len _ _ _ _ h
 refine wpAny_call (codeAny_mono (F.run X.A X.stack s H ⟨us,[]⟩ (us++ds) (vs++dvs) Q E hr I.env0 (hb s us I.kIn hl) r2 h) λr s' hq=>?_);cases r with
 |error e=>exact hx pins σ H s e s' I hq
 |ok fl =>
  cases fl with
  |ret u=>exact I.after hq
  |next=>exact False.elim hq
  |brk=>exact False.elim hq
  |cont=>exact False.elim hq
theorem aGM (F:mX X.prog X.w X.K X.mg X.base CX k f fd ps sp)(hr:dZ k X.A)(hg:Gl X x)(hm:X.mg x=some (.ref f))(hk:keepIn X.K (.ref f)=true)(hb:tS X.K fd ps ds)(hd:bU dvs ds)(hx:yX CX X E)(ha:PA X (e::es) t)(hdb:(x==("__debug__":Str))=false:=by decide)(he:starEach (e::es) X.env=(false,eval e X.env)::starEach es X.env:=by rfl)(hpl:(backTo pos (starEach es X.env)).any (·.1)=false:=by rfl) :
  PE X (.Call (.Name x p) (e::es) [] pos) (aLA sp dvs E t):=by
 intro pins s σ H Q I h;refine wpAny_Call_Name_kw (yM I hg hm ?_ hdb);refine callWith_K (h₀:=X.base) I.ok.mod.kin hk (thn (ha pos pins s σ H _ I h) λus s1 ⟨vs,H1,I1,r,q⟩=>⟨I1.kIn,?_⟩) he hpl;exact aFI F hr hb hd hx I1 r q
end
section
variable {X:Cx}{CX:CXT}{k:Nat}{f C:Addr}{fd:FuncData}{ps ks:List Str}{sp:Sp}{E:XK}{x m:Str}{p pos apos kpos:Pos}{e o:Expr}{es:List Expr}{kws:List Keyword}{te ta:TE}{t tk:TA}{nm:Option Str}
variable {g:List Value->List Value->List Value}{gV:List V->List V->List V}
end
structure aS (N P:List Str)(sc:Scope):Prop where
 kind:sc.kind=.function
 co:sc.isCoroutine=false
 gen:sc.isGenerator=false
 nd:N.Nodup
 pre:N.take P.length=P
 par:∀x∈P,sc.names.lookup x=some .local∨sc.names.lookup x=some .cell
 nofree:∀y∈sc.names,y.2 ≠ .free
theorem xP {kindOf:Str->Option NameKind}{x:Str}:∀{binds:List (Str×Value)}{m:Str->Option Value},(∀v,(x,v)∉binds)->bindL kindOf binds m x=m x
 |[],_,_=>rfl
 |(n,v)::r,m,h=>by
  unfold bindL;rw[xP λw hw=>h w (mem_cons_of_mem _ hw)];split
  ·have:x≠n:=by rintro rfl;exact h v mem_cons_self
   simp[this]
  ·rfl
theorem yB {kindOf:Str->Option NameKind}{x:Str}:∀{binds:List (Str×Value)}{m:Str->Option Value},(∀v,(x,v)∉binds)->bindC kindOf binds m x=m x
 |[],_,_=>rfl
 |(n,v)::r,m,h=>by
  unfold bindC;rw[yB λw hw=>h w (mem_cons_of_mem _ hw)];split
  ·rfl
  ·have:x≠n:=by rintro rfl;exact h v mem_cons_self
   simp[this]
theorem yA {kindOf:Str->Option NameKind}{x:Str}{v:Value}:∀{P:List Str}{vs:List Value} {i:Nat} {m:Str->Option Value},P.Nodup->P[i]?=some x->vs[i]?=some v->kindOf x=some .local ->
  bindL kindOf (P.zip vs) m x=some v
 |[],_,_,_,_,h,_,_=>by simp at h
 |_::_,[],_,_,_,_,h,_=>by simp at h
 |p::P,w::vs,0,m,nd,h1,h2,hk=>by simp at h1 h2;subst h1;subst h2;show bindL kindOf ((p,w)::P.zip vs) m p=_;unfold bindL;rw[xP λv hv=>(List.nodup_cons.mp nd).1 (List.of_mem_zip hv).1,if_pos hk];simp
 |p::P,w::vs,i+1,m,nd,h1,h2,hk=>by show bindL kindOf ((p,w)::P.zip vs) m x=_;unfold bindL;exact yA (i:=i) (List.nodup_cons.mp nd).2 (by simpa using h1) (by simpa using h2) hk
theorem xI {kindOf:Str->Option NameKind}{x:Str}{v:Value}:∀{P:List Str}{vs:List Value} {i:Nat} {m:Str->Option Value},P.Nodup->P[i]?=some x->vs[i]?=some v->kindOf x≠some .local ->
  bindC kindOf (P.zip vs) m x=some v
 |[],_,_,_,_,h,_,_=>by simp at h
 |_::_,[],_,_,_,_,h,_=>by simp at h
 |p::P,w::vs,0,m,nd,h1,h2,hk=>by simp at h1 h2;subst h1;subst h2;show bindC kindOf ((p,w)::P.zip vs) m p=_;unfold bindC;rw[yB λv hv=>(List.nodup_cons.mp nd).1 (List.of_mem_zip hv).1,if_neg hk];simp
 |p::P,w::vs,i+1,m,nd,h1,h2,hk=>by show bindC kindOf ((p,w)::P.zip vs) m x=_;unfold bindC;exact xI (i:=i) (List.nodup_cons.mp nd).2 (by simpa using h1) (by simpa using h2) hk
noncomputable def start (N:List Str)(vs:List V):St:=vs.map some++replicate (N.length-vs.length) none
noncomputable def sT (CX:CXT)(P:Program)(w:World)(K:Frag)(mg:Str->Option Value)(base:Heap)(N:List Str)(qual:Str)(scope:Scope)(f:Addr)(cd:Value)(A:Around)(outer:List Env)(s:Shared)(H:Hp)(E:XK):Cx where
 prog:=P
 w:=w
 K:=K
 mg:=mg
 base:=base
 A:=A.deeper (envOfC qual scope s.heap.objs.size f cd)
 N:=N
 s₀:=s
 H₀:=H
 env:=envOfC qual scope s.heap.objs.size f cd
 outer:=outer
 stack:=envOfC qual scope s.heap.objs.size f cd::outer
 ex:=[]
 calm:=true
 fn:=λ_=>true
 pn:=[]
 xe:=λe s'=>wpAny (model P w) (A.deeper (envOfC qual scope s.heap.objs.size f cd)) (leaving (envOfC qual scope s.heap.objs.size f cd) e) (λ_ s''=>CX outer H s E e s'') (λe' s''=>CX outer H s E e' s'') s'
theorem aA6 {sc:Scope}{n:Nat}{x:Str}(h:sc.names.lookup x=some .cell):∃c,(cellsFrom n sc.names []).lookup x=some c:=by have q:=PySem.W.cellsFrom_some sc.names n [] (.inl h);exact Option.isSome_iff_exists.mp q
theorem aC5 {CX:CXT}{P:Program}{w:World}{K:Frag}{mg:Str->Option Value}{base:Heap}{N ps:List Str}{qual:Str}{scope:Scope}{f:Addr}{cd:Value}{A:Around}{outer:List Env}{s s1:Shared}{H:Hp}{E:XK}{us:List Value}{vs:List V}(S:aS N ps scope)(hd:A.handled=none)(e0:aDr P w K mg base A outer s H)(hl:vs.length=ps.length)(r:bU vs us)(x:InCallC s s.heap.objs.size (bindL (envOfC qual scope s.heap.objs.size f cd).kindOf (ps.zip us) λ_=>none) (cellsFrom (s.heap.objs.size+1) scope.names []) (bindC (envOfC qual scope s.heap.objs.size f cd).kindOf (ps.zip us) λ_=>none) s1) :
  Inv (sT CX P w K mg base N qual scope f cd A outer s H E) [] (start N vs) H s1:=by
 have hpl:ps.length<=N.length:=by have:=congrArg List.length S.pre;rw[length_take] at this;omega
 obtain⟨h1,tk,rfl,hk⟩:=x.done;have noA:∀b:Addr,b∉(sT CX P w K mg base N qual scope f cd A outer s H E).ex:=λb z=>absurd (show b∈([]:List Addr) from z) (by simp);refine⟨⟨e0.mod,S.kind,rfl,rfl,Nat.le_refl _,λy z c h1 h2=>?_,λy hy=>?_,λy c _ h=>?_,λ_=>hd,Around.frames_deeper e0.frames,.inr ⟨rfl,rfl⟩,λb z=>absurd z (noA b),e0.bs,e0.bsz,λb _ _=>noA b,λb z=>absurd z (noA b),e0.funs,e0.frf⟩,
  rfl,e0.bare,Un.kept hk,⟨_,x.toInCall.ns,λi y v h1 h2 h3=>?_⟩,λy c h=>⟨_,x.cell y c h⟩,e0.hok.fresh (Nat.le_refl _),λy c h=>?_,λp hp=>absurd (show p∈([]:List (Addr×Obj)) from hp) (by simp),e0.hok.kept hk,?_⟩
 ·exact name_of_addr x.apart (PySem.mem_of_lookup h1) (PySem.mem_of_lookup h2)
 ·have hy:scope.names.lookup y=some .cell∨scope.names.lookup y=some .free:=hy;rcases hy with hy|hy
  ·exact aA6 hy
  ·exact absurd rfl (S.nofree _ (PySem.mem_of_lookup hy))
 ·exact Nat.le_of_lt (x.above y c (PySem.mem_of_lookup h))
 ·have hi:i<vs.length:=by
   unfold start at h2;by_cases hi:i<vs.length
   ·exact hi
   ·rw[List.getElem?_append_right (by simpa using hi)] at h2;rw[List.getElem?_replicate] at h2;split at h2<;>cases h2
  have ha:vs[i]?=some v:=by
   unfold start at h2;rw[List.getElem?_append_left (by simpa using hi),getElem?_map] at h2;cases e:vs[i]? with
   |none=>rw[e] at h2;cases h2
   |some a=>rw[e] at h2;cases h2;rfl
  obtain⟨u,hu,rv⟩:=r.get ha;have hp:ps[i]?=some y:=by rw[<- S.pre,List.getElem?_take_of_lt (by omega)];exact h1
  have ndP:ps.Nodup:=by rw[<- S.pre];exact S.nd.sublist (List.take_sublist _ _)
  refine⟨u,rv,?_⟩;rcases S.par y (mem_of_getElem? hp) with k|k
  ·exact .inl ⟨k,yA ndP hp hu k⟩
  ·obtain⟨c,e⟩:=aA6 (n:=s.heap.objs.size+1) k;refine .inr ⟨.inl k,c,e,?_⟩;have q:=x.cell y c e;rw[xI ndP hp hu (by show scope.names.lookup y≠_;rw[k];decide)] at q;exact q
 ·exact e0.hok.fresh (Nat.le_of_lt (x.above y c (PySem.mem_of_lookup h)))
 ·unfold start;show _=N.length;rw[length_append,length_map,List.length_replicate];omega
theorem aHG {CX:CXT}{P:Program}{w:World}{K:Frag}{mg:Str->Option Value}{base:Heap}{k:Nat}{f:Addr}{name qual:Str}{params:Arguments}{body:List Stmt}{scope:Scope}{dV kV doc pm cdv ct oc:Value}{an od:Option Addr}{osl:Array (Option Value)}{N ps:List Str}{sp:Sp}(lk:K.lookup f=some ⟨oc,od,.func (fnOf name qual params body scope dV kV doc pm an cdv ct),osl⟩)(hcd:codeIn K cdv qual=true)(S:aS N ps scope)(len:∀vs H Q E,sp vs H Q E->vs.length=ps.length)(hbody:∀(A:Around)(outer:List Env) (s:Shared) (H:Hp) (vs:List V) (Q:VK) (E:XK),dZ k (A.deeper (envOfC qual scope s.heap.objs.size f cdv))->sp vs H Q E ->
   ∃t,PSs (sT CX P w K mg base N qual scope f cdv A outer s H E) body t/\t { nx:=λ_ H'=>Q .non H',rt:=Q } (start N vs) H) :
  mX P w K mg base CX (k+1) f (fnOf name qual params body scope dV kV doc pm an cdv ct) ps sp:=by
 refine⟨len,λA outer s H args us vs Q E hr e0 hb r hsp=>?_⟩;have hl:=len _ _ _ _ hsp;have KX:K.In s.heap:=e0.mod.kin.keeps λb o e=>(e0.bs b o e).1;have lim:s.heap.NoLimit:=e0.mod.nolimit.keeps λb o e=>(e0.bs b o e).1;have hkind:∀y∈ps.zip us,scope.names.lookup y.1=some .local∨(scope.names.lookup y.1=some .cell/\((cellsFrom (s.heap.objs.size+1) scope.names []).lookup y.1).isSome=true):=λ⟨n,v⟩ hy=>by
  rcases S.par n (List.of_mem_zip hy).1 with q|q
  ·exact .inl q
  ·exact .inr ⟨q,PySem.W.cellsFrom_some _ _ _ (.inl q)⟩
 refine codeAny_call_function hr.depth (KX _ _ lk) rfl S.co S.gen rfl (PySem.W.codeRec_of KX hcd) (hb _ _ _ _ ?_);refine wpAny_newFunctionEnv_cells S.kind hkind λenv he s1 x=>?_;subst he;refine⟨lim.keeps x.toInCall.keep,codeAny_func ?_⟩;obtain⟨t,ht,hq⟩:=hbody A outer s H vs Q E (hr.deeper _) hsp;have I:Inv (sT CX P w K mg base N qual scope f cdv A outer s H E) [] (start N vs) H s1:=aC5 S hr.hd e0 hl r x;refine wpAny_mono (ht [] s1 (start N vs) H _ I hq) (λfl s' hs=>?_) λe s' hs=>hs;have fin:∀{σ':St}{H':Hp} {v:V} {u:Value},Inv (sT CX P w K mg base N qual scope f cdv A outer s H E) [] σ' H' s'->RelV v u->Q v H'->CE outer P w H s Q u s' :=
  λ{σ' H' v u} J rv q=>⟨v,H',J.os,J.bare,J.base,J.hok,rv,q⟩
 cases fl with
 |ret u =>
  obtain⟨v,σ',H',J,rv,q⟩:=hs;exact fin J rv q
 |next =>
  obtain⟨σ',H',J,q⟩:=hs;exact fin (v:=V.non) (u:=Value.none) J rfl q
 |brk =>
  obtain⟨_,_,_,q⟩:=hs;exact False.elim q
 |cont =>
  obtain⟨_,_,_,q⟩:=hs;exact False.elim q
section
variable {X:Cx}{x:Str}{p pos:Pos}{e:Expr}{es:List Expr}{t:TA}{id T:String}{r:List V->Hp->VK->Prop}
def tCB (r:List V->Hp->VK->Prop)(t:TA):TE:=λσ H Q=>t σ H λvs H1=>r vs H1 Q
theorem aA8 (hc:lN X (.builtin id) r)(hg:Gl X x)(hm:X.mg x = none)(hv:bootBuiltins x = some (.builtin id))(ha:PA X (e :: es) t)(hn:x ≠ "__name__":=by decide)(hdb:(x==("__debug__":Str))=false:=by decide)(he:starEach (e::es) X.env=(false,eval e X.env)::starEach es X.env:=by rfl)(hpl:(backTo pos (starEach es X.env)).any (·.1)=false:=by rfl):PE X (.Call (.Name x p) (e::es) [] pos) (tCB r t):=by intro pins s σ H Q I h;refine wpAny_Call_Name_kw (yP I hg hm hv ?_ hn hdb);exact PyProof.Rows.callWith_builtin1 (thn (ha pos pins s σ H _ I h) λus s1 ⟨vs,H1,I1,r1,q1⟩=>hc pins s1 σ H1 vs us Q I1 r1 q1) he hpl
theorem aDs (hc:lN X (.type T) r)(hg:Gl X x)(hm:X.mg x = none)(hv:bootBuiltins x = some (.type T))(ha:PA X (e :: es) t)(hn:x ≠ "__name__":=by decide)(hdb:(x==("__debug__":Str))=false:=by decide)(he:starEach (e::es) X.env=(false,eval e X.env)::starEach es X.env:=by rfl)(hpl:(backTo pos (starEach es X.env)).any (·.1)=false:=by rfl):PE X (.Call (.Name x p) (e::es) [] pos) (tCB r t):=by intro pins s σ H Q I h;refine wpAny_Call_Name_kw (yP I hg hm hv ?_ hn hdb);exact PyProof.Rows.callWith_type1 (thn (ha pos pins s σ H _ I h) λus s1 ⟨vs,H1,I1,r1,q1⟩=>hc pins s1 σ H1 vs us Q I1 r1 q1) he hpl
end
end L2
namespace HT
open PySem PyProof.Rows
theorem rcLt_int (A:Around)(s:Shared)(a:Int)(t:Tok)(c:Int)(u:Tok)(prog:Program)(w:World)(E:Value->Shared->Prop)(Q:Value->Shared->Prop)(h:Q (.bool (decide (a<c))) s) :
  wpAny (model prog w) A (richCompare .Lt (.int a t) (.int c u)) Q E s :=
 (PyProof.Rows.lt_int h:wpAny (model prog w) A (compareOp .Lt (.int a t) (.int c u)) Q E s)
section
open PySem.SeqAt
open PySem.AutoSeq1 (wpAny_loadPart')
open PySem.MeetsSeq PySem.MeetsSeq2 PySem.MeetsSeq3
end
section
variable {prog:Program}{w:World}{A:Around}{E:Value->Shared->Prop}{s:Shared}
theorem cat_tup {t b:Addr}{vs ws:List Value}{Q:Value->Shared->Prop}(ht:IsTup s.heap t vs.toArray)(hb:IsTup s.heap b ws.toArray)(hv:vs≠[])(h1:ws = []->Q (.ref t) s)(h2:ws≠[]->Q (.ref s.heap.objs.size) { s with heap:=s.heap.push { cls:=.type "tuple",data:=.seq (vs++ws).toArray } })(hsz:vs.length+ws.length<=sizeLine):wpAny (model prog w) A (binaryOp .Add (.ref t) (.ref b)) Q E s:=by
 obtain⟨⟨cls,dd,data,sl⟩,ho,hc,n,hd⟩:=id ht;obtain⟨⟨cls2,dd2,data2,sl2⟩,ho2,hc2,n2,hd2⟩:=id hb;simp only at hc hd hc2 hd2;subst hc hd hc2 hd2;have e:vs.toArray++ws.toArray=(vs++ws).toArray:=by simp
 by_cases hw:ws=[]
 ·exact concat_meets ⟨_,ho,rfl⟩ ⟨_,ho2,rfl⟩ noFill_tuple_add seq_tuple_add PySem.F.slot_tuple_add PySem.F.entry_tuple_add (PySem.F.args_tuple_add_2 _ _)
   (tuple_addW1 t b vs.toArray ws.toArray n n2 dd dd2 sl sl2 (by simpa using hv) (by simp[hw])) ⟨ho,ho2,h1 hw⟩
 ·refine concat_meets ⟨_,ho,rfl⟩ ⟨_,ho2,rfl⟩ noFill_tuple_add seq_tuple_add PySem.F.slot_tuple_add PySem.F.entry_tuple_add (PySem.F.args_tuple_add_2 _ _)
   (tuple_addW2 t b vs.toArray ws.toArray n n2 dd dd2 sl sl2 (by simpa using hv) (by simpa using hw) (by rw[size_toArray,size_toArray];exact hsz)) ⟨ho,ho2,?_⟩
  rw[e];exact h2 hw
noncomputable def sIx (n d:Nat):Option Int->Nat
 |none=>d
 |some v=>if v<0 then (v+(n:Int)).toNat else min v.toNat n
theorem sIx_none (n d:Nat):sIx n d none=d:=rfl
theorem sIx_nat (n d k:Nat):sIx n d (some (k:Int))=min k n:=by show(if (k:Int)<0 then ((k:Int)+(n:Int)).toNat else min (k:Int).toNat n)=min k n;rw[if_neg (by omega),Int.toNat_natCast]
theorem aH6 (n d:Nat)(hd:d<=n)(o:Option Int):sIx n d o<=n:=by
 cases o with
 |none=>exact hd
 |some v =>
  show(if v<0 then (v+(n:Int)).toNat else min v.toNat n)<=n;by_cases hv:v<0
  ·rw[if_pos hv];omega
  ·rw[if_neg hv];exact Nat.min_le_right _ _
theorem aCE (v:Int)(n d:Nat):(if v<0 then max (v+(n:Int)) 0 else min v (n:Int))=((sIx n d (some v):Nat):Int):=by
 show(if v<0 then max (v+(n:Int)) 0 else min v (n:Int))=(((if v<0 then (v+(n:Int)).toNat else min v.toNat n):Nat):Int);by_cases hv:v<0
 ·simp only[if_pos hv];omega
 ·simp only[if_neg hv];omega
theorem aB2 (lo hi:Option Int)(n:Nat):Builtin.Slice.sliceAdjust lo hi 1 (n:Int)=(((sIx n 0 lo:Nat):Int),((sIx n n hi:Nat):Int)):=by
 have h1:¬((1:Int)<0):=by omega
 unfold Builtin.Slice.sliceAdjust;simp only[h1,if_false];refine Prod.ext ?_ ?_
 ·cases lo with
  |none=>rfl
  |some v=>exact aCE v n 0
 ·cases hi with
  |none=>rfl
  |some v=>exact aCE v n n
theorem aBF (i j:Nat):Builtin.Slice.slicePlaces (i:Int) (j:Int) 1=j-i:=by
 unfold Builtin.Slice.slicePlaces;have h1:(1:Int) > 0:=by omega
 simp only[h1,if_true,Int.ediv_one];split<;>omega
theorem wA {v:Value}{o:Option Int}{Q:Option Int->Shared->Prop}(p:IsPart v o)(h:Q o s):wpAny (model prog w) A (Builtin.Slice.slicePartIndex v) Q E s:=by
 cases p with
 |none=>exact slicePart_none h
 |int i t=>exact slicePart_int h
theorem sW {sl:Addr}{vl vu:Value}{lo hi:Option Int}{n:Nat}{Q:Int×Int×Nat->Shared->Prop}(hs:s.heap.IsSliceOf sl vl vu .none)(pl:IsPart vl lo)(pu:IsPart vu hi)(h:Q (((sIx n 0 lo:Nat):Int),1,sIx n n hi-sIx n 0 lo) s):wpAny (model prog w) A (Builtin.Slice.sliceApplied (.ref sl) (pure (n:Int))) Q E s:=by obtain⟨os,hos,hcs,hds⟩:=id hs;unfold Builtin.Slice.sliceApplied Builtin.Slice.sliceFields;refine wpAny_bind (wpAny_bind (wpAny_field hos hds (x:=vl) rfl (wpAny_bind (wpAny_field hos hds (x:=vu) rfl (wpAny_bind (wpAny_field hos hds (x:=.none) rfl (wpAny_pure ?_)))))));refine wpAny_bind (slicePart_none ?_);show wpAny _ _ (if ((1:Int)==0)=true then _ else _) _ _ s;rw[if_neg (by decide)];refine wpAny_bind (wA pl (wpAny_bind (wA pu (wpAny_bind (wpAny_pure ?_)))));show wpAny _ _ (match Builtin.Slice.sliceAdjust lo hi 1 (n:Int) with|(lo,hi)=>pure (lo,(1:Int),Builtin.Slice.slicePlaces lo hi 1)) _ _ s;rw[aB2 lo hi n];show wpAny _ _ (pure (((sIx n 0 lo:Nat):Int),(1:Int),Builtin.Slice.slicePlaces ((sIx n 0 lo:Nat):Int) ((sIx n n hi:Nat):Int) 1)) _ _ s;rw[aBF];exact wpAny_pure h
theorem aEi (xs:Array Value)(i k:Nat):((range k).filterMap λ(m:Nat)=>xs[((i:Int)+(m:Int)*1).toNat]?).toArray=((xs.toList.drop i).take k).toArray:=by
 have e:(λ(m:Nat)=>xs[((i:Int)+(m:Int)*1).toNat]?)=λm=>xs[i+m]?:=by
  funext m;have:((i:Int)+(m:Int)*1).toNat=i+m:=by omega
  rw[this]
 rw[e];have:=pick_run xs i k;rw[List.filterMap_map] at this;have e2:((λx=>xs[x]?) ∘ λx=>i+x)=λm=>xs[i+m]?:=rfl;rw[e2] at this;rw[this]
theorem getItem_tuple_cut {t sl:Addr}{items:Array Value}{vl vu:Value}{lo hi:Option Int}{Q:Value->Shared->Prop}(ht:IsTup s.heap t items)(hs:s.heap.IsSliceOf sl vl vu .none)(pl:IsPart vl lo)(pu:IsPart vu hi)(hw:¬(sIx items.size 0 lo=0/\sIx items.size items.size hi=items.size))(h:Q (.ref s.heap.objs.size) { s with heap:=s.heap.push { cls:=.type "tuple",data:=.seq ((items.toList.drop (sIx items.size 0 lo)).take (sIx items.size items.size hi-sIx items.size 0 lo)).toArray } })(hsz:items.size<=sizeLine):wpAny (model prog w) A (getItem (.ref t) (.ref sl)) Q E s:=by
 have htake:sizeOk (.seq ((items.toList.drop (sIx items.size 0 lo)).take (sIx items.size items.size hi-sIx items.size 0 lo)).toArray):=by show((items.toList.drop (sIx items.size 0 lo)).take (sIx items.size items.size hi-sIx items.size 0 lo)).toArray.size<=sizeLine;rw[size_toArray,length_take,length_drop,Array.length_toList];omega
 have hj:sIx items.size items.size hi<=items.size:=aH6 _ _ (Nat.le_refl _) hi;obtain⟨os,hos,hcs,hds⟩:=id hs;have hTs:s.TypeIs (.ref sl) "slice":=⟨os,hos,hcs⟩;unfold getItem;try with_reducible refine wpAny_holding ?_
 first|refine wpAny_bind (wpAny_pure ?_)|skip
 refine wpAny_bind (wpAny_sequenceKey ht.typeIs (by decide) ?_);refine wpAny_bind (wpAny_callSpecial?_slot (name:=Str.ofString "__getitem__") ht.typeIs PyProof.Rows.slot_tuple_getitem
  (wpAny_call_entry PyProof.Rows.slot_tuple_getitem ht.typeIs entry_tuple_getitem ?_ (args_tuple_getitem _ _)))
 show wpAny _ _ (Builtin.Tuple.tupleItemsOf (.ref t) >>= _) _ _ s;refine wpAny_bind (tupleItemsOf_ ht ?_);refine wpAny_bind (wpAny_typeOf hTs ?_);rw[if_pos (by decide)];refine wpAny_bind (sW hs pl pu ?_);have hno:¬((((sIx items.size 0 lo:Nat):Int)==0&&(1:Int)==1&&(sIx items.size items.size hi-sIx items.size 0 lo)==items.size)=true):=by intro q;rw[Bool.and_eq_true,Bool.and_eq_true] at q;have q1:((sIx items.size 0 lo:Nat):Int)=0:=eq_of_beq q.1.1;have q2:sIx items.size items.size hi-sIx items.size 0 lo=items.size:=eq_of_beq q.2;exact hw ⟨by omega,by omega⟩
 show wpAny _ _ (if (((sIx items.size 0 lo:Nat):Int)==0&&(1:Int)==1&&(sIx items.size items.size hi-sIx items.size 0 lo)==items.size)=true then _ else _) _ _ s;rw[if_neg hno,aEi];first
  |exact wpAny_bind (m:=Builtin.Tuple.tupleExact _) (wpAny_newObj_type (wpAny_pure ⟨_,rfl,wpAny_pure h⟩) htake)
  |exact wpAny_bind (m:=Builtin.Tuple.tupleExact _) (wpAny_newObj_type (wpAny_bind (wpAny_pure (wpAny_pure ⟨_,rfl,wpAny_pure h⟩))) htake)
  |exact wpAny_bind (wpAny_bind (m:=Builtin.Tuple.tupleExact _) (wpAny_newObj_type (wpAny_pure (wpAny_pure ⟨_,rfl,wpAny_pure h⟩)) htake))
  |exact wpAny_bind (wpAny_bind (m:=Builtin.Tuple.tupleExact _) (wpAny_newObj_type (wpAny_pure ⟨_,rfl,wpAny_pure h⟩) htake))
end
end HT
namespace L2
open PySem PySem.Spec PyProof.Rows
abbrev TO:=St->Hp->(Option Int->Hp->Prop)->Prop
def PO (X:Cx)(e:Option Expr)(t:TO):Prop :=
 ∀(pins:List (Addr×Obj)) (s:Shared) (σ:St) (H:Hp) (Q:Option Int->Hp->Prop),Inv X pins σ H s->t σ H Q ->
  wpAny (model X.prog X.w) X.A (evalPart e X.env) (λu s'=>∃o H',Inv X pins σ H' s'/\IsPart u o/\Q o H') X.xe s
def aHw:TO:=λ_ H Q=>Q none H
def aLH (t:TE):TO:=λσ H Q=>t σ H λx H1=>∃i,x=.int i/\Q (some i) H1
section
variable {X:Cx}{e:Expr}{te:TE}{lo hi:Option Expr}{tl th:TO}{pos p2:Pos}
theorem aHA:PO X none aHw:=by intro pins s σ H Q I h;rw[evalPart_none];exact wpAny_pure ⟨none,H,I,.none,h⟩
theorem aF9 (h:PE X e te):PO X (some e) (aLH te):=by intro pins s σ H Q I hw;rw[evalPart_some];refine thn (h pins s σ H _ I hw) λu s1 ⟨x,H1,I1,r1,q1⟩=>?_;obtain⟨i,rfl,q⟩:=q1;obtain⟨t,rfl⟩:=r1;exact⟨some i,H1,I1,.int i t,q⟩
def SlR (X:Cx)(r:V->Option Int->Option Int->Hp->VK->Prop):Prop :=
 ∀(pins:List (Addr×Obj)) (s:Shared) (σ:St) (H:Hp) (x:V) (v vl vu:Value) (lo hi:Option Int) (sl:Addr) (Q:VK),Inv X pins σ H s->RelV x v->s.heap.IsSliceOf sl vl vu .none->IsPart vl lo->IsPart vu hi->r x lo hi H Q ->
  ∃T id,typeLookup (.type T) "__getitem__"=pure (some (.builtin id))/\s.TypeIs v T/\wpAny (model X.prog X.w) X.A (getItem v (.ref sl)) (EP X pins σ Q) X.xe s
def tSl (r:V->Option Int->Option Int->Hp->VK->Prop)(te:TE)(tl th:TO):TE:=λσ H Q=>te σ H λx H1=>tl σ H1 λl H2=>th σ H2 λu H3=>r x l u H3 Q
theorem aAD {r:V->Option Int->Option Int->Hp->VK->Prop}(hr:SlR X r)(he:PE X e te)(hl:PO X lo tl)(hu:PO X hi th):PE X (.Subscript e (.Slice lo hi none p2) pos) (tSl r te tl th):=by intro pins s σ H Q I h;refine Subscript_ (thn (he pins s σ H _ I h) λv s1 ⟨x,H1,I1,r1,q1⟩=>?_);refine wpAny_Slice (thn (hl pins s1 σ H1 _ I1 q1) λvl s2 ⟨l,H2,I2,pl,q2⟩=>thn (hu pins s2 σ H2 _ I2 q2) λvu s3 ⟨u,H3,I3,pu,q3⟩=>?_);rw[evalPart_none];refine wpAny_pure ?_;have I4:Inv X pins σ H3 { s3 with heap:=s3.heap.push { cls:=.type "slice",data:=.fields #[vl,vu,.none] } }:=I3.kept (t':=s3.toks) λb ob q=>Heap.get?_push_of_some _ q;obtain⟨T,id,hT,ht,hg⟩:=hr pins { s3 with heap:=s3.heap.push { cls:=.type "slice",data:=.fields #[vl,vu,.none] } } σ H3 x v vl vu l u s3.heap.objs.size Q I4 r1 (Heap.IsSliceOf.new ..) pl pu q3;show wpAny (model X.prog X.w) X.A (subscriptTail e (.Slice lo hi none p2) v (.ref s3.heap.objs.size)) (EP X pins σ Q) X.xe { s3 with heap:=s3.heap.push { cls:=.type "slice",data:=.fields #[vl,vu,.none] } };exact tail_any (ops:=[.ref s3.heap.objs.size,v]) ht hT hg (by with_unfolding_all rfl)
noncomputable def aAN (xs:List V)(lo hi:Option Int):List V:=(xs.drop (HT.sIx xs.length 0 lo)).take (HT.sIx xs.length xs.length hi-HT.sIx xs.length 0 lo)
theorem tT (xs:List V)(lo hi:Option Int):(aAN xs lo hi).length<=xs.length:=by unfold aAN;rw[length_take,length_drop];omega
def aM0 (K:Frag):V->Option Int->Option Int->Hp->VK->Prop:=λx lo hi H Q=>∃a xs,x=.ref a/\SqT K H a xs /\
 ¬(HT.sIx xs.length 0 lo=0/\HT.sIx xs.length xs.length hi=xs.length)/\∀p,H p=none->Q (.ref p) (upd H p (.tup (aAN xs lo hi)))
theorem aKz:SlR X (aM0 X.K):=by
 intro pins s σ H x v vl vu lo hi sl Q I rx hs pl pu h;obtain⟨a,xs,rfl,hx,hw,q⟩:=h;cases rx;obtain⟨its,r,ht,hz⟩:=I.tuple hx;have hlen:its.toArray.size=xs.length:=by rw[size_toArray];exact r.length.symm
 refine⟨"tuple",_,PyProof.Rows.slot_tuple_getitem.lookup,ht.typeIs,?_⟩;refine HT.getItem_tuple_cut ht hs pl pu (by rw[hlen];exact hw) ?_ (by rw[hlen];exact hz);rw[hlen];refine⟨.ref s.heap.objs.size,_,I.laid (t':=s.toks) (o:=.tup (aAN xs lo hi)) (λb ob q=>Heap.get?_push_of_some _ q) (Nat.le_refl _) ?_,rfl,q _ (I.hok.fresh (Nat.le_refl _))⟩;exact⟨Nat.le_trans (tT xs lo hi) hz,_,(r.drop (HT.sIx xs.length 0 lo)).take (HT.sIx xs.length xs.length hi-HT.sIx xs.length 0 lo),IsTup.new _ _⟩
def aK7 (K:Frag):R2:=λx y H Q=>∃a b xs ys,x=.ref a/\y=.ref b/\SqT K H a xs/\SqT K H b ys/\xs≠[]/\xs.length+ys.length<=sizeLine /\
 (ys=[]->Q (.ref a) H)/\(ys≠[]->∀p,H p=none->Q (.ref p) (upd H p (.tup (xs++ys))))
theorem bU.nil_iff {xs:List V}{us:List Value}(r:bU xs us):us=[]↔xs=[]:=by
 cases r with
 |nil=>simp
 |cons _ _=>simp
theorem aGJ:OpR X (binaryOp .Add) (aK7 X.K):=by intro pins s σ H x y v u Q I rx ry h;obtain⟨a,b,xs,ys,rfl,rfl,ha,hb,hx,hz,q1,q2⟩:=h;cases rx;cases ry;obtain⟨its,r1,p1,_⟩:=I.tuple ha;obtain⟨its2,r2,p2,_⟩:=I.tuple hb;refine HT.cat_tup p1 p2 (λz=>hx (r1.nil_iff.mp z)) (λz=>⟨.ref a,H,I,rfl,q1 (r2.nil_iff.mp z)⟩) (λz=>?_) (by rw[<- r1.length,<- r2.length];exact hz);refine⟨.ref s.heap.objs.size,_,I.laid (t':=s.toks) (o:=.tup (xs++ys)) (λb ob q=>Heap.get?_push_of_some _ q) (Nat.le_refl _) ?_,rfl,q2 (λw=>z (r2.nil_iff.mpr w)) _ (I.hok.fresh (Nat.le_refl _))⟩;exact⟨by rw[length_append];exact hz,_,r1.append r2,IsTup.new _ _⟩
end
noncomputable def ixN (n:Nat)(i:Int):Option Nat:=if 0<=i then (if i<n then some i.toNat else none) else if -(n:Int)<=i then some (i+n).toNat else none
noncomputable def atI {α:Type}(xs:List α)(i:Int):Option α:=(ixN xs.length i).bind λj=>xs[j]?
theorem aCv {n:Nat}{i:Int}{j:Nat}(h:ixN n i=some j):seqIndex? i n=some j/\j<n/\-(n:Int)<=i/\i<n:=by
 unfold ixN at h;by_cases h0:0<=i
 ·rw[if_pos h0] at h;by_cases h1:i<n
  ·rw[if_pos h1] at h;have e:i.toNat=j:=Option.some.inj h;exact⟨by rw[seqIndex_of h0 h1,e],by omega,by omega,h1⟩
  ·rw[if_neg h1] at h;cases h
 ·rw[if_neg h0] at h;by_cases h1:-(n:Int)<=i
  ·rw[if_pos h1] at h;have e:(i+n).toNat=j:=Option.some.inj h;exact⟨by rw[seqIndex_neg (by omega) h1,e],by omega,h1,by omega⟩
  ·rw[if_neg h1] at h;cases h
theorem aCO {α:Type}{xs:List α}{i:Int}{v:α}(h:atI xs i=some v):∃j,seqIndex? i xs.length=some j/\xs[j]?=some v/\j<xs.length/\-(xs.length:Int)<=i/\i<xs.length:=by
 unfold atI at h;cases e:ixN xs.length i with
 |none=>rw[e] at h;cases h
 |some j =>
  rw[e] at h;obtain⟨h1,h2,h3,h4⟩:=aCv e;exact⟨j,h1,h,h2,h3,h4⟩
theorem iJ {α:Type}{xs:List α}{j:Nat}{v:α}(h:xs[j]?=some v):atI xs (j:Int)=some v:=by
 have hj:j<xs.length:=(List.getElem?_eq_some_iff.mp h).1;have e:ixN xs.length (j:Int)=some j:=by unfold ixN;rw[if_pos (by omega),if_pos (by omega)];simp
 unfold atI;rw[e];exact h
def rD (b:Expr):Prop:=∀o i,subscripted b false o i=operate [o,i] (getItem o i)
def IxR (X:Cx)(r:R2):Prop :=
 ∀(value slice:Expr)(pins:List (Addr×Obj)) (s:Shared) (σ:St) (H:Hp) (x y:V) (v u:Value) (Q:VK),Inv X pins σ H s->RelV x v->RelV y u->r x y H Q ->
  subscripted slice false v u=operate [v,u] (getItem v u)->wpAny (model X.prog X.w) X.A (subscriptTail value slice v u) (EP X pins σ Q) X.xe s
def MtR (X:Cx)(id:String)(r:V->List V->Hp->VK->Prop):Prop :=
 ∀(pins:List (Addr×Obj)) (s:Shared) (σ:St) (H:Hp) (x:V) (xs:List V) (v:Value) (us:List Value) (Q:VK),Inv X pins σ H s->RelV x v->bU xs us->r x xs H Q ->
  wpAny (model X.prog X.w) X.A (call (.builtin id) (v::us)) (EP X pins σ Q) X.xe s
section
variable {X:Cx}{a b:Expr}{ta tb:TE}{pos:Pos}
theorem aMf {r:R2}(hr:IxR X r)(ha:PE X a ta)(hb:PE X b tb)(hs:rD b):PE X (.Subscript a b pos) (tOp r ta tb):=by intro pins s σ H Q I h;exact Subscript_ (aKc ha hb I h λv u s2 x y H2 I2 rx ry q=>hr a b pins s2 σ H2 x y v u Q I2 rx ry q (hs _ _))
def aM8 (K:Frag):R2:=λx y H Q=>∃p xs i v,x=.ref p/\y=.int i/\SqL K H p xs/\atI xs i=some v/\Q v H
def aMZ (K:Frag):R2:=λx y H Q=>∃p xs i v,x=.ref p/\y=.int i/\SqT K H p xs/\atI xs i=some v/\Q v H
theorem aCi:IxR X (aM8 X.K):=by
 intro value slice pins s σ H x y v u Q I rx ry h hs;obtain⟨p,xs,i,z,rfl,rfl,hq,he,q⟩:=h;cases rx;obtain⟨t,rfl⟩:=ry;obtain⟨its,r,pl,hz⟩:=I.list hq;obtain⟨j,h1,h2,h3,h4,h5⟩:=aCO he;obtain⟨w,ew,rw'⟩:=r.get h2;have hl:=r.length;have hn:=yE;have fin:EP X pins σ Q w s:=⟨z,H,I,rw',q⟩;by_cases h0:0<=i
 ·have hj:i.toNat=j:=by rw[seqIndex_of h0 h5] at h1;exact Option.some.inj h1
  exact item_listR pl.isList h0 (by omega) (by rw[hj];simpa using ew) fin hs
 ·have hj:(i+(its.toArray.size:Int)).toNat=j:=by rw[seqIndex_neg (by omega) h4] at h1;rw[size_toArray,<- hl];exact Option.some.inj h1
  exact subscriptTail_builtinR (x:=w) pl.isList.typeIs slot_list_getitem.lookup
   (wpAny_getItem_list_neg (Q:=λr s'=>r=w/\EP X pins σ Q r s') pl.isList (by omega) (by rw[size_toArray]<;>omega) (by omega) (by rw[hj];simpa using ew) ⟨rfl,fin⟩) hs
theorem aKm:IxR X (aMZ X.K):=by
 intro value slice pins s σ H x y v u Q I rx ry h hs;obtain⟨p,xs,i,z,rfl,rfl,hq,he,q⟩:=h;cases rx;obtain⟨t,rfl⟩:=ry;obtain⟨its,r,pl,hz⟩:=I.tuple hq;obtain⟨j,h1,h2,h3,h4,h5⟩:=aCO he;obtain⟨w,ew,rw'⟩:=r.get h2;have hl:=r.length;have hn:=yE;have fin:EP X pins σ Q w s:=⟨z,H,I,rw',q⟩;exact subscriptTail_builtinR (x:=w) pl.typeIs slot_tuple_getitem.lookup
  (getItem_tuple (j:=j) (Q:=λr s'=>r=w/\EP X pins σ Q r s') pl (by omega) (by omega) (by rw[size_toArray,<- hl];exact h1) (by simpa using ew) ⟨rfl,fin⟩) hs
theorem aBy (its:List Value)(n j:Nat)(u:Value):Obj.mapSeq (·.setIfInBounds j u) { cls:=.type "list",data:=.seq its.toArray n } = { cls:=.type "list",data:=.seq (its.set j u).toArray n }:=by simp[Obj.mapSeq]
theorem Inv.lst {pins:List (Addr×Obj)}{σ:St}{H:Hp}{s:Shared}{p:Addr}{xs:List V}(I:Inv X pins σ H s)(h:H p=some (.lst xs)) :
  ∃(its:List Value)(n:Nat),bU xs its/\s.heap.get? p = some { cls:=.type "list",data:=.seq its.toArray n }/\xs.length<=sizeLine:=by
 obtain⟨z,its,n,r,e⟩:=I.hok p _ h;exact⟨its,n,r,e,z⟩
theorem Inv.lstUpd {pins:List (Addr×Obj)}{σ:St}{H:Hp}{s:Shared}{p:Addr}{xs ys:List V}{its its':List Value}{n n':Nat}{f:Obj->Obj}(I:Inv X pins σ H s)(h:H p=some (.lst xs))(ho:s.heap.get? p = some { cls:=.type "list",data:=.seq its.toArray n })(hf:f { cls:=.type "list",data:=.seq its.toArray n } = { cls:=.type "list",data:=.seq its'.toArray n' })(r:bU ys its')(hz:ys.length<=sizeLine)(t:Nat) :
  Inv X pins σ (upd H p (.lst ys)) { s with heap:=s.heap.update p f,toks:=t }:=by
 have e:(s.heap.update p f).get? p = some { cls:=.type "list",data:=.seq its'.toArray n' }:=by rw[Heap.get?_update_self f ho (by rw[hf]<;>rfl),hf]
 refine I.write (x:=p) (e:=p) (by rw[h];trivial) (.inl rfl) (λb u hb q=>(Heap.get?_update_other _ _ (Ne.symm hb)).trans q) ⟨_,e⟩ ?_;exact⟨hz,its',n',r,e⟩
def aL1:V->V->V->Hp->(Hp->Prop)->Prop:=λo i v H Q=>∃p xs k j,o=.ref p/\i=.int k/\H p=some (.lst xs)/\ixN xs.length k=some j/\Q (upd H p (.lst (xs.set j v)))
theorem aFS:aJW X aL1:=by
 intro pins s σ H o i v ov iv u Q I ro ri rv h;obtain⟨p,xs,k,j,rfl,rfl,hp,hj,q⟩:=h;cases ro;obtain⟨t,rfl⟩:=ri;obtain⟨its,n,r,ho,hz⟩:=I.lst hp;obtain⟨h1,h2,h3,h4⟩:=aCv hj;have hl:=r.length;have hn:=yE;have I':Inv X pins σ (upd H p (.lst (xs.set j v))) { s with heap:=s.heap.update p (Obj.mapSeq (·.setIfInBounds j u)) } :=
  I.lstUpd hp ho (aBy its n j u) (r.set rv j) (by rw[length_set];exact hz) s.toks
 by_cases h0:0<=k
 ·have hk:k.toNat=j:=by rw[seqIndex_of h0 h4] at h1;exact Option.some.inj h1
  exact PySem.W.ki_setAt ho h0 (by omega) (by rw[size_toArray,<- hl];exact h4) (by rw[hk];exact⟨_,I',q⟩)
 ·have hk:(k+(its.toArray.size:Int)).toNat=j:=by rw[seqIndex_neg (by omega) h3] at h1;rw[size_toArray,<- hl];exact Option.some.inj h1
  exact PySem.W.ki_setBack ho (by omega) (by rw[size_toArray,<- hl];exact h3) (by omega) (by rw[hk];exact⟨_,I',q⟩)
theorem aAd (lo hi:Option Int)(n:Nat):(sliceBounds lo hi none n).1=((HT.sIx n 0 lo:Nat):Int)/\(sliceBounds lo hi none n).2.1=((HT.sIx n n hi:Nat):Int)/\(sliceBounds lo hi none n).2.2=1:=by
 refine⟨?_,?_,rfl⟩
 ·cases lo with
  |none=>simp[sliceBounds,HT.sIx]
  |some i =>
   simp only[sliceBounds,HT.sIx,Option.getD_none,show(1:Int) > 0 by decide,if_true];by_cases h:i<0
   ·simp only[h,if_true]<;>omega
   ·simp only[h,if_false]<;>omega
 ·cases hi with
  |none=>simp[sliceBounds,HT.sIx]
  |some i =>
   simp only[sliceBounds,HT.sIx,Option.getD_none,show(1:Int) > 0 by decide,if_true];by_cases h:i<0
   ·simp only[h,if_true]<;>omega
   ·simp only[h,if_false]<;>omega
theorem wS (its:List Value)(lo hi:Option Int):slicePick its.toArray lo hi none=((its.drop (HT.sIx its.length 0 lo)).take (HT.sIx its.length its.length hi-HT.sIx its.length 0 lo)).toArray:=by obtain⟨h1,h2,h3⟩:=aAd lo hi its.toArray.size;unfold slicePick;rw[h1,h2,h3];simp only[sliceRange_one,pick_run,size_toArray]<;>rfl
def aMz (K:Frag):V->Option Int->Option Int->Hp->VK->Prop:=λx lo hi H Q=>∃a xs,x=.ref a/\SqL K H a xs/\∀p,H p=none->Q (.ref p) (upd H p (.lst (aAN xs lo hi)))
theorem aHz:SlR X (aMz X.K):=by intro pins s σ H x v vl vu lo hi sl Q I rx hs pl pu h;obtain⟨a,xs,rfl,hx,q⟩:=h;cases rx;obtain⟨its,r,ht,hz⟩:=I.list hx;have hlen:=r.length;refine⟨"list",_,slot_list_getitem.lookup,ht.isList.typeIs,?_⟩;refine wpAny_getItem_list_slice ht.isList hs pl pu .none (by simp) ?_ (by rw[size_toArray]<;>omega);rw[wS,<- hlen];refine⟨.ref s.heap.objs.size,_,I.laid (t':=s.toks) (o:=.lst (aAN xs lo hi)) (λb ob q=>Heap.get?_push_of_some _ q) (Nat.le_refl _) ?_,rfl,q _ (I.hok.fresh (Nat.le_refl _))⟩;exact⟨Nat.le_trans (tT xs lo hi) hz,_,0,(r.drop (HT.sIx xs.length 0 lo)).take (HT.sIx xs.length xs.length hi-HT.sIx xs.length 0 lo),Heap.get?_push_size _ rfl⟩
noncomputable def aEw:V->Bool
 |.non=>true
 |.bl _=>true
 |.int _=>true
 |.str _=>true
 |_=>false
noncomputable def eqV:V->V->Bool
 |.non,.non=>true
 |.bl a,.bl b=>a==b
 |.bl a,.int b=>(if a then 1 else 0)==b
 |.int a,.bl b=>a==(if b then 1 else 0)
 |.int a,.int b=>a==b
 |.str a,.str b=>a==b
 |_,_=>false
theorem aFV {A:Around}{s:Shared}{y x:V}{u v:Value}(ry:RelV y u)(rx:RelV x v)(fy:aEw y=true)(fx:aEw x=true):SeqAt.EqAt A s u v (eqV y x):=by
 cases y with
 |non =>
  cases ry;cases x with
  |non=>cases rx;exact SeqAt.EqAt.same _
  |bl b=>cases rx;exact SeqAt.EqAt.none_bool b
  |int b=>obtain⟨t,rfl⟩:=rx;exact SeqAt.EqAt.none_int b t
  |str b=>obtain⟨t,rfl⟩:=rx;exact SeqAt.EqAt.none_str b t
  |_=>exact absurd (show false=true from fx) Bool.false_ne_true
 |bl a =>
  cases ry;cases x with
  |non=>cases rx;exact SeqAt.EqAt.bool_none a
  |bl b=>cases rx;exact SeqAt.EqAt.bool_bool a b
  |int b=>obtain⟨t,rfl⟩:=rx;exact SeqAt.EqAt.bool_int a b t
  |str b=>obtain⟨t,rfl⟩:=rx;exact SeqAt.EqAt.bool_str a b t
  |_=>exact absurd (show false=true from fx) Bool.false_ne_true
 |int a =>
  obtain⟨t',rfl⟩:=ry;cases x with
  |non=>cases rx;exact SeqAt.EqAt.int_none a t'
  |bl b=>cases rx;exact SeqAt.EqAt.int_bool a t' b
  |int b=>obtain⟨t,rfl⟩:=rx;exact SeqAt.EqAt.int_int a t' b t
  |str b=>obtain⟨t,rfl⟩:=rx;exact SeqAt.EqAt.int_str a t' b t
  |_=>exact absurd (show false=true from fx) Bool.false_ne_true
 |str a =>
  obtain⟨t',rfl⟩:=ry;cases x with
  |non=>cases rx;exact SeqAt.EqAt.str_none a t'
  |bl b=>cases rx;exact SeqAt.EqAt.str_bool a t' b
  |int b=>obtain⟨t,rfl⟩:=rx;exact SeqAt.EqAt.str_int a t' b t
  |str b=>obtain⟨t,rfl⟩:=rx;exact SeqAt.EqAt.str_str a t' b t
  |_=>exact absurd (show false=true from fx) Bool.false_ne_true
 |_=>exact absurd (show false=true from fy) Bool.false_ne_true
theorem zP:lN X (.builtin "len") (λxs H Q=>∃p ys,xs=[.ref p]/\(SqL X.K H p ys∨SqT X.K H p ys)/\Q (.int ys.length) H):=by
 intro pins s σ H xs us Q I r h;obtain⟨p,ys,rfl,hq,q⟩:=h;obtain⟨u,rfl,rx⟩:=rW r;cases rx;have hn:=yE;rcases hq with hq|hq
 ·obtain⟨its,r',pl,hz⟩:=I.list hq;have hlen:=r'.length;exact Calls.call_len_list pl.isList (by simp only[size_toArray]<;>omega) ⟨.int ys.length,H,I.tok _,⟨s.toks+1,by rw[size_toArray,hlen]⟩,q⟩
 ·obtain⟨its,r',pl,hz⟩:=I.tuple hq;have hlen:=r'.length;exact len_tuple pl (by simp only[size_toArray]<;>omega) ⟨.int ys.length,H,I.tok _,⟨s.toks+1,by rw[size_toArray,hlen]⟩,q⟩
theorem zL:lN X (.type "list") (λxs H Q=>∃p ys,xs=[.ref p]/\(SqL X.K H p ys∨SqT X.K H p ys)/\∀l,H l=none->Q (.ref l) (upd H l (.lst ys))):=by
 intro pins s σ H xs us Q I r h;obtain⟨p,ys,rfl,hq,q⟩:=h;obtain⟨u,rfl,rx⟩:=rW r;cases rx;have fin:∀(its:List Value),bU ys its->ys.length<=sizeLine->∀(h':Heap)(c':Nat),(∀b o',s.heap.get? b=some o'->h'.get? b=some o') ->
   h'.get? s.heap.objs.size = some { cls:=.type "list",dict:=none,data:=.seq its.toArray c',slots:=#[] }->EP X pins σ Q (.ref s.heap.objs.size) { s with heap:=h' }:=λits r' hz h' c' kp e =>
  ⟨.ref s.heap.objs.size,_,I.laid (t':=s.toks) kp (Nat.le_refl _) (show fR X.prog X.w _ h' _ (.lst ys) from⟨hz,its,c',r',e⟩),rfl,q _ (I.hok.fresh (Nat.le_refl _))⟩
 rcases hq with hq|hq
 ·obtain⟨its,r',pl,hz⟩:=I.list hq;have hlen:=r'.length;obtain⟨o,ho,hc,n,hd⟩:=pl.isList;exact call_list_seq p (.inl rfl) ho hc hd (λh' c' kp e=>fin its r' hz h' c' kp e) (by simp only[size_toArray]<;>omega)
 ·obtain⟨its,r',pl,hz⟩:=I.tuple hq;have hlen:=r'.length;obtain⟨o,ho,hc,n,hd⟩:=pl;exact call_list_seq p (.inr rfl) ho hc hd (λh' c' kp e=>fin its r' hz h' c' kp e) (by simp only[size_toArray]<;>omega)
def tyV (K:Frag)(T:String)(x:V)(H:Hp):Prop:=match x with
 |.str _=>T = "str"
 |.int _=>T = "int"
 |.ref p=>(T = "list"/\∃xs,SqL K H p xs)∨(T = "tuple"/\∃o,K.lookup p = some o/\o.cls = .type "tuple"/\o.dict=none) ∨
   (T = "dict"/\((∃kvs,H p = some (.dK kvs)) ∨ ∃kvs,H p = some (.dT kvs)))∨(T = "set"/\∃S n,H p=some (.set S n))
 |_=>False
theorem aKb {pins:List (Addr×Obj)}{σ:St}{H:Hp}{s:Shared}{T:String}{x:V}{v:Value}(I:Inv X pins σ H s)(r:RelV x v)(ty:tyV X.K T x H) :
  s.TypeIs v T/\∀a,v=.ref a->∃ob,s.heap.get? a=some ob/\ob.dict=none:=by
 cases x with
 |str z =>
  obtain⟨t,rfl⟩:=r;cases (show T = "str" from ty);exact⟨typeIs_str s z t,λ_ e=>nomatch e⟩
 |int i =>
  obtain⟨t,rfl⟩:=r;cases (show T = "int" from ty);exact⟨typeIs_int s i t,λ_ e=>nomatch e⟩
 |ref p =>
  cases r;rcases ty with⟨rfl,xs,hq⟩|⟨rfl,o,hk,hc,hd⟩|⟨rfl,hk⟩|⟨rfl,S,n,hk⟩
  ·obtain⟨its,_,pl,_⟩:=I.list hq;refine⟨pl.isList.typeIs,λa e=>?_⟩;cases e;obtain⟨o,n,e,c,hd,_⟩:=pl;exact⟨o,e,hd⟩
  ·refine⟨⟨o,I.kIn p o hk,hc⟩,λa e=>?_⟩;cases e;exact⟨o,I.kIn _ o hk,hd⟩
  ·have z:∃o,s.heap.get? p=some o/\o.ExactDict:=by
    rcases hk with⟨kvs,hk⟩|⟨kvs,hk⟩
    ·obtain⟨_,_,_,_,o,_,_,e,ex,_⟩:=I.hok p _ hk;exact⟨o,e,ex⟩
    ·obtain⟨_,_,_,_,o,_,_,e,ex,_⟩:=I.hok p _ hk;exact⟨o,e,ex⟩
   obtain⟨o,e,ex⟩:=z;refine⟨⟨o,e,ex.1⟩,λa e2=>?_⟩;cases e2;exact⟨o,e,ex.2.1⟩
  ·obtain⟨o,_,_,_,e,ex,_⟩:=I.hok p _ hk;refine⟨⟨o,e,ex.1⟩,λa e2=>?_⟩;cases e2;exact⟨o,e,ex.2.1⟩
 |_=>exact False.elim ty
def tBM (K:Frag)(T:String)(r:V->List V->Hp->VK->Prop)(to:TE)(t:TA):TE:=λσ H Q=>to σ H λx H1=>tyV K T x H1/\t σ H1 λxs H2=>r x xs H2 Q
variable {o e:Expr}{es:List Expr}{to:TE}{t:TA}{name:Str}{apos cpos:Pos}{T id:String}{r:V->List V->Hp->VK->Prop}
theorem aMo (pa:PlainAttrs T)(slot:Slot T name id)(hty:typeOf (.builtin id) = pure (.type "method_descriptor"))(hm:MtR X id r)(ho:PE X o to)(ha:PA X (e::es) t)(hbase:attributeBase o name X.env (eval o X.env)=eval o X.env:=by rfl)(hfew:((backTo cpos (starEach (e::es) X.env)).all (λx=>!x.1)&&(backToKw cpos (keywordEach [] X.env)).all (λx=>x.1.isSome)
  &&decide ((e::es).length+([]:List Keyword).length+(if ([]:List Keyword).isEmpty then 0 else 1)<30))=true:=by rfl)(hline:(apos.endLine==cpos.line)=true:=by rfl)(hs:starEach (e::es) X.env=(false,eval e X.env)::starEach es X.env:=by rfl)(hplain:(backTo cpos (starEach es X.env)).any (·.1)=false:=by rfl) :
  PE X (.Call (.Attribute o name apos) (e::es) [] cpos) (tBM X.K T r to t):=by
 intro pins s σ H Q I h;refine wpAny_Call_method_late hbase hfew hline rfl (thn (ho pins s σ H _ I h) λv s1 ⟨x,H1,I1,r1,ty,q1⟩=>?_);obtain⟨h1,h2⟩:=aKb I1 r1 ty;refine⟨T,id,pa,slot,hty,h1,h2,?_⟩;have hA:=ha cpos pins s1 σ H1 _ I1 q1;rw[hs] at hA ⊢;refine Calls.callWith_builtin (by show(false||(backTo cpos (starEach es X.env)).any (·.1))=false;rw[hplain]<;>rfl) (Calls.evalArgs_plain ?_);exact thn hA λus s2 ⟨vs,H2,I2,r2,q2⟩=>hm pins s2 σ H2 x vs v us Q I2 r1 r2 q2
end
def MtM (X:Cx)(id:String)(r:V->List V->Hp->VK->Prop):Prop :=
 ∀(pins:List (Addr×Obj)) (s:Shared) (σ:St) (H:Hp) (x:V) (xs:List V) (v:Value) (us:List Value) (Q:VK),Inv X pins σ H s->RelV x v->bU xs us->r x xs H Q ->
  wpAny (model X.prog X.w) X.A (call (.builtin id) (v::us)) (EP X pins σ Q) X.xe s
theorem bU.one:∀{x:V}{us:List Value},bU [x] us->∃u,us=[u]/\RelV x u
 |_,_,.cons r .nil=>⟨_,rfl,r⟩
theorem bU.two:∀{x y:V}{us:List Value},bU [x,y] us->∃u v,us=[u,v]/\RelV x u/\RelV y v
 |_,_,_,.cons r (.cons q .nil)=>⟨_,_,rfl,r,q⟩
section
variable {X:Cx}{pins:List (Addr×Obj)}{σ:St}{H:Hp}{s:Shared}{l b:Addr}{xs ys zs:List V}
theorem Inv.lset {its its':List Value}{n:Nat}{f:Array Value->Array Value}{t':Nat}(I:Inv X pins σ H s)(hH:H l=some (.lst xs))(e:s.heap.get? l = some { cls:=.type "list",data:=.seq its.toArray n })(hf:f its.toArray=its'.toArray)(hv:bU ys its')(hz:ys.length<=sizeLine) :
  Inv X pins σ (upd H l (.lst ys)) { s with heap:=s.heap.update l (Obj.mapSeq f),toks:=t' }:=by
 have q:=PySem.IsL.update e f;rw[hf] at q;refine I.write (x:=l) (e:=l) (by rw[hH];exact trivial) (.inl rfl) (λb' u hb hu=>(Heap.get?_update_other s.heap (Obj.mapSeq f) (Ne.symm hb)).trans hu) ⟨_,q⟩ ?_;exact⟨hz,its',_,hv,q⟩
theorem Inv.lnew {its:List Value}{t':Nat}(I:Inv X pins σ H s)(hv:bU ys its)(hz:ys.length<=sizeLine) :
  Inv X pins σ (upd H s.heap.objs.size (.lst ys)) { s with heap:=s.heap.push { cls:=.type "list",data:=.seq its.toArray },toks:=t' } :=
 I.laid (λ_ _ q=>Heap.get?_push_of_some _ q) (Nat.le_refl _) ⟨hz,its,0,hv,Heap.get?_push_size _ rfl⟩
theorem Inv.fresh (I:Inv X pins σ H s):H s.heap.objs.size=none:=I.hok.fresh (Nat.le_refl _)
theorem Inv.lstM (I:Inv X pins σ H s)(hH:H l = some (.lst xs)):xs.length<=sizeLine/\∃(its:List Value)(n:Nat),bU xs its/\xs.length = its.length/\s.heap.get? l = some { cls:=.type "list",data:=.seq its.toArray n }:=by obtain⟨z,its,n,r,e⟩:=I.hok l _ hH;exact⟨z,its,n,r,r.length,e⟩
theorem aDU {n:Nat}(h:n<=sizeLine):Builtin.List.listTooLong n=false:=by unfold Builtin.List.listTooLong;exact decide_eq_false (by omega)
end
section
variable {X:Cx}
def aGT:V->List V->Hp->VK->Prop:=λx vs H Q=>∃l xs y,x=.ref l/\vs=[y]/\H l=some (.lst xs)/\xs.length<sizeLine/\Q .non (upd H l (.lst (xs++[y])))
theorem aCW:MtM X "list.append" aGT:=by intro pins s σ H x vs v us Q I rx rv h;obtain⟨l,xs,y,rfl,rfl,hH,hz,q⟩:=h;cases rx;obtain⟨u,rfl,ru⟩:=rv.one;obtain⟨z,its,n,r,hl,e⟩:=I.lstM hH;refine call_meets F.slot_list_append ⟨_,e,rfl⟩ F.entry_list_append (F.args_list_append_2 _ _) (PySem.list_append l its.toArray n u (by rw[size_toArray];omega)) ⟨e,?_⟩;refine⟨.non,_,I.lset (its':=its++[u]) hH e (by simp) (r.append (.cons ru .nil)) ?_,rfl,q⟩;rw[length_append,List.length_singleton];omega
def aM6:R2:=λx y H Q=>∃l b xs zs,x=.ref l/\y=.ref b/\H l=some (.lst xs)/\H b=some (.lst zs)/\xs.length+zs.length<=sizeLine/\∀p,H p=none->Q (.ref p) (upd H p (.lst (xs++zs)))
theorem aJC:OpR X (binaryOp .Add) aM6:=by
 intro pins s σ H x y v u Q I rx ry h;obtain⟨l,b,xs,zs,rfl,rfl,hH,hB,hz,q⟩:=h;cases rx;cases ry;obtain⟨z,its,n,r,hl,e⟩:=I.lstM hH;obtain⟨z2,its2,n2,r2,hl2,e2⟩:=I.lstM hB;refine PySem.P.add_list e e2 ?_ (by rw[size_toArray,size_toArray];omega);have ea:its.toArray++its2.toArray=(its++its2).toArray:=by simp
 rw[ea];exact⟨.ref _,_,I.lnew (t':=s.toks) (r.append r2) (by rw[length_append];omega),rfl,q _ I.fresh⟩
theorem len_rep {α:Type}(xs:List α)(k:Nat):(replicate k xs).flatten.length=k*xs.length:=by
 induction k with
 |zero=>simp
 |succ k ih=>rw[replicate_succ,flatten_cons,length_append,ih,Nat.succ_mul,Nat.add_comm]
end
section
variable {prog:Program}{w:World}{A:Around}{E:Value->Shared->Prop}{s:Shared}
end
section
variable {X:Cx}
end
end L2
namespace Att
open PySem PySem.W PySem.Calls PyProof.Rows
theorem uG {P:Params}{h:Heap}:∀(ns:List Int)(vs:List Value),WellAll P h vs (ns.map WData.int)->IntsAre vs ns:=by
 intro ns
 induction ns with
 |nil =>
  intro vs w;rw[map_nil] at w;cases w;exact .nil
 |cons n ns ih =>
  intro vs w;rw[map_cons] at w;cases w with
  |cons a b =>
   cases a;exact .cons _ _ (ih _ b)
theorem aDw {l:OpenLaw}{n:Nat}(hn:l.most=some n){P:Params}{h:Heap}{args:List WData}{vals:List Value}(hpre:l.row.toRowW.claim.pre args=true)(hwl:WellAll P h vals args) :
  ∃a vs ns,vals = [Value.ref a]/\args = [WData.list (ns.map WData.int)]/\h.get? a = some { cls:=.type "list",data:=.seq vs.toArray }/\IntsAre vs ns/\ns.length<=n:=by
 have hsh:WShape.hasAll [] args [.list .int]=true:=(pre_splitW hpre).1;have hc:l.pre.holds [] { args:=args }=true:=(pre_splitW hpre).2;obtain⟨d,r,rfl,h1,h2⟩:=hasAllW_cons hsh;obtain rfl:=hasAllW_nil h2;obtain⟨xs,rfl,h3⟩:=hasW_list h1;obtain⟨ns,rfl⟩:=items_int h3;have hlen:ns.length<=n:=by
  unfold OpenLaw.pre at hc;have h4:(WTm.not (.lt (.lit (.int (n:Int))) (.len (.arg 0)))).holds [] { args:=[.list (ns.map .int)] }=true:=by have h4:=(holds_andW hc).1;rw[hn] at h4;exact h4
  have h5:=condW_of h4 (w_not (w_lt w_lit (w_len_list (w_arg rfl))));rw[length_map] at h5;refine Nat.le_of_not_lt λq=>?_;have q':(n:Int)<((ns.length:Nat):Int):=by omega
  first
   |(rw[decide_eq_true q'] at h5;exact absurd h5 (by decide))
   |(simp at h5;omega)
 cases hwl with
 |cons w1 w2 =>
  cases w2;cases w1 with
  |list ho hall=>exact⟨_,_,ns,rfl,rfl,ho,uG ns _ hall,hlen⟩
theorem aDf (l:OpenLaw)(args:List WData):l.row.toRowW.claim.post args (.bool true) args=true :=
 postW_of (r:=l.row.toRowW) (X:=(true==true))
  (show WShape.has [] (.bool true) .bool=true by first|rfl|decide|simp[WShape.has,WShape.arms,WShape.armsAll])
  (show(WTm.eq .res (.lit (.bool true))).value [] { args:=args,res:=some (.bool true),after:=args }=some (.bool (true==true)) from w_eq_bool (w_res rfl) w_lit) rfl
theorem attach_call {l:OpenLaw}{n:Nat}{q:Program}{loose:List Str}{XP:(Str->Option Value)->Heap->Prop}{YP:World->Heap->Prop}{d:DefRec}(hn:l.most=some n)(hdf:d.params.defaults=[])(call:∀(w:World)(s₀ s₁:Shared) (mg mb:Str->Option Value) (fa:Addr) (o:Obj) (pm cd doc:Value) (a:Addr) (vs:List Value) (ns:List Int),
   Ground q loose [] XP w s₀ mg mb s₁.heap->YP w s₁.heap ->
   s₁.heap.get? fa=some o->o.data=.func (docDef d.name d.params d.body d.scope pm cd doc)->s₁.heap.CodeRec cd d.name->mg d.name=some (.ref fa) ->
   s₁.heap.get? a = some { cls:=.type "list",data:=.seq vs.toArray }->IntsAre vs ns->ns.length<=n->s₁.gens=#[] ->
   codeAny (model l.prog w) callerA (.call (.ref fa) ⟨[.ref a],[]⟩) (λr s'=>r=.ok (.ret (.bool true))/\OldK s₁.heap s'.heap/\s'.os=s₁.os/\AllBare s'.gens) s₁) :
  WalkO q loose XP YP l.row.toRowW d [] (λf vs=>PySem.call f vs):=by
 intro w s₀ s₁ mg mb G Y fa o pm cd doc dV kV ho hd hcd hD hmg hg args vals as hpre hlay hrd hwl hlo;obtain rfl:dV=.none:=Dflts.none hD hdf;obtain rfl:kV=.none:=Dflts.noKw hD;obtain⟨a,vs,ns,rfl,rfl,hobj,hints,hlen⟩:=aDw hn hpre hwl;refine enter_call (codeAny_mono (call w s₀ s₁ mg mb fa o pm cd doc a vs ns G Y ho (fd_plain hd) hcd hmg hobj hints hlen hg) λr s' hq=>?_);obtain⟨rfl,h2,h3,h4⟩:=hq;exact⟨.inl ⟨.bool true,.bool true,[],rfl,λ_=>rfl,.bool true,aDf l _,λ_=>⟨List.Pairwise.nil,λ_ hm=>(nomatch hm)⟩⟩,h2,h3,h4⟩
section
variable {prog:Program}{w:World}{A:Around}{E:Value->Shared->Prop}{s:Shared}{K:Frag}
end
end Att
namespace L2
open PySem PySem.Spec PyProof.Rows
theorem xJ:∀{vs:List Value}{ns:List Int},IntsAre vs ns->bU (ns.map V.int) vs
 |_,_,.nil=>.nil
 |_,_,.cons n t h=>.cons ⟨t,rfl⟩ (xJ h)
noncomputable def lZ (s:Stmt):Arguments:=match s with
 |.FunctionDef _ a _ _ _ _ _ _ _ _=>a
 |_=>{ posonlyargs:=[],args:=[],vararg:=none,kwonlyargs:=[],kw_defaults:=[],kwarg:=none,defaults:=[] }
noncomputable def fZ (s:Stmt):List Stmt:=match s with
 |.FunctionDef _ _ b _ _ _ _ _ _ _=>b
 |_=>[]
noncomputable def aI (s:Stmt):Scope:=match s with
 |.FunctionDef _ _ _ _ _ _ sc _ _ _=>sc
 |_=>{ kind:=.function,names:=[],isGenerator:=false,isCoroutine:=false }
noncomputable abbrev CX0:CXT:=λ_ _ _ _ _ _=>False
noncomputable abbrev E0:XK:=λ_ _ _=>False
theorem aHE {X:Cx}:yX CX0 X E0:=λ_ _ _ _ _ _ _ h=>h.elim
structure Fun (K:Frag)(x qual:Str)(st:Stmt)(f:Addr)(fd:FuncData):Prop where
 ex:∃(oc:Value)(od:Option Addr) (kV doc pm:Value) (an:Option Addr) (cdv ct:Value) (osl:Array (Option Value)),
  fd=fnOf x qual (lZ st) (fZ st) (aI st) .none kV doc pm an cdv ct/\K.lookup f=some ⟨oc,od,.func fd,osl⟩/\codeIn K cdv qual=true
 kp:keepIn K (.ref f)=true
section
variable {P:Program}{w:World}{K:Frag}{mg:Str->Option Value}{base:Heap}
theorem Fun.ok {x qual:Str}{st:Stmt}{f:Addr}{fd:FuncData}{N ps:List Str}{k:Nat}{sp:Sp}(F:Fun K x qual st f fd)(S:aS N ps (aI st))(len:∀vs H Q E,sp vs H Q E->vs.length=ps.length)(hbody:∀(cdv:Value)(A:Around) (outer:List Env) (s:Shared) (H:Hp) (vs:List V) (Q:VK) (E:XK),dZ k (A.deeper (envOfC qual (aI st) s.heap.objs.size f cdv))->sp vs H Q E ->
   ∃t,PSs (sT CX0 P w K mg base N qual (aI st) f cdv A outer s H E).nox (fZ st) t/\t { nx:=λ_ H'=>Q .non H',rt:=Q } (start N vs) H):mX P w K mg base CX0 (k+1) f fd ps sp:=by
 obtain⟨oc,od,kV,doc,pm,an,cdv,ct,osl,rfl,lk,hcd⟩:=F.ex;refine aHG lk hcd S len λA outer s H vs Q E hr hsp=>?_;obtain⟨t,h,q⟩:=hbody cdv A outer s H vs Q E hr hsp;exact⟨t,h.nox,q⟩
theorem Fun.binds {x qual:Str}{st:Stmt}{f:Addr}{fd:FuncData}{ps:List Str}(F:Fun K x qual st f fd)(h:∀(kV doc pm:Value)(an:Option Addr) (cdv ct:Value) (us:List Value),us.length=ps.length->bindArgs (fnOf x qual (lZ st) (fZ st) (aI st) .none kV doc pm an cdv ct) ⟨us,[]⟩=pure (ps.zip us)):tS K fd ps []:=by obtain⟨oc,od,kV,doc,pm,an,cdv,ct,osl,rfl,lk,hcd⟩:=F.ex;exact .all (h kV doc pm an cdv ct)
theorem fun_mk {x qual:Str}{st:Stmt}{f:Addr}{oc:Value}{od an:Option Addr}{osl:Array (Option Value)}{kV doc pm cdv ct:Value}(l:K.lookup f=some ⟨oc,od,.func (fnOf x qual (lZ st) (fZ st) (aI st) .none kV doc pm an cdv ct),osl⟩)(c:codeIn K cdv qual=true)(k:keepIn K (.ref f)=true):Fun K x qual st f (fnOf x qual (lZ st) (fZ st) (aI st) .none kV doc pm an cdv ct):=⟨⟨oc,od,kV,doc,pm,an,cdv,ct,osl,rfl,l,c⟩,k⟩
end
theorem eA {n:Nat}(h:n<=1000):n<sizeLine:=Nat.lt_of_le_of_lt h (by decide)
section
variable {X:Cx}
end
def aDH (H H':Hp):Prop:=∀b o,H b=some o->H' b=some o
theorem aDH.trans {H H1 H2:Hp}(a:aDH H H1)(b:aDH H1 H2):aDH H H2:=λc o h=>b c o (a c o h)
theorem aDH.seq {K:Frag}{H H':Hp}{a:Addr}{xs:List V}(e:aDH H H')(h:SqL K H a xs):SqL K H' a xs:=by
 rcases h with(h|⟨o,h⟩)|h
 ·exact .inl (.inl (e _ _ h))
 ·exact .inl (.inr ⟨o,e _ _ h⟩)
 ·exact .inr h
end L2
set_option maxHeartbeats 4000000
namespace Dd
open PySem PySem.Spec PyProof.Rows L2
inductive D where
 |non|bl (b:Bool)|int (i:Int)|str (x:Str)|tup (xs:List D)|fz (xs:List D)|ref (a:Addr)
def SqX (K:Frag)(H:Hp)(a:Addr)(xs:List V):Prop :=
 (∃o,H a=some (.frz o (.lst xs))) ∨
 ∃(its:Array Value)(n:Nat),K.lookup a = some { cls:=.type "list",data:=.seq its n }/\its.size<=sizeLine/\bU xs its.toList
theorem SqX.sq {K:Frag}{H:Hp}{a:Addr}{xs:List V}(h:SqX K H a xs):SqL K H a xs:=by
 rcases h with⟨o,h⟩|⟨its,n,h,z,r⟩
 ·exact .inl (.inr ⟨o,h⟩)
 ·exact .inr ⟨_,its,n,h,rfl,rfl,rfl,z,r⟩
mutual
def Rep (K:Frag)(H:Hp):D->V->Prop
 |.non,v=>v=.non
 |.bl b,v=>v=.bl b
 |.int i,v=>v=.int i
 |.str x,v=>v=.str x
 |.ref a,v=>v=.ref a
 |.tup ds,v=>∃a xs,v=.ref a/\SqT K H a xs/\bG K H ds xs
 |.fz ds,v=>∃a xs,v=.ref a/\SqX K H a xs/\bG K H ds xs
def bG (K:Frag)(H:Hp):List D->List V->Prop
 |[],vs=>vs=[]
 |d::ds,vs=>∃v r,vs=v::r/\Rep K H d v/\bG K H ds r
end
structure Ext (H H':Hp):Prop where
 tup:∀a xs,H a=some (.tup xs)->H' a=some (.tup xs)
 frz:∀a o u,H a=some (.frz o u)->H' a=some (.frz o u)
theorem Ext.refl (H:Hp):Ext H H:=⟨λ_ _ h=>h,λ_ _ _ h=>h⟩
theorem Ext.trans {H H1 H2:Hp}(a:Ext H H1)(b:Ext H1 H2):Ext H H2:=⟨λc xs h=>b.tup c xs (a.tup c xs h),λc o u h=>b.frz c o u (a.frz c o u h)⟩
theorem Ext.new {H:Hp}{p:Addr}(h:H p=none)(o:HO):Ext H (upd H p o) :=
 ⟨λa xs e=>by rw[aL (aU e h)];exact e,λa ob u e=>by rw[aL (aU e h)];exact e⟩
theorem Ext.put {H:Hp}{p:Addr}{xs:List V}(h:H p=some (.lst xs))(o:HO):Ext H (upd H p o) :=
 ⟨λa ys e=>by rw[aL (tZ e h (by intro z;cases z))];exact e,λa ob u e=>by rw[aL (tZ e h (by intro z;cases z))];exact e⟩
section
variable {K:Frag}{H H':Hp}
theorem aG3 (e:Ext H H'){a:Addr}{xs:List V}(h:SqT K H a xs):SqT K H' a xs:=by
 rcases h with(h|⟨o,h⟩)|h
 ·exact .inl (.inl (e.tup _ _ h))
 ·exact .inl (.inr ⟨o,e.frz _ _ _ h⟩)
 ·exact .inr h
theorem fX (e:Ext H H'){a:Addr}{xs:List V}(h:SqX K H a xs):SqX K H' a xs:=by
 rcases h with⟨o,h⟩|h
 ·exact .inl ⟨o,e.frz _ _ _ h⟩
 ·exact .inr h
structure aBP (K:Frag)(H H':Hp):Prop where
 t:∀{a:Addr}{xs:List V},SqT K H a xs->SqT K H' a xs
 x:∀{a:Addr}{xs:List V},SqX K H a xs->SqX K H' a xs
mutual
theorem Rep.extS (e:aBP K H H'):∀{d:D}{v:V},Rep K H d v->Rep K H' d v
 |.non,_,h=>by unfold Rep at h ⊢;exact h
 |.bl _,_,h=>by unfold Rep at h ⊢;exact h
 |.int _,_,h=>by unfold Rep at h ⊢;exact h
 |.str _,_,h=>by unfold Rep at h ⊢;exact h
 |.ref _,_,h=>by unfold Rep at h ⊢;exact h
 |.tup ds,_,h=>by unfold Rep at h ⊢;obtain⟨a,xs,e1,sq,r⟩:=h;exact⟨a,xs,e1,e.t sq,bG.extS e r⟩
 |.fz ds,_,h=>by unfold Rep at h ⊢;obtain⟨a,xs,e1,sq,r⟩:=h;exact⟨a,xs,e1,e.x sq,bG.extS e r⟩
theorem bG.extS (e:aBP K H H'):∀{ds:List D}{vs:List V},bG K H ds vs->bG K H' ds vs
 |[],_,h=>by unfold bG at h ⊢;exact h
 |d::ds,_,h=>by unfold bG at h ⊢;obtain⟨v,r,e1,hv,hr⟩:=h;exact⟨v,r,e1,Rep.extS e hv,bG.extS e hr⟩
end
theorem Ext.s (e:Ext H H'):aBP K H H':=⟨aG3 e,fX e⟩
theorem Rep.ext (e:Ext H H'){d:D}{v:V}(h:Rep K H d v):Rep K H' d v:=h.extS e.s
theorem bG.ext (e:Ext H H'){ds:List D}{vs:List V}(h:bG K H ds vs):bG K H' ds vs:=h.extS e.s
theorem cS {i:Int}:Rep K H (.int i) (.int i):=by unfold Rep;rfl
theorem fF {b:Bool}:Rep K H (.bl b) (.bl b):=by unfold Rep;rfl
theorem aHb {x:Str}:Rep K H (.str x) (.str x):=by unfold Rep;rfl
theorem uV:Rep K H .non .non:=by unfold Rep;rfl
theorem dH {a:Addr}:Rep K H (.ref a) (.ref a):=by unfold Rep;rfl
theorem aW {i:Int}{v:V}(h:Rep K H (.int i) v):v=.int i:=by unfold Rep at h;exact h
theorem cB {b:Bool}{v:V}(h:Rep K H (.bl b) v):v=.bl b:=by unfold Rep at h;exact h
theorem dL {x:Str}{v:V}(h:Rep K H (.str x) v):v=.str x:=by unfold Rep at h;exact h
theorem dU {v:V}(h:Rep K H .non v):v=.non:=by unfold Rep at h;exact h
theorem aP {a:Addr}{v:V}(h:Rep K H (.ref a) v):v=.ref a:=by unfold Rep at h;exact h
theorem bO {ds:List D}{v:V}(h:Rep K H (.tup ds) v):∃a xs,v=.ref a/\SqT K H a xs/\bG K H ds xs:=by unfold Rep at h;exact h
theorem jM {ds:List D}{v:V}(h:Rep K H (.fz ds) v):∃a xs,v=.ref a/\SqX K H a xs/\bG K H ds xs:=by unfold Rep at h;exact h
theorem mI {ds:List D}{a:Addr}{xs:List V}(sq:SqT K H a xs)(r:bG K H ds xs):Rep K H (.tup ds) (.ref a):=by unfold Rep;exact⟨a,xs,rfl,sq,r⟩
theorem cN:bG K H [] []:=by unfold bG;rfl
theorem bH {vs:List V}(h:bG K H [] vs):vs=[]:=by unfold bG at h;exact h
theorem cC {d:D}{ds:List D}{v:V}{vs:List V}(h:Rep K H d v)(r:bG K H ds vs):bG K H (d::ds) (v::vs):=by unfold bG;exact⟨v,vs,rfl,h,r⟩
theorem aQ {d:D}{ds:List D}{vs:List V}(h:bG K H (d::ds) vs):∃v r,vs=v::r/\Rep K H d v/\bG K H ds r:=by unfold bG at h;exact h
theorem bG.length:∀{ds:List D}{vs:List V},bG K H ds vs->ds.length=vs.length
 |[],_,h=>by rw[bH h];rfl
 |d::ds,_,h=>by obtain⟨v,r,rfl,_,hr⟩:=aQ h;rw[length_cons,length_cons,bG.length hr]
theorem bG.get:∀{ds:List D}{vs:List V} {i:Nat} {d:D},bG K H ds vs->ds[i]?=some d->∃v,vs[i]?=some v/\Rep K H d v
 |[],_,i,d,h,e=>by simp at e
 |d0::ds,_,0,d,h,e=>by obtain⟨v,r,rfl,hv,hr⟩:=aQ h;simp at e;subst e;exact⟨v,rfl,hv⟩
 |d0::ds,_,i+1,d,h,e=>by obtain⟨v,r,rfl,hv,hr⟩:=aQ h;exact bG.get (i:=i) hr (by simpa using e)
theorem bG.getV:∀{ds:List D}{vs:List V} {i:Nat} {v:V},bG K H ds vs->vs[i]?=some v->∃d,ds[i]?=some d/\Rep K H d v
 |[],_,i,v,h,e=>by rw[bH h] at e;simp at e
 |d0::ds,_,0,v,h,e=>by obtain⟨v0,r,rfl,hv,hr⟩:=aQ h;simp at e;subst e;exact⟨d0,rfl,hv⟩
 |d0::ds,_,i+1,v,h,e=>by obtain⟨v0,r,rfl,hv,hr⟩:=aQ h;exact bG.getV (i:=i) hr (by simpa using e)
theorem bG.set {d:D}{v:V}(h:Rep K H d v):∀{ds:List D}{vs:List V} (i:Nat),bG K H ds vs->bG K H (ds.set i d) (vs.set i v)
 |[],_,i,r=>by rw[bH r];exact cN
 |d0::ds,_,0,r=>by obtain⟨v0,r0,rfl,hv,hr⟩:=aQ r;exact cC h hr
 |d0::ds,_,i+1,r=>by obtain⟨v0,r0,rfl,hv,hr⟩:=aQ r;exact cC hv (bG.set h i hr)
theorem bG.append:∀{ds es:List D}{vs us:List V},bG K H ds vs->bG K H es us->bG K H (ds++es) (vs++us)
 |[],es,vs,us,h,q=>by rw[bH h];exact q
 |d::ds,es,_,us,h,q=>by obtain⟨v,r,rfl,hv,hr⟩:=aQ h;exact cC hv (bG.append hr q)
theorem bG.take:∀{ds:List D}{vs:List V} (n:Nat),bG K H ds vs->bG K H (ds.take n) (vs.take n)
 |ds,vs,0,h=>by rw[List.take_zero,List.take_zero];exact cN
 |[],_,n+1,h=>by rw[bH h];exact cN
 |d::ds,_,n+1,h=>by obtain⟨v,r,rfl,hv,hr⟩:=aQ h;exact cC hv (bG.take n hr)
theorem bG.drop:∀{ds:List D}{vs:List V} (n:Nat),bG K H ds vs->bG K H (ds.drop n) (vs.drop n)
 |ds,vs,0,h=>h
 |[],_,n+1,h=>by rw[bH h];exact cN
 |d::ds,_,n+1,h=>by obtain⟨v,r,rfl,hv,hr⟩:=aQ h;exact bG.drop n hr
theorem xU:∀(ns:List Int),bG K H (ns.map D.int) (ns.map V.int)
 |[]=>cN
 |n::ns=>cC cS (xU ns)
end
inductive AK where
 |l (a:Addr)|d (a:Addr)|o (a:Addr)|x (a:Addr)
deriving DecidableEq
instance:Coe Addr AK:=⟨AK.l⟩
noncomputable abbrev DM:=AK->Option (List D)
noncomputable def aX (M:DM)(a:Addr)(ds:List D):DM:=λb=>if b=AK.l a then some ds else M b
noncomputable def tO (M:DM)(a:Addr)(ds:List D):DM:=λb=>if b=AK.d a then some ds else M b
noncomputable def aK3 (M:DM)(a:Addr)(ds:List D):DM:=λb=>if b=AK.o a then some ds else M b
noncomputable def putX (M:DM)(a:Addr)(ds:List D):DM:=λb=>if b=AK.x a then some ds else M b
theorem pL {M:DM}{a:Addr}{ds:List D}:putX M a ds (.x a)=some ds:=if_pos rfl
theorem gE {M:DM}{a:Addr}{b:AK}{ds:List D}(h:b≠AK.x a):putX M a ds b=M b:=if_neg h
theorem qE {M:DM}{a b:Addr}{ds:List D}:aX M a ds (.x b)=M (.x b):=if_neg λe=>nomatch e
theorem aFL {M:DM}{a b:Addr}{ds:List D}:tO M a ds (.x b)=M (.x b):=if_neg λe=>nomatch e
theorem aBl {M:DM}{a b:Addr}{ds:List D}:aX M a ds (.o b)=M (.o b):=if_neg λe=>nomatch e
theorem aDO {M:DM}{a b:Addr}{ds:List D}:tO M a ds (.o b)=M (.o b):=if_neg λe=>nomatch e
theorem aJ {M:DM}{a:Addr}{ds:List D}:aX M a ds a=some ds:=if_pos rfl
theorem cK {M:DM}{a b:Addr}{ds:List D}(h:b≠a):aX M a ds b=M b:=if_neg λe=>h (AK.l.inj e)
theorem eU {M:DM}{a:Addr}{b:AK}{ds:List D}(h:b≠AK.l a):aX M a ds b=M b:=if_neg h
theorem jJ {M:DM}{a b:Addr}{ds:List D}:aX M a ds (.d b)=M (.d b):=if_neg λe=>nomatch e
theorem sR {M:DM}{a:Addr}{ds es:List D}:aX (aX M a ds) a es=aX M a es:=by funext b;unfold aX;split<;>rfl
theorem jB {M:DM}{a:Addr}{ds:List D}:tO M a ds (.d a)=some ds:=if_pos rfl
theorem aCh {M:DM}{a b:Addr}{ds:List D}(h:b≠a):tO M a ds (.d b)=M (.d b):=if_neg λe=>h (AK.d.inj e)
theorem wQ {M:DM}{a:Addr}{b:AK}{ds:List D}(h:b≠AK.d a):tO M a ds b=M b:=if_neg h
theorem zC {M:DM}{a b:Addr}{ds:List D}:tO M a ds (.l b)=M (.l b):=if_neg λe=>nomatch e
theorem bM {M:DM}{a b:Addr}{o:List D}(h:M a=some o)(h':M b=none):a≠b:=by intro e;subst e;rw[h] at h';cases h'
theorem bB {M:DM}{a b:AK}{o:List D}(h:M a=some o)(h':M b=none):a≠b:=by intro e;subst e;rw[h] at h';cases h'
def cL (a:Addr)(es:List DictEntry):Heap->Prop:=λh=>(a==sysModules) = false/\es.length<=sizeLine/\∃ep,h.get? a = some { cls:=.type "dict",data:=.dict es.toArray ep }
def aDJ (K:Frag)(H:Hp)(d:D)(e:DictEntry):Prop:=∃k v kv vv,d=.tup [.int e.hash,k,v]/\RelV kv e.key/\Rep K H k kv/\RelV vv e.val/\Rep K H v vv
theorem aDJ.ext {K:Frag}{H H':Hp}{d:D}{e:DictEntry}(h:aDJ K H d e)(x:Ext H H'):aDJ K H' d e :=
 let ⟨k,v,kv,vv,a,b,c,f,g⟩:=h;⟨k,v,kv,vv,a,b,c.ext x,f,g.ext x⟩
abbrev nY (K:Frag)(H:Hp)(ds:List D)(es:List DictEntry):Prop:=Paired (aDJ K H) ds es
theorem eM {K:Frag}{H H':Hp}{ds:List D}{es:List DictEntry}(h:nY K H ds es)(x:Ext H H'):nY K H' ds es:=Paired.mapP h λ_ _ r=>r.ext x
noncomputable def aDl (C:Addr)(gs:List (Str×D)):List D:=.ref C::gs.map λp=>.tup [.str p.1,p.2]
abbrev aD7 (K:Frag)(H:Hp)(gs:List (Str×D))(fs:List (Str×V)):Prop:=Paired (λ(g:Str×D)(f:Str×V)=>g.1=f.1/\Rep K H g.2 f.2) gs fs
theorem hO {K:Frag}{H H':Hp}{gs:List (Str×D)}{fs:List (Str×V)}(h:aD7 K H gs fs)(x:Ext H H'):aD7 K H' gs fs:=Paired.mapP h λ_ _ r=>⟨r.1,r.2.ext x⟩
def aC0 (H:Hp)(a:Addr)(q:Str):Prop:=∃ps:Array Value,H a=some (.tbl ps)/\TriplesOk ps.toList/\∀pos v,codeAmong pos ps.toList=some v->∃c oc u vs t,v=.ref c/\H c=some (.frz oc u)/\oc.data=.fields vs/\vs[1]?=some (.str q t)
noncomputable def aEB (p1 p2:Pos):Arguments:={ posonlyargs:=[],args:=[⟨"one",none,p1⟩,⟨"other",none,p2⟩],vararg:=none,kwonlyargs:=[],kw_defaults:=[],kwarg:=none,defaults:=[] }
noncomputable def aDA (p1 p2 p3 p4 p5 p6 p7 p8:Pos):Expr:=.Call (.Name "earlier" p1) [.Subscript (.Name "one" p2) (.Constant (.int 0) 0 p3) p4,.Subscript (.Name "other" p5) (.Constant (.int 0) 0 p6) p7] [] p8
noncomputable def pQ:Scope:={ kind:=.function,names:=[("one",.local),("other",.local),("earlier",.free)],isGenerator:=false,isCoroutine:=false }
def aIP (H:Hp)(f g:Addr):Prop:=∃(q:Str)(a1 a2 b1 b2 b3 b4 b5 b6 b7 b8:Pos) (c c':Addr) (pm ct:Value) (oc oc':Obj) (u u':HO) (vs:Array Value) (t:Tok),
 H f = some (.frz { cls:=.type "function",data:=.func { name:="<lambda>",qualname:=q,params:=aEB a1 a2,body:=.expr (aDA b1 b2 b3 b4 b5 b6 b7 b8),scope:=pQ,globals:=mainGlobals,closure:=[("earlier",c)],defaults:=.none,kwdefaults:=.none,doc:=.none,pyModule:=pm,annotations:=none,code:=.ref c',closureTuple:=ct,builtins:=builtinsNs } } u) /\
 H c=some (.frz oc (.own f))/\oc.data=.cell (some (.ref g))/\H c'=some (.frz oc' u')/\oc'.data=.fields vs/\vs[1]?=some (.str q t)
def aJM (K:Frag)(H:Hp)(a:Addr)(es:List D):Prop:=∃o ens ep,o.data=.dict (toArray ens) ep/\H a=some (.frz o (.ext (cL a ens)))/\nY K H es ens
def rF (K:Frag)(H:Hp)(a:Addr):List D->Prop
 |[.str q]=>aC0 H a q
 |[.ref g]=>aIP H a g
 |.bl _::es=>aJM K H a es
 |_=>False
theorem rF.ext {K:Frag}{H H':Hp}{a:Addr}{ds:List D}(h:rF K H a ds)(e:Ext H H')(tb:∀ps,H a=some (.tbl ps)->H' a=some (.tbl ps)):rF K H' a ds:=by
 unfold rF at h ⊢;split at h
 ·obtain⟨ps,h1,h2,h3⟩:=h;exact⟨ps,tb ps h1,h2,λpos v z=>let ⟨c,oc,u,vs,t,a,b,r⟩:=h3 pos v z;⟨c,oc,u,vs,t,a,e.frz _ _ _ b,r⟩⟩
 ·obtain⟨q,a1,a2,b1,b2,b3,b4,b5,b6,b7,b8,c,c',pm,ct,oc,oc',u,u',vs,t,h1,h4,h5,h6,h7⟩:=h;exact⟨q,a1,a2,b1,b2,b3,b4,b5,b6,b7,b8,c,c',pm,ct,oc,oc',u,u',vs,t,e.frz _ _ _ h1,e.frz _ _ _ h4,h5,e.frz _ _ _ h6,h7⟩
 ·obtain⟨o,ens,ep,h0,h1,h2⟩:=h;exact⟨o,ens,ep,h0,e.frz _ _ _ h1,eM h2 e⟩
 ·exact h
theorem rF.sth {K:Frag}{H:Hp}{a:Addr}{ds:List D}(h:rF K H a ds):(∃ps,H a=some (.tbl ps)) ∨ ∃o u,H a=some (.frz o u):=by
 unfold rF at h;split at h
 ·obtain⟨ps,h1,_⟩:=h;exact .inl ⟨ps,h1⟩
 ·obtain⟨_,_,_,_,_,_,_,_,_,_,_,_,_,_,_,_,_,_,_,_,_,h1,_⟩:=h;exact .inr ⟨_,_,h1⟩
 ·obtain⟨_,_,_,_,h1,_⟩:=h;exact .inr ⟨_,_,h1⟩
 ·exact h.elim
theorem rF.wr {K:Frag}{H:Hp}{a p:Addr}{o:HO}{ds:List D}(h:rF K H a ds)(e:Ext H (upd H p o))(n:∀ps,H p≠some (.tbl ps)):rF K (upd H p o) a ds :=
 h.ext e λps z=>by rw[aL (λw=>n ps (by rw[<- w];exact z))];exact z
structure bK (K:Frag)(M:DM)(H:Hp):Prop where
 l:∀(a:Addr) ds,M (.l a)=some ds->∃xs,H a=some (.lst xs)/\bG K H ds xs
 d:∀(a:Addr) ds,M (.d a)=some ds->∃es,H a=some (.ext (cL a es))/\nY K H ds es
 o:∀(a:Addr) ds,M (.o a)=some ds->∃C dx gs fs,ds=aDl C gs/\H a=some (.ins C dx fs)/\aD7 K H gs fs
 x:∀(a:Addr) ds,M (.x a)=some ds->rF K H a ds
theorem Ext.putX {H:Hp}{p:Addr}{φ:Heap->Prop}(h:H p=some (.ext φ))(o:HO):Ext H (upd H p o) :=
 ⟨λa ys e=>by rw[aL (tZ e h (by intro z;cases z))];exact e,λa ob u e=>by rw[aL (tZ e h (by intro z;cases z))];exact e⟩
section
variable {K:Frag}{H H':Hp}{M M':DM}
theorem bK.fresh (h:bK K M H){p:Addr}(e:H p=none):M p=none:=by
 cases q:M p with
 |none=>rfl
 |some ds=>obtain⟨xs,z,_⟩:=h.l p ds q;rw[e] at z;cases z
theorem bK.freshD (h:bK K M H){p:Addr}(e:H p=none):M (.d p)=none:=by
 cases q:M (.d p) with
 |none=>rfl
 |some ds=>obtain⟨xs,z,_⟩:=h.d p ds q;rw[e] at z;cases z
theorem bK.freshX (h:bK K M H){p:Addr}(e:H p=none):M (.x p)=none:=by
 cases q:M (.x p) with
 |none=>rfl
 |some ds=>rcases (h.x p ds q).sth with⟨_,z⟩|⟨_,_,z⟩<;>(rw[e] at z;cases z)
theorem bK.new (h:bK K M H){p:Addr}(e:H p=none)(o:HO):bK K M (upd H p o) where
 l:=λa ds q=>by obtain⟨xs,z,r⟩:=h.l a ds q;exact⟨xs,by rw[aL (aU z e)];exact z,r.ext (Ext.new e o)⟩
 d:=λa ds q=>by obtain⟨xs,z,r⟩:=h.d a ds q;exact⟨xs,by rw[aL (aU z e)];exact z,eM r (Ext.new e o)⟩
 o:=λa ds q=>by obtain⟨C,dx,gs,fs,w,z,r⟩:=h.o a ds q;exact⟨C,dx,gs,fs,w,by rw[aL (aU z e)];exact z,hO r (Ext.new e o)⟩
 x:=λa ds q=>(h.x a ds q).wr (Ext.new e o) λps z=>by rw[e] at z;cases z
theorem bK.lnew (h:bK K M H){p:Addr}(e:H p=none){xs:List V}{ds:List D}(r:bG K H ds xs):bK K (aX M p ds) (upd H p (.lst xs)) where
 l:=λa es q=>by
  by_cases ha:a=p
  ·subst ha;rw[aJ] at q;cases q;exact⟨xs,bI,r.ext (Ext.new e _)⟩
  ·rw[cK ha] at q;obtain⟨ys,z,r2⟩:=h.l a es q;exact⟨ys,by rw[aL ha];exact z,r2.ext (Ext.new e _)⟩
 d:=λa es q=>by rw[jJ] at q;obtain⟨ys,z,r2⟩:=h.d a es q;exact⟨ys,by rw[aL (aU z e)];exact z,eM r2 (Ext.new e _)⟩
 o:=λa es q=>by rw[aBl] at q;obtain⟨C,dx,gs,fs,w,z,r⟩:=h.o a es q;exact⟨C,dx,gs,fs,w,by rw[aL (aU z e)];exact z,hO r (Ext.new e _)⟩
 x:=λa es q=>(h.x a es (by rw[qE] at q;exact q)).wr (Ext.new e _) λps z=>by rw[e] at z;cases z
theorem bK.put (h:bK K M H){p:Addr}{xs0:List V}(e:H p=some (.lst xs0)){xs:List V}{ds:List D}(r:bG K H ds xs):bK K (aX M p ds) (upd H p (.lst xs)) where
 l:=λa es q=>by
  by_cases ha:a=p
  ·subst ha;rw[aJ] at q;cases q;exact⟨xs,bI,r.ext (Ext.put e _)⟩
  ·rw[cK ha] at q;obtain⟨ys,z,r2⟩:=h.l a es q;exact⟨ys,by rw[aL ha];exact z,r2.ext (Ext.put e _)⟩
 d:=λa es q=>by rw[jJ] at q;obtain⟨ys,z,r2⟩:=h.d a es q;exact⟨ys,by rw[aL (tZ z e (by intro z;cases z))];exact z,eM r2 (Ext.put e _)⟩
 o:=λa es q=>by rw[aBl] at q;obtain⟨C,dx,gs,fs,w,z,r⟩:=h.o a es q;exact⟨C,dx,gs,fs,w,by rw[aL (tZ z e (by intro z;cases z))];exact z,hO r (Ext.put e _)⟩
 x:=λa es q=>(h.x a es (by rw[qE] at q;exact q)).wr (Ext.put e _) λps z=>by rw[e] at z;cases z
theorem bK.knew (h:bK K M H){p:Addr}(e:H p=none){xs:List DictEntry}{ds:List D}(r:nY K H ds xs):bK K (tO M p ds) (upd H p (.ext (cL p xs))) where
 d:=λa es q=>by
  by_cases ha:a=p
  ·subst ha;rw[jB] at q;cases q;exact⟨xs,bI,eM r (Ext.new e _)⟩
  ·rw[aCh ha] at q;obtain⟨ys,z,r2⟩:=h.d a es q;exact⟨ys,by rw[aL ha];exact z,eM r2 (Ext.new e _)⟩
 l:=λa es q=>by rw[zC] at q;obtain⟨ys,z,r2⟩:=h.l a es q;exact⟨ys,by rw[aL (aU z e)];exact z,r2.ext (Ext.new e _)⟩
 o:=λa es q=>by rw[aDO] at q;obtain⟨C,dx,gs,fs,w,z,r⟩:=h.o a es q;exact⟨C,dx,gs,fs,w,by rw[aL (aU z e)];exact z,hO r (Ext.new e _)⟩
 x:=λa es q=>(h.x a es (by rw[aFL] at q;exact q)).wr (Ext.new e _) λps z=>by rw[e] at z;cases z
theorem bK.kput (h:bK K M H){p:Addr}{φ:Heap->Prop}(e:H p=some (.ext φ)){xs:List DictEntry}{ds:List D}(r:nY K H ds xs):bK K (tO M p ds) (upd H p (.ext (cL p xs))) where
 d:=λa es q=>by
  by_cases ha:a=p
  ·subst ha;rw[jB] at q;cases q;exact⟨xs,bI,eM r (Ext.putX e _)⟩
  ·rw[aCh ha] at q;obtain⟨ys,z,r2⟩:=h.d a es q;exact⟨ys,by rw[aL ha];exact z,eM r2 (Ext.putX e _)⟩
 l:=λa es q=>by rw[zC] at q;obtain⟨ys,z,r2⟩:=h.l a es q;exact⟨ys,by rw[aL (tZ z e (by intro z;cases z))];exact z,r2.ext (Ext.putX e _)⟩
 o:=λa es q=>by rw[aDO] at q;obtain⟨C,dx,gs,fs,w,z,r⟩:=h.o a es q;exact⟨C,dx,gs,fs,w,by rw[aL (tZ z e (by intro z;cases z))];exact z,hO r (Ext.putX e _)⟩
 x:=λa es q=>(h.x a es (by rw[aFL] at q;exact q)).wr (Ext.putX e _) λps z=>by rw[e] at z;cases z
def bD (M M':DM):Prop:=∀a o,M a=some o->M' a=some o
theorem bD.refl (M:DM):bD M M:=λ_ _ h=>h
theorem bD.trans {M1 M2 M3:DM}(a:bD M1 M2)(b:bD M2 M3):bD M1 M3:=λc o h=>b c o (a c o h)
theorem bD.new {M:DM}{p:Addr}(h:M p=none)(ds:List D):bD M (aX M p ds):=λa o e=>by rw[eU (bB e h)];exact e
theorem bD.newK {M:DM}{p:Addr}(h:M (.d p)=none)(ds:List D):bD M (tO M p ds):=λa o e=>by rw[wQ (bB e h)];exact e
theorem bK.sub (h:bK K M' H)(s:bD M M'):bK K M H:=⟨λa ds q=>h.l a ds (s _ ds q),λa ds q=>h.d a ds (s _ ds q),λa ds q=>h.o a ds (s _ ds q),λa ds q=>h.x a ds (s _ ds q)⟩
end
noncomputable abbrev cP:=List (Option D)
structure gS (K:Frag)(H:Hp)(ρ:cP)(σ:L2.St):Prop where
 len:ρ.length=σ.length
 get:∀(i:Nat) d,ρ[i]?=some (some d)->∃v,σ[i]?=some (some v)/\Rep K H d v
section
variable {K:Frag}{H H':Hp}{ρ:cP}{σ:L2.St}
theorem gS.ext (h:gS K H ρ σ)(e:Ext H H'):gS K H' ρ σ:=⟨h.len,λi d q=>let ⟨v,a,b⟩:=h.get i d q;⟨v,a,b.ext e⟩⟩
theorem gS.set (h:gS K H ρ σ){d:D}{v:V}(r:Rep K H d v)(i:Nat):gS K H (ρ.set i (some d)) (σ.set i (some v)):=by
 refine⟨by rw[length_set,length_set,h.len],λj d' q=>?_⟩;rw[getElem?_set] at q;by_cases hij:i=j
 ·subst hij;rw[if_pos rfl] at q;by_cases hl:i<ρ.length
  ·rw[if_pos hl] at q;cases q;exact⟨v,by rw[getElem?_set,if_pos rfl,if_pos (by rw[<- h.len];exact hl)],r⟩
  ·rw[if_neg hl] at q;cases q
 ·rw[if_neg hij] at q;obtain⟨u,a,b⟩:=h.get j d' q;exact⟨u,by rw[getElem?_set,if_neg hij];exact a,b⟩
end
abbrev DQ:=D->DM->Prop
abbrev DE:=cP->DM->DQ->Prop
abbrev DT:=cP->DM->(Bool->DM->Prop)->Prop
abbrev DA:=cP->DM->(List D->DM->Prop)->Prop
structure hE where
 nx:cP->DM->Prop
 rt:DQ
 bk:cP->DM->Prop:=λ_ _=>False
 ct:cP->DM->Prop:=λ_ _=>False
abbrev DS:=hE->cP->DM->Prop
abbrev DG:=D->cP->DM->(cP->DM->Prop)->Prop
abbrev DGs:=List D->cP->DM->(cP->DM->Prop)->Prop
noncomputable def LQ (K:Frag)(H:Hp)(Q:DQ):VK:=λv H'=>∃d M',Rep K H' d v/\bK K M' H'/\Ext H H'/\Q d M'
def LT (K:Frag)(H:Hp)(Q:Bool->DM->Prop):Bool->Hp->Prop:=λb H'=>∃M',bK K M' H'/\Ext H H'/\Q b M'
def LA (K:Frag)(H:Hp)(Q:List D->DM->Prop):List V->Hp->Prop:=λvs H'=>∃ds M',bG K H' ds vs/\bK K M' H'/\Ext H H'/\Q ds M'
def LN (K:Frag)(H:Hp)(Q:cP->DM->Prop):L2.St->Hp->Prop:=λσ' H'=>∃ρ' M',gS K H' ρ' σ'/\bK K M' H'/\Ext H H'/\Q ρ' M'
structure pZ (K:Frag)(H:Hp)(D:hE)(E:uD):Prop where
 nx:∀σ' H',LN K H D.nx σ' H'->E.nx σ' H'
 rt:∀v H',LQ K H D.rt v H'->E.rt v H'
 bk:∀σ' H',LN K H D.bk σ' H'->E.bk σ' H'
 ct:∀σ' H',LN K H D.ct σ' H'->E.ct σ' H'
def low (K:Frag)(t:DE):TE:=λσ H Q=>∃ρ M Q',gS K H ρ σ/\bK K M H/\t ρ M Q'/\∀v H',LQ K H Q' v H'->Q v H'
def aDZ (K:Frag)(t:DT):TT:=λσ H Q=>∃ρ M Q',gS K H ρ σ/\bK K M H/\t ρ M Q'/\∀v H',LT K H Q' v H'->Q v H'
def aLI (K:Frag)(t:DA):TA:=λσ H Q=>∃ρ M Q',gS K H ρ σ/\bK K M H/\t ρ M Q'/\∀v H',LA K H Q' v H'->Q v H'
def aED (K:Frag)(t:DS):TS:=λE σ H=>∃ρ M D,gS K H ρ σ/\bK K M H/\t D ρ M/\pZ K H D E
def yL (K:Frag)(g:DG):TG:=λv σ H Q=>∃d ρ M Q',Rep K H d v/\gS K H ρ σ/\bK K M H/\g d ρ M Q'/\∀σ' H',LN K H Q' σ' H'->Q σ' H'
def aMh (K:Frag)(g:DGs):TGs:=λvs σ H Q=>∃ds ρ M Q',bG K H ds vs/\gS K H ρ σ/\bK K M H/\g ds ρ M Q'/\∀σ' H',LN K H Q' σ' H'->Q σ' H'
abbrev PDE (X:Cx)(e:Expr)(t:DE):Prop:=PE X e (low X.K t)
abbrev PDT (X:Cx)(e:Expr)(t:DT):Prop:=PT X e (aDZ X.K t)
abbrev PDW (X:Cx)(e:Expr)(t:DT):Prop:=PW X e (aDZ X.K t)
abbrev PDA (X:Cx)(es:List Expr)(t:DA):Prop:=PA X es (aLI X.K t)
abbrev PDS (X:Cx)(st:Stmt)(t:DS):Prop:=PS X st (aED X.K t)
abbrev mY (X:Cx)(st:List Stmt)(t:DS):Prop:=PSs X st (aED X.K t)
abbrev PDG (X:Cx)(e:Expr)(g:DG):Prop:=PG X e (yL X.K g)
abbrev aAZ (X:Cx)(es:List Expr)(g:DGs):Prop:=PGs X es (aMh X.K g)
section
variable {K:Frag}{H H1:Hp}
theorem LQ.back {Q:DQ}{v:V}{H2:Hp}(e:Ext H H1)(h:LQ K H1 Q v H2):LQ K H Q v H2:=let ⟨d,M,a,b,c,q⟩:=h;⟨d,M,a,b,e.trans c,q⟩
theorem LT.back {Q:Bool->DM->Prop}{v:Bool}{H2:Hp}(e:Ext H H1)(h:LT K H1 Q v H2):LT K H Q v H2:=let ⟨M,b,c,q⟩:=h;⟨M,b,e.trans c,q⟩
theorem LN.back {Q:cP->DM->Prop}{v:L2.St}{H2:Hp}(e:Ext H H1)(h:LN K H1 Q v H2):LN K H Q v H2:=let ⟨d,M,a,b,c,q⟩:=h;⟨d,M,a,b,e.trans c,q⟩
theorem pZ.at {D:hE}{E:uD}(h:pZ K H D E)(e:Ext H H1):pZ K H1 D E :=
 ⟨λs H2 q=>h.nx s H2 (q.back e),λs H2 q=>h.rt s H2 (q.back e),λs H2 q=>h.bk s H2 (q.back e),λs H2 q=>h.ct s H2 (q.back e)⟩
end
section
variable {X:Cx}{e:Expr}{st:Stmt}{sts:List Stmt}
theorem cV {t u:TE}(h:PE X e t)(k:∀σ H Q,u σ H Q->t σ H Q):PE X e u:=λpins s σ H Q I q=>h pins s σ H Q I (k σ H Q q)
theorem aB3 {t u:TT}(h:PT X e t)(k:∀σ H Q,u σ H Q->t σ H Q):PT X e u:=λpins s σ H Q I q=>h pins s σ H Q I (k σ H Q q)
theorem aEn {t u:TT}(h:PW X e t)(k:∀σ H Q,u σ H Q->t σ H Q):PW X e u:=λwh pins s σ H Q I q=>h wh pins s σ H Q I (k σ H Q q)
theorem aEk {es:List Expr}{t u:TA}(h:PA X es t)(k:∀σ H Q,u σ H Q->t σ H Q):PA X es u:=λpos pins s σ H Q I q=>h pos pins s σ H Q I (k σ H Q q)
theorem gR {t u:TS}(h:PS X st t)(k:∀D σ H,u D σ H->t D σ H):PS X st u:=λpins s σ H D I q=>h pins s σ H D I (k D σ H q)
theorem zD {t u:TS}(h:PSs X sts t)(k:∀D σ H,u D σ H->t D σ H):PSs X sts u:=λpins s σ H D I q=>h pins s σ H D I (k D σ H q)
theorem yU {t u:TG}(h:PG X e t)(k:∀v σ H Q,u v σ H Q->t v σ H Q):PG X e u:=λpins s σ H v w Q I r q=>h pins s σ H v w Q I r (k v σ H Q q)
theorem aCN {es:List Expr}{t u:TGs}(h:PGs X es t)(k:∀v σ H Q,u v σ H Q->t v σ H Q):PGs X es u:=λpins s σ H v w Q I r q=>h pins s σ H v w Q I r (k v σ H Q q)
end
section
variable {X:Cx}{a b c e:Expr}{es:List Expr}{ta tb tc te:DE}{tA tB:DT}{t:DA}{pos:Pos}
def aBO (i:Nat):DE:=λρ M Q=>match ρ[i]? with
 |some (some d)=>Q d M
 |_=>False
theorem aAm (i:Nat){x:Str}{pos:Pos}(hN:X.N[i]?=some x:=by rfl)(hv:Vis X.env.scope x:=by first|exact Or.inl rfl|exact Or.inr (Or.inl rfl)|exact Or.inr (Or.inr rfl))(hd:(x==("__debug__":Str))=false:=by decide)(hcd:(x==("__classdict__":Str))=false:=by decide):PDE X (.Name x pos) (aBO i) :=
 cV (aD9 (i:=i) hN hv hd hcd) λσ H Q ⟨ρ,M,Q',re,hm,q,k⟩=>by
  unfold aBO at q;split at q
  ·rename_i d e;obtain⟨v,e1,r⟩:=re.get i d e;exact⟨v,e1,k v H ⟨d,M,r,hm,.refl H,q⟩⟩
  ·exact q.elim
def dC (d:D):DE:=λ_ M Q=>Q d M
theorem aBV {i j pos}:PDE X (.Constant (.int i) j pos) (dC (.int i)):=cV aKr λσ H Q ⟨ρ,M,Q',re,hm,q,k⟩=>k _ H ⟨_,M,cS,hm,.refl H,q⟩
theorem aLx {i j pos}:PDE X (.Constant (.bool i) j pos) (dC (.bl i)):=cV aLp λσ H Q ⟨ρ,M,Q',re,hm,q,k⟩=>k _ H ⟨_,M,fF,hm,.refl H,q⟩
theorem aIh {j pos}:PDE X (.Constant .none j pos) (dC .non):=cV aJB λσ H Q ⟨ρ,M,Q',re,hm,q,k⟩=>k _ H ⟨_,M,uV,hm,.refl H,q⟩
theorem aJL {x j pos}:PDE X (.Constant (.str x) j pos) (dC (.str x)):=cV aKB λσ H Q ⟨ρ,M,Q',re,hm,q,k⟩=>k _ H ⟨_,M,aHb,hm,.refl H,q⟩
theorem aG9 {x:Str}{d:D}{v:V}{u:Value}{pos:Pos}(hg:Gl X x)(hm:X.mg x=some u)(r:RelV v u)(hr:∀H,Rep X.K H d v)(hd:(x==("__debug__":Str))=false:=by decide):PDE X (.Name x pos) (dC d) :=
 cV (aGH hg hm r hd) λσ H Q ⟨ρ,M,Q',re,hm,q,k⟩=>k _ H ⟨_,M,hr H,hm,.refl H,q⟩
abbrev D2:=D->D->DM->DQ->Prop
def OpL (K:Frag)(r:R2)(r':D2):Prop:=∀x y H M dx dy Q,Rep K H dx x->Rep K H dy y->bK K M H->r' dx dy M Q->r x y H (LQ K H Q)
def OpD (X:Cx)(f:Value->Value->Sem Value)(r':D2):Prop :=
 OpR X f λx y H Q=>∃dx dy M Q',Rep X.K H dx x/\Rep X.K H dy y/\bK X.K M H/\r' dx dy M Q'/\∀v H',LQ X.K H Q' v H'->Q v H'
theorem aCR {pins:List (Addr×Obj)}{σ:L2.St}{Q Q':VK}{u:Value}{s:Shared}(h:EP X pins σ Q u s)(k:∀v H,Q v H->Q' v H):EP X pins σ Q' u s:=let ⟨v,H,a,b,c⟩:=h;⟨v,H,a,b,k v H c⟩
theorem OpD.of {f:Value->Value->Sem Value}{r:R2}{r':D2}(h:OpR X f r)(l:OpL X.K r r'):OpD X f r':=λpins s σ H x y v u Q I rx ry ⟨dx,dy,M,Q',r1,r2,hm,q,k⟩ =>
 thn (h pins s σ H x y v u _ I rx ry (l x y H M dx dy Q' r1 r2 hm q)) λv s h=>aCR h k
def dOp (r:D2)(ta tb:DE):DE:=λρ M Q=>ta ρ M λx M1=>tb ρ M1 λy M2=>r x y M2 Q
theorem yJ {r':D2}{σ:L2.St}{H:Hp}{Q:VK}{R:V->V->Hp->VK->Prop}(hR:∀x y H1 Q1,(∃dx dy M Q',Rep X.K H1 dx x/\Rep X.K H1 dy y/\bK X.K M H1/\r' dx dy M Q'/\∀v H',LQ X.K H1 Q' v H'->Q1 v H')->R x y H1 Q1)(h:low X.K (dOp r' ta tb) σ H Q):low X.K ta σ H λx H1=>low X.K tb σ H1 λy H2=>R x y H2 Q:=by obtain⟨ρ,M,Q',re,hm,q,k⟩:=h;refine⟨ρ,M,_,re,hm,q,λx H1 ⟨dx,M1,rx,hm1,e1,q1⟩=>⟨ρ,M1,_,re.ext e1,hm1,q1,λy H2 ⟨dy,M2,ry,hm2,e2,q2⟩=>?_⟩⟩;exact hR x y H2 Q ⟨dx,dy,M2,Q',rx.ext e2,ry,hm2,q2,λv H' z=>k v H' (z.back (e1.trans e2))⟩
theorem aLy {op:Operator}{r:D2}(ho:OpD X (binaryOp op) r)(ha:PDE X a ta)(hb:PDE X b tb):PDE X (.BinOp a op b pos) (dOp r ta tb) :=
 cV (aKK ho ha hb) λσ H Q h=>yJ (λ_ _ _ _ z=>z) h
theorem aJ2 {op:CmpOp}{r:D2}(ho:OpD X (compareOp op) r)(ha:PDE X a ta)(hb:PDE X b tb)(hm:behindInMarks op b=false:=by exact aAl _):PDE X (.Compare a [op] [b] pos) (dOp r ta tb) :=
 cV (aGF ho ha hb hm) λσ H Q h=>yJ (λ_ _ _ _ z=>z) h
def xV (t:DE):DT:=λρ M Q=>t ρ M λd M'=>match d with
 |.bl k=>Q k M'
 |_=>False
theorem aA3 {σ:L2.St}{H:Hp}{Q:Bool->Hp->Prop}(h:aDZ X.K (xV te) σ H Q):low X.K te σ H λx H'=>∃k,x=.bl k/\Q k H':=by
 obtain⟨ρ,M,Q',re,hm,q,k⟩:=h;refine⟨ρ,M,_,re,hm,q,λx H1 ⟨d,M1,rd,hm1,e1,q1⟩=>?_⟩;cases d with
 |bl c=>exact⟨c,cB rd,k c H1 ⟨M1,hm1,e1,q1⟩⟩
 |_=>exact q1.elim
theorem aIM {op:CmpOp}{r:D2}(ho:OpD X (compareOp op) r)(ha:PDE X a ta)(hb:PDE X b tb)(hm:behindInMarks op b=false:=by exact aAl _):PDT X (.Compare a [op] [b] pos) (xV (dOp r ta tb)) :=
 aB3 (aGA ho ha hb hm) λσ H Q h=>yJ (R:=λx y H Q1=>∃dx dy M Q',Rep X.K H dx x/\Rep X.K H dy y/\bK X.K M H/\r dx dy M Q'/\∀v H',LQ X.K H Q' v H'->Q1 v H') (λ_ _ _ _ z=>z) (aA3 h)
theorem aII (h:PDE X e te)(he:∀whole,isTrue e X.env whole=(do let v <- whole;standAt e.pos;holding [v] (truthy v)):=by intro _;rfl):PDT X e (xV te) :=
 aB3 (aIQ h he) λσ H Q h=>aA3 h
def aH2 (t u:DT):DT:=λρ M Q=>t ρ M λc M1=>if c=true then u ρ M1 Q else Q false M1
def dOr (t u:DT):DT:=λρ M Q=>t ρ M λc M1=>if c=true then Q true M1 else u ρ M1 Q
def aJI (t:DT):DT:=λρ M Q=>t ρ M λc M1=>Q (!c) M1
variable {cH:List Expr}
theorem aGn (ha:PDT X a tA):PDW X (.BoolOp .And [a] pos) tA:=aGx ha
theorem aKh (ha:PDT X a tA):PDW X (.BoolOp .Or [a] pos) tA:=aIf ha
theorem aIe (ha:PDT X a tA)(hb:PDW X (.BoolOp .And (b::cH) pos) tB):PDW X (.BoolOp .And (a::b::cH) pos) (aH2 tA tB) :=
 aEn (aIH ha hb) λσ H Q ⟨ρ,M,Q',re,hm,q,k⟩=>⟨ρ,M,_,re,hm,q,λc H1 ⟨M1,hm1,e1,q1⟩=>by
  cases c with
  |true=>exact⟨ρ,M1,_,re.ext e1,hm1,q1,λv H' z=>k v H' (z.back e1)⟩
  |false=>exact k false H1 ⟨M1,hm1,e1,q1⟩⟩
theorem aLr (ha:PDT X a tA)(hb:PDW X (.BoolOp .Or (b::cH) pos) tB):PDW X (.BoolOp .Or (a::b::cH) pos) (dOr tA tB) :=
 aEn (aLs ha hb) λσ H Q ⟨ρ,M,Q',re,hm,q,k⟩=>⟨ρ,M,_,re,hm,q,λc H1 ⟨M1,hm1,e1,q1⟩=>by
  cases c with
  |false=>exact⟨ρ,M1,_,re.ext e1,hm1,q1,λv H' z=>k v H' (z.back e1)⟩
  |true=>exact k true H1 ⟨M1,hm1,e1,q1⟩⟩
theorem aNe (h:PDW X e tA):PDT X e tA:=PW.pt h
theorem aIE (ha:PDT X a tA):PDT X (.UnaryOp .Not a pos) (aJI tA) :=
 aB3 (aJq ha) λσ H Q ⟨ρ,M,Q',re,hm,q,k⟩=>⟨ρ,M,_,re,hm,q,λc H1 ⟨M1,hm1,e1,q1⟩=>k (!c) H1 ⟨M1,hm1,e1,q1⟩⟩
def aFu (ta tb:DE):DE:=λρ M Q=>ta ρ M λx M1=>match x with
 |.bl c=>if c=true then tb ρ M1 Q else Q (.bl false) M1
 |_=>False
def aJy (ta tb:DE):DE:=λρ M Q=>ta ρ M λx M1=>match x with
 |.bl c=>if c=true then Q (.bl true) M1 else tb ρ M1 Q
 |_=>False
def aES (ta:DE):DE:=λρ M Q=>ta ρ M λx M1=>match x with
 |.bl c=>Q (.bl (!c)) M1
 |_=>False
theorem aIF {op}(h:PDE X a ta):PDE X (.BoolOp op [a] pos) ta:=aKj h
theorem aIr (ha:PDE X a ta)(hb:PDE X (.BoolOp .And (b::cH) pos) tb):PDE X (.BoolOp .And (a::b::cH) pos) (aFu ta tb) :=
 cV (aIW ha hb) λσ H Q ⟨ρ,M,Q',re,hm,q,k⟩=>⟨ρ,M,_,re,hm,q,λx H1 ⟨d,M1,rd,hm1,e1,q1⟩=>by
  cases d with
  |bl c =>
   refine⟨c,cB rd,?_⟩;cases c with
   |true=>exact⟨ρ,M1,_,re.ext e1,hm1,q1,λv H' z=>k v H' (z.back e1)⟩
   |false=>exact k _ H1 ⟨_,M1,fF,hm1,e1,q1⟩
  |_=>exact q1.elim⟩
theorem aKL (ha:PDE X a ta)(hb:PDE X (.BoolOp .Or (b::cH) pos) tb):PDE X (.BoolOp .Or (a::b::cH) pos) (aJy ta tb) :=
 cV (aLQ ha hb) λσ H Q ⟨ρ,M,Q',re,hm,q,k⟩=>⟨ρ,M,_,re,hm,q,λx H1 ⟨d,M1,rd,hm1,e1,q1⟩=>by
  cases d with
  |bl c =>
   refine⟨c,cB rd,?_⟩;cases c with
   |false=>exact⟨ρ,M1,_,re.ext e1,hm1,q1,λv H' z=>k v H' (z.back e1)⟩
   |true=>exact k _ H1 ⟨_,M1,fF,hm1,e1,q1⟩
  |_=>exact q1.elim⟩
theorem aJN (ha:PDE X a ta):PDE X (.UnaryOp .Not a pos) (aES ta) :=
 cV (aIk ha) λσ H Q ⟨ρ,M,Q',re,hm,q,k⟩=>⟨ρ,M,_,re,hm,q,λx H1 ⟨d,M1,rd,hm1,e1,q1⟩=>by
  cases d with
  |bl c=>exact⟨c,cB rd,k _ H1 ⟨_,M1,fF,hm1,e1,q1⟩⟩
  |_=>exact q1.elim⟩
def aI0 (t:DT)(ta tb:DE):DE:=λρ M Q=>t ρ M λc M1=>if c=true then ta ρ M1 Q else tb ρ M1 Q
theorem aEf (hc:PDT X c tA)(ha:PDE X a ta)(hb:PDE X b tb):PDE X (.IfExp c a b pos) (aI0 tA ta tb) :=
 cV (aFp hc ha hb) λσ H Q ⟨ρ,M,Q',re,hm,q,k⟩=>⟨ρ,M,_,re,hm,q,λc H1 ⟨M1,hm1,e1,q1⟩=>by
  cases c with
  |true=>exact⟨ρ,M1,_,re.ext e1,hm1,q1,λv H' z=>k v H' (z.back e1)⟩
  |false=>exact⟨ρ,M1,_,re.ext e1,hm1,q1,λv H' z=>k v H' (z.back e1)⟩⟩
def pR:DA:=λ_ M Q=>Q [] M
def gQ (ta:DE)(tr:DA):DA:=λρ M Q=>ta ρ M λx M1=>tr ρ M1 λxs M2=>Q (x::xs) M2
theorem zG:PDA X [] pR:=aEk aB8 λσ H Q ⟨ρ,M,Q',re,hm,q,k⟩=>k [] H ⟨[],M,cN,hm,.refl H,q⟩
theorem pM (ha:PDE X e te)(hr:PDA X es t)(hs:starEach (e::es) X.env=(false,eval e X.env)::starEach es X.env:=by rfl):PDA X (e::es) (gQ te t) :=
 aEk (rL ha hr hs) λσ H Q ⟨ρ,M,Q',re,hm,q,k⟩=>⟨ρ,M,_,re,hm,q,λx H1 ⟨dx,M1,rx,hm1,e1,q1⟩=>⟨ρ,M1,_,re.ext e1,hm1,q1,λxs H2 ⟨dxs,M2,rxs,hm2,e2,q2⟩ =>
  k _ H2 ⟨dx::dxs,M2,cC (rx.ext e2) rxs,hm2,e1.trans e2,q2⟩⟩⟩
def aJf (t:DA):DE:=λρ M Q=>t ρ M λxs M1=>xs.length<=1000/\Q (.tup xs) M1
def aKv (t:DA):DE:=λρ M Q=>t ρ M λxs M1=>xs.length<=1000/\∀p:Addr,M1 p=none->Q (.ref p) (aX M1 p xs)
theorem aI4 {x1}(h:PDA X es t):PDE X (.Tuple es x1 pos) (aJf t) :=
 cV (aJu h) λσ H Q ⟨ρ,M,Q',re,hm,q,k⟩=>⟨ρ,M,_,re,hm,q,λxs H1 ⟨ds,M1,rs,hm1,e1,q1,q2⟩=>⟨by rw[<- rs.length];exact Nat.le_of_lt (eA q1),λp hp =>
  k _ _ ⟨.tup ds,M1,mI (.of bI) (rs.ext (Ext.new hp _)),hm1.new hp _,e1.trans (Ext.new hp _),q2⟩⟩⟩
theorem aIv (h:PDA X es t):PDE X (.List es pos) (aKv t) :=
 cV (aIo h) λσ H Q ⟨ρ,M,Q',re,hm,q,k⟩=>⟨ρ,M,_,re,hm,q,λxs H1 ⟨ds,M1,rs,hm1,e1,q1,q2⟩=>⟨by rw[<- rs.length];exact Nat.le_of_lt (eA q1),λp hp =>
  k _ _ ⟨.ref p,_,dH,hm1.lnew hp rs,e1.trans (Ext.new hp _),q2 p (hm1.fresh hp)⟩⟩⟩
end
section
variable {X:Cx}{st:Stmt}{cH:List Stmt}{t u:DS}{e:Expr}{te:DE}{pos:Pos}
def aEG:DS:=λE ρ M=>E.nx ρ M
def aI6 (t u:DS):DS:=λE ρ M=>t { E with nx:=u E } ρ M
theorem aF5:mY X [] aEG:=zD aHv λE σ H ⟨ρ,M,D,re,hm,q,k⟩=>k.nx σ H ⟨ρ,M,re,hm,.refl H,q⟩
theorem aEt (h1:PDS X st t)(h2:mY X cH u):mY X (st::cH) (aI6 t u) :=
 zD (aAT h1 h2) λE σ H ⟨ρ,M,D,re,hm,q,k⟩=>⟨ρ,M,{ D with nx:=u D },re,hm,q,
  ⟨λσ' H' ⟨ρ',M',re',hm',ex,q'⟩=>⟨ρ',M',D,re',hm',q',k.at ex⟩,k.rt,k.bk,k.ct⟩⟩
theorem aGj (h1:PDS X st t):mY X [st] t:=aGg h1
def aE9 (te:DE):DS:=λE ρ M=>te ρ M λ_ M1=>E.nx ρ M1
theorem aHp (he:PDE X e te)(hs:swapsWith e none pos.line X.env=pure false:=by rfl):PDS X (.Expr e pos) (aE9 te) :=
 gR (aGK he hs) λE σ H ⟨ρ,M,D,re,hm,q,k⟩=>⟨ρ,M,_,re,hm,q,λv H1 ⟨d,M1,rd,hm1,ex,q1⟩=>k.nx σ H1 ⟨ρ,M1,re.ext ex,hm1,ex,q1⟩⟩
def aJz (te:DE):DS:=λE ρ M=>te ρ M E.rt
theorem aIg (he:PDE X e te):PDS X (.Return (some e) pos) (aJz te) :=
 gR (aKw he) λE σ H ⟨ρ,M,D,re,hm,q,k⟩=>⟨ρ,M,_,re,hm,q,k.rt⟩
def aJA (c:DT)(t u:DS):DS:=λE ρ M=>c ρ M λb M1=>if b=true then t E ρ M1 else u E ρ M1
theorem aMk {c:Expr}{a b:List Stmt}{tc:DT}(hc:PDT X c tc)(ha:mY X a t)(hb:mY X b u):PDS X (.If c a b pos) (aJA tc t u) :=
 gR (aLz hc ha hb) λE σ H ⟨ρ,M,D,re,hm,q,k⟩=>⟨ρ,M,_,re,hm,q,λb H1 ⟨M1,hm1,ex,q1⟩=>by
  cases b with
  |true=>exact⟨ρ,M1,D,re.ext ex,hm1,q1,k.at ex⟩
  |false=>exact⟨ρ,M1,D,re.ext ex,hm1,q1,k.at ex⟩⟩
def aBt:DS:=λ_ _ _=>False
theorem aEb:PDS X st aBt:=λ_ _ _ _ _ _ ⟨_,_,_,_,_,q,_⟩=>q.elim
end
section
variable {X:Cx}{pos:Pos}{e tg:Expr}{es:List Expr}{te:DE}
def gN (i:Nat):DG:=λd ρ M Q=>Q (ρ.set i (some d)) M
theorem aHo {i:Nat}{x:Str}(hN:X.N.Nodup)(hi:X.N[i]?=some x:=by rfl)(hx:Loc X.env.scope x:=by first|exact Or.inl rfl|exact Or.inr rfl)(hf:X.fn x=true∨X.env.scope.names.lookup x=some .local:=by first|exact .inl rfl|exact .inr rfl|assumption):PDG X (.Name x pos) (gN i) :=
 yU (aGW (i:=i) hN hi hx hf) λv σ H Q ⟨d,ρ,M,Q',rd,re,hm,q,k⟩=>k _ H ⟨_,M,re.set rd i,hm,.refl H,q⟩
def gNl:DGs:=λds ρ M Q=>match ds with
 |[]=>Q ρ M
 |_=>False
def gCn (t:DG)(u:DGs):DGs:=λds ρ M Q=>match ds with
 |d::r=>t d ρ M λρ' M'=>u r ρ' M' Q
 |[]=>False
theorem aGb:aAZ X [] gNl:=aCN aG7 λv σ H Q ⟨ds,ρ,M,Q',rd,re,hm,q,k⟩=>by
 cases ds with
 |nil=>exact⟨bH rd,k σ H ⟨ρ,M,re,hm,.refl H,q⟩⟩
 |cons _ _=>exact q.elim
theorem aD1 {t:DG}{u:DGs}(h1:PDG X e t)(h2:aAZ X es u)(hs:(assignEach (e::es) X.env).map (·.2)=assign e X.env::(assignEach es X.env).map (·.2):=by rfl):aAZ X (e::es) (gCn t u) :=
 aCN (aEJ h1 h2 hs) λv σ H Q ⟨ds,ρ,M,Q',rd,re,hm,q,k⟩=>by
  cases ds with
  |nil=>exact q.elim
  |cons d r =>
   obtain⟨x,xs,rfl,rx,rxs⟩:=aQ rd;exact⟨x,xs,rfl,d,ρ,M,_,rx,re,hm,q,λσ' H' ⟨ρ',M',re',hm',ex,q'⟩=>⟨r,ρ',M',Q',rxs.ext ex,re',hm',q',λσ2 H2 z=>k σ2 H2 (z.back ex)⟩⟩
def gT (n:Nat)(t:DGs):DG:=λd ρ M Q=>match d with
 |.tup ds=>ds.length=n/\t ds ρ M Q
 |_=>False
theorem aI7 {k:Nat}{t:DGs}{n:Nat}(hc:X.calm=true)(h:aAZ X es t)(hn:(assignEach es X.env).length=n:=by rfl)(hst:(assignEach es X.env).findIdx? (·.1)=none:=by rfl):PDG X (.Tuple es k pos) (gT n t) :=
 yU (aH5 hc h hn hst) λv σ H Q ⟨d,ρ,M,Q',rd,re,hm,q,k⟩=>by
  cases d with
  |tup ds =>
   obtain⟨a,xs,rfl,sq,rs⟩:=bO rd;exact⟨a,xs,rfl,sq,by rw[<- rs.length];exact q.1,ds,ρ,M,Q',rs,re,hm,q.2,k⟩
  |_=>exact q.elim
def aDv (te:DE)(g:DG):DS:=λE ρ M=>te ρ M λx M1=>g x ρ M1 E.nx
theorem aHi {g:DG}{σ:L2.St}{H:Hp}{E:uD}(h:aED X.K (aDv te g) E σ H):low X.K te σ H λx H1=>yL X.K g x σ H1 E.nx:=by obtain⟨ρ,M,D,re,hm,q,k⟩:=h;exact⟨ρ,M,_,re,hm,q,λv H1 ⟨d,M1,rd,hm1,ex,q1⟩=>⟨d,ρ,M1,_,rd,re.ext ex,hm1,q1,λσ' H' z=>k.nx σ' H' (z.back ex)⟩⟩
theorem aJO {g:DG}(he:PDE X e te)(hg:PDG X tg g)(hs:swapsWithSole [tg] e pos.line X.env=pure false:=by rfl)(hw:swappedStores [tg] e X.env=pure none:=by rfl)(h1:(assignEach [tg] X.env).map (·.2)=[assign tg X.env]:=by rfl):PDS X (.Assign [tg] e pos) (aDv te g) :=
 gR (aJY he hg hs hw h1) λE σ H h=>aHi h
theorem aH3 {i:Nat}{x:Str}{pos':Pos}(hN:X.N.Nodup)(he:PDE X e te)(hi:X.N[i]?=some x:=by rfl)(hx:Loc X.env.scope x:=by first|exact Or.inl rfl|exact Or.inr rfl)(hs:swapsWith e (some (.Name x pos')) pos.line X.env=pure false:=by rfl)(hf:X.fn x=true∨X.env.scope.names.lookup x=some .local:=by first|exact .inl rfl|exact .inr rfl|assumption) :
  PDS X (.Assign [.Name x pos'] e pos) (aDv te (gN i)) :=
 gR (aIT (i:=i) hN hi hx he hs hf) λE σ H ⟨ρ,M,D,re,hm,q,k⟩=>⟨ρ,M,_,re,hm,q,λv H1 ⟨d,M1,rd,hm1,ex,q1⟩=>k.nx _ H1 ⟨_,M1,(re.ext ex).set rd i,hm1,ex,q1⟩⟩
def aKs (i j:Nat)(ta:DA):DS:=λE ρ M=>ta ρ M λds M1=>match ds with
 |[x,y]=>E.nx ((ρ.set i (some x)).set j (some y)) M1
 |_=>False
theorem aJm {i j:Nat}{x y:Str}{a b:Expr}{ta:DA}{px py pt:Pos}{kt k2 pt2}(hc:X.calm=true)(hN:X.N.Nodup)(ha:PDA X [a,b] ta)(hi:X.N[i]?=some x:=by rfl)(hj:X.N[j]?=some y:=by rfl)(hij:i≠j:=by decide)(hx:X.env.scope.names.lookup x=some .local:=by rfl)(hy:X.env.scope.names.lookup y=some .local:=by rfl)(hw:swappedStores [.Tuple [.Name x px,.Name y py] kt pt] (.Tuple [a,b] k2 pt2) X.env=pure (some [x,y]):=by rfl)(hs:swapsWithSole [.Tuple [.Name x px,.Name y py] kt pt] (.Tuple [a,b] k2 pt2) pos.line X.env=pure false:=by rfl) :
  PDS X (.Assign [.Tuple [.Name x px,.Name y py] kt pt] (.Tuple [a,b] k2 pt2) pos) (aKs i j ta) :=
 gR (aJS (i:=i) (j:=j) hc hN hi hj hij hx hy ha hw hs) λE σ H ⟨ρ,M,D,re,hm,q,k⟩=>⟨ρ,M,_,re,hm,q,λvs H1 ⟨ds,M1,rs,hm1,ex,q1⟩=>by
  match ds,q1 with
  |[d1,d2],q1 =>
   obtain⟨v1,r1,rfl,rv1,rr1⟩:=aQ rs;obtain⟨v2,r2,rfl,rv2,rr2⟩:=aQ rr1;obtain rfl:=bH rr2;exact⟨v1,v2,rfl,k.nx _ H1 ⟨_,M1,((re.ext ex).set rv1 i).set rv2 j,hm1,ex,q1⟩⟩
  |[],q1=>exact q1.elim
  |[_],q1=>exact q1.elim
  |_::_::_::_,q1=>exact q1.elim⟩
def aEy (to ti:DE):DG:=λd ρ M Q=>to ρ M λo M1=>ti ρ M1 λi M2=>match o,i with
 |.ref p,.int k=>∃ds j,M2 p=some ds/\ixN ds.length k=some j/\Q ρ (aX M2 p (ds.set j d))
 |_,_=>False
theorem aIO {o i:Expr}{to ti:DE}(ho:PDE X o to)(hi:PDE X i ti)(ha:∀v,assign (.Subscript o i pos) X.env v=(do
   let ov <- holding [v] (eval o X.env)
   let iv <- holding [v,ov] (eval i X.env)
   standAt pos
   holding [v,ov,iv] (setItem ov iv v)
   release [v,ov,iv] []):=by intro _;rfl):PDG X (.Subscript o i pos) (aEy to ti) :=
 yU (aEd ho hi aFS ha) λv σ H Q ⟨d,ρ,M,Q',rd,re,hm,q,k⟩=>⟨ρ,M,_,re,hm,q,λov H1 ⟨dov,M1,rov,hm1,e1,q1⟩=>⟨ρ,M1,_,re.ext e1,hm1,q1,λiv H2 ⟨div,M2,riv,hm2,e2,q2⟩=>by
  cases dov with
  |ref p =>
   cases div with
   |int z =>
    obtain⟨ds,j,hp,hj,q2⟩:=q2;obtain rfl:=aP rov;obtain rfl:=aW riv;obtain⟨xs,hx,rs⟩:=hm2.l p ds hp;exact⟨p,xs,z,j,rfl,rfl,hx,by rw[<- rs.length];exact hj,k _ _ ⟨ρ,_,((re.ext e1).ext e2).ext (Ext.put hx _),hm2.put hx (rs.set ((rd.ext e1).ext e2) j),(e1.trans e2).trans (Ext.put hx _),q2⟩⟩
   |_=>exact q2.elim
  |_=>exact q2.elim⟩⟩
end
section
variable {X:Cx}{pos:Pos}
def aBo (c:DT)(tb:DS):DS:=λE ρ M=>∃W:Nat->cP->DM->Prop,(∃m,W m ρ M)/\∀m ρ M,W m ρ M ->
 c ρ M λb M1=>if b=true then tb { E with nx:=λρ' M'=>∃m',m'<m/\W m' ρ' M',ct:=λρ' M'=>∃m',m'<m/\W m' ρ' M',bk:=E.nx } ρ M1 else E.nx ρ M1
theorem aE6 {c:Expr}{body:List Stmt}{tc:DT}{tb:DS}(hp:PassesOwn (model X.prog X.w) X.A X.env X.xe)(hc:PDT X c tc)(hb:mY X body tb):PDS X (.While c body [] pos) (aBo tc tb) :=
 gR (aFi hp hc hb) λE σ H ⟨ρ,M,D,re,hm,⟨W,⟨m0,w0⟩,turn⟩,k⟩=>by
  refine⟨λm σ' H'=>∃ρ' M',gS X.K H' ρ' σ'/\bK X.K M' H'/\Ext H H'/\W m ρ' M',⟨m0,ρ,M,re,hm,.refl H,w0⟩,?_⟩;rintro m σ1 H1 ⟨ρ1,M1,re1,hm1,e1,w1⟩;refine⟨ρ1,M1,_,re1,hm1,turn m ρ1 M1 w1,λb H2 ⟨M2,hm2,e2,q2⟩=>?_⟩;cases b with
  |false=>exact k.nx σ1 H2 ⟨ρ1,M2,re1.ext e2,hm2,e1.trans e2,q2⟩
  |true =>
   refine⟨λσ' H'=>∃m',m'<m/\∃ρ' M',gS X.K H' ρ' σ'/\bK X.K M' H'/\Ext H H'/\W m' ρ' M',λσ' H' z=>z,?_⟩;refine⟨ρ1,M2,_,re1.ext e2,hm2,q2,?_⟩;have ex:=e1.trans e2;exact⟨λσ' H' ⟨ρ',M',a,b,c,m',l,d⟩=>⟨m',l,ρ',M',a,b,ex.trans c,d⟩,λv H' z=>k.rt v H' (z.back ex),λσ' H' z=>k.nx σ' H' (z.back ex),λσ' H' ⟨ρ',M',a,b,c,m',l,d⟩=>⟨m',l,ρ',M',a,b,ex.trans c,d⟩⟩
theorem pH {c:DT}{tb:DS}{E:hE}{ρ:cP}{M:DM}(Pv:Nat->cP->DM->Prop)(m0:Nat)(h0:Pv m0 ρ M)(hs:∀m ρ M,Pv m ρ M->c ρ M λb M1=>if b=true then tb { E with nx:=λρ' M'=>∃m',m'<m/\Pv m' ρ' M',ct:=λρ' M'=>∃m',m'<m/\Pv m' ρ' M',bk:=E.nx } ρ M1 else E.nx ρ M1):aBo c tb E ρ M:=⟨Pv,⟨m0,h0⟩,hs⟩
def dIt (at':Option Addr)(ds:List D)(g:DG)(tb:DS):DS:=λE ρ M=>∃Pv:Nat->cP->DM->Prop,Pv 0 ρ M /\
 (∀i ρ M,i<=ds.length->Pv i ρ M->∀a,at'=some a->M a=some ds) /\
 (∀i d ρ M,ds[i]?=some d->Pv i ρ M->g d ρ M λρ2 M2=>tb { E with nx:=Pv (i+1),ct:=Pv (i+1),bk:=E.nx } ρ2 M2)/\∀ρ M,Pv ds.length ρ M->E.nx ρ M
def aET (tl:DE)(g:DG)(tb:DS):DS:=λE ρ M=>tl ρ M λd M1=>match d with
 |.fz ds=>dIt none ds g tb E ρ M1
 |.ref a=>∃ds,M1 a=some ds/\dIt (some a) ds g tb E ρ M1
 |_=>False
variable {iter tg:Expr}{body:List Stmt}{tl:DE}{g:DG}{tb:DS}
theorem aD3 {K:Frag}{a':Option Addr}{ds:List D}{E:uD}{Dn:hE}{σ:L2.St}{ρ:cP}{M:DM}{H0 H:Hp}{J:It}(ex0:Ext H0 H)(re:gS K H ρ σ)(hm:bK K M H)(k:pZ K H0 Dn E)(h:dIt a' ds g tb Dn ρ M)(seq:∀H',Ext H H'->(∀M',bK K M' H'->(∀a,a'=some a->M' a=some ds)->∃xs,bG K H' ds xs/\(∀i,xs.length<=i->J.stop i H')/\(∀i,i<xs.length->J.go i H')/\∀i x H2,J.yld i H' x H2->H2=H'/\xs[i]?=some x)) :
  ∃W:Nat->Nat->L2.St->Hp->Prop,(∃m,W 0 m σ H)/\∀i m σ H,W i m σ H ->
   (J.stop i H/\E.nx σ H)∨(J.go i H/\∃N:L2.St->Hp->Prop,(∀σ' H',N σ' H'->∃m',m'<m/\W (i+1) m' σ' H')/\∀x H',J.yld i H x H'->yL K g x σ H' λσ2 H2=>aED K tb { E with nx:=N,ct:=N,bk:=E.nx } σ2 H2):=by
 obtain⟨Pv,p0,hat,step,done⟩:=h;refine⟨λi m σ' H'=>∃ρ' M',gS K H' ρ' σ'/\bK K M' H'/\Ext H H'/\m=ds.length-i/\i<=ds.length/\Pv i ρ' M',⟨ds.length,ρ,M,re,hm,.refl H,rfl,Nat.zero_le _,p0⟩,?_⟩;rintro i m σ1 H1 ⟨ρ1,M1,re1,hm1,e1,rfl,hi,w1⟩;obtain⟨xs,rs,hst,hgo,hy⟩:=seq H1 e1 M1 hm1 (hat i ρ1 M1 hi w1);have hl:=rs.length;by_cases hlt:i<ds.length
 ·refine .inr ⟨hgo i (by omega),λσ' H'=>∃ρ' M',gS K H' ρ' σ'/\bK K M' H'/\Ext H H'/\Pv (i+1) ρ' M',λσ' H' ⟨ρ',M',a,b,c,d⟩=>⟨ds.length-(i+1),by omega,ρ',M',a,b,c,rfl,hlt,d⟩,λx H' y=>?_⟩;obtain⟨rfl,hx⟩:=hy i x H' y;obtain⟨d,hd,rd⟩:=rs.getV hx;refine⟨d,ρ1,M1,_,rd,re1,hm1,step i d ρ1 M1 hd w1,λσ2 H2 ⟨ρ2,M2,re2,hm2,e2,q2⟩=>⟨ρ2,M2,_,re2,hm2,q2,?_⟩⟩;have ex:=e1.trans e2;exact⟨λσ' H' ⟨ρ',M',a,b,c,d⟩=>⟨ρ',M',a,b,ex.trans c,d⟩,λv H' z=>k.rt v H' (z.back (ex0.trans ex)),λσ' H' z=>k.nx σ' H' (z.back (ex0.trans ex)),λσ' H' ⟨ρ',M',a,b,c,d⟩=>⟨ρ',M',a,b,ex.trans c,d⟩⟩
 ·have e:i=ds.length:=by omega
  subst e;exact .inl ⟨hst _ (by omega),k.nx σ1 H1 ⟨ρ1,M1,re1,hm1,ex0.trans e1,done ρ1 M1 w1⟩⟩
def aLk (lo:Int)(n:Nat)(g:DG)(tb:DS):DS:=λE ρ M=>∃Pv:Nat->cP->DM->Prop,Pv 0 ρ M /\
 (∀i ρ M,i<n->Pv i ρ M->g (.int (lo+i)) ρ M λρ2 M2=>tb { E with nx:=Pv (i+1),ct:=Pv (i+1),bk:=E.nx } ρ2 M2)/\∀ρ M,Pv n ρ M->E.nx ρ M
def aE5 (ta:DA)(g:DG)(tb:DS):DS:=λE ρ M=>ta ρ M λds M1=>match ds with
 |[.int j]=>(-(2^62)<=j/\j<2^62)/\aLk 0 j.toNat g tb E ρ M1
 |_=>False
theorem aJo {K:Frag}{lo:Int}{n:Nat}{E:uD}{Dn:hE}{σ:L2.St}{ρ:cP}{M:DM}{H0 H:Hp}(ex0:Ext H0 H)(re:gS K H ρ σ)(hm:bK K M H)(k:pZ K H0 Dn E)(h:aLk lo n g tb Dn ρ M) :
  ∃W:Nat->Nat->L2.St->Hp->Prop,(∃m,W 0 m σ H)/\∀i m σ H,W i m σ H ->
   ((Itr lo n).stop i H/\E.nx σ H)∨((Itr lo n).go i H/\∃N:L2.St->Hp->Prop,(∀σ' H',N σ' H'->∃m',m'<m/\W (i+1) m' σ' H')/\∀x H',(Itr lo n).yld i H x H'->yL K g x σ H' λσ2 H2=>aED K tb { E with nx:=N,ct:=N,bk:=E.nx } σ2 H2):=by
 obtain⟨Pv,p0,step,done⟩:=h;refine⟨λi m σ' H'=>∃ρ' M',gS K H' ρ' σ'/\bK K M' H'/\Ext H H'/\m=n-i/\i<=n/\Pv i ρ' M',⟨n,ρ,M,re,hm,.refl H,rfl,Nat.zero_le _,p0⟩,?_⟩;rintro i m σ1 H1 ⟨ρ1,M1,re1,hm1,e1,rfl,hi,w1⟩;by_cases hlt:i<n
 ·refine .inr ⟨hlt,λσ' H'=>∃ρ' M',gS K H' ρ' σ'/\bK K M' H'/\Ext H H'/\Pv (i+1) ρ' M',λσ' H' ⟨ρ',M',a,b,c,d⟩=>⟨n-(i+1),by omega,ρ',M',a,b,c,rfl,hlt,d⟩,λx H' y=>?_⟩;obtain⟨rfl,rfl⟩:=y;refine⟨_,ρ1,M1,_,cS,re1,hm1,step i ρ1 M1 hlt w1,λσ2 H2 ⟨ρ2,M2,re2,hm2,e2,q2⟩=>⟨ρ2,M2,_,re2,hm2,q2,?_⟩⟩;have ex:=e1.trans e2;exact⟨λσ' H' ⟨ρ',M',a,b,c,d⟩=>⟨ρ',M',a,b,ex.trans c,d⟩,λv H' z=>k.rt v H' (z.back (ex0.trans ex)),λσ' H' z=>k.nx σ' H' (z.back (ex0.trans ex)),λσ' H' ⟨ρ',M',a,b,c,d⟩=>⟨ρ',M',a,b,ex.trans c,d⟩⟩
 ·have e:i=n:=by omega
  subst e;exact .inl ⟨Nat.le_refl _,k.nx σ1 H1 ⟨ρ1,M1,re1,hm1,ex0.trans e1,done ρ1 M1 w1⟩⟩
end
section
variable {X:Cx}{pos:Pos}{iter tg:Expr}{body:List Stmt}{tl:DE}{g:DG}{tb:DS}{ta:DA}
theorem aGu (hp:PassesOwn (model X.prog X.w) X.A X.env X.xe)(hc:X.calm=true)(hi:PDE X iter tl)(hg:PDG X tg g)(hb:mY X body tb)(hs:∀x,foldedSetIterable iter X.env x=pure x:=by intro _;rfl):PDS X (.For tg iter body [] pos) (aET tl g tb) :=
 gR (aBG hp hc (uO hi) hg hb hs) λE σ H ⟨ρ,M,Dn,re,hm,q,k⟩=>⟨ρ,M,_,re,hm,q,λv H1 ⟨d,M1,rd,hm1,ex,q1⟩=>by
  cases d with
  |fz ds =>
   obtain⟨a,xs,rfl,sq,rs⟩:=jM rd;exact⟨a,rfl,⟨xs,sq.sq⟩,aD3 ex (re.ext ex) hm1 k q1 λH' e' M' hm' _=>⟨xs,rs.ext e',λi hi=>⟨xs,(fX e' sq).sq,hi⟩,λi hi=>⟨xs,xs[i],(fX e' sq).sq,by simp[hi]⟩,λi x H2 y=>⟨y.1,y.2 xs (fX e' sq).sq⟩⟩⟩
  |ref a =>
   obtain⟨ds,ha,q1⟩:=q1;obtain rfl:=aP rd;obtain⟨xs,hx,rs⟩:=hm1.l a ds ha;refine⟨a,rfl,⟨xs,.of hx⟩,aD3 ex (re.ext ex) hm1 k q1 λH' e' M' hm' hat=>?_⟩;obtain⟨ys,hy,rs'⟩:=hm'.l a ds (hat a rfl);exact⟨ys,rs',λi hi=>⟨ys,.of hy,hi⟩,λi hi=>⟨ys,ys[i],.of hy,by simp[hi]⟩,λi x H2 y=>⟨y.1,y.2 ys (.of hy)⟩⟩
  |_=>exact q1.elim⟩
theorem aF6 {a:Expr}{p pos':Pos}(hp:PassesOwn (model X.prog X.w) X.A X.env X.xe)(hc:X.calm = true)(hmg:X.mg "range" = none)(ha:PDA X [a] ta)(hg:PDG X tg g)(hb:mY X body tb)(hgl:Gl X "range":=by rfl)(hse:starEach [a] X.env=[(false,eval a X.env)]:=by rfl)(hs:∀x,foldedSetIterable (.Call (.Name "range" p) [a] [] pos') X.env x = pure x:=by intro _;rfl):PDS X (.For tg (.Call (.Name "range" p) [a] [] pos') body [] pos) (aE5 ta g tb) :=
 gR (aBG hp hc (aDq hgl hmg ha hse) hg hb hs) λE σ H ⟨ρ,M,Dn,re,hm,q,k⟩=>⟨ρ,M,_,re,hm,q,λvs H1 ⟨ds,M1,rs,hm1,ex,q1⟩=>by
  rcases ds with _|⟨d,_|⟨d2,r⟩⟩
  ·exact q1.elim
  ·cases d with
   |int j =>
    obtain⟨⟨j1,j2⟩,q1⟩:=q1;obtain⟨v1,r1,rfl,rv1,rr1⟩:=aQ rs;obtain rfl:=bH rr1;obtain rfl:=aW rv1;exact⟨j,rfl,j1,j2,aJo ex (re.ext ex) hm1 k q1⟩
   |_=>exact q1.elim
  ·cases d<;>exact q1.elim⟩
end
mutual
noncomputable def eqD:D->D->Bool
 |.tup xs,.tup ys=>iH xs ys
 |.non,.non=>true
 |.bl a,.bl b=>a==b
 |.bl a,.int b=>(if a then 1 else 0)==b
 |.int a,.bl b=>a==(if b then 1 else 0)
 |.int a,.int b=>a==b
 |.str a,.str b=>a==b
 |_,_=>false
noncomputable def iH:List D->List D->Bool
 |[],[]=>true
 |x::xs,y::ys=>eqD x y&&iH xs ys
 |_,_=>false
end
noncomputable def bN:Nat->D->Bool
 |_,.ref _=>false
 |_,.fz _=>false
 |0,.tup _=>false
 |n+1,.tup ds=>ds.all (bN n)
 |_,_=>true
noncomputable def rE:List D->List D->Nat->Bool
 |x::_,y::_,0=>eqD x y
 |_::xs,_::ys,j+1=>rE xs ys j
 |_,_,_=>true
theorem wB (n:Nat)(e:Nat->Bool):(range (n+1)).all e=(e 0&&(range n).all λj=>e (j+1)):=by rw[List.range_succ_eq_map,all_cons,List.all_map];rfl
theorem iI:∀(xs ys:List D),iH xs ys=((range (min xs.length ys.length)).all (rE xs ys)&&xs.length==ys.length)
 |[],[]=>by simp[iH]
 |[],_::_=>by simp[iH]
 |_::_,[]=>by simp[iH]
 |x::xs,y::ys=>by
  have ih:=iI xs ys;have e1:min (x::xs).length (y::ys).length=min xs.length ys.length+1:=by simp only[length_cons];omega
  have e2:((x::xs).length==(y::ys).length)=(xs.length==ys.length):=by simp
  rw[e1,e2,wB];show(eqD x y&&iH xs ys)=((eqD x y&&(range (min xs.length ys.length)).all λj=>rE xs ys j)&&xs.length==ys.length);rw[ih,Bool.and_assoc]
section
variable {X:Cx}{pins:List (Addr×Obj)}{σ:L2.St}{H:Hp}{s:Shared}
theorem xE {n:Nat}{d:D}(p:bN n d=true)(h:∀xs,d ≠ .tup xs):bN 0 d=true:=by
 cases d with
 |tup xs=>exact absurd rfl (h xs)
 |ref b=>cases n<;>exact absurd p Bool.false_ne_true
 |fz b=>cases n<;>exact absurd p Bool.false_ne_true
 |_=>rfl
theorem sC {d d':D}{v:V}(p:bN 0 d=true)(p':bN 0 d'=true)(r:Rep X.K H d v)(r':Rep X.K H d' v):eqD d d'=true:=by
 cases d<;>cases d'<;>first
  |(exact absurd p Bool.false_ne_true)
  |(exact absurd p' Bool.false_ne_true)
  |(unfold Rep at r r';subst r;cases r'<;>simp[eqD])
theorem vV {d:D}{a:Addr}(p:bN 0 d=true)(r:Rep X.K H d (.ref a)):False:=by
 cases d<;>first
  |(exact absurd p Bool.false_ne_true)
  |(unfold Rep at r;cases r)
theorem aA9 {n:Nat}(ih:∀{d d':D}{v:V},bN n d=true->bN n d'=true->Rep X.K H d v->Rep X.K H d' v->eqD d d'=true) :
  ∀{xs ys:List D}{us:List V},xs.all (bN n)=true->ys.all (bN n)=true->bG X.K H xs us->bG X.K H ys us->iH xs ys=true
 |[],[],_,_,_,_,_=>by simp[iH]
 |[],_::_,_,_,_,r,r'=>by rw[bH r] at r';obtain⟨_,_,z,_⟩:=aQ r';cases z
 |_::_,[],_,_,_,r,r'=>by rw[bH r'] at r;obtain⟨_,_,z,_⟩:=aQ r;cases z
 |x::xs,y::ys,_,p1,p2,r,r'=>by obtain⟨v0,r0,rfl,h1,h2⟩:=aQ r;obtain⟨v0',r0',e0,h1',h2'⟩:=aQ r';cases e0;rw[all_cons,Bool.and_eq_true] at p1 p2;show(eqD x y&&iH xs ys)=true;rw[ih p1.1 p2.1 h1 h1',aA9 ih p1.2 p2.2 h2 h2'];rfl
theorem aHn (I:Inv X pins σ H s):∀(n:Nat){d d':D} {v:V},bN n d=true->bN n d'=true->Rep X.K H d v->Rep X.K H d' v->eqD d d'=true:=by
 intro n
 induction n with
 |zero=>intro d d' v p p' r r';exact sC p p' r r'
 |succ n ih =>
  intro d d' v p p' r r';by_cases h1:∃xs,d=.tup xs
  ·obtain⟨xs,rfl⟩:=h1;obtain⟨a,us,rfl,sq,rs⟩:=bO r;by_cases h2:∃ys,d'=.tup ys
   ·obtain⟨ys,rfl⟩:=h2;obtain⟨a',us',e1',sq',rs'⟩:=bO r';cases e1';obtain rfl:=I.tuple_inj sq sq';exact aA9 ih p p' rs rs'
   ·exact(vV (xE p' λxs e=>h2 ⟨xs,e⟩) r').elim
  ·have p0:=xE p λxs e=>h1 ⟨xs,e⟩;by_cases h2:∃ys,d'=.tup ys
   ·obtain⟨ys,rfl⟩:=h2;obtain⟨a',us',rfl,sq',rs'⟩:=bO r';exact(vV p0 r).elim
   ·exact sC p0 (xE p' λxs e=>h2 ⟨xs,e⟩) r r'
theorem jN (I:Inv X pins σ H s){a:Addr}{xs:List V}(sq:SqT X.K H a xs):∃its:List Value,bU xs its/\s.heap.IsTuple a its.toArray:=let ⟨its,r,p,_⟩:=I.tuple sq;⟨its,r,p⟩
theorem uS {d:D}{v:V}{n:Nat}(h:Rep X.K H d v)(p:bN 0 d=true):aEw v=true:=by
 cases d with
 |non=>unfold Rep at h;subst h;rfl
 |bl b=>unfold Rep at h;subst h;rfl
 |int b=>unfold Rep at h;subst h;rfl
 |str b=>unfold Rep at h;subst h;rfl
 |tup b=>exact absurd p Bool.false_ne_true
 |ref b=>exact absurd p Bool.false_ne_true
 |fz b=>exact absurd p Bool.false_ne_true
theorem rV {A:Around}{n:Nat}(ih:∀{d d':D}{v v':V} {u u':Value},bN n d=true->bN n d'=true->Rep X.K H d v->Rep X.K H d' v'->RelV v u->RelV v' u'->SeqAt.EqAt A s u u' (eqD d d')) :
  ∀{xs ys:List D}{us us':List V} {its its':List Value},xs.all (bN n)=true->ys.all (bN n)=true->bG X.K H xs us->bG X.K H ys us'->bU us its->bU us' its'->∀j (h1:j<its.length) (h2:j<its'.length),SeqAt.EqAt A s its[j] its'[j] (rE xs ys j)
 |[],ys,us,us',its,its',_,_,r1,_,v1,_,j,h1,_=>by rw[bH r1] at v1;cases v1;exact absurd h1 (Nat.not_lt_zero _)
 |_::_,[],us,us',its,its',_,_,_,r2,_,v2,j,_,h2=>by rw[bH r2] at v2;cases v2;exact absurd h2 (Nat.not_lt_zero _)
 |x::xs,y::ys,us,us',its,its',p1,p2,r1,r2,v1,v2,j,h1,h2=>by
  obtain⟨a,ra,rfl,ha,hra⟩:=aQ r1;obtain⟨b,rb,rfl,hb,hrb⟩:=aQ r2;rw[all_cons,Bool.and_eq_true] at p1 p2;cases v1 with
  |cons q1 w1 =>
   cases v2 with
   |cons q2 w2 =>
    cases j with
    |zero=>exact ih p1.1 p2.1 ha hb q1 q2
    |succ j=>exact rV ih p1.2 p2.2 hra hrb w1 w2 j (Nat.lt_of_succ_lt_succ h1) (Nat.lt_of_succ_lt_succ h2)
theorem aEX {d d':D}{v v':V}(p:bN 0 d=true)(p':bN 0 d'=true)(r:Rep X.K H d v)(r':Rep X.K H d' v'):eqV v v'=eqD d d':=by
 cases d<;>cases d'<;>first
  |(exact absurd p Bool.false_ne_true)
  |(exact absurd p' Bool.false_ne_true)
  |(unfold Rep at r r';subst r;subst r';simp[eqD,eqV])
theorem aCn (I:Inv X pins σ H s):∀(n:Nat){A:Around} {d d':D} {v v':V} {u u':Value},A.units+n<cLine->bN n d=true->bN n d'=true->Rep X.K H d v->Rep X.K H d' v'->RelV v u->RelV v' u'->SeqAt.EqAt A s u u' (eqD d d'):=by
 intro n
 induction n with
 |zero =>
  intro A d d' v v' u u' hu p p' r r' q q';have:=aFV (A:=A) (s:=s) q q' (uS (n:=0) r p) (uS (n:=0) r' p');rw[aEX p p' r r'] at this;exact this
 |succ n ih =>
  intro A d d' v v' u u' hu p p' r r' q q';by_cases h1:∃xs,d=.tup xs
  ·obtain⟨xs,rfl⟩:=h1;obtain⟨a,us,rfl,sq,rs⟩:=bO r;obtain⟨its,rv,ht⟩:=jN I sq;cases q;by_cases h2:∃ys,d'=.tup ys
   ·obtain⟨ys,rfl⟩:=h2;obtain⟨a',us',rfl,sq',rs'⟩:=bO r';obtain⟨its',rv',ht'⟩:=jN I sq';cases q';by_cases hll:a=a'
    ·subst hll;rw[aHn I (n+1) p p' r r'];exact SeqAt.EqAt.same _
    ·have e1:=rs.length;have e2:=rv.length;have e3:=rs'.length;have e4:=rv'.length;show SeqAt.EqAt A s (.ref a) (.ref a') (iH xs ys);rw[iI,show xs.length=its.toArray.size by rw[size_toArray];omega,show ys.length=its'.toArray.size by rw[size_toArray];omega];refine SeqAt.EqAt.of_refs hll (SeqAt.RcAt.tuples ht ht' (by omega) λj j1 j2=>?_);have hu':A.in1.units+n<cLine:=by show A.units+1+n<cLine;omega
     have:=rV (A:=A.in1) (s:=s) (λ{d d' v v' u u'} p p' r r' q q'=>ih hu' p p' r r' q q') p p' rs rs' rv rv' j (by simpa using j1) (by simpa using j2);simpa using this
   ·have p0:=xE p' (λxs e=>h2 ⟨xs,e⟩);cases d' with
    |non=>rw[dU r'] at q';cases q';exact SeqAt.EqAt.tuple_none ht (by omega)
    |bl b=>rw[cB r'] at q';cases q';exact SeqAt.EqAt.tuple_bool b ht (by omega)
    |int b=>rw[aW r'] at q';obtain⟨t,rfl⟩:=q';exact SeqAt.EqAt.tuple_int b t ht (by omega)
    |str b=>rw[dL r'] at q';obtain⟨t,rfl⟩:=q';exact SeqAt.EqAt.tuple_str b t ht (by omega)
    |tup b=>exact absurd p0 Bool.false_ne_true
    |ref b=>exact absurd p0 Bool.false_ne_true
    |fz b=>exact absurd p0 Bool.false_ne_true
  ·have p0:=xE p (λxs e=>h1 ⟨xs,e⟩);by_cases h2:∃ys,d'=.tup ys
   ·obtain⟨ys,rfl⟩:=h2;obtain⟨a',us',rfl,sq',rs'⟩:=bO r';obtain⟨its',rv',ht'⟩:=jN I sq';cases q';cases d with
    |non=>rw[dU r] at q;cases q;exact SeqAt.EqAt.none_tuple ht' (by omega)
    |bl b=>rw[cB r] at q;cases q;exact SeqAt.EqAt.bool_tuple b ht' (by omega)
    |int b=>rw[aW r] at q;obtain⟨t,rfl⟩:=q;exact SeqAt.EqAt.int_tuple b t ht' (by omega)
    |str b=>rw[dL r] at q;obtain⟨t,rfl⟩:=q;exact SeqAt.EqAt.str_tuple b t ht' (by omega)
    |tup b=>exact absurd p0 Bool.false_ne_true
    |ref b=>exact absurd p0 Bool.false_ne_true
    |fz b=>exact absurd p0 Bool.false_ne_true
   ·have p0':=xE p' (λxs e=>h2 ⟨xs,e⟩);have:=aFV (A:=A) (s:=s) q q' (uS (n:=0) r p0) (uS (n:=0) r' p0');rw[aEX p0 p0' r r'] at this;exact this
theorem aMb (I:Inv X pins σ H s){A:Around}(hu:A.units+60<cLine){d d':D}{v v':V}{u u':Value}(p:bN 60 d=true)(p':bN 60 d'=true)(r:Rep X.K H d v)(r':Rep X.K H d' v')(q:RelV v u)(q':RelV v' u') :
  SeqAt.RcAt A s u u' (eqD d d')/\SeqAt.RcNeAt A s u u' (!eqD d d'):=by
 have hu0:A.units<cLine:=by omega
 cases d with
 |ref b=>exact absurd p Bool.false_ne_true
 |fz b=>exact absurd p Bool.false_ne_true
 |tup xs =>
  obtain⟨a,us,rfl,sq,rs⟩:=bO r;obtain⟨its,rv,ht⟩:=jN I sq;cases q;cases d' with
  |ref b=>exact absurd p' Bool.false_ne_true
  |fz b=>exact absurd p' Bool.false_ne_true
  |non=>rw[dU r'] at q';cases q';exact⟨SeqAt.RcAt.tuple_none ht hu0,SeqAt.RcNeAt.tuple_none ht hu0⟩
  |bl b=>rw[cB r'] at q';cases q';exact⟨SeqAt.RcAt.tuple_bool b ht hu0,SeqAt.RcNeAt.tuple_bool b ht hu0⟩
  |int b=>rw[aW r'] at q';obtain⟨t,rfl⟩:=q';exact⟨SeqAt.RcAt.tuple_int b t ht hu0,SeqAt.RcNeAt.tuple_int b t ht hu0⟩
  |str b=>rw[dL r'] at q';obtain⟨t,rfl⟩:=q';exact⟨SeqAt.RcAt.tuple_str b t ht hu0,SeqAt.RcNeAt.tuple_str b t ht hu0⟩
  |tup ys =>
   obtain⟨a',us',rfl,sq',rs'⟩:=bO r';obtain⟨its',rv',ht'⟩:=jN I sq';cases q';have e1:=rs.length;have e2:=rv.length;have e3:=rs'.length;have e4:=rv'.length;have hit:∀j (h1:j<its.toArray.size) (h2:j<its'.toArray.size),SeqAt.EqAt A.in1 s its.toArray[j] its'.toArray[j] (rE xs ys j):=λj j1 j2=>by
    have hu':A.in1.units+59<cLine:=by show A.units+1+59<cLine;omega
    have:=rV (A:=A.in1) (s:=s) (λ{d d' v v' u u'} p p' r r' q q'=>aCn I 59 hu' p p' r r' q q') p p' rs rs' rv rv' j (by simpa using j1) (by simpa using j2);simpa using this
   have hz:eqD (.tup xs) (.tup ys)=((range (min its.toArray.size its'.toArray.size)).all (rE xs ys)&&its.toArray.size==its'.toArray.size):=by show iH xs ys=_;rw[iI,show xs.length=its.toArray.size by rw[size_toArray];omega,show ys.length=its'.toArray.size by rw[size_toArray];omega]
   rw[hz];exact⟨SeqAt.RcAt.tuples ht ht' hu0 hit,SeqAt.RcNeAt.tuples ht ht' hu0 hit⟩
 |non =>
  rw[dU r] at q;cases q;cases d' with
  |ref b=>exact absurd p' Bool.false_ne_true
  |fz b=>exact absurd p' Bool.false_ne_true
  |non=>rw[dU r'] at q';cases q';exact⟨SeqAt.RcAt.none_none,SeqAt.RcNeAt.none_none⟩
  |bl b=>rw[cB r'] at q';cases q';exact⟨SeqAt.RcAt.none_bool b,SeqAt.RcNeAt.none_bool b⟩
  |int b=>rw[aW r'] at q';obtain⟨t,rfl⟩:=q';exact⟨SeqAt.RcAt.none_int b t,SeqAt.RcNeAt.none_int b t⟩
  |str b=>rw[dL r'] at q';obtain⟨t,rfl⟩:=q';exact⟨SeqAt.RcAt.none_str b t,SeqAt.RcNeAt.none_str b t⟩
  |tup ys =>
   obtain⟨a',us',rfl,sq',rs'⟩:=bO r';obtain⟨its',rv',ht'⟩:=jN I sq';cases q';exact⟨SeqAt.RcAt.none_tuple ht' hu0,SeqAt.RcNeAt.none_tuple ht' hu0⟩
 |bl z =>
  rw[cB r] at q;cases q;cases d' with
  |ref b=>exact absurd p' Bool.false_ne_true
  |fz b=>exact absurd p' Bool.false_ne_true
  |non=>rw[dU r'] at q';cases q';exact⟨SeqAt.RcAt.bool_none z,SeqAt.RcNeAt.bool_none z⟩
  |bl b=>rw[cB r'] at q';cases q';exact⟨SeqAt.RcAt.bool_bool z b,SeqAt.RcNeAt.bool_bool z b⟩
  |int b=>rw[aW r'] at q';obtain⟨t,rfl⟩:=q';exact⟨SeqAt.RcAt.bool_int z b t,SeqAt.RcNeAt.bool_int z b t⟩
  |str b=>rw[dL r'] at q';obtain⟨t,rfl⟩:=q';exact⟨SeqAt.RcAt.bool_str z b t,SeqAt.RcNeAt.bool_str z b t⟩
  |tup ys =>
   obtain⟨a',us',rfl,sq',rs'⟩:=bO r';obtain⟨its',rv',ht'⟩:=jN I sq';cases q';exact⟨SeqAt.RcAt.bool_tuple z ht' hu0,SeqAt.RcNeAt.bool_tuple z ht' hu0⟩
 |int z =>
  rw[aW r] at q;obtain⟨tz,rfl⟩:=q;cases d' with
  |ref b=>exact absurd p' Bool.false_ne_true
  |fz b=>exact absurd p' Bool.false_ne_true
  |non=>rw[dU r'] at q';cases q';exact⟨SeqAt.RcAt.int_none z tz,SeqAt.RcNeAt.int_none z tz⟩
  |bl b=>rw[cB r'] at q';cases q';exact⟨SeqAt.RcAt.int_bool z tz b,SeqAt.RcNeAt.int_bool z tz b⟩
  |int b=>rw[aW r'] at q';obtain⟨t,rfl⟩:=q';exact⟨SeqAt.RcAt.int_int z tz b t,SeqAt.RcNeAt.int_int z tz b t⟩
  |str b=>rw[dL r'] at q';obtain⟨t,rfl⟩:=q';exact⟨SeqAt.RcAt.int_str z tz b t,SeqAt.RcNeAt.int_str z tz b t⟩
  |tup ys =>
   obtain⟨a',us',rfl,sq',rs'⟩:=bO r';obtain⟨its',rv',ht'⟩:=jN I sq';cases q';exact⟨SeqAt.RcAt.int_tuple z tz ht' hu0,SeqAt.RcNeAt.int_tuple z tz ht' hu0⟩
 |str z =>
  rw[dL r] at q;obtain⟨tz,rfl⟩:=q;cases d' with
  |ref b=>exact absurd p' Bool.false_ne_true
  |fz b=>exact absurd p' Bool.false_ne_true
  |non=>rw[dU r'] at q';cases q';exact⟨SeqAt.RcAt.str_none z tz,SeqAt.RcNeAt.str_none z tz⟩
  |bl b=>rw[cB r'] at q';cases q';exact⟨SeqAt.RcAt.str_bool z tz b,SeqAt.RcNeAt.str_bool z tz b⟩
  |int b=>rw[aW r'] at q';obtain⟨t,rfl⟩:=q';exact⟨SeqAt.RcAt.str_int z tz b t,SeqAt.RcNeAt.str_int z tz b t⟩
  |str b=>rw[dL r'] at q';obtain⟨t,rfl⟩:=q';exact⟨SeqAt.RcAt.str_str z tz b t,SeqAt.RcNeAt.str_str z tz b t⟩
  |tup ys =>
   obtain⟨a',us',rfl,sq',rs'⟩:=bO r';obtain⟨its',rv',ht'⟩:=jN I sq';cases q';exact⟨SeqAt.RcAt.str_tuple z tz ht' hu0,SeqAt.RcNeAt.str_tuple z tz ht' hu0⟩
end
section
variable {X:Cx}{a b e o:Expr}{es:List Expr}{ta tb te to:DE}{t:DA}{pos:Pos}
def d2I (C:Int->Int->Prop)(g:Int->Int->D):D2:=λx y M Q=>match x,y with
 |.int i,.int j=>C i j/\Q (g i j) M
 |_,_=>False
def d2J (g:Int->Int->D):D2:=λx y M Q=>match x,y with
 |.int i,.int j=>Q (g i j) M
 |_,_=>False
theorem aHg {f:Value->Value->Sem Value}{C:Int->Int->Prop}{g:Int->Int->D}{g':Int->Int->V}(h:OpR X f (rI C g'))(hg:∀H i j,Rep X.K H (g i j) (g' i j)):OpD X f (d2I C g) :=
 OpD.of h λx y H M dx dy Q rx ry hm q=>by
  cases dx with
  |int i =>
   cases dy with
   |int j=>exact⟨i,j,aW rx,aW ry,q.1,_,M,hg H i j,hm,.refl H,q.2⟩
   |_=>exact q.elim
  |_=>exact q.elim
theorem aF3 {f:Value->Value->Sem Value}{g:Int->Int->D}{g':Int->Int->V}(h:OpR X f (rI0 g'))(hg:∀H i j,Rep X.K H (g i j) (g' i j)):OpD X f (d2J g) :=
 OpD.of h λx y H M dx dy Q rx ry hm q=>by
  cases dx with
  |int i =>
   cases dy with
   |int j=>exact⟨i,j,aW rx,aW ry,_,M,hg H i j,hm,.refl H,q⟩
   |_=>exact q.elim
  |_=>exact q.elim
theorem gW:OpD X (binaryOp .Sub) (d2J λi j=>.int (i-j)):=aF3 aKu λ_ _ _=>cS
theorem aF0:OpR X (binaryOp .Mult) (rI IntMulOk λi j=>.int (i*j)):=opI λ_ _ _ _ _ _ _ hc q=>mul_int q hc
theorem bE:OpD X (binaryOp .Mult) (d2I IntMulOk λi j=>.int (i*j)):=aHg aF0 λ_ _ _=>cS
def CFd (i j:Int):Prop:=j≠0/\j.natAbs.log2<9000
theorem aKd:OpR X (binaryOp .FloorDiv) (rI CFd λi j=>.int (i.fdiv j)):=opI λ_ _ _ _ _ _ _ hc q=>floordiv_int hc.1 q (.inl (PyProof.noPylong_of_log2 hc.2))
theorem fJ:OpD X (binaryOp .FloorDiv) (d2I CFd λi j=>.int (i.fdiv j)):=aHg aKd λ_ _ _=>cS
theorem kX:OpD X (binaryOp .Mod) (d2I (λ_ j=>j≠0) λi j=>.int (i.fmod j)):=aHg aGh λ_ _ _=>cS
theorem uZ:OpD X (binaryOp .Pow) (d2I aLX λi j=>.int (i^j.toNat)):=aHg aKg λ_ _ _=>cS
theorem pU:OpD X (compareOp .Lt) (d2J λi j=>.bl (decide (i<j))):=aF3 aK2 λ_ _ _=>fF
theorem xY:OpD X (compareOp .Gt) (d2J λi j=>.bl (decide (j<i))):=aF3 aLJ λ_ _ _=>fF
theorem aLC:OpD X (compareOp .GtE) (d2J λi j=>.bl (decide (j<=i))):=aF3 aMp λ_ _ _=>fF
def aKR:D2:=λx y M Q=>match x,y with
 |.int i,.int j=>Q (.int (i+j)) M
 |.ref a,.ref b=>∃xs ys,M a=some xs/\M b=some ys/\xs.length+ys.length<=1000/\∀p:Addr,M p=none->Q (.ref p) (aX M p (xs++ys))
 |.fz xs,.ref b=>∃ys,M b=some ys/\xs.length+ys.length<=1000/\∀p:Addr,M p=none->Q (.ref p) (aX M p (xs++ys))
 |.tup xs,.tup ys=>xs≠[]/\ys≠[]/\xs.length+ys.length<=1000/\Q (.tup (xs++ys)) M
 |_,_=>False
theorem aFz {pins:List (Addr×Obj)}{σ:L2.St}{H:Hp}{s:Shared}(I:Inv X pins σ H s){a:Addr}{xs:List V}(h:SqX X.K H a xs):xs.length<=sizeLine/\∃(its:List Value)(n:Nat),bU xs its/\s.heap.get? a = some { cls:=.type "list",data:=.seq its.toArray n }:=by
 rcases h with⟨o,h⟩|⟨its,n,hk,hz,r⟩
 ·obtain⟨_,z,its,n,r,e⟩:=I.hok a _ h;exact⟨z,its,n,r,e⟩
 ·have e:=r.length;simp only[Array.length_toList] at e;exact⟨by omega,its.toList,n,r,by simpa using I.kIn a _ hk⟩
theorem cY:OpD X (binaryOp .Add) aKR:=by
 intro pins s σ H x y v u Q I rx ry ⟨dx,dy,M,Q',r1,r2,hm,q,k⟩;cases dx with
 |int i =>
  cases dy with
  |int j=>exact aKC pins s σ H x y v u Q I rx ry ⟨i,j,aW r1,aW r2,k _ H ⟨_,M,cS,hm,.refl H,q⟩⟩
  |_=>exact q.elim
 |ref a =>
  cases dy with
  |ref b =>
   obtain⟨xs,ys,ha,hb,hl,q⟩:=q;obtain⟨us,hu,ru⟩:=hm.l a xs ha;obtain⟨ws,hw,rw'⟩:=hm.l b ys hb;refine aJC pins s σ H x y v u Q I rx ry ⟨a,b,us,ws,aP r1,aP r2,hu,hw,?_,λp hp=>k _ _ ⟨.ref p,_,dH,hm.lnew hp (ru.append rw'),Ext.new hp _,q p (hm.fresh hp)⟩⟩;rw[<- ru.length,<- rw'.length];exact Nat.le_of_lt (eA hl)
  |_=>exact q.elim
 |fz xs =>
  cases dy with
  |ref b =>
   obtain⟨ys,hb,hl,q⟩:=q;obtain⟨a,us,rfl,sq,ru⟩:=jM r1;obtain⟨ws,hw,rw'⟩:=hm.l b ys hb;obtain rfl:=aP r2;cases rx;cases ry;obtain⟨z,its,n,r,e⟩:=aFz I sq;obtain⟨z2,its2,n2,r3,hl2,e2⟩:=I.lstM hw;have l1:=r.length;have l2:=r3.length;have l3:=ru.length;have l4:=rw'.length;have hz:=eA hl;refine PySem.P.add_list e e2 ?_ (by rw[size_toArray,size_toArray];omega);have ea:its.toArray++its2.toArray=(its++its2).toArray:=by simp
   rw[ea];refine⟨.ref _,_,I.lnew (t':=s.toks) (r.append r3) (by rw[length_append];omega),rfl,k _ _ ⟨.ref _,_,dH,hm.lnew I.fresh (ru.append rw'),Ext.new I.fresh _,q _ (hm.fresh I.fresh)⟩⟩
  |_=>exact q.elim
 |tup xs =>
  cases dy with
  |tup ys =>
   obtain⟨h1,h2,hl,q⟩:=q;obtain⟨a,us,rfl,sq,ru⟩:=bO r1;obtain⟨b,ws,rfl,sq2,rw'⟩:=bO r2;have l3:=ru.length;have l4:=rw'.length;refine aGJ pins s σ H _ _ v u Q I rx ry ?_;have n1:us≠[]:=λz=>by rw[z] at l3;exact h1 (List.length_eq_zero_iff.mp l3)
   have n2:ws≠[]:=λz=>by rw[z] at l4;exact h2 (List.length_eq_zero_iff.mp l4)
   exact⟨a,b,us,ws,rfl,rfl,sq,sq2,n1,by rw[<- l3,<- l4];exact Nat.le_of_lt (eA hl),λz=>absurd z n2,λ_ p hp=>k _ _ ⟨.tup _,M,mI (.of bI) ((ru.append rw').ext (Ext.new hp _)),hm.new hp _,Ext.new hp _,q⟩⟩
  |_=>exact q.elim
 |_=>exact q.elim
def dEq (g:Bool->Bool):D2:=λx y M Q=>match x,y with
 |.ref a,.ref b=>∃xs ys,M a=some xs/\M b=some ys/\(a≠b)/\xs.all (bN 59)=true/\ys.all (bN 59)=true/\Q (.bl (g (iH xs ys))) M
 |x,y=>bN 60 x=true/\bN 60 y=true/\Q (.bl (g (eqD x y))) M
theorem aEC {pins:List (Addr×Obj)}{σ:L2.St}{H:Hp}{s:Shared}(I:Inv X pins σ H s){A:Around}(hu:A.units+60<cLine){a b:Addr}{us ws:List V}{xs ys:List D}(ha:H a=some (.lst us))(hb:H b=some (.lst ws))(ru:bG X.K H xs us)(rw':bG X.K H ys ws)(p:xs.all (bN 59)=true)(p':ys.all (bN 59)=true):SeqAt.RcAt A s (.ref a) (.ref b) (iH xs ys)/\SeqAt.RcNeAt A s (.ref a) (.ref b) (!iH xs ys):=by
 obtain⟨z,its,n,r,hl,e⟩:=I.lstM ha;obtain⟨z2,its2,n2,r3,hl2,e2⟩:=I.lstM hb;have i1:s.heap.IsList a its.toArray:=⟨_,e,rfl,_,rfl⟩;have i2:s.heap.IsList b its2.toArray:=⟨_,e2,rfl,_,rfl⟩;have l3:=ru.length;have l4:=rw'.length;have hu0:A.units<cLine:=by omega
 by_cases hz:its.toArray.size=its2.toArray.size
 ·have hz':=hz;rw[size_toArray,size_toArray] at hz';have hit:∀j (h1:j<its.toArray.size) (h2:j<its2.toArray.size),SeqAt.EqAt A.in1 s its.toArray[j] its2.toArray[j] (rE xs ys j):=λj j1 j2=>by
   have hu':A.in1.units+59<cLine:=by show A.units+1+59<cLine;omega
   have:=rV (A:=A.in1) (s:=s) (λ{d d' v v' u u'} p p' r r' q q'=>aCn I 59 hu' p p' r r' q q') p p' ru rw' r r3 j (by simpa using j1) (by simpa using j2);simpa using this
  have hz2:iH xs ys=(range its.toArray.size).all (rE xs ys):=by rw[iI,show min xs.length ys.length=its.toArray.size by rw[size_toArray];omega,show(xs.length==ys.length)=true by simp;omega,Bool.and_true]
  rw[hz2];exact⟨SeqAt.RcAt.lists i1 i2 hz hu0 hit,SeqAt.RcNeAt.lists i1 i2 hz hu0 hit⟩
 ·have hz':=hz;rw[size_toArray,size_toArray] at hz';have hz2:iH xs ys=false:=by rw[iI,show(xs.length==ys.length)=false by simp;omega,Bool.and_false]
  rw[hz2];exact⟨SeqAt.RcAt.lists_lengths i1 i2 (by simpa using hz) hu0,SeqAt.RcNeAt.lists_lengths i1 i2 (by simpa using hz) hu0⟩
theorem aFQ (hu:X.A.units+60<cLine):OpD X (compareOp .Eq) (dEq id)/\OpD X (compareOp .NotEq) (dEq not):=by
 have key:∀{pins:List (Addr×Obj)}{s:Shared} {σ:L2.St} {H:Hp} {x y:V} {v u:Value} {dx dy:D} {M:DM} {Q':DQ} {g:Bool->Bool},Inv X pins σ H s->RelV x v->RelV y u->Rep X.K H dx x->Rep X.K H dy y->bK X.K M H->dEq g dx dy M Q' ->
   ∃b,SeqAt.RcAt X.A s v u b/\SeqAt.RcNeAt X.A s v u (!b)/\Q' (.bl (g b)) M:=by
  intro pins s σ H x y v u dx dy M Q' g I rx ry r1 r2 hm q;have gen:bN 60 dx=true->bN 60 dy=true->Q' (.bl (g (eqD dx dy))) M->∃b,SeqAt.RcAt X.A s v u b/\SeqAt.RcNeAt X.A s v u (!b)/\Q' (.bl (g b)) M:=λp p' q=>let ⟨h1,h2⟩:=aMb I hu p p' r1 r2 rx ry;⟨_,h1,h2,q⟩
  cases dx with
  |ref a =>
   cases dy with
   |ref b =>
    obtain⟨xs,ys,ha,hb,_,p,p',q⟩:=q;obtain⟨us,hu',ru⟩:=hm.l a xs ha;obtain⟨ws,hw,rw'⟩:=hm.l b ys hb;obtain rfl:=aP r1;obtain rfl:=aP r2;cases rx;cases ry;obtain⟨h1,h2⟩:=aEC I hu hu' hw ru rw' p p';exact⟨_,h1,h2,q⟩
   |_=>exact gen q.1 q.2.1 q.2.2
  |_=>exact gen q.1 q.2.1 q.2.2
 refine⟨λpins s σ H x y v u Q I rx ry ⟨dx,dy,M,Q',r1,r2,hm,q,k⟩=>?_,λpins s σ H x y v u Q I rx ry ⟨dx,dy,M,Q',r1,r2,hm,q,k⟩=>?_⟩
 ·obtain⟨b,h1,_,q⟩:=key I rx ry r1 r2 hm q;exact h1 X.prog X.w X.xe _ ⟨.bl b,H,I,rfl,k _ H ⟨.bl b,M,fF,hm,.refl H,q⟩⟩
 ·obtain⟨b,_,h2,q⟩:=key I rx ry r1 r2 hm q;exact h2 X.prog X.w X.xe _ ⟨.bl (!b),H,I,rfl,k _ H ⟨.bl (!b),M,fF,hm,.refl H,q⟩⟩
theorem eP {k:Nat}(hr:dZ k X.A):OpD X (compareOp .Eq) (dEq id):=(aFQ (by have:=hr.un;omega)).1
theorem aAF {k:Nat}(hr:dZ k X.A):OpD X (compareOp .NotEq) (dEq not):=(aFQ (by have:=hr.un;omega)).2
def aJg (ta:DE):DE:=λρ M Q=>ta ρ M λx M1=>match x with
 |.int i=>Q (.int (-i)) M1
 |_=>False
theorem aIa (ha:PDE X a ta):PDE X (.UnaryOp .USub a pos) (aJg ta) :=
 cV (aL8 aJa ha) λσ H Q ⟨ρ,M,Q',re,hm,q,k⟩=>⟨ρ,M,_,re,hm,q,λx H1 ⟨d,M1,rd,hm1,ex,q1⟩=>by
  cases d with
  |int i=>exact⟨i,aW rd,k _ H1 ⟨_,M1,cS,hm1,ex,q1⟩⟩
  |_=>exact q1.elim⟩
def mO:D2:=λx y M Q=>match x,y with
 |.tup ds,.int i=>match atI ds i with
  |some d=>Q d M
  |none=>False
 |.fz ds,.int i=>match atI ds i with
  |some d=>Q d M
  |none=>False
 |.ref a,.int i=>∃ds d,M a=some ds/\atI ds i=some d/\Q d M
 |_,_=>False
theorem vN {K:Frag}{H:Hp}{ds:List D}{xs:List V}{i:Int}{d:D}(r:bG K H ds xs)(h:atI ds i=some d):∃v,atI xs i=some v/\Rep K H d v:=by
 unfold atI at h ⊢;rw[<- r.length];cases e:ixN ds.length i with
 |none=>rw[e] at h;cases h
 |some j =>
  rw[e] at h;exact r.get h
theorem ixd:IxR X λx y H Q=>∃dx dy M Q',Rep X.K H dx x/\Rep X.K H dy y/\bK X.K M H/\mO dx dy M Q'/\∀v H',LQ X.K H Q' v H'->Q v H':=by
 intro value slice pins s σ H x y v u Q I rx ry ⟨dx,dy,M,Q',r1,r2,hm,q,k⟩ hs;cases dx with
 |tup ds =>
  cases dy with
  |int i =>
   obtain⟨a,us,rfl,sq,ru⟩:=bO r1;obtain rfl:=aW r2;cases e:atI ds i with
   |none=>exact absurd q (by show ¬(match atI ds i with|some d=>Q' d M|none=>False);rw[e];exact id)
   |some d =>
    have q':Q' d M:=by have z:(match atI ds i with|some d=>Q' d M|none=>False):=q;rw[e] at z;exact z
    obtain⟨w,hw,rw'⟩:=vN ru e;exact aKm value slice pins s σ H _ _ v u Q I rx ry ⟨a,us,i,w,rfl,rfl,sq,hw,k _ H ⟨d,M,rw',hm,.refl H,q'⟩⟩ hs
  |_=>exact q.elim
 |fz ds =>
  cases dy with
  |int i =>
   obtain⟨a,us,rfl,sq,ru⟩:=jM r1;obtain rfl:=aW r2;cases e:atI ds i with
   |none=>exact absurd q (by show ¬(match atI ds i with|some d=>Q' d M|none=>False);rw[e];exact id)
   |some d =>
    have q':Q' d M:=by have z:(match atI ds i with|some d=>Q' d M|none=>False):=q;rw[e] at z;exact z
    obtain⟨w,hw,rw'⟩:=vN ru e;exact aCi value slice pins s σ H _ _ v u Q I rx ry ⟨a,us,i,w,rfl,rfl,sq.sq,hw,k _ H ⟨d,M,rw',hm,.refl H,q'⟩⟩ hs
  |_=>exact q.elim
 |ref a =>
  cases dy with
  |int i =>
   obtain⟨ds,d,ha,e,q'⟩:=q;obtain rfl:=aP r1;obtain rfl:=aW r2;obtain⟨us,hu,ru⟩:=hm.l a ds ha;obtain⟨w,hw,rw'⟩:=vN ru e;exact aCi value slice pins s σ H _ _ v u Q I rx ry ⟨a,us,i,w,rfl,rfl,.of hu,hw,k _ H ⟨d,M,rw',hm,.refl H,q'⟩⟩ hs
  |_=>exact q.elim
 |_=>exact q.elim
theorem aEU (ha:PDE X a ta)(hb:PDE X b tb)(hs:rD b:=by exact λ_ _=>rfl):PDE X (.Subscript a b pos) (dOp mO ta tb) :=
 cV (aMf ixd ha hb hs) λσ H Q h=>yJ (λ_ _ _ _ z=>z) h
abbrev DO:=cP->DM->(Option Int->DM->Prop)->Prop
def zW (K:Frag)(t:DO):TO:=λσ H Q=>∃ρ M Q',gS K H ρ σ/\bK K M H/\t ρ M Q'/\∀i H',(∃M',bK K M' H'/\Ext H H'/\Q' i M')->Q i H'
noncomputable def aJT:DO:=λ_ M Q=>Q none M
noncomputable def dPt (t:DE):DO:=λρ M Q=>t ρ M λx M1=>match x with
 |.int i=>Q (some i) M1
 |_=>False
theorem aGZ:PO X none (zW X.K aJT):=λpins s σ H Q I ⟨ρ,M,Q',re,hm,q,k⟩=>aHA pins s σ H Q I (k none H ⟨M,hm,.refl H,q⟩)
theorem aGQ (h:PDE X e te):PO X (some e) (zW X.K (dPt te)):=λpins s σ H Q I ⟨ρ,M,Q',re,hm,q,k⟩=>aF9 h pins s σ H Q I ⟨ρ,M,_,re,hm,q,λv H1 ⟨d,M1,rd,hm1,ex,q1⟩=>by
 cases d with
 |int i=>exact⟨i,aW rd,k (some i) H1 ⟨M1,hm1,ex,q1⟩⟩
 |_=>exact q1.elim⟩
noncomputable def cutD (xs:List D)(lo hi:Option Int):List D:=(xs.drop (HT.sIx xs.length 0 lo)).take (HT.sIx xs.length xs.length hi-HT.sIx xs.length 0 lo)
theorem wE {K:Frag}{H:Hp}{ds:List D}{xs:List V}(r:bG K H ds xs)(lo hi:Option Int):bG K H (cutD ds lo hi) (aAN xs lo hi):=by unfold cutD aAN;rw[r.length];exact(r.drop _).take _
def aLG (x:D)(lo hi:Option Int)(M:DM)(Q:DQ):Prop:=match x with
 |.fz ds=>∀p:Addr,M p=none->Q (.ref p) (aX M p (cutD ds lo hi))
 |.ref a=>∃ds,M a=some ds/\∀p:Addr,M p=none->Q (.ref p) (aX M p (cutD ds lo hi))
 |_=>False
def dSl (te:DE)(tl th:DO):DE:=λρ M Q=>te ρ M λx M1=>tl ρ M1 λl M2=>th ρ M2 λh M3=>aLG x l h M3 Q
variable {lo hi:Option Expr}{tl th:DO}{p2:Pos}
theorem aFJ (he:PDE X e te)(hl:PO X lo (zW X.K tl))(hu:PO X hi (zW X.K th)):PDE X (.Subscript e (.Slice lo hi none p2) pos) (dSl te tl th) :=
 cV (aAD aHz he hl hu) λσ H Q ⟨ρ,M,Q',re,hm,q,k⟩=>⟨ρ,M,_,re,hm,q,λv H1 ⟨d,M1,rd,hm1,e1,q1⟩=>⟨ρ,M1,_,re.ext e1,hm1,q1,λl H2 ⟨M2,hm2,e2,q2⟩=>⟨ρ,M2,_,(re.ext e1).ext e2,hm2,q2,λh H3 ⟨M3,hm3,e3,q3⟩=>by
  have rd3:=(rd.ext e2).ext e3;have ex:=(e1.trans e2).trans e3;cases d with
  |fz ds =>
   obtain⟨a,us,rfl,sq,ru⟩:=jM rd3;exact⟨a,us,rfl,sq.sq,λp hp=>k _ _ ⟨.ref p,_,dH,hm3.lnew hp (wE ru l h),ex.trans (Ext.new hp _),q3 p (hm3.fresh hp)⟩⟩
  |ref a =>
   obtain⟨ds,ha,q3⟩:=q3;obtain rfl:=aP rd;obtain⟨us,hu,ru⟩:=hm3.l a ds ha;exact⟨a,us,rfl,.of hu,λp hp=>k _ _ ⟨.ref p,_,dH,hm3.lnew hp (wE ru l h),ex.trans (Ext.new hp _),q3 p (hm3.fresh hp)⟩⟩
  |_=>exact q3.elim⟩⟩⟩
abbrev DSp:=List D->DM->DQ->Prop
def rM (K:Frag)(sp:DSp):Sp:=λvs H Q _=>∃ds M Q',bG K H ds vs/\bK K M H/\sp ds M Q'/\∀v H',LQ K H Q' v H'->Q v H'
def rR (sp:DSp)(t:DA):DE:=λρ M Q=>t ρ M λds M1=>sp ds M1 Q
variable {CX:CXT}{k:Nat}{f:Addr}{fd:FuncData}{ps:List Str}{sp:DSp}{E:XK}{x:Str}{p:Pos}
theorem aGf (F:mX X.prog X.w X.K X.mg X.base CX k f fd ps (rM X.K sp))(hr:dZ k X.A)(hm:X.mg x=some (.ref f))(hk:keepIn X.K (.ref f)=true)(hb:tS X.K fd ps [])(hx:yX CX X E)(ha:PDA X (e::es) t)(hg:Gl X x:=by rfl)(hdb:(x==("__debug__":Str))=false:=by decide)(he:starEach (e::es) X.env=(false,eval e X.env)::starEach es X.env:=by rfl)(hpl:(backTo pos (starEach es X.env)).any (·.1)=false:=by rfl) :
  PDE X (.Call (.Name x p) (e::es) [] pos) (rR sp t) :=
 cV (aGM F hr hg hm hk hb .nil hx ha hdb he hpl) λσ H Q ⟨ρ,M,Q',re,hm,q,k⟩=>⟨ρ,M,_,re,hm,q,λvs H1 ⟨ds,M1,rs,hm1,ex,q1⟩=>⟨ds,M1,Q',by rw[append_nil];exact rs,hm1,q1,λv H' z=>k v H' (z.back ex)⟩⟩
def fG (X:Cx)(fv:Value)(r:DSp):Prop:=lN X fv λvs H Q=>∃ds M Q',bG X.K H ds vs/\bK X.K M H/\r ds M Q'/\∀v H',LQ X.K H Q' v H'->Q v H'
theorem fG.of {fv:Value}{r:List V->Hp->VK->Prop}{r':DSp}(h:lN X fv r)(l:∀vs H M ds Q,bG X.K H ds vs->bK X.K M H->r' ds M Q->r vs H (LQ X.K H Q)):fG X fv r':=λpins s σ H xs us Q I rs ⟨ds,M,Q',r1,hm,q,k⟩ =>
 thn (h pins s σ H xs us _ I rs (l xs H M ds Q' r1 hm q)) λv s h=>aCR h k
theorem aFt {r:DSp}{σ:L2.St}{H:Hp}{Q:VK}(h:low X.K (rR r t) σ H Q):aLI X.K t σ H λvs H1=>∃ds M Q',bG X.K H1 ds vs/\bK X.K M H1/\r ds M Q'/\∀v H',LQ X.K H1 Q' v H'->Q v H':=by obtain⟨ρ,M,Q',re,hm,q,k⟩:=h;exact⟨ρ,M,_,re,hm,q,λvs H1 ⟨ds,M1,rs,hm1,ex,q1⟩=>⟨ds,M1,Q',rs,hm1,q1,λv H' z=>k v H' (z.back ex)⟩⟩
theorem aFW {id:String}{r:DSp}(hc:fG X (.builtin id) r)(hm:X.mg x = none)(ha:PDA X (e :: es) t)(hv:bootBuiltins x = some (.builtin id):=by rfl)(hg:Gl X x:=by rfl)(hn:x ≠ "__name__":=by decide)(hdb:(x==("__debug__":Str))=false:=by decide)(he:starEach (e::es) X.env=(false,eval e X.env)::starEach es X.env:=by rfl)(hpl:(backTo pos (starEach es X.env)).any (·.1)=false:=by rfl):PDE X (.Call (.Name x p) (e::es) [] pos) (rR r t) :=
 cV (aA8 hc hg hm hv ha hn hdb he hpl) λσ H Q h=>aFt h
theorem aDm {T:String}{r:DSp}(hc:fG X (.type T) r)(hm:X.mg x = none)(ha:PDA X (e :: es) t)(hv:bootBuiltins x = some (.type T):=by rfl)(hg:Gl X x:=by rfl)(hn:x ≠ "__name__":=by decide)(hdb:(x==("__debug__":Str))=false:=by decide)(he:starEach (e::es) X.env=(false,eval e X.env)::starEach es X.env:=by rfl)(hpl:(backTo pos (starEach es X.env)).any (·.1)=false:=by rfl):PDE X (.Call (.Name x p) (e::es) [] pos) (rR r t) :=
 cV (aDs hc hg hm hv ha hn hdb he hpl) λσ H Q h=>aFt h
end
section
variable {X:Cx}{a b e o:Expr}{es:List Expr}{ta tb te to:DE}{t:DA}{pos:Pos}
def aKW:DSp:=λds M Q=>match ds with
 |[.int i]=>Q (.int (if i<0 then -i else i)) M
 |_=>False
theorem iE {K:Frag}{H:Hp}{d:D}{vs:List V}(h:bG K H [d] vs):∃v,vs=[v]/\Rep K H d v:=by obtain⟨v,r,rfl,rv,rr⟩:=aQ h;obtain rfl:=bH rr;exact⟨v,rfl,rv⟩
theorem aJR {K:Frag}{H:Hp}{d d2:D}{vs:List V}(h:bG K H [d,d2] vs):∃v v2,vs=[v,v2]/\Rep K H d v/\Rep K H d2 v2:=by obtain⟨v,r,rfl,rv,rr⟩:=aQ h;obtain⟨v2,rfl,rv2⟩:=iE rr;exact⟨v,v2,rfl,rv,rv2⟩
theorem aBp:fG X (.builtin "abs") aKW:=fG.of aEF λvs H M ds Q rs hm q=>by
 rcases ds with _|⟨d,_|⟨d2,r⟩⟩
 ·exact q.elim
 ·cases d with
  |int i =>
   obtain⟨v,rfl,rv⟩:=iE rs;obtain rfl:=aW rv;exact⟨i,rfl,_,M,cS,hm,.refl H,q⟩
  |_=>exact q.elim
 ·cases d<;>exact q.elim
def aKS:DSp:=λds M Q=>match ds with
 |[.int i]=>Q (.int i) M
 |[.bl k]=>Q (.int (if k then 1 else 0)) M
 |_=>False
theorem aEp:fG X (.type "int") aKS:=fG.of aDF λvs H M ds Q rs hm q=>by
 rcases ds with _|⟨d,_|⟨d2,r⟩⟩
 ·exact q.elim
 ·cases d with
  |int i =>
   obtain⟨v,rfl,rv⟩:=iE rs;obtain rfl:=aW rv;exact .inl ⟨i,rfl,_,M,cS,hm,.refl H,q⟩
  |bl i =>
   obtain⟨v,rfl,rv⟩:=iE rs;obtain rfl:=cB rv;exact .inr ⟨i,rfl,_,M,cS,hm,.refl H,q⟩
  |_=>exact q.elim
 ·cases d<;>exact q.elim
def wG:DSp:=λds M Q=>match ds with
 |[.tup xs]=>Q (.int xs.length) M
 |[.fz xs]=>Q (.int xs.length) M
 |[.ref a]=>∃xs,M a=some xs/\Q (.int xs.length) M
 |_=>False
theorem jH:fG X (.builtin "len") wG:=fG.of zP λvs H M ds Q rs hm q=>by
 rcases ds with _|⟨d,_|⟨d2,r⟩⟩
 ·exact q.elim
 ·cases d with
  |tup xs =>
   obtain⟨v,rfl,rv⟩:=iE rs;obtain⟨a,us,rfl,sq,ru⟩:=bO rv;exact⟨a,us,rfl,.inr sq,_,M,by rw[<- ru.length];exact cS,hm,.refl H,q⟩
  |fz xs =>
   obtain⟨v,rfl,rv⟩:=iE rs;obtain⟨a,us,rfl,sq,ru⟩:=jM rv;exact⟨a,us,rfl,.inl sq.sq,_,M,by rw[<- ru.length];exact cS,hm,.refl H,q⟩
  |ref a =>
   obtain⟨v,rfl,rv⟩:=iE rs;obtain rfl:=aP rv;obtain⟨xs,ha,q⟩:=q;obtain⟨us,hu,ru⟩:=hm.l a xs ha;exact⟨a,us,rfl,.inl (.of hu),_,M,by rw[<- ru.length];exact cS,hm,.refl H,q⟩
  |_=>exact q.elim
 ·cases d<;>exact q.elim
def aAj (to te:DE):DE:=λρ M Q=>to ρ M λx M1=>match x with
 |.ref p=>(∃ds,M1 p=some ds)/\gQ te pR ρ M1 λys M2=>∃ds y,ys=[y]/\M2 p=some ds/\ds.length<1000/\Q .non (aX M2 p (ds++[y]))
 |_=>False
theorem aDb {apos cpos:Pos}(ho:PDE X o to)(he:PDE X e te)(hse:starEach [e] X.env=(false,eval e X.env)::starEach [] X.env:=by rfl)(hbase:attributeBase o "append" X.env (eval o X.env)=eval o X.env:=by rfl)(hfew:((backTo cpos (starEach [e] X.env)).all (λx=>!x.1)&&(backToKw cpos (keywordEach [] X.env)).all (λx=>x.1.isSome)
  &&decide ([e].length+([]:List Keyword).length+(if ([]:List Keyword).isEmpty then 0 else 1)<30))=true:=by rfl)(hline:(apos.endLine==cpos.line)=true:=by rfl)(hplain:(backTo cpos (starEach [] X.env)).any (·.1)=false:=by rfl) :
  PDE X (.Call (.Attribute o "append" apos) [e] [] cpos) (aAj to te) :=
 cV (aMo PySem.F.plainAttrs_list PySem.F.slot_list_append PySem.F.type_list_append aCW ho (pM he zG hse) hbase hfew hline hse hplain) λσ H Q ⟨ρ,M,Q',re,hm,q,k⟩=>⟨ρ,M,_,re,hm,q,λv H1 ⟨d,M1,rd,hm1,e1,q1⟩=>by
  cases d with
  |ref p =>
   obtain rfl:=aP rd;obtain⟨⟨ds0,h0⟩,q1⟩:=q1;obtain⟨us0,hu0,_⟩:=hm1.l p ds0 h0;refine⟨.inl ⟨rfl,us0,.of hu0⟩,ρ,M1,_,re.ext e1,hm1,q1,λvs H2 ⟨dvs,M2,rs,hm2,e2,ds,y,ey,hp,hl,q2⟩=>?_⟩;subst ey;obtain⟨w,rfl,rw'⟩:=iE rs;obtain⟨us,hu,ru⟩:=hm2.l p ds hp;exact⟨p,us,w,rfl,rfl,hu,by rw[<- ru.length];exact eA (Nat.le_of_lt hl),k _ _ ⟨.non,_,uV,hm2.put hu (ru.append (cC rw' cN)),(e1.trans e2).trans (Ext.put hu _),q2⟩⟩
  |_=>exact q1.elim⟩
noncomputable def tyD:D->Option String
 |.non=>some "NoneType"
 |.bl _=>some "bool"
 |.int _=>some "int"
 |.str _=>some "str"
 |.tup _=>some "tuple"
 |.fz _=>some "list"
 |.ref _=>none
theorem tyT {K:Frag}{H:Hp}{s:Shared}{pins:List (Addr×Obj)}{σ:L2.St}(I:Inv X pins σ H s){a:Addr}{xs:List V}(sq:SqT X.K H a xs):∃o,s.heap.get? a = some o/\o.cls = .type "tuple":=by obtain⟨its,_,⟨o,h1,h2,_⟩,_⟩:=I.tuple sq;exact⟨o,h1,h2⟩
theorem aK9 {K:Frag}{H:Hp}{s:Shared}{pins:List (Addr×Obj)}{σ:L2.St}{A:Around}{E:Value->Shared->Prop}{Q:Value->Shared->Prop}{c:Value}{d:D}{v:V}{u:Value}{T:String}{k:Bool}(I:Inv X pins σ H s)(rd:Rep X.K H d v)(rv:RelV v u)(ty:tyD d=some T)(e:kitOne X.K (.type T) c = some k)(h:∀tk,Q (.bool k) { s with toks:=tk }):wpAny (model X.prog X.w) A (call (.builtin "isinstance") [u,c]) Q E s:=by
 cases d with
 |non=>cases ty;rw[dU rd] at rv;exact lM I rv (.non) e h
 |bl b=>cases ty;rw[cB rd] at rv;exact lM I rv (.bl b) e h
 |int b=>cases ty;rw[aW rd] at rv;exact lM I rv (.int b) e h
 |str b=>cases ty;rw[dL rd] at rv;exact lM I rv (.str b) e h
 |ref b=>cases ty
 |tup b =>
  cases ty;obtain⟨a,us,rfl,sq,ru⟩:=bO rd;cases rv;obtain⟨o,h1,h2⟩:=tyT (K:=K) I sq;exact kia_one PySem.W.kitx_tuple I.kIn ⟨o,h1,h2⟩ e (λz=>nomatch z) h
 |fz b =>
  cases ty;obtain⟨a,us,rfl,sq,ru⟩:=jM rd;cases rv;obtain⟨z,its,n,r,e1⟩:=aFz I sq;exact kia_one kitx_list I.kIn ⟨_,e1,rfl⟩ e (λz=>nomatch z) h
def dIs (K:Frag)(c:Value)(te:DE):DE:=λρ M Q=>te ρ M λd M1=>(∃T k,tyD d = some T/\kitOne K (.type T) c = some k/\Q (.bl k) M1)∨(∃(p:Addr)(xs:List D) (k:Bool),d = .ref p/\M1 p = some xs/\kitOne K (.type "list") c=some k/\Q (.bl k) M1)
theorem aHf {T:String}{x:Str}{p p2:Pos}(he:PDE X e te)(hm:X.mg "isinstance" = none)(hmx:X.mg x = none)(hv:bootBuiltins x = some (.type T):=by rfl)(hg:Gl X "isinstance":=by rfl)(hgx:Gl X x:=by rfl)(hn:x ≠ "__name__":=by decide)(hdb:(x==("__debug__":Str))=false:=by decide)(hse:starEach [e,.Name x p2] X.env=(false,eval e X.env)::starEach [.Name x p2] X.env:=by rfl)(hse2:starEach [.Name x p2] X.env=(false,eval (.Name x p2) X.env)::starEach [] X.env:=by rfl)(hpl:(backTo pos (starEach [.Name x p2] X.env)).any (·.1)=false:=by rfl) :
  PDE X (.Call (.Name "isinstance" p) [e,.Name x p2] [] pos) (dIs X.K (.type T) te):=by
 have hc:lN X (.builtin "isinstance") λvs H Q=>∃d M Q' v,vs = [v,.ty T]/\Rep X.K H d v/\bK X.K M H/\((∃T' k,tyD d = some T'/\kitOne X.K (.type T') (.type T) = some k/\Q' (.bl k) M)∨(∃(p:Addr)(xs:List D) (k:Bool),d = .ref p/\M p = some xs/\kitOne X.K (.type "list") (.type T)=some k/\Q' (.bl k) M))/\∀v H',LQ X.K H Q' v H'->Q v H':=by
  intro pins s σ H xs us Q I rs ⟨d,M,Q',v,e1,rd,hm,q,k⟩;subst e1;obtain⟨u1,u2,rfl,rv,rt⟩:=rs.two;cases rt;rcases q with⟨T',b,ty,e2,q⟩|⟨p,ys,b,rfl,hp,e2,q⟩
  ·exact aK9 (K:=X.K) I rd rv ty e2 λtk=>⟨.bl b,H,I.tok tk,rfl,k _ H ⟨_,M,fF,hm,.refl H,q⟩⟩
  ·obtain rfl:=aP rd;obtain⟨us,hu,ru⟩:=hm.l p ys hp;exact lM I rv (.lst hu) e2 λtk=>⟨.bl b,H,I.tok tk,rfl,k _ H ⟨_,M,fF,hm,.refl H,q⟩⟩
 refine cV (aA8 hc hg hm rfl (rL he (rL (aG8 hgx hmx hv (v:=.ty T) rfl hn hdb) aB8 hse2) hse) (by decide) (by decide) hse hpl) λσ H Q ⟨ρ,M,Q',re,hm,q,k⟩=>?_;exact⟨ρ,M,_,re,hm,q,λv H1 ⟨d,M1,rd,hm1,ex,q1⟩=>⟨d,M1,Q',v,rfl,rd,hm1,q1,λv H' z=>k v H' (z.back ex)⟩⟩
end
noncomputable def jR (N:List Str)(ds:List D):cP:=ds.map some++replicate (N.length-ds.length) none
noncomputable def Dn (Q:DQ):DQ:=λd M=>∃M',bD M' M/\Q d M'
section
variable {P:Program}{w:World}{K:Frag}{mg:Str->Option Value}{base:Heap}
theorem wO {H:Hp}{ds:List D}{vs:List V}(r:bG K H ds vs)(N:List Str):gS K H (jR N ds) (L2.start N vs):=by
 have hl:=r.length;refine⟨by unfold jR L2.start;simp only[length_append,length_map,List.length_replicate,hl],λi d q=>?_⟩;unfold jR at q;unfold L2.start;by_cases hi:i<ds.length
 ·rw[List.getElem?_append_left (by simpa using hi),getElem?_map] at q;rw[List.getElem?_append_left (by simpa[<- hl] using hi),getElem?_map];cases e:ds[i]? with
  |none=>rw[e] at q;cases q
  |some d' =>
   rw[e] at q;cases q;obtain⟨v,e2,rv⟩:=r.get e;exact⟨v,by rw[e2];rfl,rv⟩
 ·rw[List.getElem?_append_right (by simpa using hi),List.getElem?_replicate] at q;split at q<;>cases q
theorem Fun.okD {x qual:Str}{st:Stmt}{f:Addr}{fd:FuncData}{N ps:List Str}{k:Nat}{sp:DSp}(F:L2.Fun K x qual st f fd)(S:aS N ps (aI st))(len:∀ds M Q,sp ds M Q->ds.length=ps.length)(hbody:∀(cdv:Value)(A:Around) (outer:List Env) (s:Shared) (H:Hp) (ds:List D) (M:DM) (Q:DQ) (E:XK),dZ k (A.deeper (envOfC qual (aI st) s.heap.objs.size f cdv))->sp ds M Q ->
   ∃t,mY (sT CX0 P w K mg base N qual (aI st) f cdv A outer s H E).nox (fZ st) t/\t { nx:=λ_ M'=>Dn Q .non M',rt:=Dn Q } (jR N ds) M):mX P w K mg base CX0 (k+1) f fd ps (rM K sp):=by
 refine F.ok S (λvs H Q E ⟨ds,M,Q',rs,hm,q,_⟩=>by rw[<- rs.length];exact len ds M Q' q) λcdv A outer s H vs Q E hr ⟨ds,M,Q',rs,hm,q,k'⟩=>?_;obtain⟨t,h1,h2⟩:=hbody cdv A outer s H ds M Q' E hr q;have fin:∀v H',LQ K H (Dn Q') v H'->Q v H':=λv H' ⟨d,M1,rd,hm1,ex,M2,sub,q2⟩=>k' v H' ⟨d,M2,rd,hm1.sub sub,ex,q2⟩;refine⟨_,h1,jR N ds,M,_,wO rs N,hm,h2,⟨λσ' H' ⟨ρ',M',_,hm',ex,q'⟩=>fin _ H' ⟨.non,M',uV,hm',ex,q'⟩,fin,λσ' H' ⟨_,_,_,_,_,z⟩=>z.elim,λσ' H' ⟨_,_,_,_,_,z⟩=>z.elim⟩⟩
end
def cM (K:Frag)(mg:Str->Option Value)(x:Str)(st:Stmt)(ps:List Str):Prop:=∃f fd,L2.Fun K x x st f fd/\mg x=some (.ref f)/\tS K fd ps []
def Has (P:Program)(w:World)(K:Frag)(mg:Str->Option Value)(base:Heap)(k:Nat)(x:Str)(ps:List Str)(sp:DSp):Prop :=
 ∃f fd,mX P w K mg base CX0 k f fd ps (rM K sp)/\mg x=some (.ref f)/\keepIn K (.ref f)=true/\tS K fd ps []
def aDQ (K:Frag)(mg:Str->Option Value)(x:Str)(d:D):Prop:=∃u v,mg x=some u/\RelV v u/\∀H,Rep K H d v
section
variable {P:Program}{w:World}{K:Frag}{mg:Str->Option Value}{base:Heap}
theorem Has.mk {x:Str}{st:Stmt}{N ps:List Str}{k:Nat}{sp:DSp}(h:cM K mg x st ps)(S:aS N ps (aI st))(len:∀ds M Q,sp ds M Q->ds.length=ps.length)(hbody:∀(f:Addr)(cdv:Value) (A:Around) (outer:List Env) (s:Shared) (H:Hp) (ds:List D) (M:DM) (Q:DQ) (E:XK),dZ k (A.deeper (envOfC x (aI st) s.heap.objs.size f cdv))->sp ds M Q ->
   ∃t,mY (sT CX0 P w K mg base N x (aI st) f cdv A outer s H E).nox (fZ st) t/\t { nx:=λ_ M'=>Dn Q .non M',rt:=Dn Q } (jR N ds) M):Has P w K mg base (k+1) x ps sp:=by
 obtain⟨f,fd,F,hm,hb⟩:=h;exact⟨f,fd,Fun.okD F S len λcdv A outer s H ds M Q E hr q=>hbody f cdv A outer s H ds M Q E hr q,hm,F.kp,hb⟩
theorem Has.imp {x:Str}{ps:List Str}{k:Nat}{sp sp':DSp}(h:Has P w K mg base k x ps sp)(i:∀ds M Q,sp' ds M Q->sp ds M Q):Has P w K mg base k x ps sp':=by obtain⟨f,fd,F,hm,hk,hb⟩:=h;exact⟨f,fd,F.imp λvs H Q E ⟨ds,M,Q',a,b,c,d⟩=>⟨ds,M,Q',a,b,i _ _ _ c,d⟩,hm,hk,hb⟩
end
section
variable {X:Cx}{a b c e:Expr}{es:List Expr}{ta tb te:DE}{t:DA}{pos p:Pos}{x:Str}{ps:List Str}{sp:DSp}{k j:Nat}
theorem aEr (h:Has X.prog X.w X.K X.mg X.base k x ps sp)(hr:dZ j X.A)(hkj:k<=j)(ha:PDA X (e::es) t)(hg:Gl X x:=by rfl)(hdb:(x==("__debug__":Str))=false:=by decide)(he:starEach (e::es) X.env=(false,eval e X.env)::starEach es X.env:=by rfl)(hpl:(backTo pos (starEach es X.env)).any (·.1)=false:=by rfl) :
  PDE X (.Call (.Name x p) (e::es) [] pos) (rR sp t):=by
 obtain⟨f,fd,F,hm,hk,hb⟩:=h;exact aGf F (hr.mono hkj) hm hk hb aHE ha hg hdb he hpl
theorem aE7 {d:D}(h:aDQ X.K X.mg x d)(hg:Gl X x:=by rfl)(hd:(x==("__debug__":Str))=false:=by decide):PDE X (.Name x pos) (dC d):=by obtain⟨u,v,hm,rv,hr⟩:=h;exact aG9 hg hm rv hr hd
def aGq (i:Nat)(te:DE)(g:Int->Int->Int):DS:=λE ρ M=>match ρ[i]? with
 |some (some (.int z))=>te ρ M λy M1=>match y with
  |.int j=>E.nx (ρ.set i (some (.int (g z j)))) M1
  |_=>False
 |_=>False
theorem aHr {i:Nat}{op:Operator}{g:Int->Int->Int}{pos':Pos}(ho:PIp X op (ipI g))(hN:X.N.Nodup)(he:PDE X e te)(hi:X.N[i]?=some x:=by rfl)(hx:Loc X.env.scope x:=by first|exact Or.inl rfl|exact Or.inr rfl)(hf:X.fn x=true∨X.env.scope.names.lookup x=some .local:=by first|exact .inl rfl|exact .inr rfl|assumption) :
  PDS X (.AugAssign (.Name x pos') op e pos) (aGq i te g) :=
 gR (aDL (i:=i) hN hi hx he ho hf) λE σ H ⟨ρ,M,Dn,re,hm,q,k⟩=>by
  unfold aGq at q;split at q
  ·rename_i z e1;obtain⟨v,e2,rv⟩:=re.get i _ e1;obtain rfl:=aW rv;refine⟨_,e2,ρ,M,_,re,hm,q,λw H1 ⟨d,M1,rd,hm1,ex,q1⟩=>?_⟩;cases d with
   |int j=>exact⟨z,j,rfl,aW rd,k.nx _ H1 ⟨_,M1,(re.ext ex).set cS i,hm1,ex,q1⟩⟩
   |_=>exact q1.elim
  ·exact q.elim
end
theorem dif {c A B:Prop}[Decidable c](h1:c->A)(h2:¬c->B):if decide c=true then A else B:=by
 by_cases h:c
 ·rw[decide_eq_true h];exact h1 h
 ·rw[decide_eq_false h];exact h2 h
theorem vK {b:Bool}{A B:Prop}(h1:b=true->A)(h2:b=false->B):if b=true then A else B:=by
 cases b
 ·exact h2 rfl
 ·exact h1 rfl
section
variable {prog:Program}{w:World}{A:Around}{E:Value->Shared->Prop}{s:Shared}
theorem vM {h h':Heap}{it t:Addr}{items:Array Value}(ht:h.IsList t items)(hs:Heap.SameBut it h h')(hne:t≠it):h'.IsList t items:=by obtain⟨o,e,r⟩:=ht;exact⟨o,(hs.2 t hne).trans e,r⟩
theorem tY {h:Heap}{t:Addr}{items:Array Value}(ht:h.IsList t items)(o:Obj):(h.push o).IsList t items:=by obtain⟨o',e,r⟩:=ht;exact⟨o',Heap.get?_push_of_some _ e,r⟩
theorem xS {it t:Addr}{items:Array Value}(hne:t≠it):∀(n i:Nat)(s:Shared) (Q:List Value->Shared->Prop),s.heap.IsListIter it t i->s.heap.IsList t items->i+n<=items.size ->
  (∀h',h'.IsListIter it t (i+n)->Heap.SameBut it s.heap h'->Q ((items.toList.drop i).take n) { s with heap:=h' })->wpAny (model prog w) A (draw (.ref it) n) Q E s
 |0,i,s,Q,hit,_,_,hQ=>by show wpAny _ _ (pure []) Q E s;exact wpAny_pure (by simpa using hQ s.heap hit (Heap.SameBut.refl ..))
 |n+1,i,s,Q,hit,ht,hle,hQ=>by
  have hlt:i<items.size:=by omega
  show wpAny _ _ (pyNext (.ref it) >>= _) Q E s;refine wpAny_bind (wpAny_pyNext_list_item hit ht (x:=items[i]) (by simp[hlt]) λh₁ hit₁ hs₁=>?_);refine wpAny_bind (wpAny_holding (xS hne n (i+1) _ _ hit₁ (vM ht hs₁ hne) (by omega) λh₂ hit₂ hs₂=>wpAny_pure ?_));have hd:items.toList.drop i=items[i]::items.toList.drop (i+1):=by simp[List.drop_eq_getElem_cons,hlt]
  have:=hQ h₂ (by rw[show i+(n+1)=i+1+n by omega];exact hit₂) (hs₁.trans hs₂);rw[hd,List.take_succ_cons] at this;exact this
theorem sU {t:Addr}{items:Array Value}{Q:List Value->Shared->Prop}(hh:A.handled=none)(ht:s.heap.IsList t items)(hQ:∀h',Heap.ExtBut s.heap.objs.size s.heap h'->Q items.toList { s with heap:=h' }):wpAny (model prog w) A (unpackItems (.ref t) items.size none) Q E s:=by
 have hlt:t≠s.heap.objs.size:=by obtain⟨o,ho,_⟩:=ht;exact Nat.ne_of_lt (Heap.lt_size ho)
 unfold unpackItems;refine wpAny_bind ?_
 ·unfold notIterableAtAll;refine wpAny_bind (wpAny_specialOf ht.typeIs slot_list_iter.lookup ?_);refine wpAny_pure ?_;simp only[Bool.false_eq_true,if_false];refine wpAny_bind (wpAny_holding (wpAny_pyIter_list ht ?_));refine wpAny_bind (wpAny_holding (xS hlt items.size 0 _ _ ⟨_,Heap.get?_push_size _ rfl,rfl,rfl⟩ (tY ht _) (by omega) λh₁ hit₁ hs₁=>?_));have hall:List.take items.size (List.drop 0 items.toList)=items.toList:=by rw[List.drop_zero];exact List.take_of_length_le (by simp)
  rw[hall];rw[if_neg (by simp)];have ht₁:h₁.IsList t items:=vM (tY ht _) hs₁ hlt;refine wpAny_bind (wpAny_holding (wpAny_pyNext_list_end hh hit₁ ht₁ (by simp) λh₂ he₂=>?_));simp only[Option.isSome_none,Bool.false_eq_true,if_false];refine wpAny_pure (hQ h₂ λb o hb e=>he₂ b o hb (hs₁.extBut b o hb (Heap.get?_push_of_some _ e)))
theorem rG {env:Env}{elts:List Expr}{x1}{pos:Pos}{t:Addr}{items:Array Value}{Q:Unit->Shared->Prop}(hh:A.handled=none)(ht:s.heap.IsList t items)(hn:(assignEach elts env).length=items.size)(hstar:(assignEach elts env).findIdx? (·.1)=none)(h:∀h',Heap.ExtBut s.heap.objs.size s.heap h'->wpAny (model prog w) A (assignInOrder ((assignEach elts env).map (·.2)) items.toList) Q E { s with heap:=h' }) :
  wpAny (model prog w) A (assign (.Tuple elts x1 pos) env (.ref t)) Q E s:=by
 rw[assign_Tuple];refine wpAny_bind (wpAny_standAt ?_);unfold unpack;rw[hn,hstar];exact wpAny_bind (wpAny_holding (sU hh ht h))
end
section
variable {X:Cx}{pos:Pos}{e a b:Expr}{es:List Expr}{te ta tb:DE}
def gU (n:Nat)(t:DGs):DG:=λd ρ M Q=>match d with
 |.tup ds=>ds.length=n/\t ds ρ M Q
 |.ref a=>∃ds,M a=some ds/\ds.length=n/\t ds ρ M Q
 |_=>False
theorem aIw {k:Nat}{t:DGs}{n:Nat}(hc:X.calm=true)(h:aAZ X es t)(hn:(assignEach es X.env).length=n:=by rfl)(hst:(assignEach es X.env).findIdx? (·.1)=none:=by rfl):PDG X (.Tuple es k pos) (gU n t):=by
 intro pins s σ H v u Q I r ⟨d,ρ,M,Q',rd,re,hm,q,k'⟩;cases d with
 |tup ds=>exact aI7 hc h hn hst pins s σ H v u Q I r ⟨.tup ds,ρ,M,Q',rd,re,hm,q,k'⟩
 |ref p =>
  obtain⟨ds,hp,hl,q⟩:=q;obtain rfl:=aP rd;cases r;obtain⟨us,hu,ru⟩:=hm.l p ds hp;obtain⟨z,its,nn,rv,hlen,e1⟩:=I.lstM hu;have l1:=ru.length;refine rG (I.ok.hd hc) ⟨_,e1,rfl,_,rfl⟩ (by rw[hn,size_toArray];omega) hst λh' hx=>?_;have I1:Inv X pins σ H { s with heap:=h' }:=I.kept (t':=s.toks) λb o e=>hx b o (Nat.ne_of_lt (Heap.lt_size e)) e;exact h pins _ σ H us _ Q I1 (by simpa using rv) ⟨ds,ρ,M,Q',ru,re,hm,q,k'⟩
 |_=>exact q.elim
noncomputable def isV:D->D->Option Bool
 |.non,.non=>some true
 |.bl a,.bl b=>some (a==b)
 |.non,.bl _=>some false
 |.bl _,.non=>some false
 |.int _,.non=>some false
 |.str _,.non=>some false
 |.tup _,.non=>some false
 |.ref _,.non=>some false
 |.fz _,.non=>some false
 |.tup _,.bl _=>some false
 |_,_=>none
def aI5 (g:Bool->Bool):D2:=λx y M Q=>match isV x y with
 |some k=>Q (.bl (g k)) M
 |none=>False
theorem aKo {K:Frag}{H:Hp}{x y:V}{v u:Value}{dx dy:D}{k:Bool}(rx:RelV x v)(ry:RelV y u)(r1:Rep K H dx x)(r2:Rep K H dy y)(h:isV dx dy=some k):plainIs v u=true/\(v==u)=k:=by
 cases dx<;>cases dy<;>first
  |(cases (show(none:Option Bool)=some k from h))
  |(
    first
    |(rw[dU r1] at rx;cases rx)
    |(rw[cB r1] at rx;cases rx)
    |(rw[aW r1] at rx;obtain⟨t,rfl⟩:=rx)
    |(rw[dL r1] at rx;obtain⟨t,rfl⟩:=rx)
    |(rw[aP r1] at rx;cases rx)
    |(obtain⟨a,us,rfl,_,_⟩:=bO r1;cases rx)
    |(obtain⟨a,us,rfl,_,_⟩:=jM r1;cases rx)
    first
    |(rw[dU r2] at ry;cases ry)
    |(rw[cB r2] at ry;cases ry)
    simp only[isV,Option.some.injEq] at h;subst h;constructor<;>first|rfl|(rename_i b1 b2;cases b1<;>cases b2<;>rfl))
theorem aMc:OpD X (compareOp .Is) (aI5 id):=λpins s σ H x y v u Q I rx ry ⟨dx,dy,M,Q',r1,r2,hm,q,k⟩=>by
 unfold aI5 at q;split at q
 ·rename_i b e;obtain⟨h1,h2⟩:=aKo rx ry r1 r2 e;exact wpAny_is_plain h1 (by rw[h2];exact⟨.bl b,H,I,rfl,k _ H ⟨_,M,fF,hm,.refl H,q⟩⟩)
 ·exact q.elim
end
section
variable {M:DM}{Q:DQ}{g:Bool->Bool}{ds:List D}{i:Int}{a:Addr}{α:Type}{x0 x1 x2 x3 x4 x5:α}{l:List α}
theorem ixT:mO (.tup ds) (.int i) M Q=(match atI ds i with|some d=>Q d M|none=>False):=rfl
theorem ixF:mO (.fz ds) (.int i) M Q=(match atI ds i with|some d=>Q d M|none=>False):=rfl
theorem aNa:mO (.ref a) (.int i) M Q=(∃ds d,M a=some ds/\atI ds i=some d/\Q d M):=rfl
theorem aJX:atI [x0] 0=some x0:=rfl
theorem aJJ:atI [x0] (-1)=some x0:=rfl
theorem aKp:atI [x0,x1] 0=some x0:=rfl
theorem aIu:atI [x0,x1] 1=some x1:=rfl
theorem aJe:atI [x0,x1] (-1)=some x1:=rfl
theorem aIn:atI [x0,x1,x2] 0=some x0:=rfl
theorem aJ8:atI [x0,x1,x2] 1=some x1:=rfl
theorem aIY:atI [x0,x1,x2] 2=some x2:=rfl
theorem aJK:atI [x0,x1,x2] (-1)=some x2:=rfl
theorem aIX:atI [x0,x1,x2,x3] 0=some x0:=rfl
theorem aJF:atI [x0,x1,x2,x3] 1=some x1:=rfl
theorem aH9:atI [x0,x1,x2,x3] 2=some x2:=rfl
theorem aKA:atI [x0,x1,x2,x3] 3=some x3:=rfl
theorem aIG:atI [x0,x1,x2,x3] (-1)=some x3:=rfl
theorem aJp:atI [x0,x1,x2,x3,x4] 0=some x0:=rfl
theorem aJ5:atI [x0,x1,x2,x3,x4] 1=some x1:=rfl
theorem aKl:atI [x0,x1,x2,x3,x4] 2=some x2:=rfl
theorem aJj:atI [x0,x1,x2,x3,x4] 3=some x3:=rfl
theorem aIz:atI [x0,x1,x2,x3,x4] 4=some x4:=rfl
theorem aIq:atI [x0,x1,x2,x3,x4] (-1)=some x4:=rfl
theorem aJ0:atI [x0,x1,x2,x3,x4,x5] 0=some x0:=rfl
theorem aI9:atI [x0,x1,x2,x3,x4,x5] 1=some x1:=rfl
theorem aJD:atI [x0,x1,x2,x3,x4,x5] 2=some x2:=rfl
theorem aJt:atI [x0,x1,x2,x3,x4,x5] 3=some x3:=rfl
theorem aJ7:atI [x0,x1,x2,x3,x4,x5] 4=some x4:=rfl
theorem aIl:atI [x0,x1,x2,x3,x4,x5] 5=some x5:=rfl
theorem aKF:atI [x0,x1,x2,x3,x4,x5] (-1)=some x5:=rfl
theorem aJb {n:Nat}{t:DGs}{ρ:cP}{R:cP->DM->Prop}:gU n t (.tup ds) ρ M R=(ds.length=n/\t ds ρ M R):=rfl
theorem aJc {n:Nat}{t:DGs}{ρ:cP}{R:cP->DM->Prop}:gU n t (.ref a) ρ M R=(∃ds,M a=some ds/\ds.length=n/\t ds ρ M R):=rfl
theorem eR {i j:Int}:dEq g (.int i) (.int j) M Q=Q (.bl (g (decide (i=j)))) M:=by
 show(bN 60 (.int i)=true/\bN 60 (.int j)=true/\Q (.bl (g (eqD (.int i) (.int j)))) M)=_;have e:eqD (.int i) (.int j)=decide (i=j):=by show(i==j)=_;by_cases h:i=j<;>simp[h]
 rw[e];exact propext ⟨λh=>h.2.2,λh=>⟨rfl,rfl,h⟩⟩
theorem cT {x y:Str}:dEq g (.str x) (.str y) M Q=Q (.bl (g (decide (x=y)))) M:=by
 show(bN 60 (.str x)=true/\bN 60 (.str y)=true/\Q (.bl (g (eqD (.str x) (.str y)))) M)=_;have e:eqD (.str x) (.str y)=decide (x=y):=by show(x==y)=_;by_cases h:x=y<;>simp[h]
 rw[e];exact propext ⟨λh=>h.2.2,λh=>⟨rfl,rfl,h⟩⟩
def isK (K:Frag)(c:Value)(d:D)(M:DM)(Q:DQ):Prop:=(∃T k,tyD d = some T/\kitOne K (.type T) c = some k/\Q (.bl k) M)∨(∃(p:Addr)(xs:List D) (k:Bool),d = .ref p/\M p = some xs/\kitOne K (.type "list") c=some k/\Q (.bl k) M)
theorem aKf {K:Frag}{c:Value}{te:DE}{ρ:cP}:dIs K c te ρ M Q=te ρ M λd M1=>isK K c d M1 Q:=rfl
theorem aGR {K:Frag}{c:Value}{p:Addr}{xs:List D}{k:Bool}(h:M p = some xs)(e:kitOne K (.type "list") c=some k)(q:Q (.bl k) M):isK K c (.ref p) M Q:=.inr ⟨p,xs,k,rfl,h,e,q⟩
end
end Dd
namespace L2
open PySem PySem.Spec PyProof.Rows
noncomputable def clo (cells:List (Str×Addr)):List (Str×NameKind)->List (Str×Addr)->List (Str×Addr)
 |[],cs=>cs
 |(n,k)::r,cs=>clo cells r (if k == .free then (n,(cells.lookup n).getD 0)::cs else cs)
noncomputable def aAz (env:Env)(x:Str×NameKind)(r:List (Str×Addr)):Sem (ForInStep (List (Str×Addr))) :=
 if (x.2==NameKind.free)=true then do let a <- cellOf env x.1;pure (ForInStep.yield ((x.1,a)::r)) else pure (ForInStep.yield r)
theorem aAB {env:Env}:∀(names:List (Str×NameKind)) (cs:List (Str×Addr)),(∀y∈names,y.2=.free->∃c,env.cells.lookup y.1=some c)->(forIn names cs (aAz env):Sem (List (Str×Addr)))=pure (clo env.cells names cs)
 |[],cs,_=>rfl
 |(n,k)::r,cs,hh=>by
  rw[List.forIn_cons];have ih:=λcs=>aAB (env:=env) r cs λz hz=>hh z (mem_cons_of_mem _ hz);cases hk:k==NameKind.free with
  |true =>
   have hf:k=.free:=by simpa using hk
   obtain⟨c,hc⟩:=hh (n,k) mem_cons_self hf;have hc:env.cells.lookup n=some c:=hc;have e:aAz env (n,k) cs=pure (ForInStep.yield ((n,c)::cs)):=by unfold aAz;rw[if_pos hk];show(cellOf env n >>= _)=_;unfold cellOf;rw[hc];rfl
   rw[e];refine Eq.trans (b:=(forIn r ((n,c)::cs) (aAz env):Sem (List (Str×Addr)))) rfl ?_;rw[ih];show _=pure (clo env.cells r (if k == .free then (n,(env.cells.lookup n).getD 0)::cs else cs));rw[hk,if_pos rfl,hc];rfl
  |false =>
   have e:aAz env (n,k) cs=pure (ForInStep.yield cs):=by unfold aAz;rw[if_neg (by rw[hk];decide)]
   rw[e];refine Eq.trans (b:=(forIn r cs (aAz env):Sem (List (Str×Addr)))) rfl ?_;rw[ih];show _=pure (clo env.cells r (if k == .free then (n,(env.cells.lookup n).getD 0)::cs else cs));rw[hk,if_neg (by decide)]
theorem tR {scope:Scope}{env:Env}(h:∀y∈scope.names,y.2=.free->∃c,env.cells.lookup y.1=some c):closureFor scope env=pure (clo env.cells scope.names []):=by have e:closureFor scope env=((forIn scope.names [] (aAz env):Sem (List (Str×Addr))) >>= λcs=>pure cs):=rfl;rw[e,aAB _ _ h];rfl
theorem aCm {cells:List (Str×Addr)}{x:Str}{c:Addr}:∀{names:List (Str×NameKind)}{cs:List (Str×Addr)},(∀y∈names,y.2=.free->∃c,cells.lookup y.1=some c)->(cs.lookup x=some c->cells.lookup x=some c)->(clo cells names cs).lookup x=some c->cells.lookup x=some c
 |[],cs,_,h,e=>h e
 |(n,k)::r,cs,hh,h,e=>by
  unfold clo at e;refine aCm (λy hy=>hh y (mem_cons_of_mem _ hy)) (λe2=>?_) e;cases hk:k==NameKind.free with
  |false=>rw[hk,if_neg (by decide)] at e2;exact h e2
  |true =>
   rw[hk,if_pos rfl] at e2;have hk':k=.free:=by simpa using hk
   obtain⟨c',hc'⟩:=hh (n,k) mem_cons_self hk';have hc':cells.lookup n=some c':=hc';rw[lookup_cons] at e2;cases hx:x==n with
   |true =>
    rw[hx] at e2;have:x=n:=by simpa using hx
    subst this;rw[hc'] at e2 ⊢;exact e2
   |false=>rw[hx] at e2;exact h e2
theorem yI {cells:List (Str×Addr)}{x:Str}:∀{names:List (Str×NameKind)}{cs:List (Str×Addr)},((x,NameKind.free)∈names ∨ ∃c,cs.lookup x=some c)->∃c,(clo cells names cs).lookup x=some c
 |[],cs,h=>by
  rcases h with h|h
  ·exact nomatch h
  ·exact h
 |(n,k)::r,cs,h=>by
  unfold clo;refine yI ?_;have ins:∀{v:Addr},(∃c,cs.lookup x=some c)->∃c,((n,v)::cs).lookup x=some c:=λ{v} ⟨c,e⟩=>by
   rw[lookup_cons];cases x==n with
   |true=>exact⟨_,rfl⟩
   |false=>exact⟨c,e⟩
  rcases h with h|h
  ·rcases List.mem_cons.mp h with e|e
   ·cases e;refine .inr ⟨_,by rw[if_pos (by rfl),lookup_cons,beq_self_eq_true]⟩
   ·exact .inl e
  ·cases hk:k==NameKind.free with
   |true=>rw[if_pos rfl];exact .inr (ins h)
   |false=>rw[if_neg (by decide)];exact .inr h
theorem uB {g:Str->NameKind->NameKind}{x:Str}:∀{names:List (Str×NameKind)},(names.map λp=>(p.1,g p.1 p.2)).lookup x=(names.lookup x).map (g x)
 |[]=>rfl
 |(n,k)::r=>by
  rw[map_cons,lookup_cons,lookup_cons];cases hx:x==n with
  |true =>
   have:x=n:=by simpa using hx
   subst this;rfl
  |false=>exact uB
theorem nI {scope:Scope}{env:Env}{x:Str}:(relabel scope env).names.lookup x=(scope.names.lookup x).map λk=>if (k==NameKind.free&&env.scope.kind == .function&&env.kindOf x==some .cell)=true then .cell else k:=by rw[<- uB (g:=λx k=>if (k==NameKind.free&&env.scope.kind == .function&&env.kindOf x==some .cell)=true then .cell else k)];unfold relabel;dsimp only;congr 1;refine List.map_congr_left λp _=>?_;obtain⟨n,k⟩:=p;dsimp only;split<;>rfl
noncomputable abbrev Cx.blk (X:Cx)(N':List Str)(scope:Scope)(C:Addr)(s:Shared)(H:Hp)(fp:List Addr)(pins:List (Addr×Obj)):Cx :=
 { X with N:=N',s₀:=s,H₀:=H,env:=compEnvC scope (clo X.env.cells scope.names []) C X.env,outer:=X.stack,ex:=fp,fn:=λ_=>false,pn:=X.pn++pins,xe:=λ_ _=>False }
structure eO (X:Cx)(N':List Str)(fr:List (Option Nat))(scope:Scope):Prop where
 kind:scope.kind=.function
 nocell:∀y∈scope.names,y.2 ≠ .cell
 names:∀y∈scope.names,y.2=.local->scope.names.lookup y.1=some .local
 free:∀y∈scope.names,y.2=.free->X.env.scope.names.lookup y.1=some .cell
 len:fr.length=N'.length
 at':∀(i j:Nat)(x:Str),N'[i]?=some x->fr[i]?=some (some j)->X.N[j]?=some x/\scope.names.lookup x=some .free
structure rB (oN:List Str)(osc:Scope)(N':List Str)(fr:List (Option Nat))(scope:Scope):Prop where
 kind:scope.kind=.function
 nocell:∀y∈scope.names,y.2 ≠ .cell
 names:∀y∈scope.names,y.2=.local->scope.names.lookup y.1=some .local
 free:∀y∈scope.names,y.2=.free->osc.names.lookup y.1=some .cell
 len:fr.length=N'.length
 at':∀p∈N'.zip fr,∀j∈p.2,oN[j]?=some p.1/\scope.names.lookup p.1=some .free
theorem rB.scope {X:Cx}{oN:List Str}{osc:Scope}{N':List Str}{fr:List (Option Nat)}{scope:Scope}(B:rB oN osc N' fr scope)(hN:X.N=oN)(ho:X.env.scope=osc):eO X N' fr scope:=by
 subst hN ho;refine⟨B.kind,B.nocell,B.names,B.free,B.len,λi j x h1 h2=>?_⟩;have:(x,some j)∈N'.zip fr:=by refine mem_of_getElem? (i:=i) ?_;rw[List.getElem?_zip_eq_some];exact⟨h1,h2⟩
 exact B.at' _ this j rfl
noncomputable def oS (fr:List (Option Nat))(σ:St):St:=fr.map λo=>match o with
 |some j=>(σ[j]?).join
 |none=>none
section
variable {X:Cx}{pins:List (Addr×Obj)}{σ:St}{H:Hp}{s:Shared}{N':List Str}{fr:List (Option Nat)}{scope:Scope}{C:Addr}{fp:List Addr}
theorem eO.hasC (S:eO X N' fr scope)(ok:X.Ok):∀y∈scope.names,y.2=.free->∃c,X.env.cells.lookup y.1=some c:=λy hy e=>ok.has y.1 (.inl (S.free y hy e))
theorem eO.sub (S:eO X N' fr scope)(ok:X.Ok){x:Str}{c:Addr}(h:(clo X.env.cells scope.names []).lookup x=some c):X.env.cells.lookup x=some c:=aCm (S.hasC ok) (λz=>by cases z) h
theorem aB9 (S:eO X N' fr scope)(I:Inv X pins σ H s){h':Heap}{m:Str->Option Value}(k:∀x c v,(clo X.env.cells scope.names []).lookup x=some c->s.heap.IsCell c v->h'.IsCell c v) :
  ∀(i:Nat)(x:Str) (v:V),N'[i]?=some x->(oS fr σ)[i]?=some (some v)->∃u,RelV v u/\aLb (compEnvC scope (clo X.env.cells scope.names []) C X.env) h' m x u:=by
 intro i x v hx hv;unfold oS at hv;rw[getElem?_map] at hv;cases hf:fr[i]? with
 |none=>rw[hf] at hv;cases hv
 |some o =>
  rw[hf] at hv;cases o with
  |none=>cases hv
  |some j =>
   have hv:(σ[j]?).join=some v:=Option.some.inj hv;obtain⟨hN,hfree⟩:=S.at' i j x hx hf;have hσ:σ[j]?=some (some v):=by
    cases e:σ[j]? with
    |none=>rw[e] at hv;cases hv
    |some o=>rw[e] at hv;rw[show o=some v from hv]
   have hmem:(x,NameKind.free)∈scope.names:=PySem.mem_of_lookup hfree;have hcell:=S.free _ hmem rfl;obtain⟨mm,_,hl⟩:=I.loc;obtain⟨u,r,l⟩:=hl j x v hN hσ (.inr (.inl hcell));refine⟨u,r,.inr ⟨.inl ?_,?_⟩⟩
   ·show(relabel scope X.env).names.lookup x=some .cell;rw[nI,hfree];have h1:X.env.scope.kind=.function:=I.ok.kind;have h2:X.env.kindOf x=some .cell:=hcell;rw[h1,h2];rfl
   ·rcases l with⟨k1,_⟩|⟨_,c,e,z⟩
    ·have:X.env.scope.names.lookup x=some .local:=k1;rw[hcell] at this;cases this
    ·obtain⟨c',e'⟩:=yI (cells:=X.env.cells) (x:=x) (names:=scope.names) (cs:=[]) (.inl hmem);have e2:=S.sub I.ok e';rw[e] at e2;cases e2;exact⟨c,e',k x c _ e' z⟩
theorem aCJ (S:eO X N' fr scope)(I:Inv X pins σ H s)(hf:∀b∈fp,yD X pins H b)(ho:∀b∈fp,∃o,s.heap.get? b=some o){s1:Shared}{m:Str->Option Value}(hos:s1.os=s.os)(hg:s1.gens=s.gens)(hC:s.heap.objs.size<=C)(k:∀b o,s.heap.get? b=some o->s1.heap.get? b=some o)(hn:s1.heap.Ns C m) :
  Inv (X.blk N' scope C s H fp pins) [] (oS fr σ) H s1:=by
 have lt:∀b o,s.heap.get? b=some o->b≠C:=λb o e=>Nat.ne_of_lt (Nat.lt_of_lt_of_le (Heap.lt_size e) hC);have stk:∀b,b≠X.env.locals->b∉X.fs->b∉frs X.stack:=λb h1 h2 hb=>(List.mem_cons.mp (I.stkSub b hb)).elim h1 h2;have cellK:∀x c v,(clo X.env.cells scope.names []).lookup x=some c->s.heap.IsCell c v->s1.heap.IsCell c v:=λx c v _ ⟨o,e,d⟩=>⟨o,k c o e,d⟩;refine⟨⟨I.ok.mod,S.kind,I.ok.glob,I.ok.blt,hC,λx y c h1 h2=>I.ok.inj x y c (S.sub I.ok h1) (S.sub I.ok h2),λx hx=>?_,(λx c z=>by cases z),I.ok.hd,I.ok.frames,.inl rfl,λb hb=>?_,I.bs,Nat.le_trans I.ok.bsz I.sz,λb o e hb=>?_,λb hb=>?_,I.stack,I.stkFree⟩,
  hos,by rw[hg];exact I.bare,Un.kept k,⟨m,hn,λi x v h1 h2 _=>aB9 S I cellK i x v h1 h2⟩,λx c e=>?_,I.hok.fresh hC,λx c e=>I.freeC x c (S.sub I.ok e),λp hp=>?_,I.hok.kept k,?_⟩
 ·have hx:(relabel scope X.env).names.lookup x=some .cell∨(relabel scope X.env).names.lookup x=some .free:=hx;rw[nI] at hx;have hfree:(x,NameKind.free)∈scope.names:=by
   cases e:scope.names.lookup x with
   |none=>rw[e] at hx;rcases hx with z|z<;>cases z
   |some kk =>
    rw[e] at hx;have hm:=PySem.mem_of_lookup e;cases kk with
    |free=>exact hm
    |cell=>exact absurd rfl (S.nocell _ hm)
    |_=>rcases hx with z|z<;>cases z
  exact yI (.inl hfree)
 ·obtain⟨o,e⟩:=ho b hb;obtain⟨_,_,_,_,f4,_⟩:=hf b hb;exact⟨lt b o e,λx c z=>f4 x c (S.sub I.ok z)⟩
 ·obtain⟨_,_,_,f3,_⟩:=hf b hb;rcases f3 with z|z
  ·exact I.ok.noex b o e z
  ·exact absurd (Nat.lt_of_lt_of_le (Heap.lt_size e) (Nat.le_trans I.ok.bsz z)) (Nat.lt_irrefl _)
 ·obtain⟨_,f1,f2,_⟩:=hf b hb;exact stk b f1 f2
 ·obtain⟨v,z⟩:=I.cell x c (S.sub I.ok e);exact⟨v,cellK x c v e z⟩
 ·rw[append_nil] at hp;obtain⟨e,n,ne,nf,d⟩:=I.pin p hp;exact⟨k p.1 p.2 e,n,lt p.1 p.2 e,stk p.1 ne nf,d⟩
 ·unfold oS;rw[length_map];exact S.len
theorem tE (S:eO X N' fr scope){s1:Shared}{H1:Hp}{σ1:St}{pl:List (Addr×Obj)}(I:Inv X pins σ H s)(J:Inv (X.blk N' scope C s H fp pins) pl σ1 H1 s1):Inv (X.blk N' scope C s H fp pins) pl (oS fr σ) H1 s1:=by
 obtain⟨m,hn,_⟩:=id J.loc;refine⟨J.ok,J.os,J.bare,J.base,⟨m,hn,λi x v h1 h2 _=>aB9 S I (λx c v e z=>?_) i x v h1 h2⟩,J.cell,J.free,J.freeC,J.pin,J.hok,?_⟩
 ·obtain⟨o,eo,d⟩:=z;have e':=S.sub I.ok e;have hfree:=I.freeC x c e';have nex:c∉fp:=λhb=>(J.ok.exf c hb).2 x c e rfl;by_cases hfs:c∈frs X.stack
  ·obtain⟨sl,q⟩:=J.base.slot c o eo hfree hfs nex;exact⟨_,q,d⟩
  ·exact⟨o,J.base.keep c o eo hfree hfs nex,d⟩
 ·unfold oS;rw[length_map];exact S.len
end
section
variable {prog:Program}{w:World}{A:Around}{R:Result->Shared->Prop}{s:Shared}
theorem oJ {elt target iter:Expr}{scope:Scope}{pos:Pos}{it acc:Value}{env:Env}(I:Nat->Shared->Prop)(turn:∀n s,I n s->wpAny (model prog w) A (pyNext it) (λr s₁=>match r with
   |none=>R (.ok .next) s₁
   |some v=>wpAny (model prog w) A (letOwnedTupleGo target it v) (λ_ s₁'=>wpAny (model prog w) A (assign target env v) (λ_ s₂=>wpAny (model prog w) A (eval elt env) (λx s₃ =>
     wpAny (model prog w) A (call (.builtin "list.append") [acc,x]) (λ_ s₄=>∃m,m<n/\I m s₄) (λ_ _=>False) s₃)
     (λ_ _=>False) s₂) (λ_ _=>False) s₁') (λ_ _=>False) s₁) (λ_ _=>False) s)(n:Nat)(h:I n s):codeAny (model prog w) A (.compLoop (.ListComp elt [⟨target,iter,[],0⟩] scope pos) 0 it acc env) R s:=by
 refine codeAny_loop rfl I (λn s hI=>?_) n h;show wpAny _ _ ((compTurn (.ListComp elt [⟨target,iter,[],0⟩] scope pos) 0 it acc env).onRaise (λx=>do noteFrame x env;theTreesLotGoes x)) _ _ s;refine wpAny_noted ?_;rw[compTurn_list1];refine wpAny_bind (wpAny_standAt (wpAny_bind (wpAny_mono (turn n s hI) (λr s₁ h₁=>?_) λ_ _ h'=>h'.elim)));cases r with
 |none=>exact wpAny_pure h₁
 |some v =>
  exact wpAny_bind (wpAny_mono h₁ (λ_ s₁' h₁'=>wpAny_bind (wpAny_mono h₁' (λ_ s₂ h₂=>wpAny_bind (wpAny_bind (wpAny_mono h₂ (λx s₃ h₃=>wpAny_bind (wpAny_mono h₃
   (λ_ s₄ h₄=>wpAny_pure (wpAny_pure ⟨rfl,h₄⟩)) λ_ _ h'=>h'.elim)) λ_ _ h'=>h'.elim))) λ_ _ h'=>h'.elim)) λ_ _ h'=>h'.elim)
end
theorem Inv.track {X:Cx}{pins:List (Addr×Obj)}{σ:St}{H:Hp}{s:Shared}{d:Addr}{ys:List V}(I:Inv X pins σ H s)(hn:H d=none)(hs:X.s₀.heap.objs.size<=d)(hL:d≠X.env.locals)(hc:∀x c,X.env.cells.lookup x=some c->c≠d)(hp:∀p∈X.pn++pins,p.1≠d)(new:fR X.prog X.w (upd H d (.lst ys)) s.heap d (.lst ys)):Inv X pins σ (upd H d (.lst ys)) s:=by
 have ne0:∀b o,X.s₀.heap.get? b=some o->b≠d:=λb o e=>Nat.ne_of_lt (Nat.lt_of_lt_of_le (Heap.lt_size e) hs);refine⟨I.ok,I.os,I.bare,⟨I.base.keep,I.base.slot,λb o e n hx=>?_,I.base.there,λb xs e=>?_,λb o u e=>?_,λb ps e=>?_⟩,I.loc,I.cell,?_,λx c e=>?_,λp hpp=>?_,λb u e=>?_,I.len⟩
 ·rw[aL (ne0 b o e)];exact I.base.free b o e n hx
 ·have:=I.base.tups b xs e;rw[aL (aU this hn)];exact this
 ·have:=I.base.frzs b o u e;rw[aL (aU this hn)];exact this
 ·obtain⟨more,q⟩:=I.base.tbls b ps e;exact⟨more,by rw[aL (aU q hn)];exact q⟩
 ·rw[aL (Ne.symm hL)];exact I.free
 ·rw[aL (hc x c e)];exact I.freeC x c e
 ·obtain⟨e,n,r⟩:=I.pin p hpp;exact⟨e,by rw[aL (hp p hpp)];exact n,r⟩
 ·by_cases hb:b=d
  ·subst hb;rw[bI] at e;cases e;exact new
  ·rw[aL hb] at e;exact(I.hok b u e).stay (λc v _ q=>q) (λc q=>by rw[aL (aU q hn)];exact q) λc xs q=>by rw[aL (aU q hn)];exact q
def tLc (wi:TI)(fr:List (Option Nat))(g:TG)(te:TE):TE:=λσ H Q=>wi σ H λJ H1=>∃W:Nat->Nat->List V->Hp->Prop,(∃m,W 0 m [] H1)/\∀i m ys H,W i m ys H ->
 (J.stop i H/\ys.length<=sizeLine/\∀p,H p=none->Q (.ref p) (upd H p (.lst ys))) ∨
 (J.go i H/\ys.length<=sizeLine/\∀x H',J.yld i H x H'->g x (oS fr σ) H' λσ2 H2=>te σ2 H2 λy H3=>∃m',m'<m/\W (i+1) m' (ys++[y]) H3)
structure CF (X:Cx)(pins:List (Addr×Obj))(H:Hp)(C:Addr):Prop where
 none:H C=none
 loc:C≠X.env.locals
 sz:X.s₀.heap.objs.size<=C
 cel:∀x c,X.env.cells.lookup x=some c->c≠C
 pin:∀p∈X.pn++pins,p.1≠C
theorem aCa {X:Cx}{elt iter tg:Expr}{scope:Scope}{pos pos2:Pos}{N':List Str}{fr:List (Option Nat)}{wi:TI}{g:TG}{te:TE}(S:eO X N' fr scope)(hc:X.calm=true)(hi:PI X tg iter wi)(hg:∀C s H fp pins,PG (X.blk N' scope C s H fp pins) tg g)(he:∀C s H fp pins,PE (X.blk N' scope C s H fp pins) elt te)(hs:∀x,foldedSetIterable iter X.env x=pure x){pins:List (Addr×Obj)}{s:Shared}{σ:St}{H:Hp}{Q:VK}(I:Inv X pins σ H s)(h:tLc wi fr g te σ H Q)(use:Option (Value->Sem Unit))(Post:Value->Shared->Prop)(fin:∀D C H' s4 m,Inv X pins σ H' s4->s4.heap.Ns C m->CF X pins H' C->Q (.ref D) H'->compPost (model X.prog X.w) X.A X.xe use Post (.ref D) C (.ok .next) s4) :
  wpAny (model X.prog X.w) X.A (comprehension (.ListComp elt [⟨tg,iter,[],0⟩] scope pos) scope X.env pos2 (newList []) false (eval iter X.env) use) Post X.xe s:=by
 refine wpAny_comprehension_free (use:=use) rfl hs (tR (S.hasC I.ok)) S.kind S.names ?_;show wpAny _ _ (eval iter X.env) _ _ s;refine thn (hi pins s σ H _ I h) λv s1 h1=>thn h1 λitv s2 h2=>?_;obtain⟨it,fp,tn,J,H2,e,I2,T,st2,f2,W,⟨m0,w0⟩,turn⟩:=h2;subst e;refine wpAny_newObj_type (wpAny_newFunctionEnv S.nocell (by intro y hy;simp at hy) (λh₁ hns₁ hsb₁=>?_) S.kind);dsimp only at hns₁ hsb₁ ⊢;generalize hHp:s2.heap.push { cls:=.type "list",dict:=none,data:=.seq ([]:List Value).toArray }=HP at hns₁ hsb₁ ⊢;have hC:HP.objs.size=s2.heap.objs.size+1:=by rw[<- hHp,Heap.size_push]
 generalize hCe:HP.objs.size=C at hns₁ hsb₁ ⊢;generalize hDe:s2.heap.objs.size=D at hC ⊢;have hDC:D≠C:=by omega
 have hCle:s2.heap.objs.size<=C:=by omega
 have old:∀b o,s2.heap.get? b=some o->h₁.get? b=some o:=λb o e=>hsb₁.extBut b o (Nat.ne_of_lt (Nat.lt_of_lt_of_le (Heap.lt_size e) hCle)) (Heap.get?_push_of_some _ (hHp ▸ Heap.get?_push_of_some _ e));have hD1:h₁.PlainList D #[]:=⟨_,by refine hsb₁.extBut _ _ hDC (Heap.get?_push_of_some _ ?_);rw[<- hHp,<- hDe];exact Heap.get?_push_size _ rfl⟩
 have ltf:∀b∈fp,b<D:=λb hb=>by obtain⟨o,e,_⟩:=T.obj _ _ st2 b hb;exact Nat.lt_of_lt_of_eq (Heap.lt_size e) hDe
 have J0:=aCJ (s1:={ s2 with heap:=h₁,toks:=s2.toks+([]:List (Str×Value)).length }) S I2 f2 (λb hb=>let ⟨o,e,_⟩:=T.obj _ _ st2 b hb;⟨o,e⟩) rfl rfl hCle old hns₁;have ltC:∀b,b<D->b≠C:=λb hb=>Nat.ne_of_lt (Nat.lt_of_lt_of_le hb (by rw[<- hDe];exact hCle));have old2:∀b o,s2.heap.get? b=some o->b<D:=λb o e=>Nat.lt_of_lt_of_eq (Heap.lt_size e) hDe;have neD:∀b o,s2.heap.get? b=some o->b≠D:=λb o e=>Nat.ne_of_lt (old2 b o e);have hDs:s2.heap.objs.size<=D:=Nat.le_of_eq hDe;have hDfs:D∉frs X.stack:=λhb=>by
  rcases List.mem_cons.mp (I2.stkSub D hb) with z|z
  ·have:=I2.lt;rw[<- z] at this;exact absurd (Nat.lt_of_lt_of_le this hDs) (Nat.lt_irrefl _)
  ·exact I2.nofs hDs z
 have cellD:∀x c,X.env.cells.lookup x=some c->c≠D/\c≠C:=λx c e=>by obtain⟨v,o,ho,_⟩:=I2.cell x c e;exact⟨neD c o ho,ltC c (old2 c o ho)⟩
 have pinD:∀p∈X.pn++pins,p.1≠D/\p.1≠C:=λp hp=>by have e:=(I2.pin p hp).1;exact⟨neD _ _ e,ltC _ (old2 _ _ e)⟩
 have fpok:∀(pl:List (Addr×Obj)) (H':Hp),(∀b∈fp,H' b=none)->(∀p∈pl,∀b∈fp,p.1≠b)->∀b∈fp,yD (X.blk N' scope C s2 H2 fp pins) pl H' b:=λpl H' hn hpl b hb=>by
  refine⟨hn b hb,ltC b (ltf b hb),J0.ok.exfs b hb,.inl hb,(J0.ok.exf b hb).2,λp hp=>?_⟩;rcases List.mem_append.mp hp with z|z
  ·exact(f2 b hb).2.2.2.2.2 p z
  ·exact hpl p z b hb
 have loop:codeAny (model X.prog X.w) X.A (.compLoop (.ListComp elt [⟨tg,iter,[],0⟩] scope pos) 0 (.ref it) (.ref D) (compEnvC scope (clo X.env.cells scope.names []) C X.env))
   (compPost (model X.prog X.w) X.A X.xe use Post (.ref D) C) { s2 with heap:=h₁,toks:=s2.toks+([]:List (Str×Value)).length }:=by
  refine oJ (λn s'=>∃i H' ys its,Inv (X.blk N' scope C s2 H2 fp pins) [] (oS fr σ) H' s'/\tn i s'.heap/\(∀b∈fp,H' b=none)/\s'.heap.PlainList D its/\H' D=none/\bU ys its.toList/\W i n ys H') ?_ m0
   ⟨0,H2,[],#[],J0,T.keep _ _ _ st2 λb hb o e=>old b o e,λb hb=>(f2 b hb).1,hD1,I2.hok.fresh hDs,.nil,w0⟩
  rintro n s3 ⟨i,H3,ys,its,I3,st3,fr3,⟨nn,pl3⟩,hD3,rv3,w3⟩;have I3p:Inv (X.blk N' scope C s2 H2 fp pins) [(D,{ cls:=.type "list",data:=.seq its nn })] (oS fr σ) H3 s3:=I3.pins_of λp hp=>by have e:=List.mem_singleton.mp hp;subst e;exact⟨pl3,hD3,hDC,hDfs,λv z=>by cases z⟩
  have pf:∀p∈[((D,{ cls:=.type "list",data:=.seq its nn }):Addr×Obj)],∀b∈fp,p.1≠b:=λp hp b hb=>by have e:=List.mem_singleton.mp hp;subst e;exact(Nat.ne_of_lt (ltf b hb)).symm
  rcases turn i n ys H3 w3 with⟨stop,hz,q⟩|⟨go,hz,step⟩
  ·refine thn (T.done (X.blk N' scope C s2 H2 fp pins) rfl rfl rfl hc i _ s3 _ H3 (λ_ _=>False) I3p (fpok _ H3 fr3 pf) st3 stop) λr s4 ⟨hr,I4⟩=>?_;subst hr;obtain⟨mm,hn4,_⟩:=id I4.loc;have pD:=(I4.pin _ (mem_append_right _ mem_cons_self)).1;have IX:Inv X pins σ H3 s4:=I2.call' I4.os I4.base I4.hok I4.bare λb hb=>⟨(f2 b hb).2.2.2.1,(f2 b hb).2.1,(f2 b hb).2.2.2.2.1,(f2 b hb).2.2.2.2.2⟩;have CL:C≠X.env.locals:=(Nat.ne_of_lt (Nat.lt_of_lt_of_le I2.lt hCle)).symm;have DL:D≠X.env.locals:=(Nat.ne_of_lt (Nat.lt_of_lt_of_le I2.lt hDs)).symm;refine fin D C (upd H3 D (.lst ys)) s4 mm (IX.track hD3 (Nat.le_trans I2.sz hDs) DL (λx c e=>(cellD x c e).1) (λp hp=>(pinD p hp).1) ⟨hz,its.toList,nn,rv3,pD⟩) hn4 ⟨by rw[aL (Ne.symm hDC)];exact I4.free,CL,Nat.le_trans I2.sz hCle,λx c e=>(cellD x c e).2,λp hp=>(pinD p hp).2⟩ (q D hD3)
  ·refine thn (T.item (X.blk N' scope C s2 H2 fp pins) rfl rfl rfl hc i _ s3 _ H3 (λ_ _=>False) I3p (fpok _ H3 fr3 pf) st3 go) λr s4 ⟨u,hr,h4⟩=>?_;subst hr;refine thn h4 λ_ s5 ⟨x,H5,I5,r5,y5,st5,fr5⟩=>?_;have I5':=I5.pinned (fpok _ H5 fr5 pf) (T.obj _ _ st5);refine thn (hg C s2 H2 fp pins _ s5 _ H5 x u _ I5' r5 (step x H5 y5)) λ_ s6 ⟨σ6,H6,I6,q6⟩=>?_;refine thn (he C s2 H2 fp pins _ s6 σ6 H6 _ I6 q6) λyv s7 ⟨y,H7,I7,ry,m',hm,w7⟩=>?_;obtain⟨pD,nD,_⟩:=I7.pin _ (mem_append_right _ (mem_append_left _ mem_cons_self));have lz:its.size<=sizeLine:=by
    have e:ys.length=its.size:=by rw[rv3.length];simp
    rw[<- e];exact hz
   refine wpAny_list_append_plain (hsz:=lz) ⟨nn,pD⟩ λh8 pl8 sb8=>?_;have I7a:Inv (X.blk N' scope C s2 H2 fp pins) [] σ6 H7 s7:=I7.pins_of λp hp=>nomatch hp;have I8:Inv (X.blk N' scope C s2 H2 fp pins) [] σ6 H7 { s7 with heap:=h8,toks:=s7.toks }:=I7a.turned (it:=D) (λb o hb e=>sb8.extBut b o hb e) nD hDC (.inr hDs) (λx c e=>(cellD x c (S.sub I2.ok e)).1) λp hp=>by rw[append_nil] at hp;exact(pinD p hp).1
   refine⟨m',hm,i+1,H7,ys++[y],its.push yv,tE S I2 I8,?_,λb hb=>?_,pl8,nD,?_,w7⟩
   ·refine T.keep _ _ _ st5 λb hb o e=>sb8.extBut b o (Nat.ne_of_lt (ltf b hb)) (I7.pin (b,o) (mem_append_right _ (mem_append_right _ (fL hb e)))).1
   ·obtain⟨o,e,d⟩:=T.obj _ _ st5 b hb;exact(I7.pin (b,o) (mem_append_right _ (mem_append_right _ (fL hb e)))).2.1
   ·rw[Array.toList_push];exact rv3.append (.cons ry .nil)
 exact codeAny_compStart_list loop (T.self _ _ _ _ _ (T.keep _ _ _ st2 λb hb o e=>old b o e) loop)
theorem aLv {X:Cx}{elt iter tg:Expr}{scope:Scope}{pos:Pos}{N':List Str}{fr:List (Option Nat)}{wi:TI}{g:TG}{te:TE}(S:eO X N' fr scope)(hc:X.calm=true)(hi:PI X tg iter wi)(hg:∀C s H fp pins,PG (X.blk N' scope C s H fp pins) tg g)(he:∀C s H fp pins,PE (X.blk N' scope C s H fp pins) elt te)(hs:∀x,foldedSetIterable iter X.env x=pure x:=by intro _;rfl) :
  PE X (.ListComp elt [⟨tg,iter,[],0⟩] scope pos) (tLc wi fr g te):=by
 intro pins s σ H Q I h;rw[eval_ListComp];refine aCa S hc hi hg he hs I h none (EP X pins σ Q) λD C H' s4 m J hn F q=>⟨m,hn,λh' sb=>?_⟩;exact⟨.ref D,H',J.turned (t':=s4.toks) (it:=C) (λb o hb e=>sb.extBut b o hb e) F.none F.loc (.inr F.sz) F.cel F.pin,rfl,q⟩
theorem aEs {X:Cx}{elt iter tg:Expr}{scope:Scope}{pos spos py:Pos}{N':List Str}{fr:List (Option Nat)}{wi:TI}{g:TG}{te:TE}{i:Nat}{y:Str}(S:eO X N' fr scope)(hc:X.calm=true)(hN:X.N.Nodup)(hi:PI X tg iter wi)(hg:∀C s H fp pins,PG (X.blk N' scope C s H fp pins) tg g)(he:∀C s H fp pins,PE (X.blk N' scope C s H fp pins) elt te)(hy:X.N[i]?=some y)(hx:Loc X.env.scope y)(hsw:swapsWith (.ListComp elt [⟨tg,iter,[],0⟩] scope pos) (some (.Name y py)) spos.line X.env=pure true)(hf:X.fn y=true∨X.env.scope.names.lookup y=some .local)(hs:∀x,foldedSetIterable iter X.env x=pure x) :
  PS X (.Assign [.Name y py] (.ListComp elt [⟨tg,iter,[],0⟩] scope pos) spos) (λD σ H=>tLc wi fr g te σ H λv H'=>D.nx (σ.set i (some v)) H'):=by
 intro pins s σ H D I h;rw[exec_Assign_Name_used _ _ _ _ hsw];refine wpAny_bind (wpAny_standAt (wpAny_bind ?_));show wpAny _ X.A (do let _ <- comprehension (.ListComp elt [⟨tg,iter,[],0⟩] scope pos) scope X.env _ (newList []) false (eval iter X.env) (some (assign (.Name y py) X.env))) _ _ s;refine wpAny_bind (wpAny_mono (aCa S hc hi hg he hs I h (some (assign (.Name y py) X.env)) (λ_ s'=>SP X pins D .next s') λD' C H' s4 m J hn F q=>?_) (λ_ s' hq=>wpAny_pure (wpAny_pure hq)) λ_ _ e=>e);show wpAny _ X.A (assign (.Name y py) X.env (.ref D')) _ _ s4;refine wpAny_assign_Name (xO J hN hy hx (v:=.ref D') rfl (λs5 I5 ⟨a,sb,ha⟩=>?_) hf);have hCa:C≠a:=by
  rcases ha with rfl|ha
  ·exact F.loc
  ·exact(F.cel y a ha).symm
 refine⟨m,hn.sameBut sb hCa,λh' sb'=>?_⟩;exact⟨_,H',I5.turned (t':=s5.toks) (it:=C) (λb o hb e=>sb'.extBut b o hb e) F.none F.loc (.inr F.sz) F.cel F.pin,q⟩
end L2
namespace Dd
open PySem PySem.Spec PyProof.Rows L2
noncomputable def uC (fr:List (Option Nat))(ρ:cP):cP:=fr.map λo=>match o with
 |some j=>(ρ[j]?).join
 |none=>none
section
variable {K:Frag}{H:Hp}{ρ:cP}{σ:L2.St}
theorem aAy (re:gS K H ρ σ)(fr:List (Option Nat)):gS K H (uC fr ρ) (oS fr σ):=by
 refine⟨by unfold uC oS;rw[length_map,length_map],λi d e=>?_⟩;unfold uC at e;unfold oS;rw[getElem?_map] at e ⊢;cases hf:fr[i]? with
 |none=>rw[hf] at e;cases e
 |some o =>
  rw[hf] at e;cases o with
  |none=>cases e
  |some j =>
   have e:(ρ[j]?).join=some d:=Option.some.inj e;have e2:ρ[j]?=some (some d):=by
    cases h:ρ[j]? with
    |none=>rw[h] at e;cases e
    |some o=>rw[h] at e;rw[show o=some d from e]
   obtain⟨v,hv,r⟩:=re.get j d e2;refine⟨v,?_,r⟩;show some (σ[j]?).join=some (some v);rw[hv];rfl
end
def aGp (at':Option Addr)(ds:List D)(ρ0:cP)(g:DG)(te:DE)(M:DM)(Q:DQ):Prop:=ds.length<=1000/\∃Pv:Nat->List D->DM->Prop,Pv 0 [] M /\
 (∀i ys M,i<=ds.length->Pv i ys M->∀a,at'=some a->M a=some ds) /\
 (∀i d ys M,ds[i]?=some d->Pv i ys M->g d ρ0 M λρ2 M2=>te ρ2 M2 λy M3=>Pv (i+1) (ys++[y]) M3) /\
 ∀ys M,ys.length=ds.length->Pv ds.length ys M->∀p:Addr,M p=none->Q (.ref p) (aX M p ys)
def aEK (tl:DE)(fr:List (Option Nat))(g:DG)(te:DE):DE:=λρ M Q=>tl ρ M λd M1=>match d with
 |.fz ds=>aGp none ds (uC fr ρ) g te M1 Q
 |.ref a=>∃ds,M1 a=some ds/\aGp (some a) ds (uC fr ρ) g te M1 Q
 |_=>False
section
variable {X:Cx}{g:DG}{te:DE}
theorem yS {K:Frag}{a':Option Addr}{ds:List D}{fr:List (Option Nat)}{σ:L2.St}{ρ:cP}{M:DM}{H0 H:Hp}{J:It}{Q:VK}{Q':DQ}(ex0:Ext H0 H)(re:gS K H ρ σ)(hm:bK K M H)(h:aGp a' ds (uC fr ρ) g te M Q')(kq:∀v H',LQ K H0 Q' v H'->Q v H')(seq:∀H',Ext H H'->(∀M',bK K M' H'->(∀a,a'=some a->M' a=some ds)->∃xs,bG K H' ds xs/\(∀i,xs.length<=i->J.stop i H')/\(∀i,i<xs.length->J.go i H')/\∀i x H2,J.yld i H' x H2->H2=H'/\xs[i]?=some x)) :
  ∃W:Nat->Nat->List V->Hp->Prop,(∃m,W 0 m [] H)/\∀i m ys H,W i m ys H ->
   (J.stop i H/\ys.length<=sizeLine/\∀p,H p=none->Q (.ref p) (upd H p (.lst ys))) ∨
   (J.go i H/\ys.length<=sizeLine/\∀x H',J.yld i H x H'->yL K g x (oS fr σ) H' λσ2 H2=>low K te σ2 H2 λy H3=>∃m',m'<m/\W (i+1) m' (ys++[y]) H3):=by
 obtain⟨hl,Pv,p0,hat,step,done⟩:=h;refine⟨λi m ysV H'=>∃ys M',bG K H' ys ysV/\bK K M' H'/\Ext H H'/\m=ds.length-i/\i<=ds.length/\ys.length=i/\Pv i ys M',⟨ds.length,[],M,cN,hm,.refl H,rfl,Nat.zero_le _,rfl,p0⟩,?_⟩;rintro i m ysV H1 ⟨ys,M1,ry,hm1,e1,rfl,hi,ly,w1⟩;obtain⟨xs,rs,hst,hgo,hy⟩:=seq H1 e1 M1 hm1 (hat i ys M1 hi w1);have hll:=rs.length;have lz:ysV.length<=sizeLine:=by rw[<- ry.length];exact Nat.le_of_lt (eA (by omega))
 by_cases hlt:i<ds.length
 ·refine .inr ⟨hgo i (by omega),lz,λx H' y=>?_⟩;obtain⟨rfl,hx⟩:=hy i x H' y;obtain⟨d,hd,rd⟩:=rs.getV hx;refine⟨d,uC fr ρ,M1,_,rd,aAy (re.ext e1) fr,hm1,step i d ys M1 hd w1,λσ2 H2 ⟨ρ2,M2,re2,hm2,e2,q2⟩=>?_⟩;refine⟨ρ2,M2,_,re2,hm2,q2,λv H3 ⟨dy,M3,rdy,hm3,e3,q3⟩=>?_⟩;exact⟨ds.length-(i+1),by omega,ys++[dy],M3,(ry.ext (e2.trans e3)).append (cC rdy cN),hm3,(e1.trans e2).trans e3,rfl,hlt,by rw[length_append,ly];rfl,q3⟩
 ·have e:i=ds.length:=by omega
  subst e;exact .inl ⟨hst _ (by omega),lz,λp hp=>kq _ _ ⟨.ref p,_,dH,hm1.lnew hp ry,(ex0.trans e1).trans (Ext.new hp _),done ys M1 ly w1 p (hm1.fresh hp)⟩⟩
variable {elt iter tg:Expr}{scope:Scope}{pos:Pos}{N':List Str}{fr:List (Option Nat)}{tl:DE}{ta:DA}{oN:List Str}{osc:Scope}
theorem aJ3 (B:rB oN osc N' fr scope)(hc:X.calm=true)(hi:PDE X iter tl)(hg:∀C s H fp pins,PG (X.blk N' scope C s H fp pins) tg (yL X.K g))(he:∀C s H fp pins,PE (X.blk N' scope C s H fp pins) elt (low X.K te))(hN:X.N=oN:=by rfl)(ho:X.env.scope=osc:=by rfl)(hs:∀x,foldedSetIterable iter X.env x=pure x:=by intro _;rfl) :
  PDE X (.ListComp elt [⟨tg,iter,[],0⟩] scope pos) (aEK tl fr g te) :=
 cV (aLv (B.scope hN ho) hc (uO hi) hg he hs) λσ H Q ⟨ρ,M,Q',re,hm,q,k⟩=>⟨ρ,M,_,re,hm,q,λv H1 ⟨d,M1,rd,hm1,ex,q1⟩=>by
  cases d with
  |fz ds =>
   obtain⟨a,xs,rfl,sq,rs⟩:=jM rd;exact⟨a,rfl,⟨xs,sq.sq⟩,yS ex (re.ext ex) hm1 q1 k λH' e' M' hm' _=>⟨xs,rs.ext e',λi hi=>⟨xs,(fX e' sq).sq,hi⟩,λi hi=>⟨xs,xs[i],(fX e' sq).sq,by simp[hi]⟩,λi x H2 y=>⟨y.1,y.2 xs (fX e' sq).sq⟩⟩⟩
  |ref a =>
   obtain⟨ds,ha,q1⟩:=q1;obtain rfl:=aP rd;obtain⟨xs,hx,rs⟩:=hm1.l a ds ha;refine⟨a,rfl,⟨xs,.of hx⟩,yS ex (re.ext ex) hm1 q1 k λH' e' M' hm' hat=>?_⟩;obtain⟨ys,hy,rs'⟩:=hm'.l a ds (hat a rfl);exact⟨ys,rs',λi hi=>⟨ys,.of hy,hi⟩,λi hi=>⟨ys,ys[i],.of hy,by simp[hi]⟩,λi x H2 y=>⟨y.1,y.2 ys (.of hy)⟩⟩
  |_=>exact q1.elim⟩
def aBz (i:Nat)(t:DE):DS:=λE ρ M=>t ρ M λx M1=>E.nx (ρ.set i (some x)) M1
theorem aDu {i:Nat}{y:Str}{spos py:Pos}(B:rB oN osc N' fr scope)(hc:X.calm=true)(hNd:X.N.Nodup)(hi:PDE X iter tl)(hg:∀C s H fp pins,PG (X.blk N' scope C s H fp pins) tg (yL X.K g))(he:∀C s H fp pins,PE (X.blk N' scope C s H fp pins) elt (low X.K te))(hy:X.N[i]?=some y:=by rfl)(hx:Loc X.env.scope y:=by first|exact Or.inl rfl|exact Or.inr rfl)(hsw:swapsWith (.ListComp elt [⟨tg,iter,[],0⟩] scope pos) (some (.Name y py)) spos.line X.env=pure true:=by rfl)(hf:X.fn y=true∨X.env.scope.names.lookup y=some .local:=by first|exact .inl rfl|exact .inr rfl|assumption)(hN:X.N=oN:=by rfl)(ho:X.env.scope=osc:=by rfl)(hs:∀x,foldedSetIterable iter X.env x=pure x:=by intro _;rfl) :
  PDS X (.Assign [.Name y py] (.ListComp elt [⟨tg,iter,[],0⟩] scope pos) spos) (aBz i (aEK tl fr g te)) :=
 gR (aEs (i:=i) (B.scope hN ho) hc hNd (uO hi) hg he hy hx hsw hf hs) λE σ H ⟨ρ,M,D,re,hm,q,kk⟩=>⟨ρ,M,_,re,hm,q,λv H1 ⟨d,M1,rd,hm1,ex,q1⟩=>by
  have k:∀v H',LQ X.K H (λx M1=>D.nx (ρ.set i (some x)) M1) v H'->E.nx (σ.set i (some v)) H':=λv H' ⟨d,M',rd',hm',e',q'⟩=>kk.nx _ H' ⟨_,M',(re.ext e').set rd' i,hm',e',q'⟩;cases d with
  |fz ds =>
   obtain⟨a,xs,rfl,sq,rs⟩:=jM rd;exact⟨a,rfl,⟨xs,sq.sq⟩,yS ex (re.ext ex) hm1 q1 k λH' e' M' hm' _=>⟨xs,rs.ext e',λi hi=>⟨xs,(fX e' sq).sq,hi⟩,λi hi=>⟨xs,xs[i],(fX e' sq).sq,by simp[hi]⟩,λi x H2 y=>⟨y.1,y.2 xs (fX e' sq).sq⟩⟩⟩
  |ref a =>
   obtain⟨ds,ha,q1⟩:=q1;obtain rfl:=aP rd;obtain⟨xs,hx,rs⟩:=hm1.l a ds ha;refine⟨a,rfl,⟨xs,.of hx⟩,yS ex (re.ext ex) hm1 q1 k λH' e' M' hm' hat=>?_⟩;obtain⟨ys,hy,rs'⟩:=hm'.l a ds (hat a rfl);exact⟨ys,rs',λi hi=>⟨ys,.of hy,hi⟩,λi hi=>⟨ys,ys[i],.of hy,by simp[hi]⟩,λi x H2 y=>⟨y.1,y.2 ys (.of hy)⟩⟩
  |_=>exact q1.elim⟩
end
end Dd
namespace L2
open PySem PySem.Spec PyProof.Rows
variable {X:Cx}
theorem vZ (hc:X.calm = true):lN X (.builtin "all") (λxs H Q=>∃(p:Addr)(bs:List Bool),xs=[.ref p]/\SqL X.K H p (bs.map V.bl)/\Q (.bl (bs.all id)) H):=by
 intro pins s σ H xs us Q I r h;obtain⟨p,bs,rfl,hq,q⟩:=h;obtain⟨u,rfl,rx⟩:=rW r;cases rx;obtain⟨its,r',pl,hz⟩:=I.list hq;have hl:=pl.isList;have hlt:p<s.heap.objs.size:=by obtain⟨_,e,_⟩:=hl;exact Heap.lt_size e
 have hg:∀(i:Nat)(v:Value),its.toArray[i]?=some v->∃b,bs[i]?=some b/\v=Value.bool b:=λi v e=>by
  obtain⟨x,hx,rv⟩:∃x,(bs.map V.bl)[i]?=some x/\RelV x v:=by
   have:=r'.length;have hi:i<its.length:=by have:=(Array.getElem?_eq_some_iff.mp e).1;simpa using this
   have hi':i<(bs.map V.bl).length:=by omega
   obtain⟨w,hw,rw'⟩:=r'.get (i:=i) (getElem?_eq_getElem hi');have:w=v:=by
    have e':its[i]?=some v:=by simpa using e
    rw[e'] at hw;exact(Option.some.inj hw).symm
   subst this;exact⟨_,getElem?_eq_getElem hi',rw'⟩
  rw[getElem?_map] at hx;cases hb:bs[i]? with
  |none=>rw[hb] at hx;cases hx
  |some b=>rw[hb] at hx;cases hx;cases rv;exact⟨b,rfl,rfl⟩
 refine call_all_walk (wpAny_pyIter_list hl ?_);refine⟨s.heap.objs.size,[s.heap.objs.size,p],[s.heap.objs.size],its.toArray.size,_,_,λi=>(bs[i]?).getD true,rfl,Walks.list (A:=X.A.in1) (I.ok.hd hc) _ p (Nat.ne_of_lt hlt) its.toArray,
  ⟨⟨_,Heap.get?_push_size _ rfl,rfl,rfl⟩,hl.push _⟩,λi v s' Q' E' hP hQ=>?_,λh' tk hk=>?_⟩
 ·obtain⟨b,e,rfl⟩:=hg i v hP;simp only[e,Option.getD_some] at hQ;exact wpAny_truthy_bool hQ
 ·have e:((range its.toArray.size).all λi=>(bs[i]?).getD true)=bs.all id:=by have l1:=r'.length;rw[length_map] at l1;rw[size_toArray,<- l1];exact LSm.range_all bs
  rw[e];exact⟨.bl (bs.all id),H,I.kept (t':=tk) (LSm.kept_iter hk),rfl,q⟩
end L2
namespace Dd
open PySem PySem.Spec PyProof.Rows L2
variable {X:Cx}
def aLh:DSp:=λds M Q=>match ds with
 |[.ref a]=>∃bs:List Bool,M a=some (bs.map D.bl)/\Q (.bl (bs.all id)) M
 |_=>False
theorem wI {K:Frag}{H:Hp}:∀{bs:List Bool}{vs:List V},bG K H (bs.map D.bl) vs->vs=bs.map V.bl
 |[],_,h=>bH h
 |b::bs,_,h=>by obtain⟨v,r,rfl,hv,hr⟩:=aQ h;rw[cB hv,wI hr];rfl
theorem aKt (hc:X.calm = true):fG X (.builtin "all") aLh:=fG.of (vZ hc) λvs H M ds Q rs hm q=>by
 rcases ds with _|⟨d,_|⟨d2,r⟩⟩
 ·exact q.elim
 ·cases d with
  |ref a =>
   obtain⟨v,rfl,rv⟩:=iE rs;obtain rfl:=aP rv;obtain⟨bs,ha,q⟩:=q;obtain⟨us,hu,ru⟩:=hm.l a _ ha;obtain rfl:=wI ru;exact⟨a,bs,rfl,.of hu,_,M,fF,hm,.refl H,q⟩
  |_=>exact q.elim
 ·cases d<;>exact q.elim
section
variable {g:DG}{te:DE}{tb:DS}{Q:DQ}{ρ0:cP}
def goF (g:DG)(tb:DS)(E:hE):List D->cP->DM->Prop
 |[],ρ,M=>E.nx ρ M
 |d::r,ρ,M=>g d ρ M λρ2 M2=>tb { E with nx:=goF g tb E r,ct:=goF g tb E r,bk:=E.nx } ρ2 M2
theorem aHT {E:hE}{ds:List D}{ρ:cP}{M:DM}(h:goF g tb E ds ρ M):dIt none ds g tb E ρ M:=by
 refine⟨λi ρ M=>goF g tb E (ds.drop i) ρ M,h,λ_ _ _ _ _ a e=>(by cases e),λi d ρ M hd hp=>?_,λρ M hp=>?_⟩
 ·obtain⟨hi,e⟩:=List.getElem?_eq_some_iff.mp hd;have hp:goF g tb E (ds.drop i) ρ M:=hp;rw[List.drop_eq_getElem_cons hi,e] at hp;exact hp
 ·have hp:goF g tb E (ds.drop ds.length) ρ M:=hp;rw[List.drop_length] at hp;exact hp
end
section
variable {e:Expr}{te:DE}{pos:Pos}
end
section
variable {X:Cx}{e:Expr}{te:DE}{pos p2:Pos}{lo hi:Option Expr}{tl th:DO}
def aHW (x:D)(lo hi:Option Int)(M:DM)(Q:DQ):Prop:=match x with
 |.tup ds=>¬(HT.sIx ds.length 0 lo=0/\HT.sIx ds.length ds.length hi=ds.length)/\Q (.tup (cutD ds lo hi)) M
 |_=>False
def aJn (te:DE)(tl th:DO):DE:=λρ M Q=>te ρ M λx M1=>tl ρ M1 λl M2=>th ρ M2 λh M3=>aHW x l h M3 Q
theorem aC7 (he:PDE X e te)(hl:PO X lo (zW X.K tl))(hu:PO X hi (zW X.K th)):PDE X (.Subscript e (.Slice lo hi none p2) pos) (aJn te tl th) :=
 cV (aAD aKz he hl hu) λσ H Q ⟨ρ,M,Q',re,hm,q,k⟩=>⟨ρ,M,_,re,hm,q,λv H1 ⟨d,M1,rd,hm1,e1,q1⟩=>⟨ρ,M1,_,re.ext e1,hm1,q1,λl H2 ⟨M2,hm2,e2,q2⟩=>⟨ρ,M2,_,(re.ext e1).ext e2,hm2,q2,λh H3 ⟨M3,hm3,e3,q3⟩=>by
  have rd3:=(rd.ext e2).ext e3;have ex:=(e1.trans e2).trans e3;cases d with
  |tup ds =>
   obtain⟨a,us,rfl,sq,ru⟩:=bO rd3;have l1:=ru.length;refine⟨a,us,rfl,sq,by rw[<- l1];exact q3.1,λp hp=>k _ _ ⟨.tup _,M3,mI (.of bI) ((wE ru l h).ext (Ext.new hp _)),hm3.new hp _,ex.trans (Ext.new hp _),q3.2⟩⟩
  |_=>exact q3.elim⟩⟩⟩
end
end Dd
namespace L2
open PySem PySem.Spec PyProof.Rows
open PySem.AutoSeq1 (wpAny_loadPart')
section
variable {X:Cx}{a n:Expr}{ta:TE}{tn:TA}{pos:Pos}
end
end L2
namespace Dd
open PySem PySem.Spec PyProof.Rows L2
section
variable {X:Cx}{a n:Expr}{ta:DE}{tn:DA}{pos p pos':Pos}
end
section
variable {X:Cx}{a b c e o:Expr}{es:List Expr}{ta tb tc te to:DE}{pos:Pos}
def aFl (g:Int->Int->Int):DSp:=λds M Q=>match ds with
 |[.int i,.int j]=>Q (.int (g i j)) M
 |_=>False
theorem aGD {g:Int->Int->Int}{fv:Value}(h:lN X fv (λxs H Q=>∃i j,xs=[.int i,.int j]/\Q (.int (g i j)) H)):fG X fv (aFl g):=fG.of h λvs H M ds Q rs hm q=>by
 rcases ds with _|⟨d,_|⟨d2,_|⟨d3,r⟩⟩⟩
 ·exact q.elim
 ·cases d<;>exact q.elim
 ·cases d with
  |int i =>
   cases d2 with
   |int j =>
    obtain⟨v,v2,rfl,rv,rv2⟩:=aJR rs;obtain rfl:=aW rv;obtain rfl:=aW rv2;exact⟨i,j,rfl,_,M,cS,hm,.refl H,q⟩
   |_=>exact q.elim
  |_=>exact q.elim
 ·cases d<;>first|exact q.elim|(cases d2<;>exact q.elim)
def aLR:DSp:=aFl λi j=>if j<i then j else i
theorem aIj (hc:X.calm = true):fG X (.builtin "min") aLR:=aGD (aDp hc)
def aHR:DSp:=λds M Q=>match ds with
 |[.tup xs]=>∀p:Addr,M p=none->Q (.ref p) (aX M p xs)
 |[.fz xs]=>∀p:Addr,M p=none->Q (.ref p) (aX M p xs)
 |[.ref a]=>∃xs,M a=some xs/\∀p:Addr,M p=none->Q (.ref p) (aX M p xs)
 |_=>False
theorem aCl:fG X (.type "list") aHR:=fG.of zL λvs H M ds Q rs hm q=>by
 rcases ds with _|⟨d,_|⟨d2,r⟩⟩
 ·exact q.elim
 ·obtain⟨v,rfl,rv⟩:=iE rs;cases d with
  |tup xs =>
   obtain⟨a,us,rfl,sq,ru⟩:=bO rv;exact⟨a,us,rfl,.inr sq,λl hl=>⟨.ref l,_,dH,hm.lnew hl ru,Ext.new hl _,q l (hm.fresh hl)⟩⟩
  |fz xs =>
   obtain⟨a,us,rfl,sq,ru⟩:=jM rv;exact⟨a,us,rfl,.inl sq.sq,λl hl=>⟨.ref l,_,dH,hm.lnew hl ru,Ext.new hl _,q l (hm.fresh hl)⟩⟩
  |ref a =>
   obtain rfl:=aP rv;obtain⟨xs,ha,q⟩:=q;obtain⟨us,hu,ru⟩:=hm.l a xs ha;exact⟨a,us,rfl,.inl (.of hu),λl hl=>⟨.ref l,_,dH,hm.lnew hl ru,Ext.new hl _,q l (hm.fresh hl)⟩⟩
  |_=>exact q.elim
 ·cases d<;>exact q.elim
end
theorem ifF {b:Bool}{A B:Prop}(h:b=false)(q:B):if b=true then A else B:=by subst h;exact q
theorem ifT {b:Bool}{A B:Prop}(h:b=true)(q:A):if b=true then A else B:=by subst h;exact q
end Dd
set_option maxHeartbeats 400000
namespace L2
open PySem PySem.Spec PyProof.Rows
end L2
namespace Dd
open PySem PySem.Spec PyProof.Rows L2
section
variable {X:Cx}{e k:Expr}{te tk:DE}{pos p2:Pos}
end
end Dd
namespace Zp
open PySem PySem.Spec PyProof.Rows
section
variable {prog:Program}{w:World}{A:Around}{E:Value->Shared->Prop}{s:Shared}
end
end Zp
namespace L2
open PySem PySem.Spec PyProof.Rows
end L2
namespace Dd
open PySem PySem.Spec PyProof.Rows L2
section
variable {X:Cx}{pos:Pos}{iter tg:Expr}{body:List Stmt}{tl:DE}{g:DG}{tb:DS}{ta:DA}
end
end Dd
set_option maxHeartbeats 1000000
namespace Dd
open PySem PySem.Spec PyProof.Rows L2
section
variable {X:Cx}{pins:List (Addr×Obj)}{σ:L2.St}{H H':Hp}{s:Shared}{h':Heap}
end
def Tr (h:Heap)(e:Addr)(cls:Value)(T:Addr)(fl:Value):Prop :=
 ∃oe vs oT ts,h.get? e=some oe/\(oe.cls=cls/\oe.dict=none)/\oe.data=.fields vs/\vs[1]?=some (.ref T)/\T≠e/\h.get? T=some oT/\oT.data=.fields ts/\ts[3]?=some fl
section
variable {X:Cx}{pins:List (Addr×Obj)}{σ:L2.St}{H:Hp}{s:Shared}{M:Model}{A:Around}{E:Value->Shared->Prop}{e T:Addr}{cls:Value}
end
noncomputable def CXr (P:Program)(w:World):CXT:=λouter H s E e s'=>∃(a:Addr)(cls:Value) (T:Addr) (H':Hp),e=Value.ref a/\s'.os=s.os/\AllBare s'.gens/\Un (frs outer) [] H H' s.heap s'.heap/\HOk P w H' s'.heap /\
 Tr s'.heap a cls T .none/\s.heap.get? a=none/\s.heap.get? T=none/\H' a=none/\H' T=none/\E cls none H'
section
variable {X:Cx}{x:Str}{V:DM->Prop}{e:Expr}{es:List Expr}{t:DA}{np cpos pos:Pos}
end
section
variable {P:Program}{w:World}{K:Frag}{mg:Str->Option Value}{base:Heap}
end
section
variable {X:Cx}{pins:List (Addr×Obj)}{σ:L2.St}{H:Hp}{s:Shared}{a:Addr}{o:Obj}
end
noncomputable def hE.un (D:hE)(j:Nat):hE:={ nx:=λρ M=>D.nx (ρ.set j none) M,rt:=D.rt,bk:=λρ M=>D.bk (ρ.set j none) M,ct:=λρ M=>D.ct (ρ.set j none) M }
section
variable {X:Cx}{a:Expr}{e:Expr}{es:List Expr}{t:DA}{x f n cm:Str}{ps:List Str}{sp:DSp}{cond:List D->DM->Prop}{C Cm:Addr}{k1 k2 k i j:Nat}{ts:Addr->DS}{b0:Stmt}{suite:List Stmt}{px pf pc pa pcm ph pos:Pos}
end
section
open PySem.W PySem.Calls
end
section
variable {X:Cx}{n c:Str}{C Cc a:Addr}{o:Obj}{p p1 p2 pos:Pos}{j:Nat}
end
section
open PySem.W PySem.Calls
variable {prog:Program}{w:World}{A:Around}{E:Value->Shared->Prop}{s:Shared}{K:Frag}{x C D:Addr}{ox:Obj}
end
section
variable {X:Cx}{a C:Addr}{o:Obj}
end
section
open PySem.SeqAt
open PySem.AutoSeq1 (wpAny_loadPart')
open PySem.MeetsSeq PySem.MeetsSeq2 PySem.MeetsSeq3
end
section
variable {X:Cx}{j:Nat}
theorem aHQ {K:Frag}{H:Hp}{a b:Int}{xs:List V}{its:List Value}(r:bG K H [.int a,.int b] xs)(v:bU xs its):∃t u,its=[.int a t,.int b u]:=by
 obtain⟨v1,r1,rfl,h1,r1'⟩:=aQ r;obtain rfl:=aW h1;obtain⟨v2,r2,rfl,h2,r2'⟩:=aQ r1';obtain rfl:=aW h2;obtain rfl:=bH r2';cases v with
 |cons q1 w1 =>
  cases w1 with
  |cons q2 w2 =>
   cases w2;obtain⟨t,rfl⟩:=q1;obtain⟨u,rfl⟩:=q2;exact⟨t,u,rfl⟩
end
def aIC (t u:DS):DS:=λD ρ M=>∃R:cP->DM->Prop,t { D with nx:=R } ρ M/\∀ρ' M',R ρ' M'->u D ρ' M'
section
variable {X:Cx}{st:Stmt}{cH:List Stmt}{t u:DS}
theorem aGt (h1:PDS X st t)(h2:mY X cH u):mY X (st::cH) (aIC t u) :=
 zD (aAT h1 h2) λE σ H ⟨ρ,M,D,re,hm,⟨R,q,k2⟩,k⟩ =>
  ⟨ρ,M,{ D with nx:=R },re,hm,q,⟨λσ' H' ⟨ρ',M',re',hm',ex,r⟩=>⟨ρ',M',D,re',hm',k2 ρ' M' r,k.at ex⟩,k.rt,k.bk,k.ct⟩⟩
end
section
variable {X:Cx}{e:Expr}{es:List Expr}{t:DA}{x f cm:Str}{ps:List Str}{sp:DSp}{cond:List D->DM->Prop}{C Cm:Addr}{k1 k2 k i:Nat}{ts:DS}{b0:Stmt}{suite:List Stmt}{px pf pc pa pcm ph pos:Pos}
end
@[irreducible] def ZE (X:Cx)(e:Expr)(t:DE):Prop:=PDE X e t
theorem ZE.o {X:Cx}{e:Expr}{t:DE}(h:ZE X e t):PDE X e t:=by unfold ZE at h;exact h
theorem ZE.i {X:Cx}{e:Expr}{t:DE}(h:PDE X e t):ZE X e t:=by unfold ZE;exact h
@[irreducible] def ZT (X:Cx)(e:Expr)(t:DT):Prop:=PDT X e t
theorem ZT.o {X:Cx}{e:Expr}{t:DT}(h:ZT X e t):PDT X e t:=by unfold ZT at h;exact h
theorem ZT.i {X:Cx}{e:Expr}{t:DT}(h:PDT X e t):ZT X e t:=by unfold ZT;exact h
@[irreducible] def ZW (X:Cx)(e:Expr)(t:DT):Prop:=PDW X e t
theorem ZW.o {X:Cx}{e:Expr}{t:DT}(h:ZW X e t):PDW X e t:=by unfold ZW at h;exact h
theorem ZW.i {X:Cx}{e:Expr}{t:DT}(h:PDW X e t):ZW X e t:=by unfold ZW;exact h
@[irreducible] def ZA (X:Cx)(e:List Expr)(t:DA):Prop:=PDA X e t
theorem ZA.o {X:Cx}{e:List Expr}{t:DA}(h:ZA X e t):PDA X e t:=by unfold ZA at h;exact h
theorem ZA.i {X:Cx}{e:List Expr}{t:DA}(h:PDA X e t):ZA X e t:=by unfold ZA;exact h
@[irreducible] def ZS (X:Cx)(e:Stmt)(t:DS):Prop:=PDS X e t
theorem ZS.o {X:Cx}{e:Stmt}{t:DS}(h:ZS X e t):PDS X e t:=by unfold ZS at h;exact h
theorem ZS.i {X:Cx}{e:Stmt}{t:DS}(h:PDS X e t):ZS X e t:=by unfold ZS;exact h
@[irreducible] def ZSs (X:Cx)(e:List Stmt)(t:DS):Prop:=mY X e t
theorem ZSs.o {X:Cx}{e:List Stmt}{t:DS}(h:ZSs X e t):mY X e t:=by unfold ZSs at h;exact h
theorem ZSs.i {X:Cx}{e:List Stmt}{t:DS}(h:mY X e t):ZSs X e t:=by unfold ZSs;exact h
@[irreducible] def ZG (X:Cx)(e:Expr)(t:DG):Prop:=PDG X e t
theorem ZG.o {X:Cx}{e:Expr}{t:DG}(h:ZG X e t):PDG X e t:=by unfold ZG at h;exact h
theorem ZG.i {X:Cx}{e:Expr}{t:DG}(h:PDG X e t):ZG X e t:=by unfold ZG;exact h
@[irreducible] def ZGs (X:Cx)(e:List Expr)(t:DGs):Prop:=aAZ X e t
theorem ZGs.o {X:Cx}{e:List Expr}{t:DGs}(h:ZGs X e t):aAZ X e t:=by unfold ZGs at h;exact h
theorem ZGs.i {X:Cx}{e:List Expr}{t:DGs}(h:aAZ X e t):ZGs X e t:=by unfold ZGs;exact h
@[irreducible] def ZO (X:Cx)(e:Option Expr)(t:DO):Prop:=PO X e (zW X.K t)
theorem ZO.o {X:Cx}{e:Option Expr}{t:DO}(h:ZO X e t):PO X e (zW X.K t):=by unfold ZO at h;exact h
theorem ZO.i {X:Cx}{e:Option Expr}{t:DO}(h:PO X e (zW X.K t)):ZO X e t:=by unfold ZO;exact h
section
variable {K:Frag}{H H':Hp}
end
section
variable {K:Frag}{H H':Hp}{M M':DM}
end
section
variable {K:Frag}{H H':Hp}{ρ:cP}{σ:L2.St}
end
section
variable {K:Frag}{H H1:Hp}
end
section
variable {X:Cx}{e:Expr}{st:Stmt}{sts:List Stmt}
end
section
variable {X:Cx}{a b c e:Expr}{es:List Expr}{ta tb tc te:DE}{tA tB:DT}{t:DA}{pos:Pos}
theorem aA (i:Nat){x:Str}{pos:Pos}(hN:X.N[i]?=some x:=by rfl)(hv:Vis X.env.scope x:=by first|exact Or.inl rfl|exact Or.inr (Or.inl rfl)|exact Or.inr (Or.inr rfl))(hd:(x==("__debug__":Str))=false:=by decide)(hcd:(x==("__classdict__":Str))=false:=by decide):ZE X (.Name x pos) (aBO i):=.i (aAm i hN hv hd hcd)
theorem aC {i j pos}:ZE X (.Constant (.int i) j pos) (dC (.int i)):=.i (aBV (i:=i) (j:=j) (pos:=pos))
theorem qR {i j pos}:ZE X (.Constant (.bool i) j pos) (dC (.bl i)):=.i (aLx (i:=i) (j:=j) (pos:=pos))
theorem rY {j pos}:ZE X (.Constant .none j pos) (dC .non):=.i (aIh (j:=j) (pos:=pos))
theorem dW {x j pos}:ZE X (.Constant (.str x) j pos) (dC (.str x)):=.i (aJL)
theorem aK {op:Operator}{r:D2}(ho:OpD X (binaryOp op) r)(ha:ZE X a ta)(hb:ZE X b tb):ZE X (.BinOp a op b pos) (dOp r ta tb):=.i (aLy (op:=op) ho ha.o hb.o)
theorem gI {op:CmpOp}{r:D2}(ho:OpD X (compareOp op) r)(ha:ZE X a ta)(hb:ZE X b tb)(hm:behindInMarks op b=false:=by exact aAl _):ZE X (.Compare a [op] [b] pos) (dOp r ta tb):=.i (aJ2 (op:=op) ho ha.o hb.o hm)
theorem aY {op:CmpOp}{r:D2}(ho:OpD X (compareOp op) r)(ha:ZE X a ta)(hb:ZE X b tb)(hm:behindInMarks op b=false:=by exact aAl _):ZT X (.Compare a [op] [b] pos) (xV (dOp r ta tb)):=.i (aIM (op:=op) ho ha.o hb.o hm)
theorem eD (h:ZE X e te)(he:∀whole,isTrue e X.env whole=(do let v <- whole;standAt e.pos;holding [v] (truthy v)):=by intro _;rfl):ZT X e (xV te):=.i (aII h.o he)
variable {cH:List Expr}
theorem jO (ha:ZT X a tA):ZW X (.BoolOp .And [a] pos) tA:=.i (aGn ha.o)
theorem yO (ha:ZT X a tA):ZW X (.BoolOp .Or [a] pos) tA:=.i (aKh ha.o)
theorem iX (ha:ZT X a tA)(hb:ZW X (.BoolOp .And (b::cH) pos) tB):ZW X (.BoolOp .And (a::b::cH) pos) (aH2 tA tB):=.i (aIe ha.o hb.o)
theorem yR (ha:ZT X a tA)(hb:ZW X (.BoolOp .Or (b::cH) pos) tB):ZW X (.BoolOp .Or (a::b::cH) pos) (dOr tA tB):=.i (aLr ha.o hb.o)
theorem pT (h:ZW X e tA):ZT X e tA:=.i (aNe h.o)
theorem kH (ha:ZT X a tA):ZT X (.UnaryOp .Not a pos) (aJI tA):=.i (aIE ha.o)
theorem zJ {op}(h:ZE X a ta):ZE X (.BoolOp op [a] pos) ta:=.i (aIF (op:=op) h.o)
theorem zQ (ha:ZE X a ta)(hb:ZE X (.BoolOp .And (b::cH) pos) tb):ZE X (.BoolOp .And (a::b::cH) pos) (aFu ta tb):=.i (aIr ha.o hb.o)
theorem aI2 (ha:ZE X a ta)(hb:ZE X (.BoolOp .Or (b::cH) pos) tb):ZE X (.BoolOp .Or (a::b::cH) pos) (aJy ta tb):=.i (aKL ha.o hb.o)
theorem zE (ha:ZE X a ta):ZE X (.UnaryOp .Not a pos) (aES ta):=.i (aJN ha.o)
theorem lO (hc:ZT X c tA)(ha:ZE X a ta)(hb:ZE X b tb):ZE X (.IfExp c a b pos) (aI0 tA ta tb):=.i (aEf hc.o ha.o hb.o)
theorem aD :ZA X [] pR:=.i (zG)
theorem aB (ha:ZE X e te)(hr:ZA X es t)(hs:starEach (e::es) X.env=(false,eval e X.env)::starEach es X.env:=by rfl):ZA X (e::es) (gQ te t):=.i (pM ha.o hr.o hs)
theorem bC {x1}(h:ZA X es t):ZE X (.Tuple es x1 pos) (aJf t):=.i (aI4 h.o)
theorem fK (h:ZA X es t):ZE X (.List es pos) (aKv t):=.i (aIv h.o)
end
section
variable {X:Cx}{st:Stmt}{cH:List Stmt}{t u:DS}{e:Expr}{te:DE}{pos:Pos}
theorem aZ :ZSs X [] aEG:=.i (aF5)
theorem aF (h1:ZS X st t)(h2:ZSs X cH u):ZSs X (st::cH) (aI6 t u):=.i (aEt h1.o h2.o)
theorem aG (h1:ZS X st t):ZSs X [st] t:=.i (aGj h1.o)
theorem fQ (he:ZE X e te)(hs:swapsWith e none pos.line X.env=pure false:=by rfl):ZS X (.Expr e pos) (aE9 te):=.i (aHp he.o hs)
theorem aO (he:ZE X e te):ZS X (.Return (some e) pos) (aJz te):=.i (aIg he.o)
theorem bV {c:Expr}{a b:List Stmt}{tc:DT}(hc:ZT X c tc)(ha:ZSs X a t)(hb:ZSs X b u):ZS X (.If c a b pos) (aJA tc t u):=.i (aMk hc.o ha.o hb.o)
theorem aDz :ZS X st aBt:=.i (aEb)
end
section
variable {X:Cx}{pos:Pos}{e tg:Expr}{es:List Expr}{te:DE}
theorem aR {i:Nat}{x:Str}(hN:X.N.Nodup)(hi:X.N[i]?=some x:=by rfl)(hx:Loc X.env.scope x:=by first|exact Or.inl rfl|exact Or.inr rfl)(hf:X.fn x=true∨X.env.scope.names.lookup x=some .local:=by first|exact .inl rfl|exact .inr rfl|assumption):ZG X (.Name x pos) (gN i):=.i (aHo (i:=i) hN hi hx hf)
theorem cZ :ZGs X [] gNl:=.i (aGb)
theorem aV {t:DG}{u:DGs}(h1:ZG X e t)(h2:ZGs X es u)(hs:(assignEach (e::es) X.env).map (·.2)=assign e X.env::(assignEach es X.env).map (·.2):=by rfl):ZGs X (e::es) (gCn t u):=.i (aD1 h1.o h2.o hs)
theorem cU {g:DG}(he:ZE X e te)(hg:ZG X tg g)(hs:swapsWithSole [tg] e pos.line X.env=pure false:=by rfl)(hw:swappedStores [tg] e X.env=pure none:=by rfl)(h1:(assignEach [tg] X.env).map (·.2)=[assign tg X.env]:=by rfl):ZS X (.Assign [tg] e pos) (aDv te g):=.i (aJO he.o hg.o hs hw h1)
theorem aM {i:Nat}{x:Str}{pos':Pos}(hN:X.N.Nodup)(he:ZE X e te)(hi:X.N[i]?=some x:=by rfl)(hx:Loc X.env.scope x:=by first|exact Or.inl rfl|exact Or.inr rfl)(hs:swapsWith e (some (.Name x pos')) pos.line X.env=pure false:=by rfl)(hf:X.fn x=true∨X.env.scope.names.lookup x=some .local:=by first|exact .inl rfl|exact .inr rfl|assumption):ZS X (.Assign [.Name x pos'] e pos) (aDv te (gN i)):=.i (aH3 (i:=i) hN he.o hi hx hs hf)
theorem aCV {i j:Nat}{x y:Str}{a b:Expr}{ta:DA}{px py pt:Pos}{kt k2 pt2}(hc:X.calm=true)(hN:X.N.Nodup)(ha:ZA X [a,b] ta)(hi:X.N[i]?=some x:=by rfl)(hj:X.N[j]?=some y:=by rfl)(hij:i≠j:=by decide)(hx:X.env.scope.names.lookup x=some .local:=by rfl)(hy:X.env.scope.names.lookup y=some .local:=by rfl)(hw:swappedStores [.Tuple [.Name x px,.Name y py] kt pt] (.Tuple [a,b] k2 pt2) X.env=pure (some [x,y]):=by rfl)(hs:swapsWithSole [.Tuple [.Name x px,.Name y py] kt pt] (.Tuple [a,b] k2 pt2) pos.line X.env=pure false:=by rfl):ZS X (.Assign [.Tuple [.Name x px,.Name y py] kt pt] (.Tuple [a,b] k2 pt2) pos) (aKs i j ta):=.i (aJm (i:=i) (j:=j) hc hN ha.o hi hj hij hx hy hw hs)
theorem pK {o i:Expr}{to ti:DE}(ho:ZE X o to)(hi:ZE X i ti)(ha:∀v,assign (.Subscript o i pos) X.env v=(do
   let ov <- holding [v] (eval o X.env)
   let iv <- holding [v,ov] (eval i X.env)
   standAt pos
   holding [v,ov,iv] (setItem ov iv v)
   release [v,ov,iv] []):=by intro _;rfl):ZG X (.Subscript o i pos) (aEy to ti):=.i (aIO ho.o hi.o ha)
end
section
variable {X:Cx}{pos:Pos}
theorem lK {c:Expr}{body:List Stmt}{tc:DT}{tb:DS}(hp:PassesOwn (model X.prog X.w) X.A X.env X.xe)(hc:ZT X c tc)(hb:ZSs X body tb):ZS X (.While c body [] pos) (aBo tc tb):=.i (aE6 hp hc.o hb.o)
variable {iter tg:Expr}{body:List Stmt}{tl:DE}{g:DG}{tb:DS}
end
section
variable {X:Cx}{pos:Pos}{iter tg:Expr}{body:List Stmt}{tl:DE}{g:DG}{tb:DS}{ta:DA}
theorem lD (hp:PassesOwn (model X.prog X.w) X.A X.env X.xe)(hc:X.calm=true)(hi:ZE X iter tl)(hg:ZG X tg g)(hb:ZSs X body tb)(hs:∀x,foldedSetIterable iter X.env x=pure x:=by intro _;rfl):ZS X (.For tg iter body [] pos) (aET tl g tb):=.i (aGu hp hc hi.o hg.o hb.o hs)
theorem rJ {a:Expr}{p pos':Pos}(hp:PassesOwn (model X.prog X.w) X.A X.env X.xe)(hc:X.calm = true)(hmg:X.mg "range" = none)(ha:ZA X [a] ta)(hg:ZG X tg g)(hb:ZSs X body tb)(hgl:Gl X "range":=by rfl)(hse:starEach [a] X.env = [(false,eval a X.env)]:=by rfl)(hs:∀x,foldedSetIterable (.Call (.Name "range" p) [a] [] pos') X.env x = pure x:=by intro _;rfl):ZS X (.For tg (.Call (.Name "range" p) [a] [] pos') body [] pos) (aE5 ta g tb):=.i (aF6 hp hc hmg ha.o hg.o hb.o hgl hse hs)
end
section
variable {X:Cx}{pins:List (Addr×Obj)}{σ:L2.St}{H:Hp}{s:Shared}
end
section
variable {X:Cx}{a b e o:Expr}{es:List Expr}{ta tb te to:DE}{t:DA}{pos:Pos}
theorem eG (ha:ZE X a ta):ZE X (.UnaryOp .USub a pos) (aJg ta):=.i (aIa ha.o)
theorem aH (ha:ZE X a ta)(hb:ZE X b tb)(hs:rD b:=by exact λ_ _=>rfl):ZE X (.Subscript a b pos) (dOp mO ta tb):=.i (aEU ha.o hb.o hs)
theorem iL :ZO X none aJT:=.i (aGZ)
theorem gG (h:ZE X e te):ZO X (some e) (dPt te):=.i (aGQ h.o)
variable {lo hi:Option Expr}{tl th:DO}{p2:Pos}
theorem lP (he:ZE X e te)(hl:ZO X lo tl)(hu:ZO X hi th):ZE X (.Subscript e (.Slice lo hi none p2) pos) (dSl te tl th):=.i (aFJ he.o hl.o hu.o)
variable {CX:CXT}{k:Nat}{f:Addr}{fd:FuncData}{ps:List Str}{sp:DSp}{E:XK}{x:Str}{p:Pos}
theorem bX {id:String}{r:DSp}(hc:fG X (.builtin id) r)(hm:X.mg x = none)(ha:ZA X (e :: es) t)(hv:bootBuiltins x = some (.builtin id):=by rfl)(hg:Gl X x:=by rfl)(hn:x ≠ "__name__":=by decide)(hdb:(x==("__debug__":Str))=false:=by decide)(he:starEach (e::es) X.env=(false,eval e X.env)::starEach es X.env:=by rfl)(hpl:(backTo pos (starEach es X.env)).any (·.1)=false:=by rfl):ZE X (.Call (.Name x p) (e::es) [] pos) (rR r t):=.i (aFW (id:=id) hc hm ha.o hv hg hn hdb he hpl)
theorem jF {T:String}{r:DSp}(hc:fG X (.type T) r)(hm:X.mg x = none)(ha:ZA X (e :: es) t)(hv:bootBuiltins x = some (.type T):=by rfl)(hg:Gl X x:=by rfl)(hn:x ≠ "__name__":=by decide)(hdb:(x==("__debug__":Str))=false:=by decide)(he:starEach (e::es) X.env=(false,eval e X.env)::starEach es X.env:=by rfl)(hpl:(backTo pos (starEach es X.env)).any (·.1)=false:=by rfl):ZE X (.Call (.Name x p) (e::es) [] pos) (rR r t):=.i (aDm (T:=T) hc hm ha.o hv hg hn hdb he hpl)
end
section
variable {X:Cx}{a b e o:Expr}{es:List Expr}{ta tb te to:DE}{t:DA}{pos:Pos}
theorem dJ {apos cpos:Pos}(ho:ZE X o to)(he:ZE X e te)(hse:starEach [e] X.env = (false,eval e X.env) :: starEach [] X.env:=by rfl)(hbase:attributeBase o "append" X.env (eval o X.env)=eval o X.env:=by rfl)(hfew:((backTo cpos (starEach [e] X.env)).all (λx=>!x.1)&&(backToKw cpos (keywordEach [] X.env)).all (λx=>x.1.isSome)
  &&decide ([e].length+([]:List Keyword).length+(if ([]:List Keyword).isEmpty then 0 else 1)<30)) = true:=by rfl)(hline:(apos.endLine==cpos.line) = true:=by rfl)(hplain:(backTo cpos (starEach [] X.env)).any (·.1) = false:=by rfl):ZE X (.Call (.Attribute o "append" apos) [e] [] cpos) (aAj to te):=.i (aDb ho.o he.o hse hbase hfew hline hplain)
theorem aEh {T:String}{x:Str}{p p2:Pos}(he:ZE X e te)(hm:X.mg "isinstance" = none)(hmx:X.mg x = none)(hv:bootBuiltins x = some (.type T):=by rfl)(hg:Gl X "isinstance":=by rfl)(hgx:Gl X x:=by rfl)(hn:x ≠ "__name__":=by decide)(hdb:(x==("__debug__":Str)) = false:=by decide)(hse:starEach [e,.Name x p2] X.env = (false,eval e X.env) :: starEach [.Name x p2] X.env:=by rfl)(hse2:starEach [.Name x p2] X.env = (false,eval (.Name x p2) X.env) :: starEach [] X.env:=by rfl)(hpl:(backTo pos (starEach [.Name x p2] X.env)).any (·.1) = false:=by rfl):ZE X (.Call (.Name "isinstance" p) [e,.Name x p2] [] pos) (dIs X.K (.type T) te):=.i (aHf (T:=T) he.o hm hmx hv hg hgx hn hdb hse hse2 hpl)
end
section
variable {P:Program}{w:World}{K:Frag}{mg:Str->Option Value}{base:Heap}
end
section
variable {P:Program}{w:World}{K:Frag}{mg:Str->Option Value}{base:Heap}
end
section
variable {X:Cx}{a b c e:Expr}{es:List Expr}{ta tb te:DE}{t:DA}{pos p:Pos}{x:Str}{ps:List Str}{sp:DSp}{k j:Nat}
theorem aE (h:Has X.prog X.w X.K X.mg X.base k x ps sp)(hr:dZ j X.A)(hkj:k<=j)(ha:ZA X (e::es) t)(hg:Gl X x:=by rfl)(hdb:(x==("__debug__":Str))=false:=by decide)(he:starEach (e::es) X.env=(false,eval e X.env)::starEach es X.env:=by rfl)(hpl:(backTo pos (starEach es X.env)).any (·.1)=false:=by rfl):ZE X (.Call (.Name x p) (e::es) [] pos) (rR sp t):=.i (aEr h hr hkj ha.o hg hdb he hpl)
theorem sJ {d:D}(h:aDQ X.K X.mg x d)(hg:Gl X x:=by rfl)(hd:(x==("__debug__":Str))=false:=by decide):ZE X (.Name x pos) (dC d):=.i (aE7 h hg hd)
theorem aD8 {i:Nat}{op:Operator}{g:Int->Int->Int}{pos':Pos}(ho:PIp X op (ipI g))(hN:X.N.Nodup)(he:ZE X e te)(hi:X.N[i]?=some x:=by rfl)(hx:Loc X.env.scope x:=by first|exact Or.inl rfl|exact Or.inr rfl)(hf:X.fn x=true∨X.env.scope.names.lookup x=some .local:=by first|exact .inl rfl|exact .inr rfl|assumption):ZS X (.AugAssign (.Name x pos') op e pos) (aGq i te g):=.i (aHr (i:=i) (op:=op) ho hN he.o hi hx hf)
end
section
variable {prog:Program}{w:World}{A:Around}{E:Value->Shared->Prop}{s:Shared}
end
section
variable {X:Cx}{pos:Pos}{e a b:Expr}{es:List Expr}{te ta tb:DE}
theorem eH {k:Nat}{t:DGs}{n:Nat}(hc:X.calm=true)(h:ZGs X es t)(hn:(assignEach es X.env).length=n:=by rfl)(hst:(assignEach es X.env).findIdx? (·.1)=none:=by rfl):ZG X (.Tuple es k pos) (gU n t):=.i (aIw (n:=n) hc h.o hn hst)
end
section
variable {M:DM}{Q:DQ}{g:Bool->Bool}{ds:List D}{i:Int}{a:Addr}{α:Type}{x0 x1 x2 x3 x4 x5:α}{l:List α}
end
section
variable {K:Frag}{H:Hp}{ρ:cP}{σ:L2.St}
end
section
variable {X:Cx}{g:DG}{te:DE}
variable {elt iter tg:Expr}{scope:Scope}{pos:Pos}{N':List Str}{fr:List (Option Nat)}{tl:DE}{ta:DA}{oN:List Str}{osc:Scope}
theorem uP (B:rB oN osc N' fr scope)(hc:X.calm=true)(hi:ZE X iter tl)(hg:∀C s H fp pins,ZG (X.blk N' scope C s H fp pins) tg g)(he:∀C s H fp pins,ZE (X.blk N' scope C s H fp pins) elt te)(hN:X.N=oN:=by rfl)(ho:X.env.scope=osc:=by rfl)(hs:∀x,foldedSetIterable iter X.env x=pure x:=by intro _;rfl):ZE X (.ListComp elt [⟨tg,iter,[],0⟩] scope pos) (aEK tl fr g te):=.i (aJ3 B hc hi.o (λC s H fp pins=>(hg C s H fp pins).o) (λC s H fp pins=>(he C s H fp pins).o) hN ho hs)
theorem aBw {i:Nat}{y:Str}{spos py:Pos}(B:rB oN osc N' fr scope)(hc:X.calm=true)(hNd:X.N.Nodup)(hi:ZE X iter tl)(hg:∀C s H fp pins,ZG (X.blk N' scope C s H fp pins) tg g)(he:∀C s H fp pins,ZE (X.blk N' scope C s H fp pins) elt te)(hy:X.N[i]?=some y:=by rfl)(hx:Loc X.env.scope y:=by first|exact Or.inl rfl|exact Or.inr rfl)(hsw:swapsWith (.ListComp elt [⟨tg,iter,[],0⟩] scope pos) (some (.Name y py)) spos.line X.env=pure true:=by rfl)(hf:X.fn y=true∨X.env.scope.names.lookup y=some .local:=by first|exact .inl rfl|exact .inr rfl|assumption)(hN:X.N=oN:=by rfl)(ho:X.env.scope=osc:=by rfl)(hs:∀x,foldedSetIterable iter X.env x=pure x:=by intro _;rfl):ZS X (.Assign [.Name y py] (.ListComp elt [⟨tg,iter,[],0⟩] scope pos) spos) (aBz i (aEK tl fr g te)):=.i (aDu (i:=i) B hc hNd hi.o (λC s H fp pins=>(hg C s H fp pins).o) (λC s H fp pins=>(he C s H fp pins).o) hy hx hsw hf hN ho hs)
end
variable {X:Cx}
section
variable {g:DG}{te:DE}{tb:DS}{Q:DQ}{ρ0:cP}
end
section
variable {e:Expr}{te:DE}{pos:Pos}
end
section
variable {X:Cx}{e:Expr}{te:DE}{pos p2:Pos}{lo hi:Option Expr}{tl th:DO}
theorem mC (he:ZE X e te)(hl:ZO X lo tl)(hu:ZO X hi th):ZE X (.Subscript e (.Slice lo hi none p2) pos) (aJn te tl th):=.i (aC7 he.o hl.o hu.o)
end
section
variable {X:Cx}{a n:Expr}{ta:DE}{tn:DA}{pos p pos':Pos}
end
section
variable {X:Cx}{a b c e o:Expr}{es:List Expr}{ta tb tc te to:DE}{pos:Pos}
end
section
variable {X:Cx}{e k:Expr}{te tk:DE}{pos p2:Pos}
end
section
variable {X:Cx}{pos:Pos}{iter tg:Expr}{body:List Stmt}{tl:DE}{g:DG}{tb:DS}{ta:DA}
end
section
variable {X:Cx}{x:Str}{V:DM->Prop}{e:Expr}{es:List Expr}{t:DA}{np cpos pos:Pos}
end
section
variable {P:Program}{w:World}{K:Frag}{mg:Str->Option Value}{base:Heap}
end
section
variable {X:Cx}{pins:List (Addr×Obj)}{σ:L2.St}{H:Hp}{s:Shared}{a:Addr}{o:Obj}
end
section
variable {X:Cx}{a:Expr}{e:Expr}{es:List Expr}{t:DA}{x f n cm:Str}{ps:List Str}{sp:DSp}{cond:List D->DM->Prop}{C Cm:Addr}{k1 k2 k i j:Nat}{ts:Addr->DS}{b0:Stmt}{suite:List Stmt}{px pf pc pa pcm ph pos:Pos}
end
section
end
section
variable {X:Cx}{n c:Str}{C Cc a:Addr}{o:Obj}{p p1 p2 pos:Pos}{j:Nat}
end
section
variable {prog:Program}{w:World}{A:Around}{E:Value->Shared->Prop}{s:Shared}{K:Frag}{x C D:Addr}{ox:Obj}
end
section
variable {X:Cx}{a C:Addr}{o:Obj}
end
section
end
section
variable {X:Cx}{j:Nat}
end
section
variable {X:Cx}{st:Stmt}{cH:List Stmt}{t u:DS}
theorem jP (h1:ZS X st t)(h2:ZSs X cH u):ZSs X (st::cH) (aIC t u):=.i (aGt h1.o h2.o)
end
section
variable {X:Cx}{e:Expr}{es:List Expr}{t:DA}{x f cm:Str}{ps:List Str}{sp:DSp}{cond:List D->DM->Prop}{C Cm:Addr}{k1 k2 k i:Nat}{ts:DS}{b0:Stmt}{suite:List Stmt}{px pf pc pa pcm ph pos:Pos}
end
section
variable {P:Program}{w:World}{K:Frag}{mg:Str->Option Value}{base:Heap}
theorem Fun.okZ {x qual:Str}{st:Stmt}{f:Addr}{fd:FuncData}{N ps:List Str}{k:Nat}{sp:DSp}(F:L2.Fun K x qual st f fd)(S:aS N ps (aI st))(len:∀ds M Q,sp ds M Q->ds.length=ps.length)(hbody:∀(cdv:Value)(A:Around) (outer:List Env) (s:Shared) (H:Hp) (ds:List D) (M:DM) (Q:DQ) (E:XK),dZ k (A.deeper (envOfC qual (aI st) s.heap.objs.size f cdv))->sp ds M Q ->
   ∃t,ZSs (sT CX0 P w K mg base N qual (aI st) f cdv A outer s H E).nox (fZ st) t/\t { nx:=λ_ M'=>Dn Q .non M',rt:=Dn Q } (jR N ds) M):mX P w K mg base CX0 (k+1) f fd ps (rM K sp) :=
 Fun.okD F S len λcdv A outer s H ds M Q E hr h=>let ⟨t,h1,h2⟩:=hbody cdv A outer s H ds M Q E hr h;⟨t,h1.o,h2⟩
theorem Has.mkZ {x:Str}{st:Stmt}{N ps:List Str}{k:Nat}{sp:DSp}(h:cM K mg x st ps)(S:aS N ps (aI st))(len:∀ds M Q,sp ds M Q->ds.length=ps.length)(hbody:∀(f:Addr)(cdv:Value) (A:Around) (outer:List Env) (s:Shared) (H:Hp) (ds:List D) (M:DM) (Q:DQ) (E:XK),dZ k (A.deeper (envOfC x (aI st) s.heap.objs.size f cdv))->sp ds M Q ->
   ∃t,ZSs (sT CX0 P w K mg base N x (aI st) f cdv A outer s H E).nox (fZ st) t/\t { nx:=λ_ M'=>Dn Q .non M',rt:=Dn Q } (jR N ds) M):Has P w K mg base (k+1) x ps sp :=
 Has.mk h S len λf cdv A outer s H ds M Q E hr h=>let ⟨t,h1,h2⟩:=hbody f cdv A outer s H ds M Q E hr h;⟨t,h1.o,h2⟩
end
section
variable {P:Program}{w:World}{K:Frag}{mg:Str->Option Value}{base:Heap}
end
end Dd
namespace Mz
open PySem
def Bd (n:Nat)(x:Int):Prop:=x.natAbs<2^n
theorem Bd.mono {m n:Nat}{x:Int}(h:Bd m x)(l:m<=n):Bd n x:=Nat.lt_of_lt_of_le h (Nat.pow_le_pow_right (by decide) l)
theorem Bd.neg {n:Nat}{x:Int}(h:Bd n x):Bd n (-x):=by unfold Bd at *;rw[Int.natAbs_neg];exact h
theorem Bd.add {m:Nat}{x y:Int}(h:Bd m x)(h2:Bd m y):Bd (m+1) (x+y):=by unfold Bd at *;have:=Int.natAbs_add_le x y;rw[Nat.pow_succ];omega
theorem Bd.sub {m:Nat}{x y:Int}(h:Bd m x)(h2:Bd m y):Bd (m+1) (x-y):=by rw[Int.sub_eq_add_neg];exact h.add h2.neg
theorem Bd.mul {m n:Nat}{x y:Int}(h:Bd m x)(h2:Bd n y):Bd (m+n) (x*y):=by unfold Bd at *;rw[Int.natAbs_mul,Nat.pow_add];exact Nat.mul_lt_mul'' h h2
theorem Bd.of {n:Nat}{x:Int}(h1:-(2^n:Nat)<x)(h2:x<(2^n:Nat)):Bd n x:=by unfold Bd;omega
theorem Bd.log {n:Nat}{x:Int}(h:Bd n x)(h0:0<n):x.natAbs.log2<n:=by
 rcases Nat.eq_zero_or_pos x.natAbs with e|e
 ·rw[e];simpa using h0
 ·exact(Nat.log2_lt (Nat.ne_of_gt e)).mpr h
theorem Bd.bits {n:Nat}{x:Int}(h:Bd n x):Builtin.Int.intBits x<=n+1:=by
 unfold Builtin.Int.intBits;split
 ·exact Nat.zero_le _
 ·rcases Nat.eq_zero_or_pos n with e|e
  ·subst e;have:x.natAbs<1:=h;have:x.natAbs=0:=by omega
   rw[this];decide
  ·have:=h.log e;omega
theorem cG {m n:Nat}{x y:Int}(h:Bd m x)(h2:Bd n y)(l:m+n<=100000000:=by decide):IntMulOk x y:=IntMulOk.of_le h.bits h2.bits (by omega)
theorem aBn {x y:Int}(h:Bd 63 x):IntMulOk x y:=IntMulOk.of_left (by have:=h.bits;omega)
theorem sQ {x y:Int}(h:Bd 63 y):IntMulOk x y:=IntMulOk.of_right (by have:=h.bits;omega)
theorem aCK {a b:Int}(h:b≠0):(a.fmod b).natAbs<b.natAbs:=by
 rcases Int.lt_or_lt_of_ne h with hb|hb
 ·have e:=Int.fmod_eq_emod (a:=a) (b:=b);have h1:=Int.emod_nonneg a h;have h2:=Int.emod_lt_of_neg a hb;by_cases hd:b∣a
  ·rw[if_pos (.inr hd)] at e;have:=Int.emod_eq_zero_of_dvd hd;omega
  ·rw[if_neg (by omega)] at e;have h3:a % b≠0:=λz=>hd (Int.dvd_of_emod_eq_zero z);omega
 ·have h1:=Int.fmod_nonneg_of_pos a hb;have h2:=Int.fmod_lt_of_pos a hb;omega
theorem aAG (a b:Int):Int.gcd b (a.fmod b)=Int.gcd a b:=by rw[Int.fmod_def,Int.mul_comm b,Int.gcd_sub_mul_right_right,Int.gcd_comm]
noncomputable def sg (t b:Int):Int:=if b<0 then -(Int.gcd t b:Int) else (Int.gcd t b:Int)
noncomputable def fT (t b:Int):Int:=t.fdiv (sg t b)
noncomputable def fB (t b:Int):Int:=b.fdiv (sg t b)
theorem kB {t b:Int}(h:b≠0):0<Int.gcd t b:=Nat.pos_of_ne_zero λz=>h (Int.gcd_eq_zero_iff.mp z).2
theorem aKU {t b:Int}(h:b≠0):sg t b≠0:=by have:=kB (t:=t) h;unfold sg;split<;>omega
theorem oM (t b:Int):sg t b∣t:=by
 have h:=Int.gcd_dvd_left t b;unfold sg;split
 ·exact Int.neg_dvd.mpr h
 ·exact h
theorem nK (t b:Int):sg t b∣b:=by
 have h:=Int.gcd_dvd_right t b;unfold sg;split
 ·exact Int.neg_dvd.mpr h
 ·exact h
theorem aJG {t b:Int}(h:b≠0):fT t b*sg t b=t:=by unfold fT;rw[Int.fdiv_eq_ediv_of_dvd (oM t b)];exact Int.ediv_mul_cancel (oM t b)
theorem aEM {t b:Int}(h:b≠0):fB t b*sg t b=b:=by unfold fB;rw[Int.fdiv_eq_ediv_of_dvd (nK t b)];exact Int.ediv_mul_cancel (nK t b)
theorem aJv {t b:Int}(h:b≠0):0<fB t b:=by
 have e:=aEM (t:=t) h;have hg:=kB (t:=t) h;rcases Int.lt_trichotomy (fB t b) 0 with z|z|z
 ·exfalso;unfold sg at e;split at e
  ·rename_i hb;have:=Int.mul_pos_of_neg_of_neg z (show -(Int.gcd t b:Int)<0 by omega);omega
  ·rename_i hb;have:=Int.mul_neg_of_neg_of_pos z (show 0<(Int.gcd t b:Int) by omega);omega
 ·rw[z] at e;omega
 ·exact z
theorem aH7 {t b:Int}(h:b≠0):fT t b*b=fB t b*t:=by
 have e1:=aJG (t:=t) h;have e2:=aEM (t:=t) h;have:fT t b*(fB t b*sg t b)=fB t b*(fT t b*sg t b):=by grind
 rw[e1,e2] at this;exact this
theorem wX (t b:Int):(sg t b).natAbs=Int.gcd t b:=by unfold sg;split<;>simp
theorem aMS {t b:Int}(h:b≠0):Int.gcd (fT t b) (fB t b)=1:=by unfold fT fB;rw[Int.fdiv_eq_ediv_of_dvd (oM t b),Int.fdiv_eq_ediv_of_dvd (nK t b),Int.gcd_ediv (oM t b) (nK t b),wX];exact Nat.div_self (kB h)
theorem Bd.fT {n:Nat}{t b:Int}(h:Bd n t):Bd n (fT t b):=by unfold Bd at *;unfold Mz.fT;rw[Int.fdiv_eq_ediv_of_dvd (oM t b)];exact Nat.lt_of_le_of_lt (Int.natAbs_ediv_le_natAbs _ _) h
theorem Bd.fB {n:Nat}{t b:Int}(h:Bd n b):Bd n (fB t b):=by unfold Bd at *;unfold Mz.fB;rw[Int.fdiv_eq_ediv_of_dvd (nK t b)];exact Nat.lt_of_le_of_lt (Int.natAbs_ediv_le_natAbs _ _) h
theorem Bd.sg {n:Nat}{t b:Int}(h:Bd n b)(h0:b≠0):Bd n (sg t b):=by unfold Bd at *;rw[wX];have:=Nat.le_of_dvd (by omega) (Int.natAbs_dvd_natAbs.mpr (Int.gcd_dvd_right t b));simp at this;omega
theorem wL {a b c:Int}(h:b∣a*c)(g:Int.gcd b a=1):b∣c:=by
 have h':b.natAbs∣a.natAbs*c.natAbs:=by rw[<- Int.natAbs_mul];exact Int.natAbs_dvd_natAbs.mpr h
 exact Int.natAbs_dvd_natAbs.mp (Nat.Coprime.dvd_of_dvd_mul_left g h')
theorem pW {t b t' b':Int}(h:0<b)(h':0<b')(g:Int.gcd t b=1)(g':Int.gcd t' b'=1)(e:t*b'=t'*b):t=t'/\b=b':=by
 have d1:b∣b':=by have:b∣t*b':=⟨t',by rw[e];exact Int.mul_comm _ _⟩;exact wL this (by rw[Int.gcd_comm];exact g)
 have d2:b'∣b:=by have:b'∣t'*b:=⟨t,by rw[<- e];exact Int.mul_comm _ _⟩;exact wL this (by rw[Int.gcd_comm];exact g')
 have e1:b=b':=Int.le_antisymm (Int.le_of_dvd h' d1) (Int.le_of_dvd h d2);subst e1;exact⟨Int.eq_of_mul_eq_mul_right (by omega) e,rfl⟩
theorem den_pos (q:Rat):(0:Int)<(q.den:Int):=by have:=q.den_pos;omega
theorem cX (q:Rat):(q.den:Int)≠0:=by have:=q.den_pos;omega
theorem oO (q:Rat):((q.den:Int):Rat)≠0:=by
 intro h;have:(q.den:Int)=0:=by exact_mod_cast h
 exact cX q this
theorem aGL (q:Rat):(q.num:Rat)/((q.den:Int):Rat)=q:=by have h:=Rat.num_divInt_den q;rw[Rat.divInt_eq_div] at h;exact h
theorem eI (q:Rat):(q.num:Rat)=q*((q.den:Int):Rat):=by have h:=aGL q;have h2:=oO q;grind
theorem aCg {t b:Int}(h:b≠0):fT t b=((t:Rat)/(b:Rat)).num/\fB t b=((((t:Rat)/(b:Rat)).den:Nat):Int):=by
 have hb:(b:Rat)≠0:=by exact_mod_cast h
 refine pW (aJv h) (den_pos _) (aMS h) ?_ ?_
 ·have:=((t:Rat)/(b:Rat)).reduced;unfold Nat.Coprime at this;rw[<- this];rfl
 ·have e1:=aH7 (t:=t) h;have e2:=eI ((t:Rat)/(b:Rat));have e3:((fT t b:Int):Rat)*b=(fB t b:Int)*(t:Rat):=by rw[<- Rat.intCast_mul,<- Rat.intCast_mul,e1]
  have e4:((fT t b:Int):Rat)*((((t:Rat)/(b:Rat)).den:Int):Rat)=((((t:Rat)/(b:Rat)).num:Int):Rat)*(fB t b:Int):=by rw[e2];grind
  rw[<- Rat.intCast_mul,<- Rat.intCast_mul] at e4;exact Rat.intCast_inj.mp e4
def BQ (n:Nat)(q:Rat):Prop:=Bd n q.num/\Bd n (q.den:Int)
theorem BQ.mono {m n:Nat}{q:Rat}(h:BQ m q)(l:m<=n):BQ n q:=⟨h.1.mono l,h.2.mono l⟩
theorem BQ.make {n:Nat}{t b:Int}(h:b≠0)(h1:Bd n t)(h2:Bd n b):BQ n ((t:Rat)/(b:Rat)):=by obtain⟨e1,e2⟩:=aCg (t:=t) h;exact⟨e1 ▸ h1.fT,e2 ▸ h2.fB⟩
theorem aMl (p q:Rat):(((p.num*q.den+q.num*p.den:Int)):Rat)/((p.den*q.den:Int):Rat)=p+q:=by have h1:=oO p;have h2:=oO q;have e1:=eI p;have e2:=eI q;rw[Rat.intCast_add,Rat.intCast_mul,Rat.intCast_mul,Rat.intCast_mul,e1,e2];grind
theorem aL5 (p q:Rat):(((p.num*q.den-q.num*p.den:Int)):Rat)/((p.den*q.den:Int):Rat)=p-q:=by have h1:=oO p;have h2:=oO q;have e1:=eI p;have e2:=eI q;rw[Rat.intCast_sub,Rat.intCast_mul,Rat.intCast_mul,Rat.intCast_mul,e1,e2];grind
theorem aMj (p q:Rat):(((p.num*q.num:Int)):Rat)/((p.den*q.den:Int):Rat)=p*q:=by have h1:=oO p;have h2:=oO q;have e1:=eI p;have e2:=eI q;rw[Rat.intCast_mul,Rat.intCast_mul,e1,e2];grind
theorem aM9 (p q:Rat)(h:q≠0):(((p.num*q.den:Int)):Rat)/((p.den*q.num:Int):Rat)=p/q:=by have h1:=oO p;have h2:=oO q;have e1:=eI p;have e2:=eI q;rw[Rat.intCast_mul,Rat.intCast_mul,e1,e2];grind
theorem BQ.add {m n:Nat}{p q:Rat}(h:BQ m p)(h2:BQ n q):BQ (m+n+1) (p+q):=by rw[<- aMl];exact .make (Int.mul_ne_zero (cX p) (cX q)) ((h.1.mul h2.2).add ((h2.1.mul h.2).mono (by omega))) ((h.2.mul h2.2).mono (by omega))
theorem BQ.sub {m n:Nat}{p q:Rat}(h:BQ m p)(h2:BQ n q):BQ (m+n+1) (p-q):=by rw[<- aL5];exact .make (Int.mul_ne_zero (cX p) (cX q)) ((h.1.mul h2.2).sub ((h2.1.mul h.2).mono (by omega))) ((h.2.mul h2.2).mono (by omega))
theorem BQ.mul {m n:Nat}{p q:Rat}(h:BQ m p)(h2:BQ n q):BQ (m+n) (p*q):=by rw[<- aMj];exact .make (Int.mul_ne_zero (cX p) (cX q)) (h.1.mul h2.1) (h.2.mul h2.2)
theorem rQ {q:Rat}:q.num=0↔q=0:=Rat.num_eq_zero
theorem BQ.div {m n:Nat}{p q:Rat}(h:BQ m p)(h2:BQ n q)(h0:q≠0):BQ (m+n) (p/q):=by rw[<- aM9 p q h0];exact .make (Int.mul_ne_zero (cX p) (λz=>h0 (rQ.mp z))) (h.1.mul h2.2) (h.2.mul h2.1)
theorem BQ.neg {m:Nat}{p:Rat}(h:BQ m p):BQ m (-p):=⟨by rw[Rat.neg_num];exact h.1.neg,by rw[Rat.neg_den];exact h.2⟩
theorem BQ.int {m:Nat}{z:Int}(h:Bd m z)(h0:0<m):BQ m (z:Rat):=⟨by rw[Rat.num_intCast];exact h,by rw[Rat.den_intCast];unfold Bd;exact Nat.one_lt_two_pow (by omega)⟩
theorem ltQ (p q:Rat):(p.num*q.den<q.num*p.den)↔p<q:=(Rat.lt_iff p q).symm
theorem aG6 {q:Rat}:0<q.num↔0<q:=by have:=Rat.lt_iff 0 q;simp at this;exact this.symm
theorem nT {q:Rat}:q.num<0↔q<0:=by have:=Rat.lt_iff q 0;simp at this;exact this.symm
theorem aCs {t b:Int}{q:Rat}(hb:0<b)(hg:Int.gcd t b=1)(e:(t:Rat)=q*(b:Rat)):t=q.num/\b=(q.den:Int):=by
 refine pW hb (den_pos q) hg ?_ ?_
 ·have:=q.reduced;unfold Nat.Coprime at this;rw[<- this];rfl
 ·have e2:=eI q;have:((t*(q.den:Int):Int):Rat)=((q.num*b:Int):Rat):=by rw[Rat.intCast_mul,Rat.intCast_mul,e,e2];grind
  exact Rat.intCast_inj.mp this
theorem mS {a b c:Int}(h:Int.gcd a b=1)(h2:Int.gcd a c=1):Int.gcd a (b*c)=1:=by unfold Int.gcd at *;rw[Int.natAbs_mul];exact Nat.Coprime.mul_right h h2
theorem dA {a b:Int}(h:Int.gcd a b=1):Int.gcd b a=1:=by rw[Int.gcd_comm];exact h
theorem kE {a a' b:Int}(h:a∣a')(h2:Int.gcd a' b=1):Int.gcd a b=1:=by unfold Int.gcd at *;exact Nat.Coprime.coprime_dvd_left (Int.natAbs_dvd_natAbs.mpr h) h2
theorem red (q:Rat):Int.gcd q.num (q.den:Int)=1:=by have:=q.reduced;unfold Nat.Coprime at this;rw[<- this];rfl
theorem pB {x y:Int}(h:y≠0):∃a b:Int,x=(Int.gcd x y:Int)*a/\y=(Int.gcd x y:Int)*b/\Int.gcd a b=1/\x.fdiv (Int.gcd x y:Int)=a/\y.fdiv (Int.gcd x y:Int)=b:=by
 have hp:0<Int.gcd x y:=kB h;obtain⟨a,ha⟩:=Int.gcd_dvd_left x y;obtain⟨b,hb⟩:=Int.gcd_dvd_right x y;have e1:x.fdiv (Int.gcd x y:Int)=a:=by rw[Int.fdiv_eq_ediv_of_dvd (Int.gcd_dvd_left x y)];exact Int.ediv_eq_of_eq_mul_right (by omega) ha
 have e2:y.fdiv (Int.gcd x y:Int)=b:=by rw[Int.fdiv_eq_ediv_of_dvd (Int.gcd_dvd_right x y)];exact Int.ediv_eq_of_eq_mul_right (by omega) hb
 refine⟨a,b,ha,hb,?_,e1,e2⟩;rw[<- e1,<- e2,Int.fdiv_eq_ediv_of_dvd (Int.gcd_dvd_left x y),Int.fdiv_eq_ediv_of_dvd (Int.gcd_dvd_right x y),Int.gcd_ediv (Int.gcd_dvd_left x y) (Int.gcd_dvd_right x y)];simp;exact Nat.div_self hp
theorem aMK (p q:Rat):∀g a t l:Int,g=(Int.gcd p.den q.den:Int)->a=(p.den:Int).fdiv g->t=p.num*(q.den:Int).fdiv g+q.num*a->l=(Int.gcd t g:Int) ->
  g≠0/\l≠0/\g∣(p.den:Int)/\l∣g/\t.fdiv l=(p+q).num/\a*(q.den:Int).fdiv l=((p+q).den:Int):=by
 intro g a t l hg ha ht hl;have d1:=den_pos p;have d2:=den_pos q;obtain⟨a',b,e1,e2,cab,f1,f2⟩:=pB (x:=p.den) (y:=q.den) (cX q);rw[<- hg] at e1 e2 f1 f2;rw[f1] at ha;subst ha;rw[f2] at ht;have g0:0<g:=by have:=kB (t:=(p.den:Int)) (cX q);omega
 have a0:0<a:=by
  rcases Int.lt_trichotomy a 0 with z|z|z
  ·have:=Int.mul_neg_of_pos_of_neg g0 z;omega
  ·subst z;omega
  ·exact z
 have b0:0<b:=by
  rcases Int.lt_trichotomy b 0 with z|z|z
  ·have:=Int.mul_neg_of_pos_of_neg g0 z;omega
  ·subst z;omega
  ·exact z
 obtain⟨t',g',e3,e4,ctg,f3,f4⟩:=pB (x:=t) (y:=g) (by omega);rw[<- hl] at e3 e4 f3 f4;have l0:0<l:=by have:=kB (t:=t) (b:=g) (by omega);omega
 have g'0:0<g':=by
  rcases Int.lt_trichotomy g' 0 with z|z|z
  ·have:=Int.mul_neg_of_pos_of_neg l0 z;omega
  ·subst z;omega
  ·exact z
 have f5:(q.den:Int).fdiv l=g'*b:=by
  have e:(q.den:Int)=l*(g'*b):=by rw[e2,e4];grind
  rw[Int.fdiv_eq_ediv_of_dvd ⟨_,e⟩];exact Int.ediv_eq_of_eq_mul_right (by omega) e
 refine⟨by omega,by omega,⟨a,e1⟩,⟨g',e4⟩,?_⟩;rw[f3,f5];have ca:Int.gcd t a=1:=by have c1:Int.gcd p.num a=1:=dA (kE ⟨g,by rw[e1];grind⟩ (dA (red p)));have:Int.gcd a (p.num*b)=1:=mS (dA c1) cab;rw[ht,Int.gcd_comm,Int.gcd_add_mul_right_right];exact this
 have cb:Int.gcd t b=1:=by have c1:Int.gcd q.num b=1:=dA (kE ⟨g,by rw[e2];grind⟩ (dA (red q)));have:Int.gcd b (q.num*a)=1:=mS (dA c1) (dA cab);rw[ht,Int.gcd_comm,Int.add_comm,Int.gcd_add_mul_right_right];exact this
 have hd:t'∣t:=⟨l,by rw[e3];grind⟩;refine aCs (q:=p+q) (Int.mul_pos a0 (Int.mul_pos g'0 b0)) (mS (kE hd ca) (mS ctg (kE hd cb))) ?_;have n1:=eI p;have n2:=eI q;have r1:=oO p;have r2:=oO q;have k1:((p.den:Int):Rat)=(l:Rat)*g'*a:=by rw[e1,e4,Rat.intCast_mul,Rat.intCast_mul]
 have k2:((q.den:Int):Rat)=(l:Rat)*g'*b:=by rw[e2,e4,Rat.intCast_mul,Rat.intCast_mul]
 have k3:(l:Rat)*t'=(p.num:Rat)*b+(q.num:Rat)*a:=by rw[<- Rat.intCast_mul,<- e3,ht,Rat.intCast_add,Rat.intCast_mul,Rat.intCast_mul]
 have k4:(l:Rat)≠0:=λz=>by
                     have:l=0:=by exact_mod_cast z
                     omega
 rw[n1,n2,k1,k2] at k3;rw[Rat.intCast_mul,Rat.intCast_mul];have:(l:Rat)*(t':Rat)=l*((p+q)*((a:Rat)*(g'*b))):=by rw[k3];grind
 grind
theorem aML (p q:Rat):∀f r:Int,f=(Int.gcd p.num q.den:Int)->r=(Int.gcd q.num p.den:Int) ->
  f≠0/\r≠0/\f∣(q.den:Int)/\r∣(p.den:Int)/\p.num.fdiv f*q.num.fdiv r=(p*q).num/\(p.den:Int).fdiv r*(q.den:Int).fdiv f=((p*q).den:Int):=by
 intro f r hf hr;have d1:=den_pos p;have d2:=den_pos q;obtain⟨x,v,e1,e2,c1,f1,f2⟩:=pB (x:=p.num) (y:=q.den) (cX q);obtain⟨y,u,e3,e4,c2,f3,f4⟩:=pB (x:=q.num) (y:=p.den) (cX p);rw[<- hf] at e1 e2 f1 f2;rw[<- hr] at e3 e4 f3 f4;have f0:0<f:=by have:=kB (t:=p.num) (cX q);omega
 have r0:0<r:=by have:=kB (t:=q.num) (cX p);omega
 have v0:0<v:=by
  rcases Int.lt_trichotomy v 0 with z|z|z
  ·have:=Int.mul_neg_of_pos_of_neg f0 z;omega
  ·subst z;omega
  ·exact z
 have u0:0<u:=by
  rcases Int.lt_trichotomy u 0 with z|z|z
  ·have:=Int.mul_neg_of_pos_of_neg r0 z;omega
  ·subst z;omega
  ·exact z
 refine⟨by omega,by omega,⟨v,e2⟩,⟨u,e4⟩,?_⟩;rw[f1,f2,f3,f4];have cxu:Int.gcd x u=1:=kE ⟨f,by rw[e1];grind⟩ (dA (kE ⟨r,by rw[e4];grind⟩ (dA (red p))));have cyv:Int.gcd y v=1:=kE ⟨r,by rw[e3];grind⟩ (dA (kE ⟨f,by rw[e2];grind⟩ (dA (red q))));refine aCs (q:=p*q) (Int.mul_pos u0 v0) ?_ ?_
 ·exact dA (mS (dA (mS cxu c1)) (dA (mS c2 cyv)))
 have n1:=eI p;have n2:=eI q;have r1:=oO p;have r2:=oO q;have k1:((p.den:Int):Rat)=(r:Rat)*u:=by rw[e4,Rat.intCast_mul]
 have k2:((q.den:Int):Rat)=(f:Rat)*v:=by rw[e2,Rat.intCast_mul]
 have k3:(p.num:Rat)=(f:Rat)*x:=by rw[e1,Rat.intCast_mul]
 have k4:(q.num:Rat)=(r:Rat)*y:=by rw[e3,Rat.intCast_mul]
 have k5:(f:Rat)≠0:=λz=>by
                     have:f=0:=by exact_mod_cast z
                     omega
 have k6:(r:Rat)≠0:=λz=>by
                     have:r=0:=by exact_mod_cast z
                     omega
 rw[Rat.intCast_mul,Rat.intCast_mul];have:(f:Rat)*r*((x:Rat)*y)=f*r*((p*q)*((u:Rat)*v)):=by
  have z1:(f:Rat)*x=p*(r*u):=by rw[<- k3,<- k1];exact n1
  have z2:(r:Rat)*y=q*(f*v):=by rw[<- k4,<- k2];exact n2
  grind
 grind
theorem aMF {q:Rat}(h:0<q):(q.den:Int)=(1/q).num/\q.num=((1/q).den:Int):=by refine aCs (q:=1/q) (aG6.mpr h) (dA (red q)) ?_;have:=eI q;have r:=oO q;grind
theorem aMD {q:Rat}(h:q<0):-(q.den:Int)=(1/q).num/\-q.num=((1/q).den:Int):=by have h':=nT.mpr h;refine aCs (q:=1/q) (by omega) (by rw[Int.gcd_neg,Int.neg_gcd];exact dA (red q)) ?_;have:=eI q;have r:=oO q;rw[Rat.intCast_neg,Rat.intCast_neg];grind
theorem Bd.dvd {n:Nat}{x y:Int}(h:Bd n y)(d:x∣y)(h0:y≠0):Bd n x:=by unfold Bd at *;have:=Nat.le_of_dvd (by omega) (Int.natAbs_dvd_natAbs.mpr d);omega
theorem Bd.fdiv {n:Nat}{x y:Int}(h:Bd n x)(d:y∣x):Bd n (x.fdiv y):=by unfold Bd at *;rw[Int.fdiv_eq_ediv_of_dvd d];exact Nat.lt_of_le_of_lt (Int.natAbs_ediv_le_natAbs _ _) h
noncomputable def sgn (q:Rat):Int:=if 0<q then 1 else if q<0 then -1 else 0
noncomputable def bL (ax ay bx by' px py:Rat):Rat:=(bx-ax)*(py-ay)-(by'-ay)*(px-ax)
theorem sI {z F:Rat}(hF:0<F):sgn (z*F)=sgn z:=by
 unfold sgn;rcases (show z<0∨z=0∨0<z by grind) with c|c|c
 ·have:=Rat.mul_pos (show 0 < -z by grind) hF;rw[if_neg (by grind),if_pos (by grind),if_neg (by grind),if_pos c]
 ·subst c;rw[if_neg (by grind),if_neg (by grind),if_neg (by grind),if_neg (by grind)]
 ·have:=Rat.mul_pos c hF;rw[if_pos this,if_pos c]
noncomputable def uu (t:Rat):Rat:=(1-t*t)/(1+t*t)
noncomputable def vv (t:Rat):Rat:=(t+t)/(1+t*t)
noncomputable def bR (t x y:Rat):Rat:=uu t*x-vv t*y
noncomputable def bT (t x y:Rat):Rat:=vv t*x+uu t*y
theorem nS (t:Rat):0<=t*t:=by
 rcases (show t<0∨t=0∨0<t by grind) with c|c|c
 ·have:=Rat.mul_pos (show 0 < -t by grind) (show 0 < -t by grind);grind
 ·subst c;grind
 ·have:=Rat.mul_pos c c;grind
theorem cD (t:Rat):1+t*t≠0:=by have:=nS t;grind
theorem aFX {x y:Rat}(h:¬(x=0/\y=0)):x*x+y*y≠0:=by
 have h1:=nS x;have h2:=nS y;intro z;have e1:x*x=0:=by grind
 have e2:y*y=0:=by grind
 exact h ⟨by grind,by grind⟩
theorem uv1 (t:Rat):1+uu t=2/(1+t*t):=by have:=cD t;unfold uu;grind
theorem aHU (t:Rat):uu t*uu t+vv t*vv t=1:=by have:=cD t;unfold uu vv;grind
theorem vI {t x y:Rat}(h:¬(x=0/\y=0)):x*x+y*y+(x*bR t x y+y*bT t x y)≠0/\(x*bT t x y-y*bR t x y)/(x*x+y*y+(x*bR t x y+y*bT t x y))=t:=by
 have h1:=cD t;have h2:=aFX h;have e1:x*x+y*y+(x*bR t x y+y*bT t x y)=(x*x+y*y)*(2/(1+t*t)):=by rw[<- uv1];unfold bR bT;grind
 have e2:x*bT t x y-y*bR t x y=(x*x+y*y)*((t+t)/(1+t*t)):=by unfold bR bT vv;grind
 rw[e1,e2];constructor
 ·intro z;have:(2:Rat)/(1+t*t)≠0:=by grind
  grind
 ·grind
noncomputable def SS (x y p q:Rat):Rat:=x*x+y*y+(x*p+y*q)
noncomputable def LL (x y p q:Rat):Rat:=x*q-y*p
theorem sq0 {a:Rat}(h:a*a=0):a=0:=by grind
theorem aMt {a b:Rat}(h:a*a+b*b=0):a=0/\b=0:=by have h1:=nS a;have h2:=nS b;exact⟨sq0 (by grind),sq0 (by grind)⟩
theorem aAu {x y:Rat}(h0:¬(x=0/\y=0)):0<x*x+y*y:=by have h1:=nS x;have h2:=nS y;have h3:=aFX h0;grind
theorem aDB {x y p q:Rat}(h0:¬(x=0/\y=0))(hc:p*p+q*q=x*x+y*y) :
  (SS x y p q=0/\p = -x/\q = -y)∨(SS x y p q≠0/\∃t,LL x y p q/SS x y p q=t/\p=bR t x y/\q=bT t x y):=by
 by_cases hS:SS x y p q=0
 ·left;have e:(x+p)*(x+p)+(y+q)*(y+q)=0:=by unfold SS at hS;grind
  obtain⟨a,b⟩:=aMt e;exact⟨hS,by grind,by grind⟩
 ·right;refine⟨hS,_,rfl,?_⟩;have hN:=aAu h0;have hN':x*x+y*y≠0:=by grind
  generalize ht:LL x y p q/SS x y p q=t;have e1:LL x y p q=t*SS x y p q:=by grind
  have h1:=cD t;have key:SS x y p q*SS x y p q*(1+t*t)=2*(x*x+y*y)*SS x y p q:=by
   have:SS x y p q*SS x y p q*(1+t*t)=SS x y p q*SS x y p q+LL x y p q*LL x y p q:=by rw[e1];grind
   rw[this];unfold SS LL;grind
  have k2:SS x y p q*(1+t*t)=2*(x*x+y*y):=by grind
  have k3:(x*x+y*y)*uu t=x*p+y*q:=by
   have a1:uu t*(1+t*t)=1-t*t:=by unfold uu;grind
   have a2:(x*x+y*y)*uu t*(1+t*t)=(x*p+y*q)*(1+t*t):=by
    have:x*p+y*q=SS x y p q-(x*x+y*y):=by unfold SS;grind
    grind
   grind
  have k4:(x*x+y*y)*vv t=LL x y p q:=by
   have a1:vv t*(1+t*t)=t+t:=by unfold vv;grind
   have a2:(x*x+y*y)*vv t*(1+t*t)=LL x y p q*(1+t*t):=by rw[e1];grind
   grind
  unfold bR bT LL at *;constructor
  ·have:(x*x+y*y)*p=(x*x+y*y)*(uu t*x-vv t*y):=by grind
   grind
  ·have:(x*x+y*y)*q=(x*x+y*y)*(vv t*x+uu t*y):=by grind
   grind
theorem aId (t x y:Rat):bR t x y*bR t x y+bT t x y*bT t x y=x*x+y*y:=by have:=aHU t;unfold bR bT;grind
noncomputable def plK (x y p q:Rat):Int:=if SS x y p q=0 then 1 else if LL x y p q<0 then 2 else 0
noncomputable def plZ (x y p q:Rat):Rat:=if SS x y p q=0 then 0 else LL x y p q/SS x y p q
noncomputable def aKy (k1:Int)(z1:Rat)(k2:Int)(z2:Rat):Bool:=if k1=k2 then decide (z1<z2) else decide (k1<k2)
noncomputable def kS (x y p q u v:Rat):Bool:=if p=x/\q=y then !decide (u=x/\v=y) else decide (sgn (bL x y p q u v)=1)
theorem aDP (t x y:Rat):LL x y (bR t x y) (bT t x y)=(x*x+y*y)*vv t:=by unfold LL bR bT;grind
theorem aBI {t:Rat}:vv t<0↔t<0:=by
 have h1:=nS t;have h2:0<1+t*t:=by grind
 have e:vv t*(1+t*t)=t+t:=by unfold vv;grind
 constructor
 ·intro h;have:=Rat.mul_pos (show 0 < -vv t by grind) h2;grind
 ·intro h;rcases (show vv t<0∨vv t=0∨0<vv t by grind) with c|c|c
  ·exact c
  ·rw[c] at e;grind
  ·have:=Rat.mul_pos c h2;grind
theorem iP {t x y:Rat}(h0:¬(x=0/\y=0)):plK x y (bR t x y) (bT t x y)=(if t<0 then 2 else 0)/\plZ x y (bR t x y) (bT t x y)=t:=by
 obtain⟨a,b⟩:=vI (t:=t) h0;have a':SS x y (bR t x y) (bT t x y)≠0:=a;have b':LL x y (bR t x y) (bT t x y)/SS x y (bR t x y) (bT t x y)=t:=b;unfold plK plZ;rw[if_neg a',if_neg a',b'];refine⟨?_,rfl⟩;have hN:=aAu h0;have:LL x y (bR t x y) (bT t x y)<0↔t<0:=by
  rw[aDP,<- aBI (t:=t)];constructor
  ·intro h;rcases (show vv t<0∨vv t=0∨0<vv t by grind) with c|c|c
   ·exact c
   ·rw[c] at h;grind
   ·have:=Rat.mul_pos hN c;grind
  ·intro h;have:=Rat.mul_pos hN (show 0 < -vv t by grind);grind
 by_cases c:t<0
 ·rw[if_pos c,if_pos (this.mpr c)]
 ·rw[if_neg c,if_neg (λz=>c (this.mp z))]
theorem jQ {x y:Rat}:plK x y (-x) (-y)=1/\plZ x y (-x) (-y)=0:=by
 have:SS x y (-x) (-y)=0:=by unfold SS;grind
 unfold plK plZ;rw[if_pos this,if_pos this];exact⟨rfl,rfl⟩
theorem qA {t x y:Rat}(h0:¬(x=0/\y=0)):(bR t x y=x/\bT t x y=y)↔t=0:=by
 constructor
 ·intro ⟨a,b⟩;have e:=aDP t x y;rw[a,b] at e;have hN:=aAu h0;have hz:(x*x+y*y)*vv t=0:=by rw[<- e];unfold LL;grind
  have:vv t=0:=by
   rcases Rat.mul_eq_zero.mp hz with z|z
   ·grind
   ·exact z
  have h1:=cD t;unfold vv at this;grind
 ·rintro rfl;have e1:uu 0=1:=by unfold uu;grind
  have e2:vv 0=0:=by unfold vv;grind
  unfold bR bT;rw[e1,e2];constructor<;>grind
theorem aB5 (t r x y:Rat):bL x y (bR t x y) (bT t x y) (bR r x y) (bT r x y)*((1+t*t)*(1+r*r))=(t*r*(r-t))*(4*(x*x+y*y)):=by
 have a1:uu t*(1+t*t)=1-t*t:=by have:=cD t;unfold uu;grind
 have a2:vv t*(1+t*t)=t+t:=by have:=cD t;unfold vv;grind
 have b1:uu r*(1+r*r)=1-r*r:=by have:=cD r;unfold uu;grind
 have b2:vv r*(1+r*r)=r+r:=by have:=cD r;unfold vv;grind
 have e:bL x y (bR t x y) (bT t x y) (bR r x y) (bT r x y)=(x*x+y*y)*((uu t-1)*vv r-vv t*(uu r-1)):=by unfold bL bR bT;grind
 rw[e];have c1:(uu t-1)*(1+t*t) = -(2*(t*t)):=by grind
 have c2:(uu r-1)*(1+r*r) = -(2*(r*r)):=by grind
 have:((uu t-1)*vv r-vv t*(uu r-1))*((1+t*t)*(1+r*r))=((uu t-1)*(1+t*t))*(vv r*(1+r*r))-(vv t*(1+t*t))*((uu r-1)*(1+r*r)):=by grind
 have:((uu t-1)*vv r-vv t*(uu r-1))*((1+t*t)*(1+r*r))=4*(t*r*(r-t)):=by rw[this,c1,c2,a2,b2];grind
 grind
theorem aGN {t r x y:Rat}(h0:¬(x=0/\y=0)):sgn (bL x y (bR t x y) (bT t x y) (bR r x y) (bT r x y))=sgn (t*r*(r-t)):=by have h1:=nS t;have h2:=nS r;rw[<- sI (z:=bL x y (bR t x y) (bT t x y) (bR r x y) (bT r x y)) (F:=(1+t*t)*(1+r*r)) (Rat.mul_pos (by grind) (by grind)),aB5,sI];have:=aAu h0;grind
theorem uQ {z:Rat}:sgn z=1↔0<z:=by
 unfold sgn;constructor
 ·intro h;by_cases c:0<z
  ·exact c
  ·rw[if_neg c] at h;split at h<;>cases h
 ·intro h;rw[if_pos h]
theorem aFN {x y p q u v:Rat}(h0:¬(x=0/\y=0))(hc:p*p+q*q=x*x+y*y)(hd:u*u+v*v=x*x+y*y) :
  kS x y p q u v=aKy (plK x y p q) (plZ x y p q) (plK x y u v) (plZ x y u v):=by
 have hN:=aAu h0;unfold kS aKy;rcases aDB h0 hc with⟨_,rfl,rfl⟩|⟨_,t,_,rfl,rfl⟩
 ·rw[(jQ (x:=x) (y:=y)).1,(jQ (x:=x) (y:=y)).2,if_neg (by intro ⟨a,b⟩;exact h0 ⟨by grind,by grind⟩)];rcases aDB h0 hd with⟨_,rfl,rfl⟩|⟨_,r,_,rfl,rfl⟩
  ·rw[(jQ (x:=x) (y:=y)).1,(jQ (x:=x) (y:=y)).2,if_pos rfl];have:bL x y (-x) (-y) (-x) (-y)=0:=by unfold bL;grind
   rw[this];decide
  ·rw[(iP (t:=r) h0).1,(iP (t:=r) h0).2];have e:bL x y (-x) (-y) (bR r x y) (bT r x y) = -vv r*(2*(x*x+y*y)):=by unfold bL bR bT;grind
   have k:sgn (bL x y (-x) (-y) (bR r x y) (bT r x y))=1↔r<0:=by rw[e,sI (by grind),uQ,<- aBI (t:=r)];constructor<;>intro z<;>grind
   rw[decide_eq_decide.mpr k];by_cases c:r<0
   ·rw[if_pos c,decide_eq_true c];rfl
   ·rw[if_neg c,decide_eq_false c];rfl
 ·rw[(iP (t:=t) h0).1,(iP (t:=t) h0).2];have idt:=qA (t:=t) h0;rcases aDB h0 hd with⟨_,rfl,rfl⟩|⟨_,r,_,rfl,rfl⟩
  ·rw[(jQ (x:=x) (y:=y)).1,(jQ (x:=x) (y:=y)).2];have ne:¬(-x=x/\-y=y):=λ⟨a,b⟩=>h0 ⟨by grind,by grind⟩;rw[decide_eq_false ne];have e:bL x y (bR t x y) (bT t x y) (-x) (-y)=vv t*(2*(x*x+y*y)):=by unfold bL bR bT;grind
   have k:sgn (bL x y (bR t x y) (bT t x y) (-x) (-y))=1↔0<vv t:=by rw[e,sI (by grind),uQ]
   have k0:vv t=0↔t=0:=by have h1:=cD t;unfold vv;constructor<;>intro z<;>grind
   have kn:=aBI (t:=t);rw[decide_eq_decide.mpr k];by_cases c:t=0
   ·rw[if_pos (idt.mpr c),if_neg (by grind)];subst c;rfl
   ·rw[if_neg (λz=>c (idt.mp z))];by_cases c2:t<0
    ·rw[if_pos c2,decide_eq_false (by have:=kn.mpr c2;grind)];rfl
    ·rw[if_neg c2,decide_eq_true (by grind)];rfl
  ·rw[(iP (t:=r) h0).1,(iP (t:=r) h0).2];have idr:=qA (t:=r) h0;have e1:decide (sgn (bL x y (bR t x y) (bT t x y) (bR r x y) (bT r x y))=1)=decide (0<t*r*(r-t)):=decide_eq_decide.mpr (by rw[aGN h0,uQ]);have e2:decide (bR r x y=x/\bT r x y=y)=decide (r=0):=decide_eq_decide.mpr idr;rw[e1,e2];have m1:∀{a b:Rat},0<a->0<b->0<a*b:=λh1 h2=>Rat.mul_pos h1 h2;by_cases c:t=0
   ·rw[if_pos (idt.mpr c)];subst c;rw[if_neg (show ¬((0:Rat)<0) by grind)];by_cases c2:r<0
    ·rw[if_pos c2,if_neg (by decide),decide_eq_false (by grind)];rfl
    ·rw[if_neg c2,if_pos rfl];by_cases c3:r=0
     ·subst c3;rfl
     ·rw[decide_eq_false c3,decide_eq_true (by grind)];rfl
   ·rw[if_neg (λz=>c (idt.mp z))];by_cases c1:t<0
    ·rw[if_pos c1];by_cases c2:r<0
     ·rw[if_pos c2,if_pos rfl];have h1:=m1 (show 0 < -t by grind) (show 0 < -r by grind);rw[decide_eq_decide];constructor
      ·intro h;rcases (show r-t<0∨r-t=0∨0<r-t by grind) with z|z|z
       ·have:=m1 h1 (show 0 < -(r-t) by grind);grind
       ·rw[z] at h;grind
       ·grind
      ·intro h;have:=m1 h1 (show 0<r-t by grind);grind
     ·rw[if_neg c2,if_neg (by decide)];refine(decide_eq_false ?_).trans rfl;intro h;by_cases c3:r=0
      ·subst c3;grind
      ·have:=m1 (m1 (show 0 < -t by grind) (show 0<r by grind)) (show 0<r-t by grind);grind
    ·rw[if_neg c1];by_cases c2:r<0
     ·rw[if_pos c2,if_neg (by decide)];refine(decide_eq_true ?_).trans rfl;have:=m1 (m1 (show 0<t by grind) (show 0 < -r by grind)) (show 0<t-r by grind);grind
     ·rw[if_neg c2,if_pos rfl];by_cases c3:r=0
      ·subst c3;rw[decide_eq_false (by grind),decide_eq_false (by grind)]
      ·have h1:=m1 (show 0<t by grind) (show 0<r by grind);rw[decide_eq_decide];constructor
       ·intro h;rcases (show r-t<0∨r-t=0∨0<r-t by grind) with z|z|z
        ·have:=m1 h1 (show 0 < -(r-t) by grind);grind
        ·rw[z] at h;grind
        ·grind
       ·intro h;have:=m1 h1 (show 0<r-t by grind);grind
noncomputable def tb (t h u:Int):Int:=(t+h*u).fmod 4
end Mz
namespace Dd
open PySem PySem.Spec PyProof.Rows L2 Mz
noncomputable def FQ (q:Rat):D:=.tup [.int q.num,.int (q.den:Int)]
theorem aHj {t b:Int}(h:b≠0):(D.tup [.int (fT t b),.int (fB t b)])=FQ ((t:Rat)/(b:Rat)):=by obtain⟨e1,e2⟩:=aCg (t:=t) h;rw[e1,e2];rfl
def gB:DSp:=λds M Q=>∃a b,ds=[.int a,.int b]/\Q (.int (Int.gcd a b:Int)) M
def tL (g:Rat->Rat->D)(C:Rat->Prop:=λ_=>True):DSp:=λds M Q=>∃p q m n,ds=[FQ p,FQ q]/\C q/\BQ m p/\BQ n q/\m+n<=8998/\Q (g p q) M
def mG:DSp:=tL λp q=>FQ (p+q)
def rO:DSp:=tL λp q=>FQ (p-q)
def lB:DSp:=tL λp q=>FQ (p*q)
def yQ:DSp:=tL (λp q=>FQ (p/q)) λq=>q≠0
def wD:DSp:=tL λp q=>.bl (decide (p<q))
theorem pI {g:Rat->Rat->D}{C:Rat->Prop}(ds:List D)(M:DM)(Q:DQ)(h:tL g C ds M Q):ds.length=2:=by obtain⟨a,b,m,n,rfl,_⟩:=h;rfl
theorem aBb {n:Nat}{x y z:Int}(h:Bd n y)(l:n<=9000)(d:z∣y)(h0:y≠0)(hz:z≠0):CFd x z:=⟨hz,by
 rcases Nat.eq_zero_or_pos n with e|e
 ·subst e;have:y.natAbs<1:=h;omega
 ·exact Nat.lt_of_lt_of_le ((h.dvd d h0).log e) l⟩
theorem aHt (q:Rat):(D.tup [.int (-q.num),.int (q.den:Int)])=FQ (-q):=by unfold FQ;rw[Rat.neg_num,Rat.neg_den]
noncomputable def PQ (x y:Rat):D:=.tup [FQ x,FQ y]
def sK:DSp:=λds M Q=>∃x y u v,ds=[PQ x y,PQ u v]/\BQ 4400 x/\BQ 4400 y/\BQ 4400 u/\BQ 4400 v/\Q (PQ (x-u) (y-v)) M
def jZ:DSp:=λds M Q=>∃x y u v,ds=[PQ x y,PQ u v]/\BQ 4400 x/\BQ 4400 y/\BQ 4400 u/\BQ 4400 v/\Q (PQ (x+u) (y+v)) M
def lQ:DSp:=λds M Q=>∃x y u v,ds=[PQ x y,PQ u v]/\∃m n,BQ m x/\BQ m y/\BQ n u/\BQ n v/\m+n<=4400/\Q (FQ (x*v-y*u)) M
def jI:DSp:=λds M Q=>∃x y u v,ds=[PQ x y,PQ u v]/\∃m n,BQ m x/\BQ m y/\BQ n u/\BQ n v/\m+n<=4400/\Q (FQ (x*u+y*v)) M
theorem wN (p q:Rat):eqD (FQ p) (FQ q)=decide (p=q):=by
 show(p.num==q.num&&((p.den:Int)==(q.den:Int)&&true))=decide (p=q);by_cases h:p=q
 ·subst h;simp
 ·rw[decide_eq_false h];by_cases h1:p.num=q.num
  ·have h2:¬((p.den:Int)=(q.den:Int)):=λz=>h (Rat.ext h1 (by exact_mod_cast z));simp[h1,h2]
  ·simp[h1]
theorem aEH (x y u v:Rat):eqD (PQ x y) (PQ u v)=(decide (x=u)&&decide (y=v)):=by show(eqD (FQ x) (FQ u)&&(eqD (FQ y) (FQ v)&&true))=_;rw[wN,wN,Bool.and_true]
def fW:DSp:=λds M Q=>∃x y,ds=[PQ x y]/\BQ 900 x/\BQ 900 y/\∀X Y d:Int,0<d->(X:Rat)=x*(d:Rat)->(Y:Rat)=y*(d:Rat)->Bd 1800 X->Bd 1800 Y->Bd 1800 d->Q (.tup [.int X,.int Y,.int d]) M
def uT:DSp:=λds M Q=>∃z:Int,ds=[.int z]/\Q (.int (sgn (z:Rat))) M
theorem aKn {d:Int}(h:0<d):(0:Rat)<(d:Rat):=by exact_mod_cast h
def zS:DSp:=λds M Q=>∃ax ay bx by' px py,ds=[PQ ax ay,PQ bx by',PQ px py]/\BQ 900 ax/\BQ 900 ay/\BQ 900 bx/\BQ 900 by'/\BQ 900 px/\BQ 900 py/\Q (.int (sgn (bL ax ay bx by' px py))) M
noncomputable def bef (x y u v:Rat):Bool:=if x=u then decide (y<v) else decide (x<u)
def xG:DSp:=λds M Q=>∃x y u v,ds=[PQ x y,PQ u v]/\BQ 4400 x/\BQ 4400 y/\BQ 4400 u/\BQ 4400 v/\Q (.bl (bef x y u v)) M
def FdN (M:DM)(a:Addr)(n:Nat):Prop:=∃(c k f:Int),M a=some [.int c,.int k,.int f]/\0<=k/\k<=n
structure Adv (M M':DM)(a:Addr):Prop where
 l:∀b:Addr,b≠a->M' (.l b)=M (.l b)
 d:∀b:Addr,M' (.d b)=M (.d b)
 o:∀b:Addr,M' (.o b)=M (.o b)
 x:∀b:Addr,M' (.x b)=M (.x b)
instance {M M':DM}{a:Addr}:CoeFun (Adv M M' a) (λ_=>∀b:Addr,b≠a->M' (.l b)=M (.l b)):=⟨Adv.l⟩
theorem Adv.trans {M M1 M2:DM}{a:Addr}(h:Adv M M1 a)(h2:Adv M1 M2 a):Adv M M2 a:=⟨λb n=>(h2.l b n).trans (h.l b n),λb=>(h2.d b).trans (h.d b),λb=>(h2.o b).trans (h.o b),λb=>(h2.x b).trans (h.x b)⟩
theorem Adv.ak {M M':DM}{a:Addr}(h:Adv M M' a){b:AK}(n:b≠AK.l a):M' b=M b:=by
 cases b with
 |l b=>exact h.l b λe=>n (congrArg AK.l e)
 |d b=>exact h.d b
 |o b=>exact h.o b
 |x b=>exact h.x b
theorem Adv.put {M:DM}{a:Addr}{ds:List D}:Adv M (aX M a ds) a:=⟨λ_ n=>cK n,λ_=>jJ,λ_=>aBl,λ_=>qE⟩
theorem FdN.mono {M:DM}{a:Addr}{m n:Nat}(h:FdN M a m)(l:m<=n):FdN M a n:=by obtain⟨c,k,f,e,h0,h1⟩:=h;exact⟨c,k,f,e,h0,by omega⟩
def oQ:DSp:=λds M Q=>∃c,ds=[.int c]/\∀(p:Addr) M',M p=none->FdN M' p 0->Adv M M' p->Q (.ref p) M'
def kI:DSp:=λds M Q=>∃a many n,ds=[.ref a,.int many]/\FdN M a n/\n<=100000/\0<many/\Bd 8999 many/\∀r M',0<=r->r<many->FdN M' a (n+1)->Adv M M' a->Q (.int r) M'
def rS (B c:Nat)(Pd:D->Prop):DSp:=λds M Q=>∃a n,ds=[.ref a]/\FdN M a n/\n<=B/\∀d M',Pd d->FdN M' a (n+c)->Adv M M' a->Q d M'
theorem tN {B c:Nat}{Pd:D->Prop}(ds:List D)(M:DM)(Q:DQ)(h:rS B c Pd ds M Q):ds.length=1:=by obtain⟨a,n,rfl,_⟩:=h;rfl
def IsF (B:Nat)(d:D):Prop:=∃q,d=FQ q/\BQ B q
def IsP (B:Nat)(d:D):Prop:=∃x y,d=PQ x y/\BQ B x/\BQ B y
theorem aKi (z:Int):FQ (z:Rat)=.tup [.int z,.int 1]:=by unfold FQ;rw[Rat.num_intCast,Rat.den_intCast];rfl
theorem bdk {x:Int}(h:x.natAbs<2^220):Bd 8999 x:=Bd.mono (m:=220) h (by decide)
theorem aHH {x:Int}(h1:-(10^62)<=x)(h2:x<=10^62):Bd 210 x:=by
 unfold Bd;have:(2:Nat)^210=1645504557321206042154969182557350504982735865633579863348609024:=by decide
 omega
theorem aGl {xs:List D}{lo hi:Option Int}{d:D}(h:d∈cutD xs lo hi):d∈xs:=List.mem_of_mem_drop (List.mem_of_mem_take h)
def eE:DSp:=λds M Q=>∃t b,ds=[.int t,.int b]/\b≠0/\Bd 8999 b/\Q (FQ ((t:Rat)/(b:Rat))) M
noncomputable def aKQ:D:=.tup [.int 1,.int 1]
def aAH:DSp:=λds M Q=>∃cx cy ax ay t,ds=[PQ cx cy,PQ ax ay,FQ t]/\BQ 200 cx/\BQ 200 cy/\BQ 200 ax/\BQ 200 ay/\BQ 210 t/\Q (PQ (cx+bR t (ax-cx) (ay-cy)) (cy+bT t (ax-cx) (ay-cy))) M
theorem bq1:BQ 1 1:=⟨by unfold Bd;decide,by unfold Bd;decide⟩
theorem aK4 {q:Rat}{M:DM}{Q:DQ}:mO (FQ q) (.int 0) M Q=Q (.int q.num) M:=rfl
theorem aKX {q:Rat}{M:DM}{Q:DQ}:mO (FQ q) (.int 1) M Q=Q (.int (q.den:Int)) M:=rfl
theorem aLe {x y:Rat}{M:DM}{Q:DQ}:mO (PQ x y) (.int 0) M Q=Q (FQ x) M:=rfl
theorem aLZ {x y:Rat}{M:DM}{Q:DQ}:mO (PQ x y) (.int 1) M Q=Q (FQ y) M:=rfl
theorem aLM {x y:Rat}{n:Nat}{t:DGs}{ρ:cP}{M:DM}{R:cP->DM->Prop}:gU n t (PQ x y) ρ M R=(([FQ x,FQ y]:List D).length=n/\t [FQ x,FQ y] ρ M R):=rfl
theorem aMn {q:Rat}{n:Nat}{t:DGs}{ρ:cP}{M:DM}{R:cP->DM->Prop}:gU n t (FQ q) ρ M R=(([.int q.num,.int (q.den:Int)]:List D).length=n/\t [.int q.num,.int (q.den:Int)] ρ M R):=rfl
theorem aKa {g:Bool->Bool}{p q:Rat}{M:DM}{Q:DQ}:dEq g (FQ p) (FQ q) M Q=Q (.bl (g (decide (p=q)))) M:=by show(bN 60 (FQ p)=true/\bN 60 (FQ q)=true/\Q (.bl (g (eqD (FQ p) (FQ q)))) M)=_;rw[wN];exact propext ⟨λh=>h.2.2,λh=>⟨rfl,rfl,h⟩⟩
theorem aKk {g:Bool->Bool}{x y u v:Rat}{M:DM}{Q:DQ}:dEq g (PQ x y) (PQ u v) M Q=Q (.bl (g (decide (x=u/\y=v)))) M:=by
 show(bN 60 (PQ x y)=true/\bN 60 (PQ u v)=true/\Q (.bl (g (eqD (PQ x y) (PQ u v)))) M)=_;have e:(decide (x=u)&&decide (y=v))=decide (x=u/\y=v):=by by_cases h1:x=u<;>by_cases h2:y=v<;>simp[h1,h2]
 rw[aEH,e];exact propext ⟨λh=>h.2.2,λh=>⟨rfl,rfl,h⟩⟩
noncomputable def FR (px py:Rat)(t h:Int)(s:Rat):D:=.tup [PQ px py,.int t,.int h,FQ s]
theorem aIs (px py s px' py' s':Rat)(t h t' h':Int):eqD (FR px py t h s) (FR px' py' t' h' s')=decide (px=px'/\py=py'/\t=t'/\h=h'/\s=s'):=by show(eqD (PQ px py) (PQ px' py')&&(t==t'&&(h==h'&&(eqD (FQ s) (FQ s')&&true))))=_;rw[aEH,wN];by_cases h1:px=px'<;>by_cases h2:py=py'<;>by_cases h3:t=t'<;>by_cases h4:h=h'<;>by_cases h5:s=s'<;>simp[h1,h2,h3,h4,h5]
theorem aJs {g:Bool->Bool}{px py s px' py' s':Rat}{t h t' h':Int}{M:DM}{Q:DQ}:dEq g (FR px py t h s) (FR px' py' t' h' s') M Q=Q (.bl (g (decide (px=px'/\py=py'/\t=t'/\h=h'/\s=s')))) M:=by show(bN 60 (FR px py t h s)=true/\bN 60 (FR px' py' t' h' s')=true/\Q (.bl (g (eqD (FR px py t h s) (FR px' py' t' h' s')))) M)=_;rw[aIs];exact propext ⟨λz=>z.2.2,λz=>⟨rfl,rfl,z⟩⟩
def aHI (n:Nat)(L:List D):Prop:=L.length=n/\∀d∈L,∃z:Int,d=.int z/\0<=z/\z<1000000
theorem aHI.at {n:Nat}{L:List D}(h:aHI n L){i:Nat}(hi:i<n):∃z:Int,atI L (i:Int)=some (.int z)/\0<=z/\z<1000000:=by
 have hl:i<L.length:=by rw[h.1];exact hi
 obtain⟨z,e,z0,z1⟩:=h.2 L[i] (getElem_mem hl);exact⟨z,iJ (by rw[getElem?_eq_getElem hl,e]),z0,z1⟩
theorem aF1 {x y:Rat}{M:DM}{Q:DQ}:wG [PQ x y] M Q=Q (.int 2) M:=rfl
theorem aGi {q:Rat}{M:DM}{Q:DQ}:wG [FQ q] M Q=Q (.int 2) M:=rfl
theorem aD4 {a:Addr}{M:DM}{Q:DQ}:wG [.ref a] M Q=∃xs,M a=some xs/\Q (.int (xs.length:Int)) M:=rfl
section
variable {M:DM}{Q:DQ}{a b c d e f:D}
theorem aH4 {i:Int}:aKW [.int i] M Q=Q (.int (if i<0 then -i else i)) M:=rfl
theorem aHq {xs:List D}:wG [.fz xs] M Q=Q (.int xs.length) M:=rfl
theorem aHd:wG [.tup []] M Q=Q (.int 0) M:=rfl
theorem aGs:wG [.tup [a]] M Q=Q (.int 1) M:=rfl
theorem aHk:wG [.tup [a,b]] M Q=Q (.int 2) M:=rfl
theorem aGY:wG [.tup [a,b,c]] M Q=Q (.int 3) M:=rfl
theorem aG4:wG [.tup [a,b,c,d]] M Q=Q (.int 4) M:=rfl
theorem aGm:wG [.tup [a,b,c,d,e]] M Q=Q (.int 5) M:=rfl
end
structure Fm where
 (px py:Rat) (t h:Int) (s:Rat)
noncomputable def Fm.one:Fm:=⟨0,0,0,1,1⟩
section
variable {X:Cx}{pins:List (Addr×Obj)}{σ:L2.St}{H:Hp}{s:Shared}{M:DM}
end
section
variable {X:Cx}
end
end Dd
namespace L2
open PySem PySem.Spec PyProof.Rows
section
variable {prog:Program}{w:World}{A:Around}{R:Result->Shared->Prop}{s:Shared}
theorem mZ {elt target iter c:Expr}{scope:Scope}{pos:Pos}{it acc:Value}{env:Env}(I:Nat->Shared->Prop)(turn:∀n s,I n s->wpAny (model prog w) A (pyNext it) (λr s₁=>match r with
   |none=>R (.ok .next) s₁
   |some v=>wpAny (model prog w) A (letOwnedTupleGo target it v) (λ_ s₁'=>wpAny (model prog w) A (assign target env v) (λ_ s₂=>wpAny (model prog w) A (isTrue c env (eval c env)) (λb s₂'=>if b=true then wpAny (model prog w) A (eval elt env) (λx s₃ =>
     wpAny (model prog w) A (call (.builtin "list.append") [acc,x]) (λ_ s₄=>∃m,m<n/\I m s₄) (λ_ _=>False) s₃)
     (λ_ _=>False) s₂' else ∃m,m<n/\I m s₂') (λ_ _=>False) s₂) (λ_ _=>False) s₁') (λ_ _=>False) s₁) (λ_ _=>False) s)(n:Nat)(h:I n s):codeAny (model prog w) A (.compLoop (.ListComp elt [⟨target,iter,[c],0⟩] scope pos) 0 it acc env) R s:=by
 refine codeAny_loop rfl I (λn s hI=>?_) n h;show wpAny _ _ ((compTurn (.ListComp elt [⟨target,iter,[c],0⟩] scope pos) 0 it acc env).onRaise (λx=>do noteFrame x env;theTreesLotGoes x)) _ _ s;refine wpAny_noted ?_;rw[compTurn_list];refine wpAny_bind (wpAny_standAt (wpAny_bind (wpAny_mono (turn n s hI) (λr s₁ h₁=>?_) λ_ _ h'=>h'.elim)));cases r with
 |none=>exact wpAny_pure h₁
 |some v =>
  refine wpAny_bind (wpAny_mono h₁ (λ_ s₁' h₁'=>wpAny_bind (wpAny_mono h₁' (λ_ s₂ h₂=>?_) λ_ _ h'=>h'.elim)) λ_ _ h'=>h'.elim);refine wpAny_bind (wpAny_tests_one (wpAny_mono h₂ (λb s₂' h₂'=>?_) λ_ _ h'=>h'.elim));cases b with
  |false=>exact wpAny_pure ⟨rfl,h₂'⟩
  |true =>
   exact wpAny_bind (wpAny_bind (wpAny_mono h₂' (λx s₃ h₃=>wpAny_bind (wpAny_mono h₃ (λ_ s₄ h₄=>wpAny_pure (wpAny_pure ⟨rfl,h₄⟩)) λ_ _ h'=>h'.elim)) λ_ _ h'=>h'.elim))
end
def aKT (wi:TI)(fr:List (Option Nat))(g:TG)(tc:TT)(te:TE):TE:=λσ H Q=>wi σ H λJ H1=>∃W:Nat->Nat->List V->Hp->Prop,(∃m,W 0 m [] H1)/\∀i m ys H,W i m ys H ->
 (J.stop i H/\ys.length<=sizeLine/\∀p,H p=none->Q (.ref p) (upd H p (.lst ys))) ∨
 (J.go i H/\ys.length<=sizeLine/\∀x H',J.yld i H x H'->g x (oS fr σ) H' λσ2 H2=>tc σ2 H2 λb H2'=>if b=true then te σ2 H2' λy H3=>∃m',m'<m/\W (i+1) m' (ys++[y]) H3 else ∃m',m'<m/\W (i+1) m' ys H2')
theorem aFs {X:Cx}{elt iter tg cnd:Expr}{scope:Scope}{pos pos2:Pos}{N':List Str}{fr:List (Option Nat)}{wi:TI}{g:TG}{tc:TT}{te:TE}(S:eO X N' fr scope)(hc:X.calm=true)(hi:PI X tg iter wi)(hg:∀C s H fp pins,PG (X.blk N' scope C s H fp pins) tg g)(hcc:∀C s H fp pins,PT (X.blk N' scope C s H fp pins) cnd tc)(he:∀C s H fp pins,PE (X.blk N' scope C s H fp pins) elt te)(hs:∀x,foldedSetIterable iter X.env x=pure x){pins:List (Addr×Obj)}{s:Shared}{σ:St}{H:Hp}{Q:VK}(I:Inv X pins σ H s)(h:aKT wi fr g tc te σ H Q)(use:Option (Value->Sem Unit))(Post:Value->Shared->Prop)(fin:∀D C H' s4 m,Inv X pins σ H' s4->s4.heap.Ns C m->CF X pins H' C->Q (.ref D) H'->compPost (model X.prog X.w) X.A X.xe use Post (.ref D) C (.ok .next) s4) :
  wpAny (model X.prog X.w) X.A (comprehension (.ListComp elt [⟨tg,iter,[cnd],0⟩] scope pos) scope X.env pos2 (newList []) false (eval iter X.env) use) Post X.xe s:=by
 refine wpAny_comprehension_free (use:=use) rfl hs (tR (S.hasC I.ok)) S.kind S.names ?_;show wpAny _ _ (eval iter X.env) _ _ s;refine thn (hi pins s σ H _ I h) λv s1 h1=>thn h1 λitv s2 h2=>?_;obtain⟨it,fp,tn,J,H2,e,I2,T,st2,f2,W,⟨m0,w0⟩,turn⟩:=h2;subst e;refine wpAny_newObj_type (wpAny_newFunctionEnv S.nocell (by intro y hy;simp at hy) (λh₁ hns₁ hsb₁=>?_) S.kind);dsimp only at hns₁ hsb₁ ⊢;generalize hHp:s2.heap.push { cls:=.type "list",dict:=none,data:=.seq ([]:List Value).toArray }=HP at hns₁ hsb₁ ⊢;have hC:HP.objs.size=s2.heap.objs.size+1:=by rw[<- hHp,Heap.size_push]
 generalize hCe:HP.objs.size=C at hns₁ hsb₁ ⊢;generalize hDe:s2.heap.objs.size=D at hC ⊢;have hDC:D≠C:=by omega
 have hCle:s2.heap.objs.size<=C:=by omega
 have old:∀b o,s2.heap.get? b=some o->h₁.get? b=some o:=λb o e=>hsb₁.extBut b o (Nat.ne_of_lt (Nat.lt_of_lt_of_le (Heap.lt_size e) hCle)) (Heap.get?_push_of_some _ (hHp ▸ Heap.get?_push_of_some _ e));have hD1:h₁.PlainList D #[]:=⟨_,by refine hsb₁.extBut _ _ hDC (Heap.get?_push_of_some _ ?_);rw[<- hHp,<- hDe];exact Heap.get?_push_size _ rfl⟩
 have ltf:∀b∈fp,b<D:=λb hb=>by obtain⟨o,e,_⟩:=T.obj _ _ st2 b hb;exact Nat.lt_of_lt_of_eq (Heap.lt_size e) hDe
 have J0:=aCJ (s1:={ s2 with heap:=h₁,toks:=s2.toks+([]:List (Str×Value)).length }) S I2 f2 (λb hb=>let ⟨o,e,_⟩:=T.obj _ _ st2 b hb;⟨o,e⟩) rfl rfl hCle old hns₁;have ltC:∀b,b<D->b≠C:=λb hb=>Nat.ne_of_lt (Nat.lt_of_lt_of_le hb (by rw[<- hDe];exact hCle));have old2:∀b o,s2.heap.get? b=some o->b<D:=λb o e=>Nat.lt_of_lt_of_eq (Heap.lt_size e) hDe;have neD:∀b o,s2.heap.get? b=some o->b≠D:=λb o e=>Nat.ne_of_lt (old2 b o e);have hDs:s2.heap.objs.size<=D:=Nat.le_of_eq hDe;have hDfs:D∉frs X.stack:=λhb=>by
  rcases List.mem_cons.mp (I2.stkSub D hb) with z|z
  ·have:=I2.lt;rw[<- z] at this;exact absurd (Nat.lt_of_lt_of_le this hDs) (Nat.lt_irrefl _)
  ·exact I2.nofs hDs z
 have cellD:∀x c,X.env.cells.lookup x=some c->c≠D/\c≠C:=λx c e=>by obtain⟨v,o,ho,_⟩:=I2.cell x c e;exact⟨neD c o ho,ltC c (old2 c o ho)⟩
 have pinD:∀p∈X.pn++pins,p.1≠D/\p.1≠C:=λp hp=>by have e:=(I2.pin p hp).1;exact⟨neD _ _ e,ltC _ (old2 _ _ e)⟩
 have fpok:∀(pl:List (Addr×Obj)) (H':Hp),(∀b∈fp,H' b=none)->(∀p∈pl,∀b∈fp,p.1≠b)->∀b∈fp,yD (X.blk N' scope C s2 H2 fp pins) pl H' b:=λpl H' hn hpl b hb=>by
  refine⟨hn b hb,ltC b (ltf b hb),J0.ok.exfs b hb,.inl hb,(J0.ok.exf b hb).2,λp hp=>?_⟩;rcases List.mem_append.mp hp with z|z
  ·exact(f2 b hb).2.2.2.2.2 p z
  ·exact hpl p z b hb
 have loop:codeAny (model X.prog X.w) X.A (.compLoop (.ListComp elt [⟨tg,iter,[cnd],0⟩] scope pos) 0 (.ref it) (.ref D) (compEnvC scope (clo X.env.cells scope.names []) C X.env))
   (compPost (model X.prog X.w) X.A X.xe use Post (.ref D) C) { s2 with heap:=h₁,toks:=s2.toks+([]:List (Str×Value)).length }:=by
  refine mZ (λn s'=>∃i H' ys its,Inv (X.blk N' scope C s2 H2 fp pins) [] (oS fr σ) H' s'/\tn i s'.heap/\(∀b∈fp,H' b=none)/\s'.heap.PlainList D its/\H' D=none/\bU ys its.toList/\W i n ys H') ?_ m0
   ⟨0,H2,[],#[],J0,T.keep _ _ _ st2 λb hb o e=>old b o e,λb hb=>(f2 b hb).1,hD1,I2.hok.fresh hDs,.nil,w0⟩
  rintro n s3 ⟨i,H3,ys,its,I3,st3,fr3,⟨nn,pl3⟩,hD3,rv3,w3⟩;have I3p:Inv (X.blk N' scope C s2 H2 fp pins) [(D,{ cls:=.type "list",data:=.seq its nn })] (oS fr σ) H3 s3:=I3.pins_of λp hp=>by have e:=List.mem_singleton.mp hp;subst e;exact⟨pl3,hD3,hDC,hDfs,λv z=>by cases z⟩
  have pf:∀p∈[((D,{ cls:=.type "list",data:=.seq its nn }):Addr×Obj)],∀b∈fp,p.1≠b:=λp hp b hb=>by have e:=List.mem_singleton.mp hp;subst e;exact(Nat.ne_of_lt (ltf b hb)).symm
  rcases turn i n ys H3 w3 with⟨stop,hz,q⟩|⟨go,hz,step⟩
  ·refine thn (T.done (X.blk N' scope C s2 H2 fp pins) rfl rfl rfl hc i _ s3 _ H3 (λ_ _=>False) I3p (fpok _ H3 fr3 pf) st3 stop) λr s4 ⟨hr,I4⟩=>?_;subst hr;obtain⟨mm,hn4,_⟩:=id I4.loc;have pD:=(I4.pin _ (mem_append_right _ mem_cons_self)).1;have IX:Inv X pins σ H3 s4:=I2.call' I4.os I4.base I4.hok I4.bare λb hb=>⟨(f2 b hb).2.2.2.1,(f2 b hb).2.1,(f2 b hb).2.2.2.2.1,(f2 b hb).2.2.2.2.2⟩;have CL:C≠X.env.locals:=(Nat.ne_of_lt (Nat.lt_of_lt_of_le I2.lt hCle)).symm;have DL:D≠X.env.locals:=(Nat.ne_of_lt (Nat.lt_of_lt_of_le I2.lt hDs)).symm;refine fin D C (upd H3 D (.lst ys)) s4 mm (IX.track hD3 (Nat.le_trans I2.sz hDs) DL (λx c e=>(cellD x c e).1) (λp hp=>(pinD p hp).1) ⟨hz,its.toList,nn,rv3,pD⟩) hn4 ⟨by rw[aL (Ne.symm hDC)];exact I4.free,CL,Nat.le_trans I2.sz hCle,λx c e=>(cellD x c e).2,λp hp=>(pinD p hp).2⟩ (q D hD3)
  ·refine thn (T.item (X.blk N' scope C s2 H2 fp pins) rfl rfl rfl hc i _ s3 _ H3 (λ_ _=>False) I3p (fpok _ H3 fr3 pf) st3 go) λr s4 ⟨u,hr,h4⟩=>?_;subst hr;refine thn h4 λ_ s5 ⟨x,H5,I5,r5,y5,st5,fr5⟩=>?_;have I5':=I5.pinned (fpok _ H5 fr5 pf) (T.obj _ _ st5);refine thn (hg C s2 H2 fp pins _ s5 _ H5 x u _ I5' r5 (step x H5 y5)) λ_ s6 ⟨σ6,H6,I6,q6⟩=>?_;refine thn (hcc C s2 H2 fp pins _ s6 σ6 H6 _ I6 q6) λbb s6' ⟨H6',I6',q6'⟩=>?_;cases bb with
   |false =>
    obtain⟨m',hm,w7⟩:=q6';obtain⟨pD,nD,_⟩:=I6'.pin _ (mem_append_right _ (mem_append_left _ mem_cons_self));have I7a:Inv (X.blk N' scope C s2 H2 fp pins) [] σ6 H6' s6':=I6'.pins_of λp hp=>nomatch hp;refine⟨m',hm,i+1,H6',ys,its,tE S I2 I7a,?_,λb hb=>?_,⟨nn,pD⟩,nD,rv3,w7⟩
    ·refine T.keep _ _ _ st5 λb hb o e=>(I6'.pin (b,o) (mem_append_right _ (mem_append_right _ (fL hb e)))).1
    ·obtain⟨o,e,d⟩:=T.obj _ _ st5 b hb;exact(I6'.pin (b,o) (mem_append_right _ (mem_append_right _ (fL hb e)))).2.1
   |true =>
   refine thn (he C s2 H2 fp pins _ s6' σ6 H6' _ I6' q6') λyv s7 ⟨y,H7,I7,ry,m',hm,w7⟩=>?_;obtain⟨pD,nD,_⟩:=I7.pin _ (mem_append_right _ (mem_append_left _ mem_cons_self));have lz:its.size<=sizeLine:=by
    have e:ys.length=its.size:=by rw[rv3.length];simp
    rw[<- e];exact hz
   refine wpAny_list_append_plain (hsz:=lz) ⟨nn,pD⟩ λh8 pl8 sb8=>?_;have I7a:Inv (X.blk N' scope C s2 H2 fp pins) [] σ6 H7 s7:=I7.pins_of λp hp=>nomatch hp;have I8:Inv (X.blk N' scope C s2 H2 fp pins) [] σ6 H7 { s7 with heap:=h8,toks:=s7.toks }:=I7a.turned (it:=D) (λb o hb e=>sb8.extBut b o hb e) nD hDC (.inr hDs) (λx c e=>(cellD x c (S.sub I2.ok e)).1) λp hp=>by rw[append_nil] at hp;exact(pinD p hp).1
   refine⟨m',hm,i+1,H7,ys++[y],its.push yv,tE S I2 I8,?_,λb hb=>?_,pl8,nD,?_,w7⟩
   ·refine T.keep _ _ _ st5 λb hb o e=>sb8.extBut b o (Nat.ne_of_lt (ltf b hb)) (I7.pin (b,o) (mem_append_right _ (mem_append_right _ (fL hb e)))).1
   ·obtain⟨o,e,d⟩:=T.obj _ _ st5 b hb;exact(I7.pin (b,o) (mem_append_right _ (mem_append_right _ (fL hb e)))).2.1
   ·rw[Array.toList_push];exact rv3.append (.cons ry .nil)
 exact codeAny_compStart_list loop (T.self _ _ _ _ _ (T.keep _ _ _ st2 λb hb o e=>old b o e) loop)
theorem aJV {X:Cx}{elt iter tg cnd:Expr}{scope:Scope}{pos:Pos}{N':List Str}{fr:List (Option Nat)}{wi:TI}{g:TG}{tc:TT}{te:TE}(S:eO X N' fr scope)(hc:X.calm=true)(hi:PI X tg iter wi)(hg:∀C s H fp pins,PG (X.blk N' scope C s H fp pins) tg g)(hcc:∀C s H fp pins,PT (X.blk N' scope C s H fp pins) cnd tc)(he:∀C s H fp pins,PE (X.blk N' scope C s H fp pins) elt te)(hs:∀x,foldedSetIterable iter X.env x=pure x:=by intro _;rfl) :
  PE X (.ListComp elt [⟨tg,iter,[cnd],0⟩] scope pos) (aKT wi fr g tc te):=by
 intro pins s σ H Q I h;rw[eval_ListComp];refine aFs S hc hi hg hcc he hs I h none (EP X pins σ Q) λD C H' s4 m J hn F q=>⟨m,hn,λh' sb=>?_⟩;exact⟨.ref D,H',J.turned (t':=s4.toks) (it:=C) (λb o hb e=>sb.extBut b o hb e) F.none F.loc (.inr F.sz) F.cel F.pin,rfl,q⟩
end L2
namespace Dd
open PySem PySem.Spec PyProof.Rows L2
def aFU (at':Option Addr)(ds:List D)(ρ0:cP)(g:DG)(tc:DT)(te:DE)(M:DM)(Q:DQ):Prop:=ds.length<=1000/\∃Pv:Nat->List D->DM->Prop,Pv 0 [] M /\
 (∀i ys M,i<=ds.length->Pv i ys M->∀a,at'=some a->M a=some ds) /\
 (∀i d ys M,ds[i]?=some d->Pv i ys M->g d ρ0 M λρ2 M2=>tc ρ2 M2 λb M2'=>if b=true then te ρ2 M2' λy M3=>Pv (i+1) (ys++[y]) M3 else Pv (i+1) ys M2') /\
 ∀ys M,ys.length<=ds.length->Pv ds.length ys M->∀p:Addr,M p=none->Q (.ref p) (aX M p ys)
def aEW (tl:DE)(fr:List (Option Nat))(g:DG)(tc:DT)(te:DE):DE:=λρ M Q=>tl ρ M λd M1=>match d with
 |.fz ds=>aFU none ds (uC fr ρ) g tc te M1 Q
 |.ref a=>∃ds,M1 a=some ds/\aFU (some a) ds (uC fr ρ) g tc te M1 Q
 |_=>False
section
variable {X:Cx}{g:DG}{tc:DT}{te:DE}
theorem aCF {K:Frag}{a':Option Addr}{ds:List D}{fr:List (Option Nat)}{σ:L2.St}{ρ:cP}{M:DM}{H0 H:Hp}{J:It}{Q:VK}{Q':DQ}(ex0:Ext H0 H)(re:gS K H ρ σ)(hm:bK K M H)(h:aFU a' ds (uC fr ρ) g tc te M Q')(kq:∀v H',LQ K H0 Q' v H'->Q v H')(seq:∀H',Ext H H'->(∀M',bK K M' H'->(∀a,a'=some a->M' a=some ds)->∃xs,bG K H' ds xs/\(∀i,xs.length<=i->J.stop i H')/\(∀i,i<xs.length->J.go i H')/\∀i x H2,J.yld i H' x H2->H2=H'/\xs[i]?=some x)) :
  ∃W:Nat->Nat->List V->Hp->Prop,(∃m,W 0 m [] H)/\∀i m ys H,W i m ys H ->
   (J.stop i H/\ys.length<=sizeLine/\∀p,H p=none->Q (.ref p) (upd H p (.lst ys))) ∨
   (J.go i H/\ys.length<=sizeLine/\∀x H',J.yld i H x H'->yL K g x (oS fr σ) H' λσ2 H2=>aDZ K tc σ2 H2 λb H2'=>if b=true then low K te σ2 H2' λy H3=>∃m',m'<m/\W (i+1) m' (ys++[y]) H3 else ∃m',m'<m/\W (i+1) m' ys H2'):=by
 obtain⟨hl,Pv,p0,hat,step,done⟩:=h;refine⟨λi m ysV H'=>∃ys M',bG K H' ys ysV/\bK K M' H'/\Ext H H'/\m=ds.length-i/\i<=ds.length/\ys.length<=i/\Pv i ys M',⟨ds.length,[],M,cN,hm,.refl H,rfl,Nat.zero_le _,Nat.le_refl _,p0⟩,?_⟩;rintro i m ysV H1 ⟨ys,M1,ry,hm1,e1,rfl,hi,ly,w1⟩;obtain⟨xs,rs,hst,hgo,hy⟩:=seq H1 e1 M1 hm1 (hat i ys M1 hi w1);have hll:=rs.length;have lz:ysV.length<=sizeLine:=by rw[<- ry.length];exact Nat.le_of_lt (eA (by omega))
 by_cases hlt:i<ds.length
 ·refine .inr ⟨hgo i (by omega),lz,λx H' y=>?_⟩;obtain⟨rfl,hx⟩:=hy i x H' y;obtain⟨d,hd,rd⟩:=rs.getV hx;refine⟨d,uC fr ρ,M1,_,rd,aAy (re.ext e1) fr,hm1,step i d ys M1 hd w1,λσ2 H2 ⟨ρ2,M2,re2,hm2,e2,q2⟩=>?_⟩;refine⟨ρ2,M2,_,re2,hm2,q2,λbb H2' ⟨M2',hm2',e2',q2'⟩=>?_⟩;cases bb with
  |false=>exact⟨ds.length-(i+1),by omega,ys,M2',ry.ext (e2.trans e2'),hm2',(e1.trans e2).trans e2',rfl,hlt,by omega,q2'⟩
  |true =>
   refine⟨ρ2,M2',_,re2.ext e2',hm2',q2',λv H3 ⟨dy,M3,rdy,hm3,e3,q3⟩=>?_⟩;exact⟨ds.length-(i+1),by omega,ys++[dy],M3,(ry.ext ((e2.trans e2').trans e3)).append (cC rdy cN),hm3,((e1.trans e2).trans e2').trans e3,rfl,hlt,by rw[length_append];exact Nat.succ_le_succ ly,q3⟩
 ·have e:i=ds.length:=by omega
  subst e;exact .inl ⟨hst _ (by omega),lz,λp hp=>kq _ _ ⟨.ref p,_,dH,hm1.lnew hp ry,(ex0.trans e1).trans (Ext.new hp _),done ys M1 ly w1 p (hm1.fresh hp)⟩⟩
variable {elt iter tg cnd:Expr}{scope:Scope}{pos:Pos}{N':List Str}{fr:List (Option Nat)}{tl:DE}{ta:DA}{oN:List Str}{osc:Scope}
theorem aHh (B:rB oN osc N' fr scope)(hc:X.calm=true)(hi:PDE X iter tl)(hg:∀C s H fp pins,PG (X.blk N' scope C s H fp pins) tg (yL X.K g))(hcc:∀C s H fp pins,PT (X.blk N' scope C s H fp pins) cnd (aDZ X.K tc))(he:∀C s H fp pins,PE (X.blk N' scope C s H fp pins) elt (low X.K te))(hN:X.N=oN:=by rfl)(ho:X.env.scope=osc:=by rfl)(hs:∀x,foldedSetIterable iter X.env x=pure x:=by intro _;rfl) :
  PDE X (.ListComp elt [⟨tg,iter,[cnd],0⟩] scope pos) (aEW tl fr g tc te) :=
 cV (aJV (B.scope hN ho) hc (uO hi) hg hcc he hs) λσ H Q ⟨ρ,M,Q',re,hm,q,k⟩=>⟨ρ,M,_,re,hm,q,λv H1 ⟨d,M1,rd,hm1,ex,q1⟩=>by
  cases d with
  |fz ds =>
   obtain⟨a,xs,rfl,sq,rs⟩:=jM rd;exact⟨a,rfl,⟨xs,sq.sq⟩,aCF ex (re.ext ex) hm1 q1 k λH' e' M' hm' _=>⟨xs,rs.ext e',λi hi=>⟨xs,(fX e' sq).sq,hi⟩,λi hi=>⟨xs,xs[i],(fX e' sq).sq,by simp[hi]⟩,λi x H2 y=>⟨y.1,y.2 xs (fX e' sq).sq⟩⟩⟩
  |ref a =>
   obtain⟨ds,ha,q1⟩:=q1;obtain rfl:=aP rd;obtain⟨xs,hx,rs⟩:=hm1.l a ds ha;refine⟨a,rfl,⟨xs,.of hx⟩,aCF ex (re.ext ex) hm1 q1 k λH' e' M' hm' hat=>?_⟩;obtain⟨ys,hy,rs'⟩:=hm'.l a ds (hat a rfl);exact⟨ys,rs',λi hi=>⟨ys,.of hy,hi⟩,λi hi=>⟨ys,ys[i],.of hy,by simp[hi]⟩,λi x H2 y=>⟨y.1,y.2 ys (.of hy)⟩⟩
  |_=>exact q1.elim⟩
end
open Mz
section
variable {X:Cx}{o e f:Expr}{to te tf:DE}
end
section
variable {X:Cx}{pins:List (Addr×Obj)}{σ:L2.St}{H:Hp}{s:Shared}
end
section
variable {X:Cx}{o:Expr}{to:DE}
end
section
variable {X:Cx}{g:DG}{tc:DT}{te:DE}
variable {elt iter tg cnd:Expr}{scope:Scope}{pos:Pos}{N':List Str}{fr:List (Option Nat)}{tl:DE}{ta:DA}{oN:List Str}{osc:Scope}
theorem aFy (B:rB oN osc N' fr scope)(hc:X.calm=true)(hi:ZE X iter tl)(hg:∀C s H fp pins,ZG (X.blk N' scope C s H fp pins) tg g)(hcc:∀C s H fp pins,ZT (X.blk N' scope C s H fp pins) cnd tc)(he:∀C s H fp pins,ZE (X.blk N' scope C s H fp pins) elt te)(hN:X.N=oN:=by rfl)(ho:X.env.scope=osc:=by rfl)(hs:∀x,foldedSetIterable iter X.env x=pure x:=by intro _;rfl):ZE X (.ListComp elt [⟨tg,iter,[cnd],0⟩] scope pos) (aEW tl fr g tc te):=.i (aHh B hc hi.o (λC s H fp pins=>(hg C s H fp pins).o) (λC s H fp pins=>(hcc C s H fp pins).o) (λC s H fp pins=>(he C s H fp pins).o) hN ho hs)
end
section
variable {X:Cx}{o e f:Expr}{to te tf:DE}
end
section
variable {X:Cx}{pins:List (Addr×Obj)}{σ:L2.St}{H:Hp}{s:Shared}
end
section
variable {X:Cx}{o:Expr}{to:DE}
end
section
variable {P:Program}{w:World}{K:Frag}{mg:Str->Option Value}{base:Heap}
end
section
variable {X:Cx}{n x:Str}{C a:Addr}{o:Obj}{p p1 pos:Pos}{j k k':Nat}{sp:Addr->DM->DQ->Prop}
end
section
open PySem.SeqAt
open PySem.AutoSeq1 (wpAny_loadPart')
open PySem.MeetsSeq PySem.MeetsSeq2 PySem.MeetsSeq3
end
section
variable {prog:Program}{w:World}{A:Around}{E:Value->Shared->Prop}{s:Shared}
end
section
variable {X:Cx}{j:Nat}
end
theorem us0 {us:List Value}(h:us.length=0):us=[]:=List.length_eq_zero_iff.mp h
theorem us1 {us:List Value}(h:us.length=1):∃a,us=[a]:=List.length_eq_one_iff.mp h
theorem us2 {us:List Value}(h:us.length=2):∃a b,us=[a,b]:=by
 cases us with
 |nil=>cases h
 |cons a r=>obtain⟨b,rfl⟩:=us1 (us:=r) (Nat.succ.inj h);exact⟨a,b,rfl⟩
theorem us3 {us:List Value}(h:us.length=3):∃a b c,us=[a,b,c]:=by
 cases us with
 |nil=>cases h
 |cons a r=>obtain⟨b,c,rfl⟩:=us2 (us:=r) (Nat.succ.inj h);exact⟨a,b,c,rfl⟩
theorem us4 {us:List Value}(h:us.length=4):∃a b c d,us=[a,b,c,d]:=by
 cases us with
 |nil=>cases h
 |cons a r=>obtain⟨b,c,d,rfl⟩:=us3 (us:=r) (Nat.succ.inj h);exact⟨a,b,c,d,rfl⟩
noncomputable instance aNh:DecidableEq D:=λa b=>Classical.propDecidable (a=b)
noncomputable def eX:Nat->D->Bool
 |_,.int _=>true
 |_,.str _=>true
 |n+1,.tup ds=>ds.all (eX n)
 |_,_=>false
mutual
noncomputable def pY (w:World):D->Int
 |.int i=>aJw w (.inl i)
 |.str x=>aJw w (.inr x)
 |.tup ds=>reduceHash (Builtin.Tuple.tupleHashOf (nX w ds))
 |_=>0
noncomputable def nX (w:World):List D->List Int
 |[]=>[]
 |d::ds=>pY w d::nX w ds
end
mutual
noncomputable def vQ:D->Nat
 |.tup ds=>gH ds+1
 |_=>1
noncomputable def gH:List D->Nat
 |[]=>0
 |d::ds=>vQ d+gH ds
end
mutual
def IsK (h:Heap):D->Value->Prop
 |.int i,v=>∃t,v=.int i t
 |.str x,v=>∃t,v=.str x t
 |.tup ds,v=>∃a its,v=.ref a/\IsTup h a its/\fC h ds its.toList
 |_,_=>False
def fC (h:Heap):List D->List Value->Prop
 |[],vs=>vs=[]
 |d::ds,vs=>∃v r,vs=v::r/\IsK h d v/\fC h ds r
end
theorem dN {h:Heap}{vs:List Value}(x:fC h [] vs):vs=[]:=by unfold fC at x;exact x
theorem bW {h:Heap}{d:D}{ds:List D}{vs:List Value}(x:fC h (d::ds) vs):∃v r,vs=v::r/\IsK h d v/\fC h ds r:=by unfold fC at x;exact x
theorem eB {h:Heap}{ds:List D}{v:Value}(x:IsK h (.tup ds) v):∃a its,v=.ref a/\IsTup h a its/\fC h ds its.toList:=by unfold IsK at x;exact x
theorem cJ {h:Heap}{i:Int}{v:Value}(x:IsK h (.int i) v):∃t,v=.int i t:=by unfold IsK at x;exact x
theorem cI {h:Heap}{i:Str}{v:Value}(x:IsK h (.str i) v):∃t,v=.str i t:=by unfold IsK at x;exact x
theorem gZ {n:Nat}{ds:List D}(h:eX n (.tup ds)=true):∃m,n=m+1/\ds.all (eX m)=true:=by
 cases n with
 |zero=>exact absurd h Bool.false_ne_true
 |succ m=>exact⟨m,rfl,h⟩
theorem qX (w:World):∀ds:List D,nX w ds=ds.map (pY w)
 |[]=>by unfold nX;rfl
 |d::ds=>by unfold nX;rw[qX w ds];rfl
theorem oF (d:D):∀ds:List D,gH (ds++[d])=gH ds+vQ d
 |[]=>by show gH [d]=_;unfold gH;unfold gH;omega
 |e::ds=>by show gH (e::(ds++[d]))=_;unfold gH;rw[oF d ds];omega
section
variable {prog:Program}{w:World}
theorem aGB:∀(n:Nat){A:Around} {E:Value->Shared->Prop} {s:Shared} {d:D} {v:Value} {Q:Int->Shared->Prop},eX n d=true->A.units+n<cLine->IsK s.heap d v ->
  Q (pY w d) { s with toks:=s.toks+vQ d }->wpAny (model prog w) A (pyHash v) Q E s:=by
 intro n
 induction n with
 |zero =>
  intro A E s d v Q hk hu hi q;cases d with
  |int i=>obtain⟨t,rfl⟩:=cJ hi;exact wpAny_pyHash_int q
  |str i=>obtain⟨t,rfl⟩:=cI hi;exact wpAny_pyHash_str q
  |_=>exact absurd hk Bool.false_ne_true
 |succ n ih =>
  intro A E s d v Q hk hu hi q;cases d with
  |int i=>obtain⟨t,rfl⟩:=cJ hi;exact wpAny_pyHash_int q
  |str i=>obtain⟨t,rfl⟩:=cI hi;exact wpAny_pyHash_str q
  |tup ds =>
   obtain⟨a,its,rfl,ht,hs⟩:=eB hi;obtain⟨o,ho,hc,m,hd⟩:=ht;have hT:s.TypeIs (.ref a) "tuple":=⟨o,ho,hc⟩;unfold pyHash pyHashByItsType;refine wpAny_bind (wpAny_cRoomFor_or (.inr (by omega)) ?_);refine wpAny_bind (wpAny_specialOf hT F.slot_tuple_hash.lookup ?_);show wpAny _ _ (if (some (Value.builtin "tuple.__hash__")==some Value.none)=true then _ else _) Q E s;rw[if_neg (by rw[beq_builtin_none];exact Bool.false_ne_true)];refine wpAny_bind (wpAny_specialOf hT F.slot_tuple_hash.lookup ?_);show wpAny _ _ (callSpecialIfBoundUnlessNone? (.ref a) "__hash__" _ >>= _) Q E s;refine wpAny_bind (wpAny_callSpecialIfBoundUnlessNone?_slot hT F.slot_tuple_hash (wpAny_call_entry F.slot_tuple_hash hT F.entry_tuple_hash ?_ (F.args_tuple_hash_1 _)));obtain⟨n',en,hk⟩:=gZ hk;cases en;show wpAny _ _ (Builtin.Tuple.tupleItemsOf (.ref a) >>= _) _ _ s;refine wpAny_bind (wpAny_tupleItemsOf ho hd ?_);refine wpAny_bind ?_;rw[<- Array.forIn_toList];refine wpAny_forIn_list _ (λcH (b:Array Int) s'=>∃done left,ds=done++left/\fC s.heap left cH/\b.toList=nX w done/\s' = { s with toks:=s.toks+gH done }) _ ?_ ?_ _ _ ⟨[],ds,rfl,hs,by unfold nX;rfl,by unfold gH;rfl⟩
   ·rintro x cH b s' ⟨done,left,e1,hl,hb,rfl⟩;cases left with
    |nil=>exact nomatch dN hl
    |cons d1 left =>
     obtain⟨x',r',e2,h1,hl⟩:=bW hl;cases e2;have hk1:eX n d1=true:=List.all_eq_true.mp hk d1 (by rw[e1];exact mem_append_right _ mem_cons_self);refine wpAny_bind (ih (s:={ s with toks:=s.toks+gH done }) hk1 (by show A.units+1+n<cLine;omega) h1 ?_);refine wpAny_pure ⟨done++[d1],left,by rw[e1,append_assoc];rfl,hl,?_,?_⟩
     ·rw[qX,map_append,<- qX,<- hb];simp
     ·rw[oF,Nat.add_assoc]
   ·rintro b s' ⟨done,left,e1,hl,hb,rfl⟩;have:left=[]:=by
     cases left with
     |nil=>rfl
     |cons d1 left=>obtain⟨_,_,z,_⟩:=bW hl;exact nomatch z
    subst this;rw[append_nil] at e1;subst e1;show wpAny _ _ (retInt (Builtin.Tuple.tupleHashOf b.toList)) _ _ _;rw[hb];refine wpAny_ret_mkInt ?_;unfold pY vQ at q;generalize Builtin.Tuple.tupleHashOf (nX w ds)=z at q ⊢;show wpAny _ _ (if (decide (-(2:Int)^63<=z)&&decide (z<2^63))=true then _ else _) Q E _;unfold reduceHash at q;by_cases hr:(decide (-(2:Int)^63<=z)&&decide (z<2^63))=true
    ·rw[if_pos hr] at q ⊢;exact wpAny_pure (by simpa[Nat.add_assoc] using q)
    ·rw[if_neg hr] at q ⊢;exact wpAny_bind (wpAny_rule (wpAny_pure (by simpa[Nat.add_assoc] using q)))
  |_=>exact absurd hk Bool.false_ne_true
theorem aEl:∀(n m:Nat){A:Around} {E:Value->Shared->Prop} {s:Shared} {d:D} {v:Value} {Q:Bool->Shared->Prop},n<=m->eX n d=true->IsK s.heap d v->Q true s->wpAny (model prog w) A (eqIsQuiet m v) Q E s:=by
 intro n
 induction n with
 |zero =>
  intro m A E s d v Q hm hk hi q;cases d with
  |int i=>obtain⟨t,rfl⟩:=cJ hi;rw[eqIsQuiet_byValue m rfl];exact wpAny_pure q
  |str i=>obtain⟨t,rfl⟩:=cI hi;rw[eqIsQuiet_byValue m rfl];exact wpAny_pure q
  |_=>exact absurd hk Bool.false_ne_true
 |succ n ih =>
  intro m A E s d v Q hm hk hi q;cases d with
  |int i=>obtain⟨t,rfl⟩:=cJ hi;rw[eqIsQuiet_byValue m rfl];exact wpAny_pure q
  |str i=>obtain⟨t,rfl⟩:=cI hi;rw[eqIsQuiet_byValue m rfl];exact wpAny_pure q
  |tup ds =>
   obtain⟨a,its,rfl,ht,hs⟩:=eB hi;obtain⟨o,ho,hc,k,hd⟩:=ht;have hT:s.TypeIs (.ref a) "tuple":=⟨o,ho,hc⟩;obtain⟨n',en,hk⟩:=gZ hk;cases en;cases m with
   |zero=>omega
   |succ m =>
    unfold eqIsQuiet;refine wpAny_bind (wpAny_specialOf hT F.slot_tuple_eq.lookup ?_);show wpAny _ _ (isInstance (.ref a) (.type "tuple") >>= _) _ _ s;refine wpAny_bind (wpAny_isInstance hT isSubtype_tuple_tuple ?_);simp only[Bool.not_true,Bool.false_eq_true,if_false];refine wpAny_bind (wpAny_seqItems ho hd ?_);refine wpAny_bind ?_;show wpAny _ _ (forIn its _ _) _ _ s;rw[<- Array.forIn_toList];refine wpAny_forIn_list _ (λcH r s'=>r.1=none/\s'=s/\∃left,left.all (eX n)=true/\fC s.heap left cH) _ ?_ ?_ _ _ ⟨rfl,rfl,ds,hk,hs⟩
    ·rintro x cH r s' ⟨hr,rfl,left,hl,hx⟩;cases left with
     |nil=>exact nomatch dN hx
     |cons d1 left =>
      obtain⟨x',r',e2,h1,hx⟩:=bW hx;cases e2;rw[all_cons,Bool.and_eq_true] at hl;refine wpAny_bind (ih m (by omega) hl.1 h1 ?_);simp only[Bool.not_true,Bool.false_eq_true,if_false];exact wpAny_pure ⟨rfl,rfl,left,hl.2,hx⟩
    ·rintro⟨r1,r2⟩ s' ⟨hr,rfl,_⟩;simp only at hr;subst hr;exact wpAny_pure q
  |_=>exact absurd hk Bool.false_ne_true
end
mutual
theorem mQ:∀{n:Nat}{x y:D},eX n x=true->eX n y=true->eqD x y=decide (x=y)
 |n,.int i,y,h,h'=>by
  cases y with
  |int j=>simp[eqD];exact Bool.eq_iff_iff.mpr (by rw[beq_iff_eq,decide_eq_true_eq])
  |str j=>simp[eqD]
  |tup j=>simp[eqD]
  |_=>cases n<;>exact absurd h' Bool.false_ne_true
 |n,.str i,y,h,h'=>by
  cases y with
  |int j=>simp[eqD]
  |str j=>simp[eqD];exact Bool.eq_iff_iff.mpr (by rw[beq_iff_eq,decide_eq_true_eq])
  |tup j=>simp[eqD]
  |_=>cases n<;>exact absurd h' Bool.false_ne_true
 |n,.tup ds,y,h,h'=>by
  obtain⟨m,rfl,h⟩:=gZ h;cases y with
  |int j=>simp[eqD]
  |str j=>simp[eqD]
  |tup es =>
   have:=aAK h h';show iH ds es=_;rw[this];simp
  |_=>exact absurd h' Bool.false_ne_true
 |n,.non,y,h,h'=>by cases n<;>exact absurd h Bool.false_ne_true
 |n,.bl _,y,h,h'=>by cases n<;>exact absurd h Bool.false_ne_true
 |n,.fz _,y,h,h'=>by cases n<;>exact absurd h Bool.false_ne_true
 |n,.ref _,y,h,h'=>by cases n<;>exact absurd h Bool.false_ne_true
theorem aAK:∀{n:Nat}{xs ys:List D},xs.all (eX n)=true->ys.all (eX n)=true->iH xs ys=decide (xs=ys)
 |n,[],ys,h,h'=>by cases ys<;>simp[iH]
 |n,x::xs,ys,h,h'=>by
  cases ys with
  |nil=>simp[iH]
  |cons y ys =>
   rw[all_cons,Bool.and_eq_true] at h h';show(eqD x y&&iH xs ys)=_;rw[mQ h.1 h'.1,aAK h.2 h'.2];by_cases e1:x=y<;>by_cases e2:xs=ys<;>simp[e1,e2]
end
mutual
theorem IsK.inj {h:Heap}:∀{x y:D}{v:Value},IsK h x v->IsK h y v->x=y
 |.int i,y,v,a,b=>by
  obtain⟨t,rfl⟩:=cJ a;cases y with
  |int j=>obtain⟨t,e⟩:=cJ b;cases e;rfl
  |str j=>obtain⟨t,e⟩:=cI b;exact nomatch e
  |tup j=>obtain⟨_,_,e,_⟩:=eB b;exact nomatch e
  |_=>unfold IsK at b;exact b.elim
 |.str i,y,v,a,b=>by
  obtain⟨t,rfl⟩:=cI a;cases y with
  |int j=>obtain⟨t,e⟩:=cJ b;exact nomatch e
  |str j=>obtain⟨t,e⟩:=cI b;cases e;rfl
  |tup j=>obtain⟨_,_,e,_⟩:=eB b;exact nomatch e
  |_=>unfold IsK at b;exact b.elim
 |.tup ds,y,v,a,b=>by
  obtain⟨p,its,rfl,ht,hs⟩:=eB a;cases y with
  |int j=>obtain⟨t,e⟩:=cJ b;exact nomatch e
  |str j=>obtain⟨t,e⟩:=cI b;exact nomatch e
  |tup es =>
   obtain⟨q,its',e,ht',hs'⟩:=eB b;cases e;obtain⟨o,ho,_,_,hd⟩:=ht;obtain⟨o',ho',_,_,hd'⟩:=ht';rw[ho] at ho';cases ho';rw[hd] at hd';cases hd';rw[fC.inj hs hs']
  |_=>unfold IsK at b;exact b.elim
 |.non,y,v,a,b=>by unfold IsK at a;exact a.elim
 |.bl _,y,v,a,b=>by unfold IsK at a;exact a.elim
 |.fz _,y,v,a,b=>by unfold IsK at a;exact a.elim
 |.ref _,y,v,a,b=>by unfold IsK at a;exact a.elim
theorem fC.inj {h:Heap}:∀{xs ys:List D}{vs:List Value},fC h xs vs->fC h ys vs->xs=ys
 |[],ys,vs,a,b=>by
  cases ys with
  |nil=>rfl
  |cons y ys=>obtain⟨_,_,e,_⟩:=bW b;rw[dN a] at e;exact nomatch e
 |x::xs,ys,vs,a,b=>by
  obtain⟨v,r,rfl,a1,a2⟩:=bW a;cases ys with
  |nil=>exact nomatch dN b
  |cons y ys =>
   obtain⟨v',r',e,b1,b2⟩:=bW b;cases e;rw[IsK.inj a1 b1,fC.inj a2 b2]
end
mutual
theorem IsK.keep {h h':Heap}(k:∀a its,IsTup h a its->IsTup h' a its):∀{x:D}{v:Value},IsK h x v->IsK h' x v
 |.int _,_,a=>by unfold IsK at a ⊢;exact a
 |.str _,_,a=>by unfold IsK at a ⊢;exact a
 |.tup ds,_,a=>by obtain⟨p,its,rfl,ht,hs⟩:=eB a;unfold IsK;exact⟨p,its,rfl,k p its ht,fC.keep k hs⟩
 |.non,_,a=>by unfold IsK at a;exact a.elim
 |.bl _,_,a=>by unfold IsK at a;exact a.elim
 |.fz _,_,a=>by unfold IsK at a;exact a.elim
 |.ref _,_,a=>by unfold IsK at a;exact a.elim
theorem fC.keep {h h':Heap}(k:∀a its,IsTup h a its->IsTup h' a its):∀{xs:List D}{vs:List Value},fC h xs vs->fC h' xs vs
 |[],_,a=>by unfold fC at a ⊢;exact a
 |x::xs,_,a=>by obtain⟨v,r,rfl,a1,a2⟩:=bW a;unfold fC;exact⟨v,r,rfl,a1.keep k,fC.keep k a2⟩
end
theorem xH {A:Around}{s:Shared}{n:Nat}(ih:∀{d d':D}{u u':Value},eX n d=true->eX n d'=true->IsK s.heap d u->IsK s.heap d' u'->SeqAt.EqAt A s u u' (eqD d d')) :
  ∀{xs ys:List D}{its its':List Value},xs.all (eX n)=true->ys.all (eX n)=true->fC s.heap xs its->fC s.heap ys its'->∀j (h1:j<its.length) (h2:j<its'.length),SeqAt.EqAt A s its[j] its'[j] (rE xs ys j)
 |[],ys,its,its',_,_,r1,_,j,h1,_=>by rw[dN r1] at h1;exact absurd h1 (Nat.not_lt_zero _)
 |_::_,[],its,its',_,_,_,r2,j,_,h2=>by rw[dN r2] at h2;exact absurd h2 (Nat.not_lt_zero _)
 |x::xs,y::ys,its,its',p1,p2,r1,r2,j,h1,h2=>by
  obtain⟨a,ra,rfl,ha,hra⟩:=bW r1;obtain⟨b,rb,rfl,hb,hrb⟩:=bW r2;rw[all_cons,Bool.and_eq_true] at p1 p2;cases j with
  |zero=>exact ih p1.1 p2.1 ha hb
  |succ j=>exact xH ih p1.2 p2.2 hra hrb j (Nat.lt_of_succ_lt_succ h1) (Nat.lt_of_succ_lt_succ h2)
theorem fC.length {h:Heap}:∀{xs:List D}{vs:List Value},fC h xs vs->xs.length=vs.length
 |[],_,a=>by rw[dN a];rfl
 |x::xs,_,a=>by obtain⟨v,r,rfl,_,a2⟩:=bW a;rw[length_cons,length_cons,fC.length a2]
theorem yN:∀(n:Nat){A:Around} {s:Shared} {d d':D} {u u':Value},A.units+n<cLine->eX n d=true->eX n d'=true->IsK s.heap d u->IsK s.heap d' u'->SeqAt.EqAt A s u u' (eqD d d'):=by
 intro n
 induction n with
 |zero =>
  intro A s d d' u u' hu p p' r r';cases d with
  |int i =>
   obtain⟨t,rfl⟩:=cJ r;cases d' with
   |int j=>obtain⟨t',rfl⟩:=cJ r';exact SeqAt.EqAt.int_int i t j t'
   |str j=>obtain⟨t',rfl⟩:=cI r';exact SeqAt.EqAt.int_str i t j t'
   |_=>exact absurd p' Bool.false_ne_true
  |str i =>
   obtain⟨t,rfl⟩:=cI r;cases d' with
   |int j=>obtain⟨t',rfl⟩:=cJ r';exact SeqAt.EqAt.str_int i t j t'
   |str j=>obtain⟨t',rfl⟩:=cI r';exact SeqAt.EqAt.str_str i t j t'
   |_=>exact absurd p' Bool.false_ne_true
  |_=>exact absurd p Bool.false_ne_true
 |succ n ih =>
  intro A s d d' u u' hu p p' r r';cases d with
  |int i =>
   obtain⟨t,rfl⟩:=cJ r;cases d' with
   |int j=>obtain⟨t',rfl⟩:=cJ r';exact SeqAt.EqAt.int_int i t j t'
   |str j=>obtain⟨t',rfl⟩:=cI r';exact SeqAt.EqAt.int_str i t j t'
   |tup j=>obtain⟨b,its,rfl,ht,_⟩:=eB r';exact SeqAt.EqAt.int_tuple i t ht (by omega)
   |_=>exact absurd p' Bool.false_ne_true
  |str i =>
   obtain⟨t,rfl⟩:=cI r;cases d' with
   |int j=>obtain⟨t',rfl⟩:=cJ r';exact SeqAt.EqAt.str_int i t j t'
   |str j=>obtain⟨t',rfl⟩:=cI r';exact SeqAt.EqAt.str_str i t j t'
   |tup j=>obtain⟨b,its,rfl,ht,_⟩:=eB r';exact SeqAt.EqAt.str_tuple i t ht (by omega)
   |_=>exact absurd p' Bool.false_ne_true
  |tup xs =>
   have r0:=r;obtain⟨a,its,rfl,ht,hs⟩:=eB r;cases d' with
   |int j=>obtain⟨t',rfl⟩:=cJ r';exact SeqAt.EqAt.tuple_int j t' ht (by omega)
   |str j=>obtain⟨t',rfl⟩:=cI r';exact SeqAt.EqAt.tuple_str j t' ht (by omega)
   |tup ys =>
    have r0':=r';obtain⟨a',its',rfl,ht',hs'⟩:=eB r';by_cases hll:a=a'
    ·subst hll;rw[mQ p p',decide_eq_true (r0.inj r0')];exact SeqAt.EqAt.same _
    ·have e1:=hs.length;have e2:=hs'.length;show SeqAt.EqAt A s (.ref a) (.ref a') (iH xs ys);rw[iI,show xs.length=its.size by simpa using e1,show ys.length=its'.size by simpa using e2];refine SeqAt.EqAt.of_refs hll (SeqAt.RcAt.tuples ht ht' (by omega) λj j1 j2=>?_);have hu':A.in1.units+n<cLine:=by show A.units+1+n<cLine;omega
     have:=xH (A:=A.in1) (s:=s) (λ{d d' u u'} p p' r r'=>ih hu' p p' r r') p p' hs hs' j (by simpa using j1) (by simpa using j2);simpa using this
   |_=>exact absurd p' Bool.false_ne_true
  |_=>exact absurd p Bool.false_ne_true
noncomputable def oI (prog:Program)(w:World):HeapKind prog w D where
 is:=λh k a=>eX 6 k=true/\IsK h k (.ref a)
 hash:=pY w
 draws:=vQ
 room:=λA=>A.units+6<cLine
 inj:=λx y=>x.2.inj y.2
 keeps:=λx ho hd hs=>⟨x.1,x.2.keep λa its ⟨o,h1,h2,n,h3⟩=>⟨o,(hs.2 a (λe=>by subst e;rw[h1] at ho;cases ho;rw[h3] at hd;exact nomatch hd)).trans h1,h2,n,h3⟩⟩
 pyHash:=λhu hk h=>aGB 6 hk.1 hu hk.2 h
 eqBool:=λhu hx hy h=>yN 6 hu hx.1 hy.1 hx.2 hy.2 _ _ _ _ (by rw[mQ hx.1 hy.1];exact h)
 quiet:=λhk h=>aEl 6 8 (by decide) hk.1 hk.2 h
def aBE (h:Heap)(d:Addr)(es:Array DictEntry)(ep:Nat):Prop:=h.get? d = some { cls:=.type "dict",data:=.dict es ep }
section
variable {prog:Program}{w:World}{A:Around}{E:Value->Shared->Prop}{s:Shared}{it d:Addr}{i ep:Nat}{es:Array DictEntry}
theorem aAp {Q:Option Value->Shared->Prop}(hi:i<es.size)(ht:s.heap.IsKeyIter it d i es.size ep)(hm:aBE s.heap d es ep)(hQ:∀h',h'.IsKeyIter it d (i+1) es.size ep->Heap.SameBut it s.heap h'->Q (some es[i].key) { s with heap:=h' }):wpAny (model prog w) A (pyNext (.ref it)) Q E s:=by
 have hT:=ht.typeIs;obtain⟨⟨c,di,dt,sl⟩,ho,hc,hd⟩:=id ht;cases hc;cases hd;have nm:((Manifest.find? "dict_keyiterator").elim "dict_keyiterator" λx=>x.tpName) = "dict_keyiterator":=by rw[find?_eq_fast];kernel_rfl
 have ow:Builtin.Dict_items.ownsTuple "dict_keyiterator"=false:=by decide
 unfold pyNext;refine wpAny_bind (wpAny_attempt (wpAny_callSpecial?_slot hT F.slot_dict_keyiterator_next (wpAny_call_entry F.slot_dict_keyiterator_next hT F.entry_dict_keyiterator_next ?_ (F.args_dict_keyiterator_next_1 _))))
 wp_walk
 have ei:(if (i:Int)<0 then none else es[(i:Int).toNat]?)=some es[i]:=by rw[if_neg (by omega),Int.toNat_natCast];exact Array.getElem?_eq_getElem hi
 rw[ei];dsimp only
 wp_walk
 refine⟨_,rfl,wpAny_pure (hQ _ ?_ (Heap.SameBut.update ..))⟩;refine⟨_,Heap.get?_update_self _ ho rfl,rfl,?_⟩;rw[nm,ow,if_neg (by decide),if_neg (by decide)];rfl
theorem aCH {Q:Option Value->Shared->Prop}(hh:A.handled=none)(ht:s.heap.IsKeyIter it d es.size es.size ep)(hm:aBE s.heap d es ep)(hQ:∀h',Heap.ExtBut it s.heap h'->Q none { s with heap:=h' }):wpAny (model prog w) A (pyNext (.ref it)) Q E s:=by
 have hT:=ht.typeIs;obtain⟨⟨c,di,dt,sl⟩,ho,hc,hd⟩:=id ht;cases hc;cases hd;have nm:((Manifest.find? "dict_keyiterator").elim "dict_keyiterator" λx=>x.tpName) = "dict_keyiterator":=by rw[find?_eq_fast];kernel_rfl
 have ow:Builtin.Dict_items.ownsTuple "dict_keyiterator"=false:=by decide
 unfold pyNext;refine wpAny_bind (wpAny_attempt (wpAny_callSpecial?_slot hT F.slot_dict_keyiterator_next (wpAny_call_entry F.slot_dict_keyiterator_next hT F.entry_dict_keyiterator_next ?_ (F.args_dict_keyiterator_next_1 _))))
 wp_walk
 have ei:(if (es.size:Int)<0 then none else es[(es.size:Int).toNat]?)=none:=by rw[if_neg (by omega),Int.toNat_natCast];exact Array.getElem?_eq_none (Nat.le_refl _)
 rw[ei];dsimp only
 wp_walk
 generalize hu:s.heap.update it _=h1;have k1:Heap.ExtBut it s.heap h1:=by rw[<- hu];exact(Heap.SameBut.update ..).extBut
 unfold raiseNew;refine wpAny_bind (wpAny_handled ?_);rw[show A.in1.handled=none from hh];refine wpAny_bind (wpAny_pure (wpAny_throw ?_));refine wpAny_bind (wpAny_isInstance (T:="StopIteration") (b:=true) ⟨_,Heap.get?_push_size _ rfl,rfl⟩ isSubtype_stop (wpAny_pure ?_));exact hQ _ λb o hb e=>Heap.get?_push_of_some _ (Heap.get?_push_of_some _ (k1 b o hb e))
theorem aA1 {Q:Value->Shared->Prop}(hs:(d==sysModules)=false)(hm:aBE s.heap d es ep)(hQ:Q (.ref s.heap.objs.size) { s with heap:=s.heap.push { cls:=.type "dict_keyiterator",data:=.fields #[.ref d,.int 0 0,.int es.size 0,.int ep 0] } }):wpAny (model prog w) A (pyIter (.ref d)) Q E s:=by have hT:s.TypeIs (.ref d) "dict":=⟨_,hm,rfl⟩;refine wpAny_pyIter_slot hT F.slot_dict_iter (wpAny_call_entry F.slot_dict_iter hT F.entry_dict_iter ?_ (F.args_dict_iter_1 _));unfold Builtin.«dict.__iter__» Builtin.Dict.dictSlotNone;refine wpAny_bind (wpAny_bind (wpAny_notOrdered_dict hT ?_));show wpAny _ _ (pure (Value.ref d)) _ _ s;refine wpAny_pure ?_;show wpAny _ _ (Builtin.Dict.showsAll d >>= _) _ _ s;unfold Builtin.Dict.showsAll;rw[if_neg (by rw[hs];exact Bool.false_ne_true)];refine wpAny_bind (wpAny_pure (wpAny_bind (wpAny_dictEntries hm rfl (wpAny_bind (wpAny_dictEpoch hm rfl ?_)))));exact wpAny_bind (wpAny_newObj_type (wpAny_pure ⟨_,rfl,"dict_keyiterator",_,⟨_,Heap.get?_push_size _ rfl,rfl⟩,F.slot_dict_keyiterator_next.lookup,hQ⟩))
end
noncomputable def fO (w:World)(kvs:List (D×D)):List D:=kvs.map λp=>.tup [.int (pY w p.1),p.1,p.2]
structure TK (kvs:List (D×D)):Prop where
 key:∀p∈kvs,(∃ds,p.1=.tup ds)/\eX 6 p.1=true
 nd:(kvs.map (·.1)).Nodup
noncomputable def zU (kvs:List (D×D))(k v:D):List (D×D):=if k∈kvs.map (·.1) then kvs.map (λp=>if p.1=k then (p.1,v) else p) else kvs++[(k,v)]
noncomputable def wJ (kvs:List (D×D))(k:D):Option D:=(kvs.find? λp=>decide (p.1=k)).map (·.2)
theorem TK.nil:TK []:=⟨(λ_ h=>(nomatch h)),nodup_nil⟩
theorem aD5 {kvs:List (D×D)}{k v:D}:(zU kvs k v).length<=kvs.length+1:=by
 unfold zU;split
 ·rw[length_map];omega
 ·rw[length_append];exact Nat.le_refl _
def KX (K:Frag)(H:Hp)(p:D×D)(x:D×Addr×Value):Prop:=p.1=x.1/\Rep K H p.1 (.ref x.2.1)/\∃vv,RelV vv x.2.2/\Rep K H p.2 vv
section
variable {X:Cx}{pins:List (Addr×Obj)}{σ:L2.St}{H:Hp}{s:Shared}
mutual
theorem mL (I:Inv X pins σ H s):∀{n:Nat}{d:D} {v:V} {u:Value},eX n d=true->Rep X.K H d v->RelV v u->IsK s.heap d u
 |n,.int i,v,u,hk,r,q=>by rw[aW r] at q;unfold IsK;exact q
 |n,.str i,v,u,hk,r,q=>by rw[dL r] at q;unfold IsK;exact q
 |n,.tup ds,v,u,hk,r,q=>by obtain⟨m,rfl,hk⟩:=gZ hk;obtain⟨a,us,rfl,sq,rs⟩:=bO r;obtain⟨its,rv,ht,_⟩:=I.tuple sq;cases q;unfold IsK;exact⟨a,its.toArray,rfl,ht,by rw[List.toList_toArray];exact yH I hk rs rv⟩
 |n,.non,v,u,hk,r,q=>by cases n<;>exact absurd hk Bool.false_ne_true
 |n,.bl _,v,u,hk,r,q=>by cases n<;>exact absurd hk Bool.false_ne_true
 |n,.fz _,v,u,hk,r,q=>by cases n<;>exact absurd hk Bool.false_ne_true
 |n,.ref _,v,u,hk,r,q=>by cases n<;>exact absurd hk Bool.false_ne_true
theorem yH (I:Inv X pins σ H s):∀{n:Nat}{ds:List D} {vs:List V} {us:List Value},ds.all (eX n)=true->bG X.K H ds vs->bU vs us->fC s.heap ds us
 |n,[],vs,us,hk,r,q=>by rw[bH r] at q;cases q;unfold fC;rfl
 |n,d::ds,vs,us,hk,r,q=>by
  obtain⟨v,rr,rfl,rv,rs⟩:=aQ r;rw[all_cons,Bool.and_eq_true] at hk;cases q with
  |cons q1 q2 =>
   unfold fC;exact⟨_,_,rfl,mL I hk.1 rv q1,yH I hk.2 rs q2⟩
end
theorem aB6 (I:Inv X pins σ H s):∀{kvs:List (D×D)}{es:List DictEntry},(∀p∈kvs,(∃ds,p.1=.tup ds)/\eX 6 p.1=true)->nY X.K H (fO X.w kvs) es ->
  ∃xs:List (D×Addr×Value),Paired (KX X.K H) kvs xs/\es=xs.map (entryOfKey (oI X.prog X.w))/\∀x∈xs,(oI X.prog X.w).is s.heap x.1 x.2.1
 |[],es,hk,r=>by cases r;exact⟨[],.nil,rfl,(λ_ h=>(nomatch h))⟩
 |p::kvs,es,hk,r=>by
  cases r with
  |@cons _ e _ es' re rr =>
   obtain⟨xs,h1,h2,h3⟩:=aB6 I (λq hq=>hk q (mem_cons_of_mem _ hq)) rr;obtain⟨k,v,kv,vv,e1,q1,r1,q2,r2⟩:=re;obtain⟨⟨ds,ek⟩,hn⟩:=hk p mem_cons_self;have e0:D.tup [.int (pY X.w p.1),p.1,p.2]=.tup [.int e.hash,k,v]:=e1;clear e1;injection e0 with e0
   injection e0 with e1 e2
   injection e2 with e2 e3
   injection e3 with e3 _
   injection e1 with e1
   subst e2;subst e3;have r1':=r1;rw[ek] at r1';obtain⟨a,us,rfl,_,_⟩:=bO r1';have qk:e.key=.ref a:=q1;obtain⟨eh,ekey,ev⟩:=e;cases qk;have e1:pY X.w p.1=eh:=e1;subst e1;refine⟨(p.1,a,ev)::xs,.cons ⟨rfl,r1,vv,q2,r2⟩ h1,?_,?_⟩
   ·rw[map_cons,<- h2];rfl
   ·intro x hx;rcases List.mem_cons.mp hx with z|z
    ·subst z;exact⟨hn,mL I hn r1 rfl⟩
    ·exact h3 x z
theorem xF {K:Frag}{H:Hp}(prog:Program)(w:World):∀{kvs:List (D×D)}{xs:List (D×Addr×Value)},Paired (KX K H) kvs xs->nY K H (fO w kvs) (xs.map (entryOfKey (oI prog w)))
 |[],_,.nil=>.nil
 |p::kvs,x::xs,.cons r rr=>by obtain⟨e,r1,vv,q,r2⟩:=r;exact .cons ⟨p.1,p.2,.ref x.2.1,vv,by show D.tup [.int (pY w p.1),p.1,p.2]=.tup [.int (pY w x.1),p.1,p.2];rw[e],rfl,r1,q,r2⟩ (xF prog w rr)
theorem yT {K:Frag}{H:Hp}:∀{kvs:List (D×D)}{xs:List (D×Addr×Value)},Paired (KX K H) kvs xs->kvs.map (·.1)=xs.map (·.1)
 |[],_,.nil=>rfl
 |p::kvs,x::xs,.cons r rr=>by rw[map_cons,map_cons,r.1,yT rr]
theorem aCC {K:Frag}{H:Hp}{k:D}:∀{kvs:List (D×D)}{xs:List (D×Addr×Value)},Paired (KX K H) kvs xs->(atKey xs k).isSome=decide (k∈kvs.map (·.1))
 |[],_,.nil=>by simp[atKey]
 |p::kvs,x::xs,.cons r rr=>by
  have ih:=aCC (k:=k) rr;unfold atKey at ih ⊢;rw[List.find?_cons];by_cases h:x.1=k
  ·have:decide (x.1=k)=true:=decide_eq_true h;rw[this];simp[r.1,h]
  ·have:decide (x.1=k)=false:=decide_eq_false h;rw[this,ih];simp only[map_cons,List.mem_cons,r.1];by_cases h2:k∈kvs.map (·.1)
   ·simp[h2]
   ·simp[h2,Ne.symm h]
theorem aIL {K:Frag}{H:Hp}{k v:D}{a:Addr}{u:Value}{vv:V}(rk:Rep K H k (.ref a))(q:RelV vv u)(rv:Rep K H v vv){kvs:List (D×D)}{xs:List (D×Addr×Value)}(r:Paired (KX K H) kvs xs) :
  Paired (KX K H) (zU kvs k v) (storedH xs k a u):=by
 have e:=aCC (k:=k) r;unfold zU storedH;by_cases h:k∈kvs.map (·.1)
 ·rw[decide_eq_true h] at e;rw[if_pos h,if_pos e];clear e h
  induction r with
  |nil=>exact .nil
  |@cons p x ps xs r1 rr ih =>
   refine .cons ?_ ih;unfold putAt;obtain⟨e1,r2,r3⟩:=r1;show KX K H (if p.1=k then (p.1,v) else p) (if x.1=k then (x.1,x.2.1,u) else x);by_cases z:p.1=k
   ·rw[if_pos z,if_pos (by rw[<- e1];exact z)];exact⟨e1,r2,vv,q,rv⟩
   ·rw[if_neg z,if_neg (by rw[<- e1];exact z)];exact⟨e1,r2,r3⟩
 ·rw[decide_eq_false h] at e;rw[if_neg h,if_neg (by rw[e];exact Bool.false_ne_true)];clear e h
  induction r with
  |nil=>exact .cons ⟨rfl,rk,vv,q,rv⟩ .nil
  |cons r1 rr ih=>exact .cons r1 ih
theorem Paired.len {α β:Type}{F:α->β->Prop}:∀{l:List α}{l':List β},Paired F l l'->l.length=l'.length
 |_,_,.nil=>rfl
 |_,_,.cons _ t=>by rw[length_cons,length_cons,Paired.len t]
theorem aFq {o:Obj}{es:Array DictEntry}{ep:Nat}(h:o.ExactDict)(d:o.data = .dict es ep):o = { cls:=.type "dict",data:=.dict es ep }:=by obtain⟨c,di,dt,sl⟩:=o;obtain⟨h1,h2,h3⟩:=h;cases h1;cases h2;cases h3;cases d;rfl
theorem aAC {P:Program}{w:World}{H:Hp}{h:Heap}{a:Addr}{es:List DictEntry}(x:cL a es h):fR P w H h a (.ext (cL a es)) :=
 ⟨x,let ⟨_,_,_,e⟩:=x;⟨_,e⟩,λh1 h2 ⟨y1,y2,ep,e⟩ k=>⟨y1,y2,ep,k _ e⟩⟩
theorem uR (I:Inv X pins σ H s){a:Addr}{M:DM}{kvs:List (D×D)}(hm:bK X.K M H)(ha:M (.d a)=some (fO X.w kvs))(tk:TK kvs) :
  ∃xs,H a=some (.ext (cL a (xs.map (entryOfKey (oI X.prog X.w)))))/\Paired (KX X.K H) kvs xs/\s.heap.DictOfH (oI X.prog X.w) a xs/\(a==sysModules)=false/\xs.length<=sizeLine:=by
 obtain⟨es,hH,hr⟩:=hm.d a _ ha;obtain⟨xs,h1,rfl,h3⟩:=aB6 I tk.key hr;obtain⟨⟨hs,hz,ep,e⟩,_⟩:=I.hok a _ hH;refine⟨xs,hH,h1,⟨_,_,ep,e,⟨rfl,rfl,rfl⟩,rfl,by rw[List.toList_toArray],h3,?_⟩,hs,by simpa using hz⟩;rw[<- yT h1];exact tk.nd
theorem yC (I:Inv X pins σ H s){a b:Addr}{kvs:List (D×D)}{k v:D}{u:Value}{vv:V}{xs:List (D×Addr×Value)}{h':Heap}{tk:Nat}(hH:H a=some (.ext (cL a (xs.map (entryOfKey (oI X.prog X.w))))))(hp:Paired (KX X.K H) kvs xs)(hs:(a==sysModules)=false)(hz:xs.length<sizeLine)(rk:Rep X.K H k (.ref b))(q:RelV vv u)(rv:Rep X.K H v vv)(hd':h'.DictOfH (oI X.prog X.w) a (storedH xs k b u))(hsb:Heap.SameBut a s.heap h') :
  Inv X pins σ (upd H a (.ext (cL a ((storedH xs k b u).map (entryOfKey (oI X.prog X.w)))))) { s with heap:=h',toks:=tk }/\nY X.K H (fO X.w (zU kvs k v)) ((storedH xs k b u).map (entryOfKey (oI X.prog X.w))):=by
 obtain⟨o,es,ep,ho,hx,hda,he,_,_⟩:=hd';have eo:=aFq hx hda;subst eo;have hp':=aIL rk q rv hp;have lz:(storedH xs k b u).length<=sizeLine:=by have e1:=Paired.len hp';have e2:=Paired.len hp;have e3:=aD5 (kvs:=kvs) (k:=k) (v:=v);omega
 refine⟨I.write (e:=a) (by rw[hH];exact True.intro) (.inl rfl) (λc o hc e=>hsb.extBut c o hc e) ⟨_,ho⟩ (aAC ⟨hs,by rw[length_map];exact lz,ep,?_⟩),xF X.prog X.w hp'⟩;rw[ho,<- he]
def aB0 (k:D):Prop:=(∃ds,k=.tup ds)/\eX 6 k=true
theorem uU {K:Frag}{H:Hp}{k:D}{v:V}(h:aB0 k)(r:Rep K H k v):∃b,v=.ref b:=by obtain⟨⟨ds,e⟩,_⟩:=h;rw[e] at r;obtain⟨a,_,e,_⟩:=bO r;exact⟨a,e⟩
theorem aDy (hu:X.A.units+7<cLine):aJW X λo i v H Q=>∃p k d M kvs,o=.ref p/\Rep X.K H k i/\Rep X.K H d v/\bK X.K M H/\M (.d p)=some (fO X.w kvs)/\TK kvs/\kvs.length<1000/\aB0 k /\
  ∀H',bK X.K (tO M p (fO X.w (zU kvs k d))) H'->Ext H H'->Q H':=by
 intro pins s σ H o i v ov iv u Q I ro ri rv ⟨p,k,d,M,kvs,eo,rk,rd,hm,hp,tk,hl,hk,q⟩;subst eo;cases ro;obtain⟨b,rfl⟩:=uU hk rk;cases ri;obtain⟨xs,hH,hx,hd,hs,hz⟩:=uR I hm hp tk;have lx:=Paired.len hx;have hz':xs.length<sizeLine:=by rw[<- lx];exact eA (Nat.le_of_lt hl)
 refine wpAny_setItem_heap (hsz:=Nat.le_of_lt hz') (knd:=oI X.prog X.w) (by show X.A.units+1+6<cLine;omega) ⟨hk.2,mL I hk.2 rk rfl⟩ hd λh' hd' hsb=>?_;obtain⟨I',en⟩:=yC (tk:=s.toks+(oI X.prog X.w).draws k) I hH hx hs hz' rk rv rd hd' hsb;exact⟨_,I',q _ (hm.kput hH en) (Ext.putX hH _)⟩
end
section
variable {X:Cx}{pos:Pos}
def aCc (w:World)(to ti:DE):DG:=λd ρ M Q=>to ρ M λo M1=>ti ρ M1 λi M2=>match o with
 |.ref p=>∃kvs,M2 (.d p)=some (fO w kvs)/\TK kvs/\kvs.length<1000/\aB0 i/\Q ρ (tO M2 p (fO w (zU kvs i d)))
 |_=>False
theorem aG1 {o i:Expr}{to ti:DE}(hu:X.A.units+7<cLine)(ho:PDE X o to)(hi:PDE X i ti)(ha:∀v,assign (.Subscript o i pos) X.env v=(do
   let ov <- holding [v] (eval o X.env)
   let iv <- holding [v,ov] (eval i X.env)
   standAt pos
   holding [v,ov,iv] (setItem ov iv v)
   release [v,ov,iv] []):=by intro _;rfl):PDG X (.Subscript o i pos) (aCc X.w to ti) :=
 yU (aEd ho hi (aDy hu) ha) λv σ H Q ⟨d,ρ,M,Q',rd,re,hm,q,k⟩=>⟨ρ,M,_,re,hm,q,λov H1 ⟨dov,M1,rov,hm1,e1,q1⟩=>⟨ρ,M1,_,re.ext e1,hm1,q1,λiv H2 ⟨div,M2,riv,hm2,e2,q2⟩=>by
  cases dov with
  |ref p =>
   obtain⟨kvs,hp,tk,hl,hk,q2⟩:=q2;exact⟨p,div,d,M2,kvs,aP rov,riv,(rd.ext e1).ext e2,hm2,hp,tk,hl,hk,λH3 hm3 e3=>k _ _ ⟨ρ,_,((re.ext e1).ext e2).ext e3,hm3,(e1.trans e2).trans e3,q2⟩⟩
  |_=>exact q2.elim⟩⟩
noncomputable def aD2:D->D
 |.tup [_,k,_]=>k
 |d=>d
def aFr:DSp:=λds M Q=>match ds with
 |[.ref a]=>∃es,M (.d a)=some es/\∀p:Addr,M p=none->Q (.ref p) (aX M p (es.map aD2))
 |_=>False
theorem wY (w:World)(kvs:List (D×D)):(fO w kvs).map aD2=kvs.map (·.1):=by unfold fO;rw[map_map];rfl
theorem aG5 {prog:Program}{w:World}{d:Addr}{es:Array DictEntry}{ep:Nat}(hs:(d==sysModules)=false) :
  PySem.W.KdlSrc prog w "dict" d d es.size (λi v=>es[i]?.map (·.key)=some v) (λh=>aBE h d es ep) where
 type:=λ_ hm=>⟨_,hm,rfl⟩
 there:=λ_ hm=>⟨Heap.lt_size hm,Heap.lt_size hm⟩
 keep:=λ_ _ hm hk=>hk d (.inl rfl) _ hm
 notList:=by decide
 notTuple:=by decide
 hint:=λ_ _ _ _ hm hq=>PySem.W.kdl_hint_dict ⟨_,hm,rfl⟩ hq
 iter:=λA s hh hm=>⟨_,λi h=>h.IsKeyIter s.heap.objs.size d i es.size ep/\aBE h d es ep,(λ_ _ hq=>aA1 hs hm hq),
  {
   sub:=λb hb=>(by simp at hb;simp[hb])
   frame:=λ_ _ _ st hk=>⟨let ⟨o,ho,r⟩:=st.1;⟨o,hk s.heap.objs.size (by simp) o ho,r⟩,hk d (by simp) _ st.2⟩
   item:=λi s1 Q E hi st hQ=>aAp hi st.1 st.2 λh' ht hb=>hQ _ h' s1.toks (by rw[Array.getElem?_eq_getElem hi];rfl) ⟨ht,hb.extBut d _ (Nat.ne_of_lt (Heap.lt_size hm)) st.2⟩ λb o hb' e=>hb.extBut b o (λz=>hb' (by simp[z])) e
   done:=λs1 Q E st hQ=>aCH hh st.1 st.2 λh' he=>hQ h' s1.toks λb o hb e=>he b o (λz=>hb (by simp[z])) e
   self:=λ_ _ _ _ st hQ=>wpAny_pyIter_keyiter st.1 hQ },
  ⟨_,Heap.get?_push_size _ rfl,rfl,rfl⟩,Heap.get?_push_of_some _ hm⟩
theorem sO {K:Frag}{H:Hp}:∀{ds:List D}{es:List DictEntry},nY K H ds es->∃vs,bU vs (es.map (·.key))/\bG K H (ds.map aD2) vs
 |[],_,.nil=>⟨[],.nil,cN⟩
 |d::ds,e::es,.cons r rr=>by obtain⟨vs,h1,h2⟩:=sO rr;obtain⟨k,v,kv,vv,rfl,q,r1,_,_⟩:=r;exact⟨kv::vs,.cons q h1,cC r1 h2⟩
theorem aD6 (hc:X.calm = true):fG X (.type "list") aFr:=by
 intro pins s σ H xs us Q I r ⟨ds,M,Q',rs,hm,q,k⟩
 match ds,q with
 |[.ref a],q =>
  obtain⟨es,ha,q⟩:=q;obtain⟨v,rfl,rv⟩:=iE rs;obtain rfl:=aP rv;obtain⟨u,rfl,ru⟩:=rW r;cases ru;obtain⟨ens,hH,he⟩:=hm.d a es ha;obtain⟨⟨hs,hz,ep,e⟩,_⟩:=I.hok a _ hH;obtain⟨vs,hv,hr⟩:=sO he;have lv:=hv.length;rw[length_map] at lv;refine PySem.W.kdl_call (aG5 (es:=ens.toArray) (ep:=ep) hs) (I.ok.hd hc) e (by rw[size_toArray];exact hz) λh' tk acc c kp hn ia=>?_;have ea:acc.toList=ens.map (·.key):=by
   refine List.ext_getElem? λi=>?_;rw[getElem?_map,Array.getElem?_toList];obtain⟨l1,l2⟩:=ia;cases hq:acc[i]? with
   |some v =>
    have this:Option.map (λx:DictEntry=>x.key) ens.toArray[i]?=some v:=l2 i v hq;rw[List.getElem?_toArray] at this;exact this.symm
   |none =>
    have hi:=Array.getElem?_eq_none_iff.mp hq;rw[l1,size_toArray] at hi;rw[getElem?_eq_none hi];rfl
  exact⟨.ref s.heap.objs.size,_,I.laid (t':=tk) kp (Nat.le_refl _) (show fR X.prog X.w _ h' _ (.lst vs) from⟨by omega,acc.toList,c,by rw[ea];exact hv,by rw[hn,Array.toArray_toList]⟩),rfl,
   k _ _ ⟨.ref _,_,dH,hm.lnew I.fresh hr,Ext.new I.fresh _,q _ (hm.fresh I.fresh)⟩⟩
def aBM:DE:=λ_ M Q=>∀p:Addr,M (.d p)=none->Q (.ref p) (tO M p [])
theorem aFA:PDE X (.Dict [] [] pos) aBM:=by
 intro pins s σ H Q I ⟨ρ,M,Q',re,hm,q,k⟩;have hn:=I.hok.fresh (Nat.le_refl s.heap.objs.size);have big:sysModules<s.heap.objs.size:=Nat.lt_trans (by decide) (I.mod.glob.keeps I.bk).lt;have I1:=I.laid (a:=s.heap.objs.size) (o:=.ext (cL s.heap.objs.size [])) (h':=s.heap.push { cls:=.type "dict",data:=.dict #[] }) (t':=s.toks) (λ_ _ q=>Heap.get?_push_of_some _ q) (Nat.le_refl _)
  (aAC ⟨beq_eq_false_iff_ne.mpr (Ne.symm (Nat.ne_of_lt big)),Nat.zero_le _,0,Heap.get?_push_size _ rfl⟩)
 exact wpAny_Dict_empty ⟨.ref s.heap.objs.size,_,I1,rfl,k _ _ ⟨.ref _,_,dH,hm.knew hn .nil,Ext.new hn _,q _ (hm.freshD hn)⟩⟩
theorem aE3 {o i:Expr}{to ti:DE}{kr:Nat}(hr:dZ kr X.A)(ho:PDE X o to)(hi:PDE X i ti)(ha:∀v,assign (.Subscript o i pos) X.env v=(do
   let ov <- holding [v] (eval o X.env)
   let iv <- holding [v,ov] (eval i X.env)
   standAt pos
   holding [v,ov,iv] (setItem ov iv v)
   release [v,ov,iv] []):=by intro _;rfl):PDG X (.Subscript o i pos) (aCc X.w to ti):=aG1 (by have:=hr.un;omega) ho hi ha
end
open PySem.W
noncomputable def fV (lt:Nat->Nat->Bool){α:Type}:KasT α->α
 |.ret a=>a
 |.ask i j k=>fV lt (k (lt i j))
theorem jE (lt:Nat->Nat->Bool){α β:Type}{f:α->KasT β}:∀t:KasT α,fV lt (t.bind f)=fV lt (f (fV lt t))
 |.ret _=>rfl
 |.ask i j k=>jE lt (k (lt i j))
structure PmR (n:Nat)(p:Array Nat):Prop where
 perm:p.toList.Perm (range n)
section
variable {n:Nat}{lt:Nat->Nat->Bool}{p:Array Nat}
theorem PmR.size (h:PmR n p):p.size=n:=by have:=h.perm.length_eq;simpa using this
theorem PmR.ub (h:PmR n p){i:Nat}(hi:i<n):p.getD i 0<n:=by
 have hs:=h.size;have:p.getD i 0=p[i]'(by omega):=by simp[Array.getD,show i<p.size by omega]
 rw[this];exact List.mem_range.mp (h.perm.mem_iff.mp (by simp))
theorem rZ {q:Array Nat}{i j:Nat}(h:q[i]?=p[j]?):q.getD i 0=p.getD j 0:=by rw[Array.getD_eq_getD_getElem?,Array.getD_eq_getD_getElem?,h]
end
def fD (n:Nat){α:Type}(R:α->Prop):KasT α->Prop
 |.ret a=>R a
 |.ask i j k=>i<n/\j<n/\∀b,fD n R (k b)
theorem fD.bind {n:Nat}{α β:Type}{R:α->Prop}{R':β->Prop}{f:α->KasT β}(hf:∀a,R a->fD n R' (f a)):∀{t:KasT α},fD n R t->fD n R' (t.bind f)
 |.ret a,h=>hf a h
 |.ask i j k,h=>⟨h.1,h.2.1,λb=>fD.bind hf (h.2.2 b)⟩
theorem fD.ite {n:Nat}{α:Type}{R:α->Prop}{c:Prop}[Decidable c]{t u:KasT α}(h1:fD n R t)(h2:fD n R u):fD n R (if c then t else u):=by split<;>assumption
theorem aAW {n:Nat}{lt:Nat->Nat->Bool}{cmp:Nat->Nat->(Bool->Shared->Prop)->Shared->Prop}{s:Shared}(hc:∀i j C,i<n->j<n->C (lt i j) s->cmp i j C s){α:Type}{R:α->Prop}{Q:α->Shared->Prop} :
  ∀(t:KasT α),fD n R t->Q (fV lt t) s->t.kasWp cmp Q s
 |.ret a,_,h=>h
 |.ask i j k,a,h=>hc i j _ a.1 a.2.1 (aAW hc (k (lt i j)) (a.2.2 _) h)
def PB (n:Nat)(p:Array Nat):Prop:=∀i:Nat,p.getD i 0<n
theorem rH {n:Nat}{p q:Array Nat}(hn:0<n)(h:q.Perm p)(P:PB n p):PB n q:=λi=>by
 rw[Array.getD_eq_getD_getElem?];cases e:q[i]? with
 |none=>exact hn
 |some x =>
  have hx:x∈p:=h.mem_iff.mp (Array.mem_of_getElem? e);obtain⟨j,hj,rfl⟩:=Array.mem_iff_getElem.mp hx;have:=P j;rw[Array.getD_eq_getD_getElem?,Array.getElem?_eq_getElem hj] at this;exact this
section
variable {n:Nat}{p:Array Nat}
theorem aBZ (P:PB n p):∀f a,fD n (λ_=>True) (kas_asc p f a)
 |0,_=>True.intro
 |f+1,a=>⟨P _,P _,λc=>fD.ite True.intro (aBZ P f (a+1))⟩
theorem uW (hn:0<n):∀f (p:Array Nat) a q,PB n p->fD n (λr:Array Nat×Nat×Nat=>PB n r.1) (kas_desc f p a q)
 |0,p,a,q,P=>P
 |f+1,p,a,q,P=>⟨P _,P _,λc=>fD.ite (fD.ite (uW hn f _ _ _ (rH hn (mirror_perm ..) P)) (uW hn f _ _ _ P)) ⟨P _,P _,λd=>fD.ite P (uW hn f _ _ _ P)⟩⟩
theorem aAv (hn:0<n)(P:PB n p)(k m:Nat):fD n (λr:Nat×Array Nat=>PB n r.2) (kas_tail3 k m p) :=
 by have P':PB n (kas_rev p 0 k):=rH hn (mirror_perm ..) P;unfold kas_tail3;refine fD.bind (R:=λ_=>True) (λ_ _=>?_) (aBZ P' _ _);exact P'
theorem uA (hn:0<n)(P:PB n p)(k m:Nat):fD n (λr:Nat×Array Nat=>PB n r.2) (kas_descPart k m p) :=
 by unfold kas_descPart;exact fD.bind (R:=λr:Array Nat×Nat×Nat=>PB n r.1) (λr hr=>fD.ite (aAv hn (rH hn (mirror_perm ..) hr) _ _) (aAv hn hr _ _)) (uW hn _ _ _ _ P)
theorem aEA (hn:0<n)(P:PB n p)(m:Nat):fD n (λr:Nat×Array Nat=>PB n r.2) (kas_count m p) :=
 by unfold kas_count;have r0:∀a:Nat,fD n (λr:Nat×Array Nat=>PB n r.2) (.ret (a,p)):=λa=>P;refine fD.bind (R:=λ_=>True) (λa _=>fD.ite (r0 a) (fD.ite ?_ (uA hn P _ _))) (aBZ P _ _);exact⟨P _,P _,λc=>fD.ite (r0 a) (uA hn (rH hn (mirror_perm ..) P) _ _)⟩
theorem vS (P:PB n p):∀f k l r,fD n (λ_=>True) (kas_place p k f l r)
 |0,_,_,_=>True.intro
 |f+1,k,l,r=>by unfold kas_place;exact fD.ite True.intro ⟨P _,P _,λc=>fD.ite (vS P f _ _ _) (vS P f _ _ _)⟩
theorem aFc (hn:0<n):∀f (p:Array Nat) k,PB n p->fD n (PB n) (kas_bin f p k)
 |0,p,k,P=>P
 |f+1,p,k,P=>fD.bind (λl _=>aFc hn f _ _ (rH hn (bubble_perm ..) P)) (vS P _ _ _ _)
theorem aHs (hn:0<n):fD n (PB n) (kas_sort n):=by
 have P:PB n (toArray (range n)):=λi=>by
  rw[Array.getD_eq_getD_getElem?,List.getElem?_toArray];by_cases h:i<n
  ·rw[List.getElem?_range h];exact h
  ·rw[getElem?_eq_none (by simpa using h)];exact hn
 unfold kas_sort;refine fD.bind (R:=λr:Nat×Array Nat=>PB n r.2) (λr hr=>?_) (aEA hn P _);have r0:fD n (PB n) (.ret r.2):=hr;exact fD.ite (aFc hn _ _ _ hr) r0
end
section
variable {prog:Program}{w:World}{A:Around}{E:Value->Shared->Prop}{s:Shared}
end
theorem wZ {K:Frag}{H:Hp}{ds:List D}{us:List V}{its:List Value}(r:bG K H ds us)(v:bU us its)(d0:D) :
  ∀idx:List Nat,(∀i∈idx,i<ds.length)->bG K H (idx.map λi=>ds.getD i d0) (idx.map λi=>us.getD i .non)/\bU (idx.map λi=>us.getD i .non) (idx.map λi=>its.getD i Value.none)
 |[],_=>⟨cN,.nil⟩
 |i::idx,h=>by
  obtain⟨h1,h2⟩:=wZ r v d0 idx λj hj=>h j (mem_cons_of_mem _ hj);have hi:=h i mem_cons_self;obtain⟨u,e1,ru⟩:=r.get (i:=i) (d:=ds[i]) (by simp[hi]);obtain⟨x,e2,rx⟩:=v.get e1;refine⟨cC ?_ h1,.cons ?_ h2⟩
  ·show Rep K H (ds.getD i d0) (us.getD i .non);rw[getD_eq_getElem?_getD,getD_eq_getElem?_getD,e1,getElem?_eq_getElem hi];exact ru
  ·show L2.RelV (us.getD i .non) (its.getD i Value.none);rw[getD_eq_getElem?_getD,getD_eq_getElem?_getD,e1,e2];exact rx
section
variable {X:Cx}{pins:List (Addr×Obj)}{σ:L2.St}{H:Hp}{s:Shared}
theorem aGE {P:Program}{w:World}{h:Heap}{a:Addr}{o:HO}(x:fR P w H h a o):∃u,h.get? a=some u:=by
 cases o with
 |lst xs=>obtain⟨_,_,_,_,e⟩:=x;exact⟨_,e⟩
 |tup xs=>obtain⟨_,_,_,o,e,_⟩:=x;exact⟨_,e⟩
 |dK kvs=>obtain⟨_,_,_,_,o,_,_,e,_⟩:=x;exact⟨_,e⟩
 |dT kvs=>obtain⟨_,_,_,_,o,_,_,e,_⟩:=x;exact⟨_,e⟩
 |set S n=>obtain⟨o,_,_,_,e,_⟩:=x;exact⟨_,e⟩
 |ins C dx fs=>obtain⟨_,_,_,e,_⟩:=x;exact⟨_,e⟩
 |own y=>exact x
 |xd fs=>obtain⟨_,⟨_,_,_,e,_⟩,_⟩:=x;exact⟨_,e⟩
 |rng lo hi=>obtain⟨_,_,_,e⟩:=x;exact⟨_,e⟩
 |frz ob u=>obtain⟨e,_⟩:=x;exact⟨_,e⟩
 |tbl ps=>exact⟨_,(show h.get? a=some _ from x)⟩
 |met f y=>exact⟨_,(show h.get? a=some _ from x)⟩
 |ext φ=>obtain⟨_,e,_⟩:=x;exact e
theorem xN (I:Inv X pins σ H s){m:Str->Option Value}(F0:Fr X.base X.env.locals s.heap m){q:Addr}{out:List Value}{c t':Nat}{h':Heap}{zs:List V}(hlt:∀p∈oZ X.base s.heap X.env.locals,p.1<q)(F:Fr X.base X.env.locals h' m)(N:News X.base X.env.locals h' ((q,{ cls:=.type "list",data:=.seq out.toArray c })::oZ X.base s.heap X.env.locals))(hv:bU zs out)(hz:zs.length<=sizeLine) :
  H q=none/\Inv X pins σ (upd H q (.lst zs)) { s with heap:=h',toks:=t' }:=by
 obtain⟨gD,nL,nB⟩:=N _ mem_cons_self;have g0:s.heap.get? q=none:=by
  cases e:s.heap.get? q with
  |none=>rfl
  |some o=>exact absurd (hlt _ (oB nL nB e)) (Nat.lt_irrefl _)
 have hn:H q=none:=by
  cases e:H q with
  |none=>rfl
  |some o =>
   obtain⟨u,e⟩:=aGE (I.hok q o e);rw[g0] at e;cases e
 have kp:∀b o,b≠X.env.locals->s.heap.get? b=some o->h'.get? b=some o:=λb o hb e=>by
  cases z:X.base.get? b with
  |some u =>
   have:=I.bk b u z;rw[e] at this;cases this;exact F.keep b _ z
  |none=>exact(N (b,o) (mem_cons_of_mem _ (oB hb z e))).1
 have ne:∀b o,s.heap.get? b=some o->b≠q:=λb o e z=>by rw[z,g0] at e;cases e
 have nH:∀b o,H b=some o->b≠q:=λb o e z=>by rw[z,hn] at e;cases e
 have nL':∀b o,H b=some o->b≠X.env.locals:=λb o e z=>by rw[z,I.free] at e;cases e
 refine⟨hn,I.step (g':=s.gens) (d':=s.drawn) (ch:=[]) (λ_ z=>nomatch z) (λb o hb _ _ e _=>kp b o hb e) (λb o hb _ _ e _=>⟨o.slots,kp b o hb e⟩) (λb o _ e n=>by rw[aL (ne b o e)];exact n) (λb o _ e=>?_)
  (λb xs e=>by rw[aL (nH b _ e)];exact e) (λb o u e=>by rw[aL (nH b _ e)];exact e) (λb ps e=>⟨#[],by rw[aL (nH b _ e),e];simp⟩) (λm' hm'=>?_) (λb o e=>?_) I.bare⟩
 ·by_cases hb:b=X.env.locals
  ·obtain⟨o',_,_,e',_⟩:=F.ns;rw[hb];exact⟨o',e'⟩
  ·exact⟨o,kp b o hb e⟩
 ·rw[hm'.eq_nsMap,<- F0.ns.eq_nsMap];exact F.ns
 ·by_cases hb:b=q
  ·subst hb;rw[bI] at e;cases e;exact⟨hz,out,c,hv,gD⟩
  ·rw[aL hb] at e;refine(I.hok b o e).stay (λb' u hb' e'=>kp b' u ?_ e') (λb' e'=>by rw[aL (nH b' _ e')];exact e') λb' xs e'=>by rw[aL (nH b' _ e')];exact e'
   rcases hb' with z|z
   ·rw[z];exact nL' b o e
   ·exact nL' b' _ z
theorem vO {α:Type}(l:List α)(d:α):(range l.length).map (λi=>l.getD i d)=l:=by refine List.ext_getElem (by simp) λi h1 h2=>?_;simp[h2]
end
end Dd
namespace L2
open PySem PySem.Spec PyProof.Rows Dd
noncomputable def Itd (a:Addr)(o:Obj)(es:List DictEntry)(ks:List V):It :=
 ⟨λi H=>H a=some (.frz o (.ext (cL a es)))/\i<es.length,λi H x H'=>H'=H/\ks[i]?=some x,λi H=>H a=some (.frz o (.ext (cL a es)))/\es.length<=i⟩
theorem aCY {P:Program}{w:World}{K:Frag}{tg:Expr}{a it:Addr}{es:List DictEntry}{ks:List V}{ep:Nat}(hv:bU ks (es.map (·.key))) :
  aHe P w K tg (Itd a { cls:=.type "dict",data:=.dict es.toArray ep } es ks) [it] it (λi h=>i<=es.length/\h.IsKeyIter it a i es.length ep) where
 mem:=by simp
 obj:=λi h st b hb=>by
  have e:b=it:=by simpa using hb
  subst e;obtain⟨_,o,e,c,d⟩:=st;exact⟨o,e,λv z=>by rw[d] at z;cases z⟩
 keep:=λi h h' st k=>let ⟨hl,o,ho,r⟩:=st;⟨hl,o,k it (by simp) o ho,r⟩
 item:=by
  intro X hP hw hK hc i pins s σ H E I hf st hg;subst hP hw hK;obtain⟨hH,hi⟩:=hg;have hm:aBE s.heap a es.toArray ep:=(I.hok a _ hH).1;obtain⟨f0,f1,f2,f3,f4,f5⟩:=hf it (by simp);have hi':i<es.toArray.size:=by simpa using hi
  refine aAp (es:=es.toArray) hi' (by simpa using st.2) hm λh' st' sb=>?_;have st2:h'.IsKeyIter it a (i+1) es.length ep:=by simpa using st'
  have I1:Inv X pins σ H { s with heap:=h' }:=I.turned (t':=s.toks) (λb o hb e=>(sb.2 b hb).trans e) f0 f1 f3 f4 f5;obtain⟨o,e,c,d⟩:=id st2;have lk:ks.length=es.length:=by have:=hv.length;simpa using this
  obtain⟨x,hx⟩:∃x,ks[i]?=some x:=⟨_,getElem?_eq_getElem (by omega)⟩;obtain⟨u,hu,ru⟩:=hv.get hx;have eu:u=es.toArray[i].key:=by rw[getElem?_map,getElem?_eq_getElem hi] at hu;simpa using hu.symm
  exact⟨_,rfl,aEm (s:={ s with heap:=h' }) e c d (by decide) ⟨x,H,I1,by rw[<- eu];exact ru,⟨rfl,hx⟩,⟨hi,st2⟩,λb hb=>(hf b hb).1⟩⟩
 done:=by intro X hP hw hK hc i pins s σ H E I hf st hg;subst hP hw hK;obtain⟨hH,hi⟩:=hg;obtain rfl:i=es.length:=Nat.le_antisymm st.1 hi;have hm:aBE s.heap a es.toArray ep:=(I.hok a _ hH).1;obtain⟨f0,f1,f2,f3,f4,f5⟩:=hf it (by simp);exact aCH (es:=es.toArray) (I.ok.hd hc) (by simpa using st.2) hm λh' eb=>⟨rfl,I.turned (t':=s.toks) (λb o hb e=>eb b o hb e) f0 f1 f3 f4 f5⟩
 self:=λ_ _ _ _ _ st h=>wpAny_pyIter_keyiter st.2 h
section
variable {X:Cx}{pins:List (Addr×Obj)}{σ:St}{H:Hp}{s:Shared}{tg:Expr}{a:Addr}{φ:Heap->Prop}{o:Obj}
theorem Inv.freeze (I:Inv X pins σ H s)(hH:H a=some (.ext φ))(ho:s.heap.get? a=some o):Inv X pins σ (upd H a (.frz o (.ext φ))) s:=by have:=I.write (t':=s.toks) (h':=s.heap) (x:=a) (e:=a) (o:=.frz o (.ext φ)) (by rw[hH];exact True.intro) (.inl rfl) (λb u _ e=>e) ⟨_,ho⟩ ⟨ho,I.hok a _ hH⟩;exact this
theorem Inv.unfreeze {σ0:St}{H0:Hp}{s0:Shared}(I:Inv X pins σ0 H0 s0)(h0:H0 a=some (.ext φ))(J:Inv X pins σ H s)(hf:H a=some (.frz o (.ext φ))):Inv X pins σ (upd H a (.ext φ)) s:=by
 have ne:∀{b:Addr},H b=none->upd H a (.ext φ) b=none:=λ{b} e=>by rw[aL (λz=>by rw[z,hf] at e;cases e)];exact e
 have st:∀{b:Addr}{u:HO},H b=some u->b≠a->upd H a (.ext φ) b=some u:=λe n=>by rw[aL n];exact e
 refine⟨J.ok,J.os,J.bare,⟨J.base.keep,J.base.slot,λb o q n hx=>ne (J.base.free b o q n hx),J.base.there,λb xs q=>st (J.base.tups b xs q) λz=>?_,λb o' v q=>st (J.base.frzs b o' v q) λz=>?_,λb ps q=>?_⟩,J.loc,J.cell,ne J.free,λx c q=>ne (J.freeC x c q),λp hp=>?_,λb u e=>?_,J.len⟩
 ·have:=J.base.tups b xs q;rw[z,hf] at this;cases this
 ·have:=I.base.frzs b o' v q;rw[z,h0] at this;cases this
 ·obtain⟨m,z⟩:=J.base.tbls b ps q;exact⟨m,st z λy=>by rw[y,hf] at z;cases z⟩
 ·obtain⟨a1,a2,a3,a4,a5⟩:=J.pin p hp;exact⟨a1,ne a2,a3,a4,a5⟩
 ·by_cases z:b=a
  ·rw[z] at e ⊢;rw[bI] at e;cases e;exact(J.hok a _ hf).2
  ·rw[aL z] at e;exact(J.hok b u e).stay (λ_ _ _ q=>q) (λd q=>st q λy=>by rw[y,hf] at q;cases q) λd xs q=>st q λy=>by rw[y,hf] at q;cases q
noncomputable def aK6 (tl:TE)(a:Addr)(es:List DictEntry)(ks:List V):TI:=λσ H R=>tl σ H λx H1=>x=.ref a/\H1 a=some (.ext (cL a es))/\bU ks (es.map (·.key))/\∀o ep,o.data=.dict es.toArray ep->R (Itd a o es ks) (upd H1 a (.frz o (.ext (cL a es))))
theorem aIm {l:Expr}{tl:TE}{es:List DictEntry}{ks:List V}(hl:PE X l tl):PI X tg l (aK6 tl a es ks):=by
 intro pins s σ H R I h;refine thn (hl pins s σ H _ I h) λv s1 ⟨x,H1,I1,r1,e,hH,hv,q⟩=>?_;subst e;cases r1;obtain⟨⟨hs,hz,ep,e⟩,_⟩:=I1.hok a _ hH;have If:=I1.freeze hH e;refine aA1 hs e ?_;refine⟨s1.heap.objs.size,[s1.heap.objs.size],_,_,upd H1 a (.frz { cls:=.type "dict",data:=.dict es.toArray ep } (.ext (cL a es))),rfl,If.kept (t':=s1.toks) λb o e=>Heap.get?_push_of_some _ e,aCY (es:=es) (ep:=ep) hv,⟨Nat.zero_le _,_,Heap.get?_push_size _ rfl,rfl,by simp⟩,λb hb=>?_,q _ ep rfl⟩;have e:b=s1.heap.objs.size:=by simpa using hb
 subst e;exact If.fpOk (Nat.le_refl _) (If.hok.fresh (Nat.le_refl _))
noncomputable def aE1 (D:uD)(a:Addr)(es:List DictEntry):uD where
 nx:=λσ H=>(∃o,H a=some (.frz o (.ext (cL a es))))/\D.nx σ (upd H a (.ext (cL a es)))
 rt:=λv H=>(∃o,H a=some (.frz o (.ext (cL a es))))/\D.rt v (upd H a (.ext (cL a es)))
 bk:=λ_ _=>False
 ct:=λ_ _=>False
def aL4 (tl:TE)(g:TG)(tb:TS):TS:=λD σ H=>∃a es ks,H a=some (.ext (cL a es))/\aLt (aK6 tl a es ks) g tb (aE1 D a es) σ H
theorem aHl {iter:Expr}{body:List Stmt}{tl:TE}{g:TG}{tb:TS}{pos:Pos}(hp:PassesOwn (model X.prog X.w) X.A X.env X.xe)(hc:X.calm=true)(hi:PE X iter tl)(hg:PG X tg g)(hb:PSs X body tb)(hs:∀x,foldedSetIterable iter X.env x=pure x:=by intro _;rfl):PS X (.For tg iter body [] pos) (aL4 tl g tb):=by
 intro pins s σ H D I ⟨a,es,ks,hH,h⟩;refine thn (aBG hp hc (aIm hi) hg hb hs pins s σ H (aE1 D a es) I h) λfl s' hs=>?_;cases fl with
 |next =>
  obtain⟨σ',H',J,⟨o,hf⟩,q⟩:=hs;exact⟨σ',_,I.unfreeze hH J hf,q⟩
 |ret u =>
  obtain⟨v,σ',H',J,rv,⟨o,hf⟩,q⟩:=hs;exact⟨v,σ',_,I.unfreeze hH J hf,rv,q⟩
 |brk=>obtain⟨_,_,_,z⟩:=hs;exact z.elim
 |cont=>obtain⟨_,_,_,z⟩:=hs;exact z.elim
end
end L2
namespace Dd
open PySem PySem.Spec PyProof.Rows L2
noncomputable def uI (w:World)(M:DM)(a:Addr)(kvs:List (D×D)):DM:=λb=>if b=.x a then some (.bl true::fO w kvs) else if b=.d a then none else M b
noncomputable def aA4 (w:World)(M:DM)(a:Addr)(kvs:List (D×D)):DM:=λb=>if b=.d a then some (fO w kvs) else if b=.x a then none else M b
theorem aBU {w:World}{M:DM}{a:Addr}{kvs:List (D×D)}:uI w M a kvs (.x a)=some (.bl true::fO w kvs):=if_pos rfl
theorem kG {w:World}{M:DM}{a:Addr}{kvs:List (D×D)}{b:AK}(h1:b ≠ .x a)(h2:b ≠ .d a):uI w M a kvs b=M b:=by unfold uI;rw[if_neg h1,if_neg h2]
theorem aIR {w:World}{M:DM}{a:Addr}{kvs:List (D×D)}:aA4 w M a kvs (.d a)=some (fO w kvs):=if_pos rfl
theorem mH {w:World}{M:DM}{a:Addr}{kvs:List (D×D)}{b:AK}(h1:b ≠ .x a)(h2:b ≠ .d a):aA4 w M a kvs b=M b:=by unfold aA4;rw[if_neg h2,if_neg h1]
section
variable {K:Frag}{M:DM}{H:Hp}{w:World}{a:Addr}{kvs:List (D×D)}{es:List DictEntry}{o:Obj}{ep:Nat}
theorem aGX (hm:bK K M H)(hH:H a=some (.ext (cL a es)))(hr:nY K H (fO w kvs) es)(ho:o.data=.dict es.toArray ep):bK K (uI w M a kvs) (upd H a (.frz o (.ext (cL a es)))):=by
 have ex:Ext H (upd H a (.frz o (.ext (cL a es)))):=Ext.putX hH _;have st:∀{b:Addr}{u:HO},H b=some u->(∀φ,u ≠ .ext φ)->upd H a (.frz o (.ext (cL a es))) b=some u:=λe n=>by rw[aL (λz=>by rw[z,hH] at e;exact n _ (Option.some.inj e).symm)];exact e
 refine⟨λb ds q=>?_,λb ds q=>?_,λb ds q=>?_,λb ds q=>?_⟩
 ·rw[kG (by intro z;cases z) (by intro z;cases z)] at q;obtain⟨xs,z,r⟩:=hm.l b ds q;exact⟨xs,st z (by intro φ z;cases z),r.ext ex⟩
 ·by_cases e:b=a
  ·unfold uI at q;rw[if_neg (by intro z;cases z),if_pos (by rw[e])] at q;cases q
  ·rw[kG (by intro z;cases z) (λz=>e (AK.d.inj z))] at q;obtain⟨xs,z,r⟩:=hm.d b ds q;exact⟨xs,by rw[aL e];exact z,eM r ex⟩
 ·rw[kG (by intro z;cases z) (by intro z;cases z)] at q;obtain⟨C,dx,gs,fs,y,z,r⟩:=hm.o b ds q;exact⟨C,dx,gs,fs,y,st z (by intro φ z;cases z),hO r ex⟩
 ·by_cases e:b=a
  ·rw[e,aBU] at q;cases q;rw[e];exact⟨o,es,ep,ho,bI,eM hr ex⟩
  ·rw[kG (λz=>e (AK.x.inj z)) (by intro z;cases z)] at q;exact(hm.x b ds q).wr ex λps z=>by rw[hH] at z;cases z
theorem aCr (hm:bK K M H)(hf:H a=some (.frz o (.ext (cL a es))))(hx:M (.x a)=some (.bl true::fO w kvs)):bK K (aA4 w M a kvs) (upd H a (.ext (cL a es)))/\aBP K H (upd H a (.ext (cL a es))):=by
 obtain⟨o',ens,ep,ho,h1,hr⟩:aJM K H a (fO w kvs):=hm.x a _ hx;rw[hf] at h1;have e1:=HO.frz.inj (Option.some.inj h1);obtain⟨rfl,e2⟩:=e1;rw[e2];rw[e2] at hf;have nc:∀{d:Addr}{q:HO},H d=some q->(∀φ,q ≠ .frz o (.ext φ))->upd H a (.ext (cL a ens)) d=some q:=λe n=>by rw[aL (λy=>by rw[y,hf] at e;exact n _ (Option.some.inj e).symm)];exact e
 have sx:aBP K H (upd H a (.ext (cL a ens))):=by
  refine⟨λh=>?_,λh=>?_⟩
  ·rcases h with(h|⟨o,h⟩)|h
   ·exact .inl (.inl (nc h (by intro φ z;cases z)))
   ·exact .inl (.inr ⟨o,nc h (by intro φ z;cases z)⟩)
   ·exact .inr h
  ·rcases h with⟨o,h⟩|h
   ·exact .inl ⟨o,nc h (by intro φ z;cases z)⟩
   ·exact .inr h
 have er:∀{d:D}{e:DictEntry},aDJ K H d e->aDJ K (upd H a (.ext (cL a ens))) d e:=λr=>let ⟨k,v,kv,vv,a,b,c,f,g⟩:=r;⟨k,v,kv,vv,a,b,c.extS sx,f,g.extS sx⟩
 refine⟨⟨λb ds q=>?_,λb ds q=>?_,λb ds q=>?_,λb ds q=>?_⟩,sx⟩
 ·rw[mH (by intro z;cases z) (by intro z;cases z)] at q;obtain⟨xs,z,r⟩:=hm.l b ds q;exact⟨xs,nc z (by intro φ z;cases z),r.extS sx⟩
 ·by_cases e:b=a
  ·rw[e,aIR] at q;cases q;rw[e];exact⟨ens,bI,Paired.mapP hr λ_ _ r=>er r⟩
  ·rw[mH (by intro z;cases z) (λz=>e (AK.d.inj z))] at q;obtain⟨xs,z,r⟩:=hm.d b ds q;exact⟨xs,nc z (by intro φ z;cases z),Paired.mapP r λ_ _ r=>er r⟩
 ·rw[mH (by intro z;cases z) (by intro z;cases z)] at q;obtain⟨C,dx,gs,fs,y,z,r⟩:=hm.o b ds q;exact⟨C,dx,gs,fs,y,nc z (by intro φ z;cases z),Paired.mapP r λ_ _ r=>⟨r.1,r.2.extS sx⟩⟩
 ·by_cases e:b=a
  ·unfold aA4 at q;rw[if_neg (by intro z;cases z),if_pos (by rw[e])] at q;cases q
  ·rw[mH (λz=>e (AK.x.inj z)) (by intro z;cases z)] at q;have x:=hm.x b ds q;unfold rF at x ⊢;split at x
   ·obtain⟨ps,h1,h2,h3⟩:=x;exact⟨ps,nc h1 (by intro φ z;cases z),h2,λpos v z=>let ⟨c,oc,u,vs,t,a,b,e,r⟩:=h3 pos v z;⟨c,oc,u,vs,t,a,nc b (by intro φ z;cases z;rw[ho] at e;cases e),e,r⟩⟩
   ·obtain⟨q,a1,a2,b1,b2,b3,b4,b5,b6,b7,b8,d,d',pm,ct,od,od',v,v',vs,t,h1,h4,h5,h6,h7,h8⟩:=x;exact⟨q,a1,a2,b1,b2,b3,b4,b5,b6,b7,b8,d,d',pm,ct,od,od',v,v',vs,t,nc h1 (by intro φ z;cases z;cases ho),nc h4 (by intro φ z;cases z),h5,nc h6 (by intro φ z;cases z;rw[ho] at h7;cases h7),h7,h8⟩
   ·obtain⟨o',ens',ep',h0,h1,h2⟩:=x;exact⟨o',ens',ep',h0,by rw[aL e];exact h1,Paired.mapP h2 λ_ _ r=>er r⟩
   ·exact x
end
noncomputable def aJZ (w:World)(E:hE)(a:Addr)(kvs:List (D×D)):hE where
 nx:=λρ M=>M (.x a)=some (.bl true::fO w kvs)/\E.nx ρ (aA4 w M a kvs)
 rt:=λd M=>M (.x a)=some (.bl true::fO w kvs)/\E.rt d (aA4 w M a kvs)
 bk:=λ_ _=>False
 ct:=λ_ _=>False
def aFh (w:World)(i:Nat)(g:DG)(tb:DS):DS:=λE ρ M=>match ρ[i]? with
 |some (some (.ref a))=>∃kvs,M (.d a)=some (fO w kvs)/\TK kvs/\dIt none (kvs.map (·.1)) g tb (aJZ w E a kvs) ρ (uI w M a kvs)
 |_=>False
section
variable {X:Cx}{tg:Expr}{body:List Stmt}{g:DG}{tb:DS}{pos:Pos}
theorem aGG (i:Nat){x:Str}{p:Pos}(hp:PassesOwn (model X.prog X.w) X.A X.env X.xe)(hc:X.calm=true)(hg:PDG X tg g)(hb:mY X body tb)(hN:X.N[i]?=some x:=by rfl)(hv:Vis X.env.scope x:=by first|exact Or.inl rfl|exact Or.inr (Or.inl rfl)|exact Or.inr (Or.inr rfl))(hd:(x==("__debug__":Str))=false:=by decide)(hcd:(x==("__classdict__":Str))=false:=by decide)(hs:∀y,foldedSetIterable (.Name x p) X.env y=pure y:=by intro _;rfl):PDS X (.For tg (.Name x p) body [] pos) (aFh X.w i g tb) :=
 gR (aHl hp hc (aD9 (i:=i) hN hv hd hcd) hg hb hs) λE σ H ⟨ρ,M,Dn,re,hm,q,k⟩=>by
  unfold aFh at q;split at q
  case h_2=>exact q.elim
  rename_i a e1;obtain⟨kvs,ha,tk,q⟩:=q;obtain⟨v,e2,rv⟩:=re.get i _ e1;have ev:=aP rv;subst ev;obtain⟨es,hH,hr⟩:=hm.d a _ ha;obtain⟨ks,hks,rks⟩:=sO hr;rw[wY] at rks;have ls:ks.length=es.length:=by have:=hks.length;simpa using this
  have lk:kvs.length=ks.length:=by have:=rks.length;simpa using this
  refine⟨a,es,ks,hH,⟨_,e2,rfl,hH,hks,λo ep ho=>?_⟩⟩;have exf:Ext H (upd H a (.frz o (.ext (cL a es)))):=Ext.putX hH _;have hmf:=aGX hm hH hr ho;have kf:pZ X.K (upd H a (.frz o (.ext (cL a es)))) (aJZ X.w Dn a kvs) (aE1 E a es):=by
   have cv:∀{H':Hp},Ext (upd H a (.frz o (.ext (cL a es)))) H'->H' a=some (.frz o (.ext (cL a es))):=λe=>e.frz a _ _ bI;have ex2:∀{H':Hp},Ext (upd H a (.frz o (.ext (cL a es)))) H'->Ext H (upd H' a (.ext (cL a es))):=λ{H'} e=>by
    have n:∀{b:Addr}{u:HO},H b=some u->(∀φ,u ≠ .ext φ)->b≠a:=λq n z=>by rw[z,hH] at q;exact n _ (Option.some.inj q).symm
    have all:=exf.trans e;exact⟨λb xs q=>by rw[aL (n q (by intro φ z;cases z))];exact all.tup b xs q,λb o u q=>by rw[aL (n q (by intro φ z;cases z))];exact all.frz b o u q⟩
   refine⟨λσ' H' ⟨ρ',M',re',hm',e',hx',q'⟩=>?_,λv' H' ⟨d',M',rd',hm',e',hx',q'⟩=>?_,λσ' H' ⟨_,_,_,_,_,z⟩=>z.elim,λσ' H' ⟨_,_,_,_,_,z⟩=>z.elim⟩
   ·obtain⟨h1,h2⟩:=aCr hm' (cv e') hx';exact⟨⟨o,cv e'⟩,k.nx _ _ ⟨ρ',_,⟨re'.len,λi d z=>let ⟨v,a,b⟩:=re'.get i d z;⟨v,a,b.extS h2⟩⟩,h1,ex2 e',q'⟩⟩
   ·obtain⟨h1,h2⟩:=aCr hm' (cv e') hx';exact⟨⟨o,cv e'⟩,k.rt _ _ ⟨d',_,rd'.extS h2,h1,ex2 e',q'⟩⟩
  exact aD3 (.refl _) (re.ext exf) hmf kf q λH' e' M' hm' _=>⟨ks,rks.ext (exf.trans e'),λi hi=>⟨e'.frz a _ _ bI,by omega⟩,λi hi=>⟨e'.frz a _ _ bI,by omega⟩,λi x H2 ⟨z,hx⟩=>⟨z,hx⟩⟩
end
end Dd
namespace L2
open PySem PySem.Spec PyProof.Rows
section
variable {X:Cx}
theorem vT (hc:X.calm = true):lN X (.builtin "any") (λxs H Q=>∃(p:Addr)(bs:List Bool),xs=[.ref p]/\SqL X.K H p (bs.map V.bl)/\Q (.bl (bs.any id)) H):=by
 intro pins s σ H xs us Q I r h;obtain⟨p,bs,rfl,hq,q⟩:=h;obtain⟨u,rfl,rx⟩:=rW r;cases rx;obtain⟨its,r',pl,hz⟩:=I.list hq;have hl:=pl.isList;have hlt:p<s.heap.objs.size:=by obtain⟨_,e,_⟩:=hl;exact Heap.lt_size e
 have hg:∀(i:Nat)(v:Value),its.toArray[i]?=some v->∃b,bs[i]?=some b/\v=Value.bool b:=λi v e=>by
  obtain⟨x,hx,rv⟩:∃x,(bs.map V.bl)[i]?=some x/\RelV x v:=by
   have:=r'.length;have hi:i<its.length:=by have:=(Array.getElem?_eq_some_iff.mp e).1;simpa using this
   have hi':i<(bs.map V.bl).length:=by omega
   obtain⟨w,hw,rw'⟩:=r'.get (i:=i) (getElem?_eq_getElem hi');have:w=v:=by
    have e':its[i]?=some v:=by simpa using e
    rw[e'] at hw;exact(Option.some.inj hw).symm
   subst this;exact⟨_,getElem?_eq_getElem hi',rw'⟩
  rw[getElem?_map] at hx;cases hb:bs[i]? with
  |none=>rw[hb] at hx;cases hx
  |some b=>rw[hb] at hx;cases hx;cases rv;exact⟨b,rfl,rfl⟩
 refine call_any_walk (wpAny_pyIter_list hl ?_);refine⟨s.heap.objs.size,[s.heap.objs.size,p],[s.heap.objs.size],its.toArray.size,_,_,λi=>(bs[i]?).getD false,rfl,Walks.list (A:=X.A.in1) (I.ok.hd hc) _ p (Nat.ne_of_lt hlt) its.toArray,
  ⟨⟨_,Heap.get?_push_size _ rfl,rfl,rfl⟩,hl.push _⟩,λi v s' Q' E' hP hQ=>?_,λh' tk hk=>?_⟩
 ·obtain⟨b,e,rfl⟩:=hg i v hP;simp only[e,Option.getD_some] at hQ;exact wpAny_truthy_bool hQ
 ·have e:((range its.toArray.size).any λi=>(bs[i]?).getD false)=bs.any id:=by have l1:=r'.length;rw[length_map] at l1;rw[size_toArray,<- l1];exact LSm.range_any bs
  rw[e];exact⟨.bl (bs.any id),H,I.kept (t':=tk) (LSm.kept_iter hk),rfl,q⟩
end
end L2
namespace Dd
open PySem PySem.Spec PyProof.Rows L2
section
variable {X:Cx}
def aMg:DSp:=λds M Q=>match ds with
 |[.ref a]=>∃bs:List Bool,M a=some (bs.map D.bl)/\Q (.bl (bs.any id)) M
 |_=>False
theorem aEO (hc:X.calm = true):fG X (.builtin "any") aMg:=fG.of (vT hc) λvs H M ds Q rs hm q=>by
 rcases ds with _|⟨d,_|⟨d2,r⟩⟩
 ·exact q.elim
 ·cases d with
  |ref a =>
   obtain⟨v,rfl,rv⟩:=iE rs;obtain rfl:=aP rv;obtain⟨bs,ha,q⟩:=q;obtain⟨us,hu,ru⟩:=hm.l a _ ha;obtain rfl:=wI ru;exact⟨a,bs,rfl,.of hu,_,M,fF,hm,.refl H,q⟩
  |_=>exact q.elim
 ·cases d<;>exact q.elim
end
open PySem.W
structure Wk (n:Nat)(lt:Nat->Nat->Bool):Prop where
 asym:∀i j,i<n->j<n->lt i j=true->lt j i=false
 tr:∀i j k,i<n->j<n->k<n->lt j i=false->lt k j=false->lt k i=false
theorem Wk.irr {n:Nat}{lt:Nat->Nat->Bool}(L:Wk n lt){i:Nat}(h:i<n):lt i i=false:=by
 cases e:lt i i with
 |false=>rfl
 |true=>have:=L.asym i i h h e;rw[e] at this;cases this
def uL (lt:Nat->Nat->Bool)(p:Array Nat)(k:Nat):Prop:=∀i j,i<j->j<k->lt (p.getD j 0) (p.getD i 0)=false
def zM (lt:Nat->Nat->Bool)(p:Array Nat)(k:Nat):Prop:=∀i j,i<j->j<k->lt (p.getD i 0) (p.getD j 0)=false
def EqW (lt:Nat->Nat->Bool)(p:Array Nat)(x k:Nat):Prop:=∀i j,x<=i->i<k->x<=j->j<k->lt (p.getD i 0) (p.getD j 0)=false
section
variable {n:Nat}{lt:Nat->Nat->Bool}{p:Array Nat}
theorem aC9 (L:Wk n lt)(P:PmR n p){a:Nat}(h1:1<=a)(ha:a<n)(h:uL lt p a)(hl:lt (p.getD a 0) (p.getD (a-1) 0)=false):uL lt p (a+1):=by
 intro i j hij hj;by_cases z:j=a
 ·subst z;by_cases y:i=j-1
  ·rw[y];exact hl
  ·exact L.tr _ _ _ (P.ub (by omega)) (P.ub (by omega)) (P.ub ha) (h i (j-1) (by omega) (by omega)) hl
 ·exact h i j hij (by omega)
theorem xD (L:Wk n lt)(P:PmR n p){a:Nat}(h1:1<=a)(ha:a<n)(h:zM lt p a)(hl:lt (p.getD (a-1) 0) (p.getD a 0)=false):zM lt p (a+1):=by
 intro i j hij hj;by_cases z:j=a
 ·subst z;by_cases y:i=j-1
  ·rw[y];exact hl
  ·exact L.tr _ _ _ (P.ub ha) (P.ub (by omega)) (P.ub (by omega)) hl (h i (j-1) (by omega) (by omega))
 ·exact h i j hij (by omega)
theorem oK (P:PmR n p){x k:Nat}(hk:k<=n)(hx:x<=k)(i:Nat):(kas_rev p x k).getD i 0=if x<=i/\i<k then p.getD (x+k-1-i) 0 else p.getD i 0:=by
 have hs:=P.size;have:=getElem?_mirror_all (xs:=p) (i:=x) (j:=k) (by omega) i;by_cases c:x<=i/\i<k
 ·rw[if_pos c] at this ⊢;exact rZ this
 ·rw[if_neg c] at this ⊢;exact rZ this
theorem vL (P:PmR n p)(x k:Nat):PmR n (kas_rev p x k):=⟨(Array.perm_iff_toList_perm.mp (mirror_perm p x k ((k-x)/2))).trans P.perm⟩
theorem aCB (P:PmR n p){x k:Nat}(hk:k<=n)(hx:x<=k)(h:zM lt p k)(e:EqW lt p x k):zM lt (kas_rev p x k) k:=by
 intro i j hij hj;rw[oK P hk hx,oK P hk hx];by_cases c2:x<=j
 ·rw[if_pos (⟨c2,hj⟩:x<=j/\j<k)];by_cases c1:x<=i
  ·rw[if_pos ⟨c1,by omega⟩];exact e _ _ (by omega) (by omega) (by omega) (by omega)
  ·rw[if_neg (by omega)];exact h _ _ (by omega) (by omega)
 ·rw[if_neg (by omega),if_neg (by omega)];exact h i j hij hj
theorem wP (L:Wk n lt)(P:PmR n p):∀(f a:Nat),1<=a->a+f=n->uL lt p a->a<=fV lt (kas_asc p f a)/\fV lt (kas_asc p f a)<=n/\uL lt p (fV lt (kas_asc p f a))/\(fV lt (kas_asc p f a)<n->lt (p.getD (fV lt (kas_asc p f a)) 0) (p.getD (fV lt (kas_asc p f a)-1) 0)=true)
 |0,a,h1,h2,h=>⟨Nat.le_refl _,by show a<=n;omega,h,λz=>by have z:a<n:=z;omega⟩
 |f+1,a,h1,h2,h=>by
  have e:fV lt (kas_asc p (f+1) a)=if lt (p.getD a 0) (p.getD (a-1) 0)=true then a else fV lt (kas_asc p f (a+1)):=by show fV lt (if lt (p.getD a 0) (p.getD (a-1) 0)=true then .ret a else kas_asc p f (a+1))=_;split<;>rfl
  rw[e];by_cases c:lt (p.getD a 0) (p.getD (a-1) 0)=true
  ·rw[if_pos c];exact⟨Nat.le_refl _,by omega,h,λ_=>c⟩
  ·rw[if_neg c];have c':lt (p.getD a 0) (p.getD (a-1) 0)=false:=by simpa using c
   obtain⟨q1,q2,q3,q4⟩:=wP L P f (a+1) (by omega) (by omega) (aC9 L P h1 (by omega) h c');exact⟨by omega,q2,q3,q4⟩
theorem pJ (L:Wk n lt):∀(f a q:Nat)(p:Array Nat),PmR n p->q+1<=a->a+f=n->zM lt p a->EqW lt p (a-(q+1)) a ->
  ∃p' m q',fV lt (kas_desc f p a q)=(p',m,q')/\PmR n p'/\a<=m/\m<=n/\q'+1<=m/\zM lt p' m/\EqW lt p' (m-(q'+1)) m
 |0,a,q,p,P,h1,h2,h,e=>⟨p,a,q,rfl,P,Nat.le_refl _,by omega,h1,h,e⟩
 |f+1,a,q,p,P,h1,h2,h,e=>by
  have one:∀{p':Array Nat},PmR n p'->EqW lt p' (a+1-(0+1)) (a+1):=λP' i j i1 i2 j1 j2=>by
   have:i=a:=by omega
   have:j=a:=by omega
   subst_vars
   exact L.irr (P'.ub (by omega))
  by_cases c:lt (p.getD a 0) (p.getD (a-1) 0)=true
  ·have c1:=L.asym _ _ (P.ub (by omega)) (P.ub (by omega)) c;have dn:=xD L P (by omega) (by omega) h c1;show ∃p' m q',fV lt (if lt (p.getD a 0) (p.getD (a-1) 0)=true then (if q > 0 then kas_desc f (kas_rev p (a-(q+1)) a) (a+1) 0 else kas_desc f p (a+1) 0) else _)=(p',m,q')/\_;rw[if_pos c];by_cases hq:q > 0
   ·rw[if_pos hq];have P1:=vL P (a-(q+1)) a;have d1:=aCB P (by omega) (by omega) h e;obtain⟨p',m,q',e1,P',m1,m2,m3,d,e2⟩:=pJ L f (a+1) 0 _ P1 (by omega) (by omega) (λi j hij hj=>by
     by_cases z:j=a
     ·subst z;rw[oK P (by omega) (by omega) j,if_neg (by omega),oK P (by omega) (by omega) i];by_cases y:j-(q+1)<=i/\i<j
      ·rw[if_pos y];exact dn _ _ (by omega) (by omega)
      ·rw[if_neg y];exact dn _ _ (by omega) (by omega)
     ·exact d1 i j hij (by omega)) (one P1)
    exact⟨p',m,q',e1,P',by omega,m2,m3,d,e2⟩
   ·rw[if_neg hq];obtain⟨p',m,q',e1,P',m1,m2,m3,d,e2⟩:=pJ L f (a+1) 0 p P (by omega) (by omega) dn (one P);exact⟨p',m,q',e1,P',by omega,m2,m3,d,e2⟩
  ·have c':lt (p.getD a 0) (p.getD (a-1) 0)=false:=by simpa using c
   show ∃p' m q',fV lt (if lt (p.getD a 0) (p.getD (a-1) 0)=true then _ else .ask (p.getD (a-1) 0) (p.getD a 0) λd=>if d=true then .ret (p,a,q) else kas_desc f p (a+1) (q+1))=(p',m,q')/\_;rw[if_neg c];show ∃p' m q',fV lt (if lt (p.getD (a-1) 0) (p.getD a 0)=true then .ret (p,a,q) else kas_desc f p (a+1) (q+1))=(p',m,q')/\_;by_cases d:lt (p.getD (a-1) 0) (p.getD a 0)=true
   ·rw[if_pos d];exact⟨p,a,q,rfl,P,Nat.le_refl _,by omega,h1,h,e⟩
   ·rw[if_neg d];have d':lt (p.getD (a-1) 0) (p.getD a 0)=false:=by simpa using d
    have dn:=xD L P (by omega) (by omega) h d';obtain⟨p',m,q',e1,P',m1,m2,m3,dd,e2⟩:=pJ L f (a+1) (q+1) p P (by omega) (by omega) dn (λi j i1 i2 j1 j2=>by
     by_cases zi:i=a
     ·by_cases zj:j=a
      ·rw[zi,zj];exact L.irr (P.ub (by omega))
      ·rw[zi];by_cases y:j=a-1
       ·rw[y];exact c'
       ·exact L.tr _ _ _ (P.ub (by omega)) (P.ub (by omega)) (P.ub (by omega)) (e (a-1) j (by omega) (by omega) (by omega) (by omega)) c'
     ·by_cases zj:j=a
      ·rw[zj];exact dn i a (by omega) (by omega)
      ·exact e i j (by omega) (by omega) (by omega) (by omega))
    exact⟨p',m,q',e1,P',by omega,m2,m3,dd,e2⟩
theorem aGV (P:PmR n p){k:Nat}(hk:k<=n)(h:zM lt p k):uL lt (kas_rev p 0 k) k:=λi j hij hj=>by rw[oK P hk (Nat.zero_le _),oK P hk (Nat.zero_le _),if_pos ⟨Nat.zero_le _,hj⟩,if_pos ⟨Nat.zero_le _,by omega⟩];exact h _ _ (by omega) (by omega)
theorem rC (L:Wk n lt)(P:PmR n p){a:Nat}(h1:1<=a)(ha:a<n)(h:zM lt p (a+1)):∃m q,fV lt (kas_descPart a n p)=(m,q)/\1<=m/\m<=n/\PmR n q/\uL lt q m:=by
 unfold kas_descPart;rw[jE];obtain⟨p',m,q',e1,P',m1,m2,m3,d,e2⟩:=pJ L (n-(a+1)) (a+1) 0 p P (by omega) (by omega) h (λi j i1 i2 j1 j2=>by
  have:i=a:=by omega
  have:j=a:=by omega
  subst_vars
  exact L.irr (P.ub (by omega)))
 rw[e1];dsimp only;have fin:∀{r:Array Nat},PmR n r->zM lt r m->∃m' q,fV lt (kas_tail3 m n r)=(m',q)/\1<=m'/\m'<=n/\PmR n q/\uL lt q m':=λ{r} R D=>by unfold kas_tail3;rw[jE];obtain⟨b1,b2,b3,_⟩:=wP L (vL R 0 m) (n-m) m (by omega) (by omega) (aGV R m2 D);exact⟨_,_,rfl,by omega,b2,vL R 0 m,b3⟩
 by_cases hq:q' > 0
 ·rw[if_pos hq];exact fin (vL P' _ _) (aCB P' m2 (by omega) d e2)
 ·rw[if_neg hq];exact fin P' d
theorem aB7 (L:Wk n lt)(P:PmR n p)(hn:1<=n):∃m q,fV lt (kas_count n p)=(m,q)/\1<=m/\m<=n/\PmR n q/\uL lt q m:=by
 obtain⟨a1,a2,a3,a4⟩:=wP L P (n-1) 1 (Nat.le_refl _) (by omega) (λi j h1 h2=>by omega);unfold kas_count;rw[jE];generalize hm:fV lt (kas_asc p (n-1) 1)=m at *;by_cases c:m=n
 ·rw[if_pos (by simp[c])];exact⟨m,p,rfl,a1,a2,P,a3⟩
 ·rw[if_neg (by simp[c])];have c1:=L.asym _ _ (P.ub (by omega)) (P.ub (by omega)) (a4 (by omega));by_cases c2:m > 1
  ·rw[if_pos c2];show ∃m' q,fV lt (if lt (p.getD 0 0) (p.getD (m-1) 0)=true then .ret (m,p) else kas_descPart m n (kas_rev p 0 m))=(m',q)/\_;by_cases d:lt (p.getD 0 0) (p.getD (m-1) 0)=true
   ·rw[if_pos d];exact⟨m,p,rfl,a1,a2,P,a3⟩
   ·rw[if_neg d];have d':lt (p.getD 0 0) (p.getD (m-1) 0)=false:=by simpa using d
    have le0:∀i,i<m->lt (p.getD i 0) (p.getD 0 0)=false:=λi hi=>by
     rcases Nat.eq_zero_or_pos i with z|z
     ·rw[z];exact L.irr (P.ub (by omega))
     ·exact a3 0 i z hi
    have leM:∀i,i<m->lt (p.getD (m-1) 0) (p.getD i 0)=false:=λi hi=>by
     by_cases z:i=m-1
     ·rw[z];exact L.irr (P.ub (by omega))
     ·exact a3 i (m-1) (by omega) (by omega)
    have all:EqW lt p 0 m:=λi j _ hi _ hj=>by have s1:lt (p.getD 0 0) (p.getD j 0)=false:=L.tr _ _ _ (P.ub (by omega)) (P.ub (by omega)) (P.ub (by omega)) (leM j hj) d';exact L.tr _ _ _ (P.ub (by omega)) (P.ub (by omega)) (P.ub (by omega)) s1 (le0 i hi)
    refine rC L (vL P 0 m) a1 (by omega) λi j hij hj=>?_;rw[oK P (by omega) (Nat.zero_le _) i,if_pos ⟨Nat.zero_le _,by omega⟩];rw[oK P (by omega) (Nat.zero_le _) j];by_cases z:j<m
    ·rw[if_pos ⟨Nat.zero_le _,z⟩];exact all _ _ (Nat.zero_le _) (by omega) (Nat.zero_le _) (by omega)
    ·rw[if_neg (by omega),show j=m by omega];exact L.tr _ _ _ (P.ub (by omega)) (P.ub (by omega)) (P.ub (by omega)) c1 (all _ (m-1) (Nat.zero_le _) (by omega) (Nat.zero_le _) (by omega))
  ·rw[if_neg c2];have m1:m=1:=by omega
   subst m1;exact rC L P (Nat.le_refl _) (by omega) λi j h1 h2=>by
    have:i=0:=by omega
    have:j=1:=by omega
    subst_vars
    exact c1
theorem qD (L:Wk n lt)(P:PmR n p){k:Nat}(hk:k<n)(hI:uL lt p k):∀(f l r:Nat),l<=r->r<=k->r-l<=f->(∀i,i<l->lt (p.getD k 0) (p.getD i 0)=false)->(∀i,r<=i->i<k->lt (p.getD i 0) (p.getD k 0)=false) ->
  fV lt (kas_place p k f l r)<=k/\(∀i,i<fV lt (kas_place p k f l r)->lt (p.getD k 0) (p.getD i 0)=false)/\∀i,fV lt (kas_place p k f l r)<=i->i<k->lt (p.getD i 0) (p.getD k 0)=false
 |0,l,r,h1,h2,h3,h4,h5=>⟨by show l<=k;omega,h4,λi hi hk=>h5 i (by have hi:l<=i:=hi;omega) hk⟩
 |f+1,l,r,h1,h2,h3,h4,h5=>by
  unfold kas_place;by_cases c:l ≥ r
  ·rw[if_pos c];exact⟨by show l<=k;omega,h4,λi hi hk=>h5 i (by have hi:l<=i:=hi;omega) hk⟩
  ·rw[if_neg c];show fV lt (if lt (p.getD k 0) (p.getD ((l+r)/2) 0)=true then _ else _)<=k/\(∀i,i<fV lt (if lt (p.getD k 0) (p.getD ((l+r)/2) 0)=true then _ else _)->_)/\∀i,fV lt (if lt (p.getD k 0) (p.getD ((l+r)/2) 0)=true then _ else _)<=i->_;have hm1:l<=(l+r)/2:=by omega
   have hm2:(l+r)/2<r:=by omega
   generalize (l+r)/2=x at *;by_cases d:lt (p.getD k 0) (p.getD x 0)=true
   ·rw[if_pos d];have d2:=L.asym _ _ (P.ub hk) (P.ub (by omega)) d;refine qD L P hk hI f l x hm1 (by omega) (by omega) h4 λi hi hik=>?_;by_cases z:i=x
    ·rw[z];exact d2
    ·have d3:lt (p.getD i 0) (p.getD k 0)=false:=by
      cases y:lt (p.getD i 0) (p.getD k 0) with
      |false=>rfl
      |true =>
       have y2:=L.asym _ _ (P.ub (by omega)) (P.ub hk) y;have:=L.tr _ _ _ (P.ub (by omega:x<n)) (P.ub (by omega:i<n)) (P.ub hk) (hI x i (by omega) hik) y2;rw[d] at this;cases this
     exact d3
   ·rw[if_neg d];have d':lt (p.getD k 0) (p.getD x 0)=false:=by simpa using d
    refine qD L P hk hI f (x+1) r (by omega) h2 (by omega) (λi hi=>?_) h5;by_cases z:i=x
    ·rw[z];exact d'
    ·exact L.tr _ _ _ (P.ub (by omega)) (P.ub (by omega)) (P.ub hk) (hI i x (by omega) (by omega)) d'
theorem aAX (L:Wk n lt):∀(f k:Nat)(p:Array Nat),PmR n p->1<=k->k+f=n->uL lt p k->PmR n (fV lt (kas_bin f p k))/\uL lt (fV lt (kas_bin f p k)) n
 |0,k,p,P,h1,h2,hI=>⟨P,by
                   have:k=n:=by omega
                   subst this;exact hI⟩
 |f+1,k,p,P,h1,h2,hI=>by
  unfold kas_bin;rw[jE];have hs:=P.size;obtain⟨q1,q2,q3⟩:=qD L P (k:=k) (by omega) hI k 0 k (Nat.zero_le _) (Nat.le_refl _) (by omega) (λi hi=>by omega) (λi h1 h2=>by omega);generalize fV lt (kas_place p k k 0 k)=l at *;have e:∀x,(bubble p k (k-l)).getD x 0=if x=l then p.getD k 0 else if l<x/\x<=k then p.getD (x-1) 0 else p.getD x 0:=λx=>by
   have:=getElem?_bubble (xs:=p) (src:=k) (by omega) (k-l) (by omega) x;rw[show k-(k-l)=l by omega] at this;by_cases z:x=l
   ·rw[if_pos z] at this ⊢;exact rZ this
   ·rw[if_neg z] at this ⊢;by_cases y:l<x/\x<=k
    ·rw[if_pos y] at this ⊢;exact rZ this
    ·rw[if_neg y] at this ⊢;exact rZ this
  refine aAX L f (k+1) _ ⟨(Array.perm_iff_toList_perm.mp (bubble_perm p k (k-l))).trans P.perm⟩ (by omega) (by omega) λi j hij hj=>?_;rw[e i,e j];by_cases i1:i=l
  ·rw[if_pos i1,if_neg (by omega),if_pos ⟨by omega,by omega⟩];exact q3 (j-1) (by omega) (by omega)
  ·rw[if_neg i1];by_cases i2:l<i/\i<=k
   ·rw[if_pos i2,if_neg (by omega),if_pos ⟨by omega,by omega⟩];exact hI (i-1) (j-1) (by omega) (by omega)
   ·rw[if_neg i2];by_cases j1:j=l
    ·rw[if_pos j1];exact q2 i (by omega)
    ·rw[if_neg j1];by_cases j2:l<j/\j<=k
     ·rw[if_pos j2];by_cases z:i=j-1
      ·omega
      ·exact hI i (j-1) (by omega) (by omega)
     ·rw[if_neg j2];exact hI i j hij (by omega)
theorem aDo (L:Wk n lt)(hn:1<=n):PmR n (fV lt (kas_sort n))/\uL lt (fV lt (kas_sort n)) n:=by
 unfold kas_sort;rw[jE];obtain⟨m,q,e,m1,m2,P,I⟩:=aB7 (p:=toArray (range n)) L ⟨by simp⟩ hn;rw[e];dsimp only;by_cases c:m<n
 ·rw[if_pos c];rw[show max m 1=m by omega];exact aAX L (n-m) m q P m1 (by omega) I
 ·rw[if_neg c];have:m=n:=by omega
  subst this;exact⟨P,I⟩
end
mutual
noncomputable def ltD:D->D->Bool
 |.int a,.int b=>decide (a<b)
 |.str a,.str b=>decide (a.cps.toList<b.cps.toList)
 |.tup xs,.tup ys=>gA xs ys
 |_,_=>false
noncomputable def gA:List D->List D->Bool
 |[],[]=>false
 |[],_::_=>true
 |_::_,[]=>false
 |x::xs,y::ys=>if x=y then gA xs ys else ltD x y
end
inductive Sh where
 |i|s|t (ss:List Sh)
mutual
def hs:Sh->D->Prop
 |.i,.int _=>True
 |.s,.str _=>True
 |.t ss,.tup ds=>hss ss ds
 |_,_=>False
def hss:List Sh->List D->Prop
 |_,[]=>True
 |s::ss,d::ds=>hs s d/\hss ss ds
 |[],_::_=>False
end
theorem aAL {ss:List Sh}{d:D}{ds:List D}(h:hss ss (d::ds)):∃s r,ss=s::r/\hs s d/\hss r ds:=by
 cases ss with
 |nil=>unfold hss at h;exact h.elim
 |cons s r=>unfold hss at h;exact⟨s,r,rfl,h.1,h.2⟩
theorem bA {s:Sh}{d:D}(h:hs s d):(s=.i/\∃a,d=.int a)∨(s=.s/\∃a,d=.str a) ∨ ∃ss ds,s=.t ss/\d=.tup ds/\hss ss ds:=by
 unfold hs at h;split at h
 ·exact .inl ⟨rfl,_,rfl⟩
 ·exact .inr (.inl ⟨rfl,_,rfl⟩)
 ·exact .inr (.inr ⟨_,_,rfl,rfl,h⟩)
 ·exact h.elim
theorem jA (a b:Int):ltD (.int a) (.int b)=decide (a<b):=by unfold ltD;rfl
theorem mT (a b:Str):ltD (.str a) (.str b)=decide (a.cps.toList<b.cps.toList):=by unfold ltD;rfl
theorem mM (a b:List D):ltD (.tup a) (.tup b)=gA a b:=by rw[ltD]
theorem fA (x y:D)(xs ys:List D):gA (x::xs) (y::ys)=if x=y then gA xs ys else ltD x y:=by rw[gA]
theorem aHu {a b:Str}(h:a.cps.toList=b.cps.toList):a=b:=by cases a;cases b;congr 1;exact Array.toList_inj.mp h
mutual
theorem qG:∀(s:Sh)(x y:D),hs s x->hs s y->x≠y->ltD x y = !ltD y x
 |.i,x,y,hx,hy,ne=>by
  rcases bA hx with⟨_,a,rfl⟩|⟨e,_⟩|⟨_,_,e,_⟩<;>first|cases e|skip
  rcases bA hy with⟨_,b,rfl⟩|⟨e,_⟩|⟨_,_,e,_⟩<;>first|cases e|skip
  rw[jA,jA];have:a≠b:=λz=>ne (by rw[z]);by_cases c:a<b
  ·rw[decide_eq_true c,decide_eq_false (by omega)];rfl
  ·rw[decide_eq_false c,decide_eq_true (by omega)];rfl
 |.s,x,y,hx,hy,ne=>by
  rcases bA hx with⟨e,_⟩|⟨_,a,rfl⟩|⟨_,_,e,_⟩<;>first|cases e|skip
  rcases bA hy with⟨e,_⟩|⟨_,b,rfl⟩|⟨_,_,e,_⟩<;>first|cases e|skip
  rw[mT,mT];by_cases c:a.cps.toList<b.cps.toList
  ·rw[decide_eq_true c,decide_eq_false (List.lt_asymm c)];rfl
  ·have:b.cps.toList<a.cps.toList:=by refine Classical.byContradiction λd=>ne ?_;rw[aHu (List.le_antisymm (List.not_lt.mp d) (List.not_lt.mp c))]
   rw[decide_eq_false c,decide_eq_true this];rfl
 |.t ss,x,y,hx,hy,ne=>by
  rcases bA hx with⟨e,_⟩|⟨e,_⟩|⟨_,xs,e,rfl,h1⟩<;>first|(cases e;done)|skip
  cases e;rcases bA hy with⟨e,_⟩|⟨e,_⟩|⟨_,ys,e,rfl,h2⟩<;>first|(cases e;done)|skip
  cases e;rw[mM,mM];exact aCe ss xs ys h1 h2 λz=>ne (by rw[z])
theorem aCe:∀(ss:List Sh)(xs ys:List D),hss ss xs->hss ss ys->xs≠ys->gA xs ys = !gA ys xs
 |_,[],[],_,_,ne=>absurd rfl ne
 |_,[],_::_,_,_,_=>by rw[gA,gA];rfl
 |_,_::_,[],_,_,_=>by rw[gA,gA];rfl
 |[],_::_,_::_,h,_,_=>by unfold hss at h;exact h.elim
 |s::ss,x::xs,y::ys,h1,h2,ne=>by
  unfold hss at h1 h2;rw[fA,fA];by_cases c:x=y
  ·rw[if_pos c,if_pos c.symm];exact aCe ss xs ys h1.2 h2.2 λz=>ne (by rw[c,z])
  ·rw[if_neg c,if_neg (Ne.symm c)];exact qG s x y h1.1 h2.1 c
end
mutual
theorem aHX:∀(s:Sh)(x y z:D),hs s x->hs s y->hs s z->ltD x y=true->ltD y z=true->ltD x z=true
 |.i,x,y,z,hx,hy,hz,a,b=>by
  rcases bA hx with⟨_,i,rfl⟩|⟨e,_⟩|⟨_,_,e,_⟩<;>first|cases e|skip
  rcases bA hy with⟨_,j,rfl⟩|⟨e,_⟩|⟨_,_,e,_⟩<;>first|cases e|skip
  rcases bA hz with⟨_,k,rfl⟩|⟨e,_⟩|⟨_,_,e,_⟩<;>first|cases e|skip
  rw[jA,decide_eq_true_eq] at a b ⊢;omega
 |.s,x,y,z,hx,hy,hz,a,b=>by
  rcases bA hx with⟨e,_⟩|⟨_,i,rfl⟩|⟨_,_,e,_⟩<;>first|cases e|skip
  rcases bA hy with⟨e,_⟩|⟨_,j,rfl⟩|⟨_,_,e,_⟩<;>first|cases e|skip
  rcases bA hz with⟨e,_⟩|⟨_,k,rfl⟩|⟨_,_,e,_⟩<;>first|cases e|skip
  rw[mT,decide_eq_true_eq] at a b ⊢;exact List.lt_trans a b
 |.t ss,x,y,z,hx,hy,hz,a,b=>by
  rcases bA hx with⟨e,_⟩|⟨e,_⟩|⟨_,xs,e,rfl,h1⟩<;>first|(cases e;done)|skip
  cases e;rcases bA hy with⟨e,_⟩|⟨e,_⟩|⟨_,ys,e,rfl,h2⟩<;>first|(cases e;done)|skip
  cases e;rcases bA hz with⟨e,_⟩|⟨e,_⟩|⟨_,zs,e,rfl,h3⟩<;>first|(cases e;done)|skip
  cases e;rw[mM] at a b ⊢;exact aFR ss xs ys zs h1 h2 h3 a b
theorem aFR:∀(ss:List Sh)(xs ys zs:List D),hss ss xs->hss ss ys->hss ss zs->gA xs ys=true->gA ys zs=true->gA xs zs=true
 |_,[],_,[],_,_,_,a,b=>by
  rename_i ys _ _ _;cases ys with
  |nil=>rw[gA] at a;cases a
  |cons y ys=>rw[gA] at b;cases b
 |_,[],_,_::_,_,_,_,_,_=>by rw[gA]
 |_,_::_,[],_,_,_,_,a,_=>by rw[gA] at a;cases a
 |_,_::_,_::_,[],_,_,_,_,b=>by rw[gA] at b;cases b
 |[],_::_,_::_,_::_,h,_,_,_,_=>by unfold hss at h;exact h.elim
 |s::ss,x::xs,y::ys,z::zs,h1,h2,h3,a,b=>by
  unfold hss at h1 h2 h3;rw[fA] at a b ⊢;by_cases c:x=y
  ·subst c;rw[if_pos rfl] at a;by_cases d:x=z
   ·rw[if_pos d] at b ⊢;exact aFR ss xs ys zs h1.2 h2.2 h3.2 a b
   ·rw[if_neg d] at b ⊢;exact b
  ·rw[if_neg c] at a;by_cases d:y=z
   ·subst d;rw[if_neg c];exact a
   ·rw[if_neg d] at b;have t:=aHX s x y z h1.1 h2.1 h3.1 a b;by_cases e:x=z
    ·subst e;have:=qG s x y h1.1 h2.1 c;rw[a,b] at this;cases this
    ·rw[if_neg e];exact t
end
mutual
theorem aDY:∀(s:Sh)(x:D),hs s x->ltD x x=false
 |.i,x,hx=>by
  rcases bA hx with⟨_,i,rfl⟩|⟨e,_⟩|⟨_,_,e,_⟩<;>first|cases e|skip
  rw[jA];exact decide_eq_false (by omega)
 |.s,x,hx=>by
  rcases bA hx with⟨e,_⟩|⟨_,i,rfl⟩|⟨_,_,e,_⟩<;>first|cases e|skip
  rw[mT];exact decide_eq_false (List.lt_irrefl _)
 |.t ss,x,hx=>by
  rcases bA hx with⟨e,_⟩|⟨e,_⟩|⟨_,xs,e,rfl,h1⟩<;>first|(cases e;done)|skip
  cases e;rw[mM];exact aCT ss xs h1
theorem aCT:∀(ss:List Sh)(xs:List D),hss ss xs->gA xs xs=false
 |_,[],_=>by rw[gA]
 |[],_::_,h=>by unfold hss at h;exact h.elim
 |s::ss,x::xs,h=>by unfold hss at h;rw[fA,if_pos rfl];exact aCT ss xs h.2
end
theorem aKE {s:Sh}{ds:List D}(h:∀d∈ds,hs s d)(d0:D):Wk ds.length λi j=>ltD (ds.getD i d0) (ds.getD j d0):=by
 have g:∀i,i<ds.length->hs s (ds.getD i d0):=λi hi=>by rw[getD_eq_getElem?_getD,getElem?_eq_getElem hi];exact h _ (getElem_mem hi)
 refine⟨λi j hi hj a=>?_,λi j k hi hj hk a b=>?_⟩
 ·by_cases e:ds.getD i d0=ds.getD j d0
  ·rw[e] at a ⊢;exact aDY s _ (g j hj)
  ·have:=qG s _ _ (g i hi) (g j hj) e;rw[a] at this;simpa using this.symm
 ·by_cases e1:ds.getD j d0=ds.getD i d0
  ·rw[<- e1];exact b
  by_cases e2:ds.getD k d0=ds.getD j d0
  ·rw[e2];exact a
  have t1:=qG s _ _ (g j hj) (g i hi) e1;have t2:=qG s _ _ (g k hk) (g j hj) e2;rw[a] at t1;rw[b] at t2;have c:=aHX s _ _ _ (g i hi) (g j hj) (g k hk) (by simpa using t1.symm) (by simpa using t2.symm);by_cases e3:ds.getD k d0=ds.getD i d0
  ·rw[e3];exact aDY s _ (g i hi)
  ·have t3:=qG s _ _ (g k hk) (g i hi) e3;rw[c] at t3;simpa using t3
theorem xX {s:Sh}:∀{xs ys:List D},(∀d∈xs,hs s d)->xs.Perm ys->xs.Pairwise (λa b=>ltD b a=false)->ys.Pairwise (λa b=>ltD b a=false)->xs=ys
 |[],ys,_,p,_,_=>by rw[List.nil_perm.mp p]
 |x::xs,[],_,p,_,_=>by cases (List.perm_nil.mp p)
 |x::xs,y::ys,h,p,s1,s2=>by
  obtain⟨a1,a2⟩:=List.pairwise_cons.mp s1;obtain⟨b1,b2⟩:=List.pairwise_cons.mp s2;have e:x=y:=by
   refine Classical.byContradiction λne=>?_;have mx:x∈ys:=by
    have:=p.mem_iff.mp (mem_cons_self (a:=x) (l:=xs));rcases List.mem_cons.mp this with z|z
    ·exact absurd z ne
    ·exact z
   have my:y∈xs:=by
    have:=p.mem_iff.mpr (mem_cons_self (a:=y) (l:=ys));rcases List.mem_cons.mp this with z|z
    ·exact absurd z.symm ne
    ·exact z
   have t:=qG s x y (h x mem_cons_self) (h y (mem_cons_of_mem _ my)) ne;rw[a1 y my,b1 x mx] at t;cases t
  subst e;rw[xX (λd hd=>h d (mem_cons_of_mem _ hd)) ((List.perm_cons x).mp p) a2 b2]
end Dd
namespace PySem.W
open PySem PySem.Calls PyProof.Rows
section
variable {prog:Program}{w:World}{A:Around}{E:Value->Shared->Prop}{s:Shared}{h₀:Heap}{L a:Addr}{m:Str->Option Value}{news:List (Addr×Obj)}{vs:List Value}
theorem zT {n:Nat}{P:PySem.Fin->Shared->Prop}(F:Fr h₀ L s.heap m)(N:News h₀ L s.heap news)(ho:s.heap.get? a = some (seqObj "list" vs.toArray n))(haL:a≠L)(ha0:h₀.get? a=none)(hna:∀p∈news,p.1≠a)(h2:vs.length<2)(h:∀c h',Fr h₀ L h' m->News h₀ L h' ((a,seqObj "list" vs.toArray c)::news)->P (.done (.ret .none)) { s with heap:=h' }) :
  wpAny (model prog w) A (Builtin.«list.sort» ⟨[.ref a],[]⟩) P E s:=by
 have s1:=Heap.SameBut.update s.heap a (Obj.mapSeq λ_=>(#[]:Array Value));obtain⟨e1,ho1⟩:∃e1,(s.heap.update a (Obj.mapSeq λ_=>(#[]:Array Value))).get? a = some (seqObj "list" #[] e1):=⟨_,get?_update_seq ho λ_=>#[]⟩;have F3:Fr h₀ L (((s.heap.update a (Obj.mapSeq λ_=>(#[]:Array Value))).push (seqObj "tuple" vs.toArray 0)).push (seqObj "list" #[] 0)) m:=((kas_fr F s1 haL ha0).push _).push _;have N2:News h₀ L (((s.heap.update a (Obj.mapSeq λ_=>(#[]:Array Value))).push (seqObj "tuple" vs.toArray 0)).push (seqObj "list" #[] 0)) news :=
  (kas_news N s1 hna).grown λb x e=>Heap.get?_push_of_some _ (Heap.get?_push_of_some _ e)
 have ho3:(((s.heap.update a (Obj.mapSeq λ_=>(#[]:Array Value))).push (seqObj "tuple" vs.toArray 0)).push (seqObj "list" #[] 0)).get? a = some (seqObj "list" #[] e1):=Heap.get?_push_of_some _ (Heap.get?_push_of_some _ ho1);rw[list_sort_plain];refine wpAny_bind (listItems_at ho rfl ?_);refine wpAny_bind (listUpdate_at ho rfl ?_ (by rw[size_toArray,sizeLine_eq];omega) (Nat.zero_le _));refine wpAny_bind (seqEpoch_at ho1 rfl ?_);refine wpAny_bind (wpAny_newTuple ?_ (by show vs.length<=_;rw[sizeLine_eq];omega));refine wpAny_bind (wpAny_newList ?_ (Nat.zero_le _));refine wpAny_holding ?_;show wpAny (model prog w) A _ P E { s with heap:=((s.heap.update a (Obj.mapSeq λ_=>(#[]:Array Value))).push (seqObj "tuple" vs.toArray 0)).push (seqObj "list" #[] 0) };dsimp only;have hn2:vs.toArray.size<2:=by rw[size_toArray];omega
 rw[if_pos hn2,if_pos hn2];refine wpAny_bind (wpAny_pure ?_);refine wpAny_bind (wpAny_pure ?_);have hout:Array.map (λx=>x.2) (arrOf ((),SortSt.mk' general' (vs.toArray.zip vs.toArray) #[] 7 none).snd)=vs.toArray:=by show Array.map (λx=>x.2) (vs.toArray.zip vs.toArray)=_;apply Array.toList_inj.mp;rw[Array.toList_map,Array.toList_zip];exact List.map_snd_zip (Nat.le_refl _)
 rw[hout];have s2:=Heap.SameBut.update (((s.heap.update a (Obj.mapSeq λ_=>(#[]:Array Value))).push (seqObj "tuple" vs.toArray 0)).push (seqObj "list" #[] 0)) a (Obj.mapSeq λ_=>vs.toArray);obtain⟨c2,hc2⟩:∃c2,((((s.heap.update a (Obj.mapSeq λ_=>(#[]:Array Value))).push (seqObj "tuple" vs.toArray 0)).push (seqObj "list" #[] 0)).update a (Obj.mapSeq λ_=>vs.toArray)).get? a = some (seqObj "list" vs.toArray c2):=⟨_,get?_update_seq ho3 λ_=>vs.toArray⟩;refine wpAny_bind (seqEpoch_at ho3 rfl ?_);refine wpAny_bind (listUpdate_at ho3 rfl ?_ (Nat.zero_le _) (by rw[size_toArray,sizeLine_eq];omega));rw[show failedOf ((),SortSt.mk' general' (vs.toArray.zip vs.toArray) #[] 7 none).snd=none from rfl];simp only[bne_self_eq_false,Bool.false_eq_true,if_false];refine wpAny_pure (h c2 _ (kas_fr F3 s2 haL ha0) λp hp=>?_);rcases List.mem_cons.mp hp with rfl|hp
 ·exact⟨hc2,haL,ha0⟩
 ·exact kas_news N2 s2 hna p hp
theorem ky_sorted {l:Addr}{Q:Value->Shared->Prop}(F:Fr h₀ L s.heap m)(N:News h₀ L s.heap news)(hl:s.heap.IsList l vs.toArray)(h2:vs.length<2)(h:∀D c h',Fr h₀ L h' m->News h₀ L h' ((D,seqObj "list" vs.toArray c)::news)->(∀q∈news,q.1<D)->Q (.ref D) { s with heap:=h' }) :
  wpAny (model prog w) A (call (.builtin "sorted") [.ref l]) Q E s:=by
 refine Calls.call_function_entry kind_sorted plain_sorted entry_sorted (args_sorted1 _) ?_;unfold Builtin.«sorted»;refine wpAny_bind (m:=checkCount "sorted" 1 1 _) (wpAny_pure ?_);refine wpAny_bind (collect_list hl ?_ (by rw[sizeLine_eq];omega));refine wpAny_bind (wpAny_newList ?_ (by rw[sizeLine_eq];omega));have hsz:((s.heap.push (seqObj "list" #[] 0)).update s.heap.objs.size (Obj.mapSeq (·++vs.toArray))).objs.size=s.heap.objs.size+1:=by rw[Heap.size_update,size_push']
 have hoL:(((s.heap.push (seqObj "list" #[] 0)).update s.heap.objs.size (Obj.mapSeq (·++vs.toArray))).push (seqObj "list" vs.toArray 0)).get? (s.heap.objs.size+1) = some (seqObj "list" vs.toArray 0):=by rw[<- hsz];exact Heap.get?_push_size _ rfl
 have keep:∀b o,s.heap.get? b = some o->(((s.heap.push (seqObj "list" #[] 0)).update s.heap.objs.size (Obj.mapSeq (·++vs.toArray))).push (seqObj "list" vs.toArray 0)).get? b=some o:=λb o q=>by have hlt:b<s.heap.objs.size:=Heap.lt_size q;rw[Heap.get?_push_ne _ _ _ (by rw[hsz];exact Nat.ne_of_lt (Nat.lt_succ_of_lt hlt)),Heap.get?_update_ne _ _ _ _ (Nat.ne_of_lt hlt),Heap.get?_push_ne _ _ _ (Nat.ne_of_lt hlt)];exact q
 have hL:L<s.heap.objs.size:=F.ns.lt;show wpAny _ _ _ _ _ { s with heap:=((s.heap.push (seqObj "list" #[] 0)).update s.heap.objs.size (Obj.mapSeq (·++vs.toArray))).push (seqObj "list" vs.toArray 0) };rw[hsz];refine wpAny_bind (wpAny_holding (wpAny_call_entry slot_list_sort ⟨_,hoL,rfl⟩ entry_list_sort ?body (args_list_sort _)))
 case body =>
  refine zT (s:={ s with heap:=((s.heap.push (seqObj "list" #[] 0)).update s.heap.objs.size (Obj.mapSeq (·++vs.toArray))).push (seqObj "list" vs.toArray 0) })
   (F.kept keep) (N.grown keep) hoL (Nat.ne_of_gt (Nat.lt_succ_of_lt hL)) (Heap.get?_none_of_le (Nat.le_trans F.above (Nat.le_succ_of_le (Nat.le_of_lt hL))))
   (λp hp=>Nat.ne_of_lt (Nat.lt_succ_of_lt (Heap.lt_size (N p hp).1))) h2 λc h' F' N'=>?_
  exact⟨_,rfl,wpAny_pure ⟨_,rfl,h _ c h' F' N' λq hq=>Nat.lt_succ_of_lt (Heap.lt_size (N q hq).1)⟩⟩
end
end PySem.W
namespace Dd
open PySem PySem.W PyProof.Rows L2
section
open PySem.SeqAt
open PySem.AutoSeq1 (wpAny_loadPart')
open PySem.MeetsSeq PySem.MeetsSeq2 PySem.MeetsSeq3
def aFo (A:Around)(s:Shared)(y x:Value)(b:Bool):Prop:=∀(prog:Program)(w:World) (E:Value->Shared->Prop) (Q:Value->Shared->Prop),Q (.bool b) s->wpAny (model prog w) A (richCompare .Lt y x) Q E s
def zA (A:Around)(s:Shared):List Value->List Value->Bool->Prop
 |[],[],r=>r=false
 |[],_::_,r=>r=true
 |_::_,[],r=>r=false
 |v::vs,u::us,r=>∃e,EqAt A s v u e/\(e=true->zA A s vs us r)/\(e=false->aFo A s v u r)
theorem aDn (l b:Addr)(items items2:Array Value)(n n2:Nat)(dd dd2:Option Addr)(sl sl2:Array (Option Value))(r:Bool) :
  Meets (Builtin.«tuple.__lt__» ⟨[.ref l,.ref b],[]⟩)
   (λA R s=>s.heap.get? l = some { cls:=.type "tuple",dict:=dd,data:=.seq items n,slots:=sl }/\s.heap.get? b = some { cls:=.type "tuple",dict:=dd2,data:=.seq items2 n2,slots:=sl2 } /\
    zA A.in1 s items.toList items2.toList r/\R (.ok (.ret (.bool r))) s) :=
 .of_wp λprog w A R s h=>by
  obtain⟨hp,g,d,tk,os⟩:=s;obtain⟨hl,hb,hx,h⟩:=h;have f2:=AutoSeq1.sub_tuple_tuple
  wp_walk using wpAny_loadPart' hl,wpAny_loadPart' hb,wpAny_forIn_list _ (λcH b s'=>b.1=none/\s'=⟨hp,g,d,tk,os⟩/\∃(vs ws:List Value),cH=vs.zip ws /\
   zA A.in1 ⟨hp,g,d,tk,os⟩ vs ws r/\vs.length+items2.size=ws.length+items.size) _
  case turn =>
   rintro⟨y,x⟩ cH b s' ⟨hb',rfl,vs,ws,hz,hL,hlen⟩;cases vs with
   |nil=>rw[List.zip_nil_left] at hz;cases hz
   |cons v vs =>
    cases ws with
    |nil=>rw[List.zip_nil_right] at hz;cases hz
    |cons u ws =>
     rw[zip_cons_cons] at hz;injection hz with hyx hrest
     injection hyx with hy hx
     subst hy hx;simp only[length_cons] at hlen;unfold zA at hL;obtain⟨e,he,h1,h2⟩:=hL;refine wpAny_bind (he prog w _ _ ?_);cases e with
     |true =>
      wp_walk
      exact⟨rfl,rfl,_,_,hrest,h1 rfl,by omega⟩
     |false =>
      have hri:=h2 rfl prog w
      wp_walk using hri
      exact⟨_,rfl,by simpa using h⟩
  case fin =>
   rintro⟨b1,b2⟩ s' ⟨hb',rfl,vs,ws,hz,hL,hlen⟩;simp only at hb';subst hb';have hv:r=decide (items.size<items2.size):=by
    cases vs with
    |nil =>
     cases ws with
     |nil =>
      simp only[length_nil] at hlen;unfold zA at hL;rw[hL];exact(decide_eq_false (by omega)).symm
     |cons c hw =>
      simp only[length_nil,length_cons] at hlen;unfold zA at hL;rw[hL];exact(decide_eq_true (by omega)).symm
    |cons a hv =>
     cases ws with
     |nil =>
      simp only[length_nil,length_cons] at hlen;unfold zA at hL;rw[hL];exact(decide_eq_false (by omega)).symm
     |cons c hw =>
      rw[zip_cons_cons] at hz;cases hz
   rw[hv] at h
   wp_walk
   exact⟨_,rfl,by simpa[Builtin.Tuple.tupleCompareSizes] using h⟩
  case h =>
   exact⟨rfl,rfl,items.toList,items2.toList,rfl,hx,by simp;omega⟩
end
theorem nA {h:Heap}:∀{ds:List D}{vs:List Value},fC h ds vs->ds.length=vs.length
 |[],vs,x=>by rw[dN x];rfl
 |d::ds,vs,x=>by obtain⟨v,r,rfl,_,y⟩:=bW x;rw[length_cons,length_cons,nA y]
theorem aAU (A:Around)(s:Shared)(a b:Int)(t u:Tok):aFo A s (.int a t) (.int b u) (decide (a<b)):=λprog w E Q h=>HT.rcLt_int A s a t b u prog w E Q h
theorem aBh (A:Around)(s:Shared)(a b:Str)(t u:Tok):aFo A s (.str a t) (.str b u) (decide (a.cps.toList<b.cps.toList)):=λprog w E Q h=>(PyProof.Rows.lt_str h:wpAny (model prog w) A (compareOp .Lt (.str a t) (.str b u)) Q E s)
theorem aCz {n:Nat}{A:Around}{s:Shared}(hu:A.units+n<cLine)(ih:∀(sh:Sh){d d':D} {u v:Value},eX n d=true->eX n d'=true->hs sh d->hs sh d'->IsK s.heap d u->IsK s.heap d' v->aFo A s u v (ltD d d')) :
  ∀{ss:List Sh}{ds ds':List D} {us vs:List Value},ds.all (eX n)=true->ds'.all (eX n)=true->hss ss ds->hss ss ds'->fC s.heap ds us->fC s.heap ds' vs->zA A s us vs (gA ds ds')
 |ss,[],[],us,vs,_,_,_,_,x,y=>by rw[dN x,dN y,gA];rfl
 |ss,[],d::ds,us,vs,_,_,_,_,x,y=>by obtain⟨v,r,rfl,_⟩:=bW y;rw[dN x,gA];rfl
 |ss,d::ds,[],us,vs,_,_,_,_,x,y=>by obtain⟨v,r,rfl,_⟩:=bW x;rw[dN y,gA];rfl
 |ss,d::ds,d'::ds',us,vs,k1,k2,h1,h2,x,y=>by
  obtain⟨u,r,rfl,x1,x2⟩:=bW x;obtain⟨v,r',rfl,y1,y2⟩:=bW y;obtain⟨sh,ss',rfl,s1,s2⟩:=aAL h1;unfold hss at h2;rw[all_cons,Bool.and_eq_true] at k1 k2;unfold zA;refine⟨_,yN n hu k1.1 k2.1 x1 y1,λe=>?_,λe=>?_⟩
  ·rw[mQ k1.1 k2.1] at e;rw[fA,if_pos (of_decide_eq_true e)];exact aCz hu ih k1.2 k2.2 s2 h2.2 x2 y2
  ·rw[mQ k1.1 k2.1] at e;rw[fA,if_neg (of_decide_eq_false e)];exact ih sh k1.1 k2.1 s1 h2.1 x1 y1
theorem aB4:∀(n:Nat)(sh:Sh) {A:Around} {s:Shared} {d d':D} {u v:Value},A.units+n<cLine->eX n d=true->eX n d'=true->hs sh d->hs sh d'->IsK s.heap d u->IsK s.heap d' v->aFo A s u v (ltD d d'):=by
 intro n
 induction n with
 |zero =>
  intro sh A s d d' u v hu k1 k2 h1 h2 x y;rcases bA h1 with⟨rfl,a,rfl⟩|⟨rfl,a,rfl⟩|⟨ss,ds,rfl,rfl,_⟩
  ·rcases bA h2 with⟨_,b,rfl⟩|⟨e,_⟩|⟨_,_,e,_⟩<;>first|cases e|skip
   obtain⟨t,rfl⟩:=cJ x;obtain⟨t',rfl⟩:=cJ y;rw[jA];exact aAU A s a b t t'
  ·rcases bA h2 with⟨e,_⟩|⟨_,b,rfl⟩|⟨_,_,e,_⟩<;>first|cases e|skip
   obtain⟨t,rfl⟩:=cI x;obtain⟨t',rfl⟩:=cI y;rw[mT];exact aBh A s a b t t'
  ·obtain⟨m,e,_⟩:=gZ k1;cases e
 |succ n ih =>
  intro sh A s d d' u v hu k1 k2 h1 h2 x y;rcases bA h1 with⟨rfl,a,rfl⟩|⟨rfl,a,rfl⟩|⟨ss,ds,rfl,rfl,g1⟩
  ·rcases bA h2 with⟨_,b,rfl⟩|⟨e,_⟩|⟨_,_,e,_⟩<;>first|cases e|skip
   obtain⟨t,rfl⟩:=cJ x;obtain⟨t',rfl⟩:=cJ y;rw[jA];exact aAU A s a b t t'
  ·rcases bA h2 with⟨e,_⟩|⟨_,b,rfl⟩|⟨_,_,e,_⟩<;>first|cases e|skip
   obtain⟨t,rfl⟩:=cI x;obtain⟨t',rfl⟩:=cI y;rw[mT];exact aBh A s a b t t'
  ·rcases bA h2 with⟨e,_⟩|⟨e,_⟩|⟨_,ds',e,rfl,g2⟩<;>first|(cases e;done)|skip
   cases e;obtain⟨m,e,k1⟩:=gZ k1;cases e;obtain⟨m',e,k2⟩:=gZ k2;cases e;obtain⟨l,its,rfl,hl,xs⟩:=eB x;obtain⟨b,its',rfl,hb,ys⟩:=eB y;intro prog w E Q h;obtain⟨⟨cls,dd,data,sl⟩,ho,hc,nn,hd⟩:=id hl;obtain⟨⟨cls2,dd2,data2,sl2⟩,ho2,hc2,nn2,hd2⟩:=id hb;simp only at hc hd hc2 hd2;subst hc hd hc2 hd2;rw[mM] at h;have hu1:A.in1.units+n<cLine:=by show A.units+1+n<cLine;omega
   exact richCompare_meets_room (op:=.Lt) ⟨_,ho,rfl⟩ ⟨_,ho2,rfl⟩ PySem.F.slot_tuple_lt PySem.F.entry_tuple_lt (PySem.F.args_tuple_lt_2 _ _) (aDn l b its its' nn nn2 dd dd2 sl sl2 (gA ds ds'))
    ⟨ho,ho2,aCz hu1 (λsh {d d' u v}=>ih sh (A:=A.in1) (s:=s) hu1) k1 k2 g1 g2 xs ys,show Value.bool (gA ds ds')≠Value.notImplemented/\Q (.bool (gA ds ds')) s from⟨(λx=>nomatch x),h⟩⟩ (by omega)
section
variable {prog:Program}{w:World}{A:Around}{E:Value->Shared->Prop}{s:Shared}
noncomputable def shB:Sh->Bool
 |.t _=>false
 |_=>true
theorem xC {n:Nat}(hu:A.units+n<cLine){b fin:Bool}{Q:Bool->Shared->Prop}:∀{ss:List Sh}{ds ds':List D} {us vs:List Value} {i:Nat},(b&&i==0)=false->ds.all (eX n)=true->ds'.all (eX n)=true->hss ss ds->hss ss ds'->fC s.heap ds us->fC s.heap ds' vs ->
  fin=decide (ds.length<ds'.length)->Q (gA ds ds') s->PySem.W.KatLex prog w A b fin Q (us.zip vs) i s
 |ss,[],ds',us,vs,i,_,_,_,_,_,x,y,hf,h=>by
  rw[dN x,List.zip_nil_left];refine PySem.W.kat_nil ?_;rw[hf];cases ds' with
  |nil=>rw[gA] at h;exact h
  |cons d ds=>rw[gA] at h;rw[decide_eq_true (by simp)];exact h
 |ss,d::ds,[],us,vs,i,_,_,_,_,_,x,y,hf,h=>by rw[dN y,List.zip_nil_right];refine PySem.W.kat_nil ?_;rw[hf,decide_eq_false (by simp)];rw[gA] at h;exact h
 |ss,d::ds,d'::ds',us,vs,i,hi,k1,k2,h1,h2,x,y,hf,h=>by
  obtain⟨u,r,rfl,x1,x2⟩:=bW x;obtain⟨v,r',rfl,y1,y2⟩:=bW y;obtain⟨sh,ss',rfl,s1,s2⟩:=aAL h1;unfold hss at h2;rw[all_cons,Bool.and_eq_true] at k1 k2;rw[zip_cons_cons];refine PySem.W.kat_cons (yN n hu k1.1 k2.1 x1 y1 _ _ _ _ ?_);rw[mQ k1.1 k2.1];rw[fA] at h;by_cases e:d=d'
  ·rw[decide_eq_true e];rw[if_pos e] at h;exact PySem.W.kat_yes (xC hu (by simp) k1.2 k2.2 s2 h2.2 x2 y2 (by rw[hf];simp) h)
  ·rw[decide_eq_false e];rw[if_neg e] at h;refine PySem.W.kat_no ?_;rw[hi];exact PySem.W.kat_one _ _ (aB4 n sh hu k1.1 k2.1 s1 h2.1 x1 y1 prog w _ (PySem.W.BoolBack Q) h)
theorem aMU {n:Nat}(hu:A.units+n<cLine){s0:Sh}{ss:List Sh}{d d':D}{u v:Value}{Q:Bool->Shared->Prop}(k1:eX (n+1) d=true)(k2:eX (n+1) d'=true)(h1:hs (.t (s0::ss)) d)(h2:hs (.t (s0::ss)) d')(n1:d ≠ .tup [])(n2:d' ≠ .tup [])(x:IsK s.heap d u)(y:IsK s.heap d' v)(h:Q (ltD d d') s):wpAny (model prog w) A (keyLt' (tuples' (shB s0)) u v) Q E s:=by
 rcases bA h1 with⟨e,_⟩|⟨e,_⟩|⟨_,ds,e,rfl,g1⟩<;>first|(cases e;done)|skip
 cases e;rcases bA h2 with⟨e,_⟩|⟨e,_⟩|⟨_,ds',e,rfl,g2⟩<;>first|(cases e;done)|skip
 cases e;obtain⟨m,e,k1⟩:=gZ k1;cases e;obtain⟨m',e,k2⟩:=gZ k2;cases e;obtain⟨l,its,rfl,⟨o,ho,_,nn,hd⟩,xs⟩:=eB x;obtain⟨b,its',rfl,⟨o',ho',_,nn',hd'⟩,ys⟩:=eB y;have l1:its.size=ds.length:=by have:=nA xs;simpa using this.symm
 have l2:its'.size=ds'.length:=by have:=nA ys;simpa using this.symm
 refine PySem.W.kat_lt ho hd ho' hd' ?_;rw[l1,l2];cases ds with
 |nil=>exact absurd rfl n1
 |cons d ds =>
  cases ds' with
  |nil=>exact absurd rfl n2
  |cons d' ds' =>
   obtain⟨u,r,eu,x1,x2⟩:=bW xs;obtain⟨v,r',ev,y1,y2⟩:=bW ys;rw[eu,ev,zip_cons_cons];unfold hss at g1 g2;rw[all_cons,Bool.and_eq_true] at k1 k2;refine PySem.W.kat_cons (yN n hu k1.1 k2.1 x1 y1 _ _ _ _ ?_);rw[mQ k1.1 k2.1];rw[mM,fA] at h;by_cases e:d=d'
   ·rw[decide_eq_true e];rw[if_pos e] at h;exact PySem.W.kat_yes (xC hu (by simp) k1.2 k2.2 g1.2 g2.2 x2 y2 (by simp) h)
   ·rw[decide_eq_false e];rw[if_neg e] at h;refine PySem.W.kat_no ?_;cases s0 with
    |i =>
     rcases bA g1.1 with⟨_,a,rfl⟩|⟨e,_⟩|⟨_,_,e,_⟩<;>first|cases e|skip
     rcases bA g2.1 with⟨_,c,rfl⟩|⟨e,_⟩|⟨_,_,e,_⟩<;>first|cases e|skip
     obtain⟨t,rfl⟩:=cJ x1;obtain⟨t',rfl⟩:=cJ y1;rw[jA] at h;exact oneLt_int h
    |s =>
     rcases bA g1.1 with⟨e,_⟩|⟨_,a,rfl⟩|⟨_,_,e,_⟩<;>first|cases e|skip
     rcases bA g2.1 with⟨e,_⟩|⟨_,c,rfl⟩|⟨_,_,e,_⟩<;>first|cases e|skip
     obtain⟨t,rfl⟩:=cI x1;obtain⟨t',rfl⟩:=cI y1;rw[mT] at h;exact oneLt_str h
    |t sx=>exact PySem.W.kat_one _ _ (aB4 n _ hu k1.1 k2.1 g1.1 g2.1 x1 y1 prog w _ (PySem.W.BoolBack Q) h)
end
noncomputable def shT:Sh->Value
 |.i=>.type "int"
 |.s=>.type "str"
 |.t _=>.type "tuple"
theorem aHM {M:Model}{h:Heap}{s0:Sh}{ss:List Sh}:∀{ds:List D}{its:List Value},(∀d∈ds,hs (.t (s0::ss)) d/\d ≠ .tup [])->fC h ds its->∃fs,PySem.W.KatTups h its fs/\fs.length=ds.length/\∀v∈fs,PySem.W.Looks M h (typeOf v) (shT s0)
 |[],its,_,x=>by rw[dN x];exact⟨[],True.intro,rfl,λ_ z=>nomatch z⟩
 |d::ds,its,hd,x=>by
  obtain⟨v,r,rfl,x1,x2⟩:=bW x;obtain⟨fs,t,l,hf⟩:=aHM (M:=M) (λd h=>hd d (mem_cons_of_mem _ h)) x2;obtain⟨h1,n1⟩:=hd d mem_cons_self;rcases bA h1 with⟨e,_⟩|⟨e,_⟩|⟨_,es,e,rfl,g1⟩<;>first|(cases e;done)|skip
  cases e;obtain⟨a,its',rfl,⟨o,ho,hc,n,hd'⟩,ks⟩:=eB x1;cases es with
  |nil=>exact absurd rfl n1
  |cons e es =>
   obtain⟨f,r',ef,k1,_⟩:=bW ks;unfold hss at g1;refine⟨f::fs,PySem.W.KatTups.cons ho hc hd' (by rw[<- Array.getElem?_toList,ef];rfl) t,by rw[length_cons,length_cons,l],λv hv=>?_⟩;rcases List.mem_cons.mp hv with z|z
   ·subst z;cases s0 with
    |i =>
     rcases bA g1.1 with⟨_,a,rfl⟩|⟨e,_⟩|⟨_,_,e,_⟩<;>first|cases e|skip
     obtain⟨t,rfl⟩:=cJ k1;exact .now
    |s =>
     rcases bA g1.1 with⟨e,_⟩|⟨_,a,rfl⟩|⟨_,_,e,_⟩<;>first|cases e|skip
     obtain⟨t,rfl⟩:=cI k1;exact .now
    |t sx =>
     rcases bA g1.1 with⟨e,_⟩|⟨e,_⟩|⟨_,es',e,rfl,_⟩<;>first|(cases e;done)|skip
     obtain⟨b,_,rfl,⟨o2,ho2,hc2,_⟩,_⟩:=eB k1;have this:PySem.W.Looks M h (typeOf (.ref b)) o2.cls:=(PySem.W.Looks.ld ho2).andThen .now;rw[hc2] at this;exact this
   ·exact hf v z
def aBS:DSp:=λds M Q=>match ds with
 |[.ref a]=>∃(xs:List D)(s0:Sh) (ss:List Sh),M a=some xs/\(∀d∈xs,hs (.t (s0::ss)) d/\d ≠ .tup [])/\xs.all (eX 6)=true/\xs.length<64/\∀(p:Addr)(zs:List D),M p=none->zs.Perm xs->zs.Pairwise (λa b=>ltD b a=false)->Q (.ref p) (aX M p zs)
 |_=>False
section
variable {X:Cx}
theorem aEe (hu:X.A.units+20<cLine):fG X (.builtin "sorted") aBS:=by
 intro pins s σ H xs us Q I r ⟨ds,M,Q',rs,hm,q,k⟩
 match ds,q with
 |[.ref a],q =>
  obtain⟨ps,s0,ss,ha,sh,all6,l64,q⟩:=q;obtain⟨v,rfl,rv⟩:=iE rs;obtain rfl:=aP rv;obtain⟨u,rfl,ru⟩:=rW r;cases ru;obtain⟨vs,hH,hr⟩:=hm.l a _ ha;obtain⟨hz,its,n,hv,hl,e⟩:=I.lstM hH;obtain⟨m,F0⟩:=I.fr;have lp:ps.length=its.length:=by have:=hr.length;omega
  by_cases l2:ps.length<2
  ·refine PySem.W.ky_sorted F0 aBa (vs:=its) ⟨_,e,rfl,_,rfl⟩ (by omega) λq1 c h2 F2 N2 lt1=>?_;obtain⟨hq,I2⟩:=xN (t':=s.toks) I F0 (zs:=vs) lt1 F2 N2 hv hz;refine⟨.ref q1,_,I2,rfl,k _ _ ⟨.ref q1,_,dH,hm.lnew hq hr,Ext.new hq _,q q1 _ (hm.fresh hq) (.refl _) ?_⟩⟩
   match ps,l2 with
   |[],_=>exact .nil
   |[_],_=>exact pairwise_singleton _ _
   |_::_::_,c=>exact absurd c (by simp)
  have kp0:∀i,i<ps.length->eX 6 (ps.getD i .non)=true:=λi hi=>by rw[getD_eq_getElem?_getD,getElem?_eq_getElem hi];exact List.all_eq_true.mp all6 _ (getElem_mem hi)
  have sh0:∀i,i<ps.length->hs (.t (s0::ss)) (ps.getD i .non)/\ps.getD i .non ≠ .tup []:=λi hi=>by rw[getD_eq_getElem?_getD,getElem?_eq_getElem hi];exact sh _ (getElem_mem hi)
  have isk:∀(h:Heap),(∀b its,IsTup s.heap b its->IsTup h b its)->∀i,i<ps.length->IsK h (ps.getD i .non) (its.getD i Value.none):=λh kp i hi=>by
   obtain⟨v,e1,rv⟩:=hr.get (i:=i) (d:=ps.getD i .non) (by rw[getElem?_eq_getElem hi,getD_eq_getElem?_getD,getElem?_eq_getElem hi];rfl);obtain⟨x,e2,rx⟩:=hv.get e1;have e3:its.getD i Value.none=x:=by rw[getD_eq_getElem?_getD,e2];rfl
   rw[e3];exact(mL I (kp0 i hi) rv rx).keep kp
  refine PySem.W.kat_sorted F0 aBa (vs:=its) ⟨_,e,rfl,_,rfl⟩ (by omega) (by omega) λq1 e1 h1 F1 N1 lt1=>?_;have kp1:∀b its,IsTup s.heap b its->IsTup h1 b its:=λb its ⟨o,ho,hc,n,hd⟩=>by
   refine⟨o,?_,hc,n,hd⟩;have hb:b≠X.env.locals:=λz=>by obtain⟨o',es,ep,ho',hd',_⟩:=F0.ns;rw[<- z,ho] at ho';cases ho';rw[hd] at hd';cases hd'
   cases z:X.base.get? b with
   |some u =>
    have:=I.bk b u z;rw[ho] at this;cases this;exact F1.keep b _ z
   |none=>exact(N1 (b,o) (mem_cons_of_mem _ (oB hb z ho))).1
  have isk1:=isk h1 kp1;have hK:fC h1 ps its:=(yH I all6 hr hv).keep kp1;obtain⟨fs,tf,lf,hf⟩:=aHM (M:=model X.prog X.w) sh hK;refine PySem.W.kat_kind (s:={ s with heap:=h1 }) tf (by omega) hf (by cases s0<;>rfl) ?_;rw[show(shT s0 != Value.type "tuple")=shB s0 by cases s0<;>rfl];have hn:0<ps.length:=by omega
  have S:=aDo (aKE (λd hd=>(sh d hd).1) .non) hn;generalize hlt:(λi j=>ltD (ps.getD i .non) (ps.getD j .non))=lt at S;rw[<- lp];refine aAW (n:=ps.length) (lt:=lt) (s:={ s with heap:=h1 }) (λi j C hi hj hC=>?_) _ (aHs hn) ?_
  ·unfold PySem.W.kas_ask;refine aMU (n:=5) (s:={ s with heap:=h1 }) (by show X.A.units+1+1+5<cLine;omega) (kp0 i hi) (kp0 j hj) (sh0 i hi).1 (sh0 j hj).1 (sh0 i hi).2 (sh0 j hj).2 (isk1 i hi) (isk1 j hj) ?_;rw[<- hlt] at hC;exact hC
  ·generalize fV lt (PySem.W.kas_sort ps.length)=p at S;obtain⟨P,inc⟩:=S;have hp:∀i∈p.toList,i<ps.length:=λi hi=>List.mem_range.mp (P.perm.mem_iff.mp hi);obtain⟨r1,v1⟩:=wZ hr hv .non p.toList hp;refine PySem.W.KasFin.intro F1 N1 (.head λq' hq'=>Nat.ne_of_lt (lt1 q' hq')) λh2 c F2 N2=>?_;obtain⟨hq,I2⟩:=xN (t':=s.toks) I F0 (zs:=p.toList.map λi=>vs.getD i .non) lt1 F2 N2 v1 (by rw[length_map,P.perm.length_eq,List.length_range];omega);refine⟨.ref q1,_,I2,rfl,k _ _ ⟨.ref q1,_,dH,hm.lnew hq r1,Ext.new hq _,q q1 _ (hm.fresh hq) ?_ ?_⟩⟩
   ·have:=P.perm.map λi=>ps.getD i .non
    rwa [vO] at this
   ·rw[pairwise_map,List.pairwise_iff_getElem];intro i j hi hj hij;have hs:=P.size;have:=inc i j hij (by simpa[hs] using hj);rw[<- hlt] at this;have gi:∀x (hx:x<p.toList.length),p.getD x 0=p.toList[x]:=λx hx=>by rw[Array.getD_eq_getD_getElem?,Array.getElem?_eq_getElem (by simpa using hx)];simp
    rw[gi i hi,gi j hj] at this;exact this
theorem xT {kr:Nat}(hr:dZ kr X.A):fG X (.builtin "sorted") aBS:=aEe (by have:=hr.un;omega)
end
end Dd
namespace L2
open PySem PySem.Spec PyProof.Rows
end L2
namespace Dd
open PySem PySem.Spec PyProof.Rows L2
section
variable {X:Cx}{pos:Pos}{iter tg:Expr}{body:List Stmt}{tl:DE}{g:DG}{tb:DS}{ta:DA}
theorem aMR {CX:CXT}{P:Program}{w:World}{K:Frag}{mg:Str->Option Value}{base:Heap}{N:List Str}{qual:Str}{scope:Scope}{f:Addr}{cd:Value}{A:Around}{outer:List Env}{s:Shared}{H:Hp}{E:XK}:(sT CX P w K mg base N qual scope f cd A outer s H E).w=w:=rfl
end
end Dd
namespace L2
open PySem PySem.Spec PyProof.Rows
section
variable {prog:Program}{w:World}{A:Around}{E:Value->Shared->Prop}{s:Shared}
end
end L2
namespace Dd
open PySem PySem.Spec PyProof.Rows L2
section
variable {X:Cx}{pos:Pos}{iter tg:Expr}{body:List Stmt}{tl:DE}{g:DG}{tb:DS}{ta:DA}
end
end Dd
namespace L2
open PySem PySem.Spec PyProof.Rows
end L2
namespace Dd
open PySem PySem.Spec PyProof.Rows L2
section
variable {X:Cx}{pos:Pos}{iter tg elt:Expr}{body:List Stmt}{tl te:DE}{g:DG}{tb:DS}{ta:DA}
variable {scope:Scope}{N':List Str}{fr:List (Option Nat)}{oN:List Str}{osc:Scope}
end
section
variable {prog:Program}{w:World}{A:Around}{E:Value->Shared->Prop}{s:Shared}
end
section
variable {X:Cx}{pos:Pos}
theorem aAY {K:Frag}{H:Hp}{ds:List D}{vs:List V}(r:bG K H ds vs):∀k:Nat,bG K H (replicate k ds).flatten (replicate k vs).flatten
 |0=>cN
 |k+1=>by rw[replicate_succ,flatten_cons,replicate_succ,flatten_cons];exact r.append (aAY r k)
theorem aAQ {vs:List V}{us:List Value}(r:bU vs us):∀k:Nat,bU (replicate k vs).flatten (replicate k us).flatten
 |0=>.nil
 |k+1=>by rw[replicate_succ,flatten_cons,replicate_succ,flatten_cons];exact r.append (aAQ r k)
theorem aDx (its:List Value)(k:Nat):(replicate k its.toArray).foldl (· ++ ·) #[]=(replicate k its).flatten.toArray:=by
 have g:∀(k:Nat)(acc:List Value),(replicate k its.toArray).foldl (· ++ ·) acc.toArray=(acc++(replicate k its).flatten).toArray:=λk=>by
  induction k with
  |zero=>intro acc;simp
  |succ k ih =>
   intro acc;rw[replicate_succ,foldl_cons,List.append_toArray,ih,replicate_succ,flatten_cons,append_assoc]
 exact g k []
def aBW (P:Program)(w:World)(K:Frag)(mg:Str->Option Value)(base:Heap)(j:Nat)(tf:DE)(ta:DA):DE:=λρ M Q=>tf ρ M λd M1=>match d with
 |.ref f=>∃n ps sp,mg n=some (.ref f)/\Has P w K mg base j n ps sp/\ta ρ M1 λds M2=>sp ds M2 Q
 |_=>False
theorem aBg {x:Str}{p:Pos}{e:Expr}{es:List Expr}{tf:DE}{ta:DA}{j k:Nat}(hf:PDE X (.Name x p) tf)(hr:dZ k X.A)(hjk:j<=k)(ha:PDA X (e::es) ta)(he:starEach (e::es) X.env=(false,eval e X.env)::starEach es X.env:=by rfl)(hpl:(backTo pos (starEach es X.env)).any (·.1)=false:=by rfl):PDE X (.Call (.Name x p) (e::es) [] pos) (aBW X.prog X.w X.K X.mg X.base j tf ta):=by
 intro pins s σ H Q I ⟨ρ,M,Q',re,hm',q,kq⟩;refine wpAny_Call_Name_kw (thn (hf pins s σ H _ I ⟨ρ,M,_,re,hm',q,λ_ _ z=>z⟩) λu s1 ⟨y,H1,I1,ry,d1,M1,r1,hm1,e1,q1⟩=>?_);cases d1 with
 |ref f =>
  obtain⟨n,ps,sp,hm,⟨f',fd,F,hm2,hk,hb⟩,q1⟩:=q1;obtain rfl:f=f':=by rw[hm] at hm2;cases hm2;rfl
  rw[aP r1] at ry;cases ry;refine callWith_K (h₀:=X.base) I1.ok.mod.kin hk (thn (ha pos pins s1 σ H1 _ I1 ⟨ρ,M1,_,re.ext e1,hm1,q1,λ_ _ z=>z⟩) λus s2 ⟨vs,H2,I2,r2,ds,M2,rs,hm2,e2,q2⟩=>⟨I2.kIn,?_⟩) he hpl;exact aFI F (hr.mono hjk) hb .nil aHE I2 r2 ⟨ds,M2,Q',by rw[append_nil];exact rs,hm2,q2,λv H' z=>kq v H' (z.back (e1.trans e2))⟩
 |_=>exact q1.elim
end
section
variable {P:Program}{w:World}{K:Frag}{mg:Str->Option Value}{base:Heap}
end
end Dd
namespace HT
open PySem PyProof.Rows
section
variable {prog:Program}{w:World}{A:Around}{E:Value->Shared->Prop}{s:Shared}
end
end HT
namespace L2
open PySem PySem.Spec PyProof.Rows
variable {X:Cx}
end L2
namespace Dd
open PySem PySem.Spec PyProof.Rows L2
section
variable {X:Cx}{e:Expr}{te:DE}{pos p2:Pos}{lo hi:Option Expr}{tl th:DO}
end
section
variable {X:Cx}{pins:List (Addr×Obj)}{σ:L2.St}{H:Hp}{s:Shared}{M:Model}{A:Around}{E:Value->Shared->Prop}{e T:Addr}{cls:Value}
end
section
variable {X:Cx}{e:Expr}{es:List Expr}{t:DA}{f:Str}{ps:List Str}{cond:List D->DM->Prop}{C:Addr}{k1 k:Nat}{V:DM->Prop}{pf pc:Pos}
end
section
variable {P:Program}{w:World}{K:Frag}{mg:Str->Option Value}{base:Heap}
theorem Has.never {x:Str}{st:Stmt}{N ps:List Str}(h:cM K mg x st ps)(S:aS N ps (aI st))(k:Nat):Has P w K mg base (k+1) x ps (λ_ _ _=>False) :=
 Has.mk h S (λ_ _ _ z=>z.elim) λ_ _ _ _ _ _ _ _ _ _ _ z=>z.elim
theorem Has.mono {x:Str}{ps:List Str}{k k':Nat}{sp:DSp}(h:Has P w K mg base k x ps sp)(l:k<=k'):Has P w K mg base k' x ps sp:=by obtain⟨f,fd,F,hm,hk,hb⟩:=h;exact⟨f,fd,F.mono l,hm,hk,hb⟩
end
section
variable {X:Cx}{a:Expr}{e tg:Expr}{es:List Expr}{t:DA}{g:DG}{f n cm:Str}{ps:List Str}{sp:DSp}{cond:List D->DM->Prop}{C Cm:Addr}{k1 k2 k j:Nat}{ts:Addr->DS}{b0:Stmt}{suite:List Stmt}{pf pc pa pcm ph pos:Pos}
end
open PySem.AutoSeq1 (wpAny_loadPart')
section
variable {X:Cx}
def aKI:D2:=λx y M Q=>match x,y with
 |.tup xs,.tup ys=>xs.length+ys.length<=1000/\Q (.tup (xs++ys)) M
 |_,_=>False
end
section
variable {X:Cx}{pins:List (Addr×Obj)}{σ:L2.St}{H:Hp}{s:Shared}
end
section
variable {X:Cx}{pos:Pos}
theorem xR :ZE X (.Dict [] [] pos) aBM:=.i (aFA)
theorem aC4 {o i:Expr}{to ti:DE}{kr:Nat}(hr:dZ kr X.A)(ho:ZE X o to)(hi:ZE X i ti)(ha:∀v,assign (.Subscript o i pos) X.env v=(do
   let ov <- holding [v] (eval o X.env)
   let iv <- holding [v,ov] (eval i X.env)
   standAt pos
   holding [v,ov,iv] (setItem ov iv v)
   release [v,ov,iv] []):=by intro _;rfl):ZG X (.Subscript o i pos) (aCc X.w to ti):=.i (aE3 hr ho.o hi.o ha)
end
section
variable {X:Cx}{pos:Pos}{iter tg:Expr}{body:List Stmt}{tl:DE}{g:DG}{tb:DS}{ta:DA}
end
section
variable {X:Cx}{pos:Pos}{iter tg:Expr}{body:List Stmt}{tl:DE}{g:DG}{tb:DS}{ta:DA}
end
section
variable {X:Cx}{pos:Pos}{iter tg elt:Expr}{body:List Stmt}{tl te:DE}{g:DG}{tb:DS}{ta:DA}
variable {scope:Scope}{N':List Str}{fr:List (Option Nat)}{oN:List Str}{osc:Scope}
end
section
variable {prog:Program}{w:World}{A:Around}{E:Value->Shared->Prop}{s:Shared}
end
section
variable {X:Cx}{pos:Pos}
theorem xK {x:Str}{p:Pos}{e:Expr}{es:List Expr}{tf:DE}{ta:DA}{j k:Nat}(hf:ZE X (.Name x p) tf)(hr:dZ k X.A)(hjk:j<=k)(ha:ZA X (e::es) ta)(he:starEach (e::es) X.env=(false,eval e X.env)::starEach es X.env:=by rfl)(hpl:(backTo pos (starEach es X.env)).any (·.1)=false:=by rfl):ZE X (.Call (.Name x p) (e::es) [] pos) (aBW X.prog X.w X.K X.mg X.base j tf ta):=.i (aBg (j:=j) (k:=k) hf.o hr hjk ha.o he hpl)
end
section
variable {P:Program}{w:World}{K:Frag}{mg:Str->Option Value}{base:Heap}
end
section
variable {X:Cx}{e:Expr}{te:DE}{pos p2:Pos}{lo hi:Option Expr}{tl th:DO}
end
section
variable {X:Cx}{pins:List (Addr×Obj)}{σ:L2.St}{H:Hp}{s:Shared}{M:Model}{A:Around}{E:Value->Shared->Prop}{e T:Addr}{cls:Value}
end
section
variable {X:Cx}{e:Expr}{es:List Expr}{t:DA}{f:Str}{ps:List Str}{cond:List D->DM->Prop}{C:Addr}{k1 k:Nat}{V:DM->Prop}{pf pc:Pos}
end
section
variable {P:Program}{w:World}{K:Frag}{mg:Str->Option Value}{base:Heap}
end
section
variable {X:Cx}{a:Expr}{e tg:Expr}{es:List Expr}{t:DA}{g:DG}{f n cm:Str}{ps:List Str}{sp:DSp}{cond:List D->DM->Prop}{C Cm:Addr}{k1 k2 k j:Nat}{ts:Addr->DS}{b0:Stmt}{suite:List Stmt}{pf pc pa pcm ph pos:Pos}
end
section
variable {X:Cx}
end
section
variable {X:Cx}{pins:List (Addr×Obj)}{σ:L2.St}{H:Hp}{s:Shared}
end
def Cm (M:DM):Nat->D->D->Bool->Prop
 |0,d,d',b=>bN 0 d=true/\bN 0 d'=true/\b=eqD d d'
 |n+1,d,d',b=>match d,d' with
  |.tup xs,.tup ys=>∃e:Nat->Bool,(∀j x y,xs[j]?=some x->ys[j]?=some y->Cm M n x y (e j))/\b=((range (min xs.length ys.length)).all e&&xs.length==ys.length)
  |.ref a,.ref a'=>∃xs ys,M a=some xs/\M a'=some ys/\a≠a'/\(xs.length=ys.length->∃e:Nat->Bool,(∀j x y,xs[j]?=some x->ys[j]?=some y->Cm M n x y (e j))/\b=(range xs.length).all e)/\(xs.length≠ys.length->b=false)
  |d,d'=>bN 0 d=true/\bN 0 d'=true/\b=eqD d d'
section
variable {X:Cx}{pins:List (Addr×Obj)}{σ:L2.St}{H:Hp}{s:Shared}{M:DM}
theorem aL3 {n:Nat}{d d':D}{b:Bool}(h:Cm M n d d' b)(h1:∀xs,d ≠ .tup xs)(h2:∀a,d ≠ .ref a):bN 0 d=true/\bN 0 d'=true/\b=eqD d d':=by
 cases n with
 |zero=>exact h
 |succ n =>
  cases d with
  |tup xs=>exact absurd rfl (h1 xs)
  |ref a=>exact absurd rfl (h2 a)
  |_=>exact h
theorem aGU:∀(n:Nat){d d':D} {b:Bool} {v:V},Inv X pins σ H s->Cm M n d d' b->Rep X.K H d v->Rep X.K H d' v->b=true:=by
 intro n
 induction n with
 |zero =>
  intro d d' b v I h r r';rw[h.2.2];exact sC h.1 h.2.1 r r'
 |succ n ih =>
  intro d d' b v I h r r';cases d with
  |tup xs =>
   cases d' with
   |tup ys =>
    obtain⟨e,he,rfl⟩:=h;obtain⟨a,us,rfl,sq,rs⟩:=bO r;obtain⟨a',us',z,sq',rs'⟩:=bO r';cases z;obtain rfl:=I.tuple_inj sq sq';have l1:=rs.length;have l2:=rs'.length;rw[show(xs.length==ys.length)=true by simp;omega,Bool.and_true,List.all_eq_true];intro j hj;rw[List.mem_range] at hj;have j1:j<xs.length:=by omega
    have j2:j<ys.length:=by omega
    have e1:xs[j]?=some xs[j]:=getElem?_eq_getElem j1;have e2:ys[j]?=some ys[j]:=getElem?_eq_getElem j2;obtain⟨v1,w1,r1⟩:=rs.get e1;obtain⟨v2,w2,r2⟩:=rs'.get e2;rw[w1] at w2;cases w2;exact ih I (he j _ _ e1 e2) r1 r2
   |_=>exact absurd h.1 Bool.false_ne_true
  |ref a =>
   cases d' with
   |ref a' =>
    obtain⟨xs,ys,_,_,ne,_⟩:=h;rw[aP r] at r';have:=aP r';cases this;exact absurd rfl ne
   |_=>exact absurd h.1 Bool.false_ne_true
  |_=>rw[h.2.2];exact sC h.1 h.2.1 r r'
theorem aBc {A:Around}{n:Nat}{e:Nat->Bool}(hm:bK X.K M H)(I:Inv X pins σ H s)(ih:∀{d d':D}{b:Bool} {v v':V} {u u':Value},Cm M n d d' b->Rep X.K H d v->Rep X.K H d' v'->RelV v u->RelV v' u'->SeqAt.EqAt A s u u' b){xs ys:List D}{us us':List V}{its its':List Value}(he:∀j x y,xs[j]?=some x->ys[j]?=some y->Cm M n x y (e j))(r1:bG X.K H xs us)(r2:bG X.K H ys us')(v1:bU us its)(v2:bU us' its')(j:Nat)(h1:j<its.length)(h2:j<its'.length):SeqAt.EqAt A s its[j] its'[j] (e j):=by
 have l1:=r1.length;have l2:=r2.length;have l3:=v1.length;have l4:=v2.length;have e1:xs[j]?=some (xs[j]'(by omega)):=getElem?_eq_getElem (by omega);have e2:ys[j]?=some (ys[j]'(by omega)):=getElem?_eq_getElem (by omega);obtain⟨w1,q1,p1⟩:=r1.get e1;obtain⟨w2,q2,p2⟩:=r2.get e2;obtain⟨z1,y1,k1⟩:=v1.get q1;obtain⟨z2,y2,k2⟩:=v2.get q2;have f1:its[j]=z1:=by rw[getElem?_eq_getElem h1] at y1;exact Option.some.inj y1
 have f2:its'[j]=z2:=by rw[getElem?_eq_getElem h2] at y2;exact Option.some.inj y2
 rw[f1,f2];exact ih (he j _ _ e1 e2) p1 p2 k1 k2
theorem aDN {A:Around}{n:Nat}{d d':D}{b:Bool}{a a':Addr}(hm:bK X.K M H)(I:Inv X pins σ H s)(hu:A.units+n<cLine)(ih:∀{d d':D}{b:Bool} {v v':V} {u u':Value},Cm M n d d' b->Rep X.K H d v->Rep X.K H d' v'->RelV v u->RelV v' u'->SeqAt.EqAt A.in1 s u u' b)(h:Cm M (n+1) d d' b)(r:Rep X.K H d (.ref a))(r':Rep X.K H d' (.ref a')):SeqAt.RcAt A s (.ref a) (.ref a') b/\SeqAt.RcNeAt A s (.ref a) (.ref a') (!b):=by
 cases d with
 |tup xs =>
  cases d' with
  |tup ys =>
   obtain⟨e,he,rfl⟩:=h;obtain⟨_,us,z,sq,rs⟩:=bO r;cases z;obtain⟨_,us',z,sq',rs'⟩:=bO r';cases z;obtain⟨its,rv,ht⟩:=jN I sq;obtain⟨its',rv',ht'⟩:=jN I sq';have e1:=rs.length;have e2:=rv.length;have e3:=rs'.length;have e4:=rv'.length;rw[show xs.length=its.toArray.size by rw[size_toArray];omega,show ys.length=its'.toArray.size by rw[size_toArray];omega];have hit:∀j (h1:j<its.toArray.size) (h2:j<its'.toArray.size),SeqAt.EqAt A.in1 s its.toArray[j] its'.toArray[j] (e j):=λj j1 j2=>by have:=aBc hm I ih he rs rs' rv rv' j (by simpa using j1) (by simpa using j2);simpa using this
   exact⟨SeqAt.RcAt.tuples ht ht' (by omega) hit,SeqAt.RcNeAt.tuples ht ht' (by omega) hit⟩
  |_=>exact absurd h.1 Bool.false_ne_true
 |ref c =>
  cases d' with
  |ref c' =>
   obtain⟨xs,ys,hx,hy,ne,c1,c2⟩:=h;have:=aP r;cases this;have:=aP r';cases this;obtain⟨us,hus,ru⟩:=hm.l a xs hx;obtain⟨ws,hws,rw'⟩:=hm.l a' ys hy;obtain⟨z,its,n1,r1,hl,e⟩:=I.lstM hus;obtain⟨z2,its2,n2,r3,hl2,e2⟩:=I.lstM hws;have i1:s.heap.IsList a its.toArray:=⟨_,e,rfl,_,rfl⟩;have i2:s.heap.IsList a' its2.toArray:=⟨_,e2,rfl,_,rfl⟩;have l3:=ru.length;have l4:=rw'.length;have l5:=r1.length;have l6:=r3.length;by_cases hz:xs.length=ys.length
   ·obtain⟨e',he,rfl⟩:=c1 hz;have hsz:its.toArray.size=its2.toArray.size:=by rw[size_toArray,size_toArray];omega
    have hit:∀j (h1:j<its.toArray.size) (h2:j<its2.toArray.size),SeqAt.EqAt A.in1 s its.toArray[j] its2.toArray[j] (e' j):=λj j1 j2=>by have:=aBc hm I ih he ru rw' r1 r3 j (by simpa using j1) (by simpa using j2);simpa using this
    rw[show xs.length=its.toArray.size by rw[size_toArray];omega];exact⟨SeqAt.RcAt.lists i1 i2 hsz (by omega) hit,SeqAt.RcNeAt.lists i1 i2 hsz (by omega) hit⟩
   ·have hsz:(its.toArray.size != its2.toArray.size)=true:=by rw[size_toArray,size_toArray];simp;omega
    rw[c2 hz];exact⟨SeqAt.RcAt.lists_lengths i1 i2 hsz (by omega),SeqAt.RcNeAt.lists_lengths i1 i2 hsz (by omega)⟩
  |_=>exact absurd h.1 Bool.false_ne_true
 |_=>exact(vV h.1 r).elim
theorem aKN (hm:bK X.K M H)(I:Inv X pins σ H s):∀(n:Nat){A:Around} {d d':D} {b:Bool} {v v':V} {u u':Value},A.units+n<cLine->Cm M n d d' b->Rep X.K H d v->Rep X.K H d' v'->RelV v u->RelV v' u'->SeqAt.EqAt A s u u' b:=by
 intro n
 induction n with
 |zero =>
  intro A d d' b v v' u u' hu h r r' q q';rw[h.2.2];exact aCn I 0 hu h.1 h.2.1 r r' q q'
 |succ n ih =>
  intro A d d' b v v' u u' hu h r r' q q';have hu':A.in1.units+n<cLine:=by show A.units+1+n<cLine;omega
  have sc:(∀xs,d ≠ .tup xs)->(∀a,d ≠ .ref a)->SeqAt.EqAt A s u u' b:=λh1 h2=>by obtain⟨p,p',e⟩:=aL3 h h1 h2;rw[e];exact aCn I 0 (by omega) p p' r r' q q'
  have sq:∀{a a':Addr},v=.ref a->v'=.ref a'->SeqAt.EqAt A s u u' b:=λ{a a'} e1 e2=>by
   subst e1 e2;cases q;cases q';by_cases c:a=a'
   ·subst c;rw[aGU (n+1) I h r r'];exact SeqAt.EqAt.same _
   ·exact SeqAt.EqAt.of_refs c (aDN hm I (by omega) (λ{d d' b v v' u u'} h r r' q q'=>ih hu' h r r' q q') h r r').1
  cases d with
  |tup xs =>
   cases d' with
   |tup ys =>
    obtain⟨a,us,e1,_⟩:=bO r;obtain⟨a',us',e2,_⟩:=bO r';exact sq e1 e2
   |_=>exact absurd h.1 Bool.false_ne_true
  |ref c =>
   cases d' with
   |ref c'=>exact sq (aP r) (aP r')
   |_=>exact absurd h.1 Bool.false_ne_true
  |_=>exact sc (λxs z=>nomatch z) λa z=>nomatch z
end
def aFf (g:Bool->Bool):D2:=λx y M Q=>(((∃xs,x=.tup xs)/\∃ys,y=.tup ys)∨((∃a,x=.ref a)/\∃b,y=.ref b))/\∃b,Cm M 20 x y b/\Q (.bl (g b)) M
section
variable {X:Cx}
theorem aCD (hu:X.A.units+60<cLine):OpD X (compareOp .Eq) (aFf id)/\OpD X (compareOp .NotEq) (aFf not):=by
 have key:∀{pins:List (Addr×Obj)}{s:Shared} {σ:L2.St} {H:Hp} {x y:V} {v u:Value} {dx dy:D} {M:DM} {Q':DQ} {g:Bool->Bool},Inv X pins σ H s->RelV x v->RelV y u->Rep X.K H dx x->Rep X.K H dy y->bK X.K M H->aFf g dx dy M Q' ->
   ∃b,SeqAt.RcAt X.A s v u b/\SeqAt.RcNeAt X.A s v u (!b)/\Q' (.bl (g b)) M:=by
  intro pins s σ H x y v u dx dy M Q' g I rx ry r1 r2 hm ⟨sh,b,h,q⟩;have go:∀{a a':Addr},x=.ref a->y=.ref a'->∃b,SeqAt.RcAt X.A s v u b/\SeqAt.RcNeAt X.A s v u (!b)/\Q' (.bl (g b)) M:=λ{a a'} e1 e2=>by
   subst e1 e2;cases rx;cases ry;have hu':X.A.in1.units+19<cLine:=by show X.A.units+1+19<cLine;omega
   obtain⟨h1,h2⟩:=aDN hm I (n:=19) (by omega) (λ{d d' b v v' u u'} h r r' q q'=>aKN hm I 19 hu' h r r' q q') h r1 r2;exact⟨b,h1,h2,q⟩
  rcases sh with⟨⟨xs,rfl⟩,ys,rfl⟩|⟨⟨a,rfl⟩,a',rfl⟩
  ·obtain⟨a,us,e1,_⟩:=bO r1;obtain⟨a',us',e2,_⟩:=bO r2;exact go e1 e2
  ·exact go (aP r1) (aP r2)
 refine⟨λpins s σ H x y v u Q I rx ry ⟨dx,dy,M,Q',r1,r2,hm,q,k⟩=>?_,λpins s σ H x y v u Q I rx ry ⟨dx,dy,M,Q',r1,r2,hm,q,k⟩=>?_⟩
 ·obtain⟨b,h1,_,q⟩:=key I rx ry r1 r2 hm q;exact h1 X.prog X.w X.xe _ ⟨.bl b,H,I,rfl,k _ H ⟨.bl b,M,fF,hm,.refl H,q⟩⟩
 ·obtain⟨b,_,h2,q⟩:=key I rx ry r1 r2 hm q;exact h2 X.prog X.w X.xe _ ⟨.bl (!b),H,I,rfl,k _ H ⟨.bl (!b),M,fF,hm,.refl H,q⟩⟩
theorem aBv {k:Nat}(hr:dZ k X.A):OpD X (compareOp .Eq) (aFf id):=(aCD (by have:=hr.un;omega)).1
theorem aER {k:Nat}(hr:dZ k X.A):OpD X (compareOp .NotEq) (aFf not):=(aCD (by have:=hr.un;omega)).2
end
mutual
theorem aAr:∀{n:Nat}{d:D},bN n d=true->eqD d d=true
 |_,.non,_=>rfl
 |_,.bl b,_=>by simp[eqD]
 |_,.int b,_=>by simp[eqD]
 |_,.str b,_=>by simp[eqD]
 |n+1,.tup xs,h=>by rw[eqD];exact xL (n:=n) h
 |0,.tup xs,h=>absurd h Bool.false_ne_true
 |n,.ref a,h=>by cases n<;>exact absurd h Bool.false_ne_true
 |n,.fz a,h=>by cases n<;>exact absurd h Bool.false_ne_true
theorem xL:∀{n:Nat}{xs:List D},xs.all (bN n)=true->iH xs xs=true
 |_,[],_=>by simp[iH]
 |n,x::xs,h=>by rw[all_cons,Bool.and_eq_true] at h;show(eqD x x&&iH xs xs)=true;rw[aAr h.1,xL h.2];rfl
end
theorem aCk {M:DM}:∀{n:Nat}{d:D},bN n d=true->Cm M n d d true
 |0,d,h=>⟨h,h,(aAr h).symm⟩
 |n+1,.tup xs,h=>⟨λ_=>true,λj x y e1 e2=>by rw[e1] at e2;cases e2;have hx:bN n x=true:=(List.all_eq_true.mp h) x (mem_of_getElem? e1);exact aCk hx,by simp⟩
 |n+1,.non,h=>⟨rfl,rfl,rfl⟩
 |n+1,.bl b,h=>⟨rfl,rfl,by simp[eqD]⟩
 |n+1,.int b,h=>⟨rfl,rfl,by simp[eqD]⟩
 |n+1,.str b,h=>⟨rfl,rfl,by simp[eqD]⟩
 |n+1,.ref a,h=>absurd h Bool.false_ne_true
 |n+1,.fz a,h=>absurd h Bool.false_ne_true
theorem oE {M:DM}{n:Nat}{a b:Addr}{xs:List D}(ha:M a=some xs)(hb:M b=some xs)(ne:a≠b)(h:∀x∈xs,bN n x=true):Cm M (n+1) (.ref a) (.ref b) true :=
 ⟨xs,xs,ha,hb,ne,λ_=>⟨λ_=>true,λj x y e1 e2=>by rw[e1] at e2;cases e2;exact aCk (h x (mem_of_getElem? e1)),by simp⟩,λz=>absurd rfl z⟩
noncomputable def aMm (w:World)(kvs:List (Str×D)):List D:=kvs.map λp=>.tup [.int (hashStr w p.1),.str p.1,p.2]
section
variable {X:Cx}{pins:List (Addr×Obj)}{σ:L2.St}{H:Hp}{s:Shared}
end
section
variable {X:Cx}{pos:Pos}
end
section
variable {X:Cx}{pins:List (Addr×Obj)}{σ:L2.St}{H:Hp}{s:Shared}
end
section
variable {X:Cx}{pos:Pos}
end
def FK (K:Frag)(x:Str)(f:Addr)(st:Stmt):Prop:=nsIn K mainGlobals x=some (some (.ref f))/\∃fd,L2.Fun K x x st f fd
theorem FK.has {K:Frag}{mg:Str->Option Value}{h:Heap}{x:Str}{f:Addr}{st:Stmt}{ps:List Str}(b:FK K x f st)(X:K.In h)(G:h.Ns mainGlobals mg)(r:∀(kV doc pm:Value)(an:Option Addr) (cdv ct:Value) (us:List Value),us.length=ps.length->bindArgs (fnOf x x (lZ st) (fZ st) (aI st) .none kV doc pm an cdv ct) ⟨us,[]⟩=pure (ps.zip us)):cM K mg x st ps :=
 let ⟨a,_,F⟩:=b;⟨_,_,F,mg_of X G a,F.binds r⟩
section
variable {X:Cx}{pos:Pos}{st:Stmt}{t1 t2:DS}{iter tg:Expr}{body:List Stmt}{tl:DE}{g:DG}{tb:DS}
def aHF:D2:=λx y M Q=>match x,y with
 |.ref a,.int n=>∃ds,M a=some ds/\ds≠[]/\-(2^62)<=n/\n<2^62/\ds.length*n.toNat<=1000/\∀p:Addr,M p=none->Q (.ref p) (aX M p (replicate n.toNat ds).flatten)
 |_,_=>False
theorem aAk:OpD X (binaryOp .Mult) aHF:=by
 intro pins s σ H x y v u Q I rx ry ⟨dx,dy,M,Q',r1,r2,hm,q,k⟩
 match dx,dy,q with
 |.ref a,.int n,q =>
  obtain⟨ds,ha,ne,h1,h2,hz,q⟩:=q;obtain⟨vs,hu,rs⟩:=hm.l a ds ha;obtain rfl:=aP r1;obtain rfl:=aW r2;cases rx;obtain⟨t,rfl⟩:=ry;obtain⟨z,its,m,rv,hl2,ho⟩:=I.lstM hu;have l1:=rs.length;have l2:=rv.length;have hs:=eA hz;have he:its.toArray.isEmpty=false:=by
   cases its with
   |nil=>exact absurd (List.length_eq_zero_iff.mp (by rw[l1,l2];rfl)) ne
   |cons a b=>rfl
  have hz':its.toArray.size*n.toNat<=sizeLine:=by rw[size_toArray,<- l2,<- l1];exact Nat.le_of_lt hs
  refine wpAny_binaryOp_repeat_ref (T:="list") (U:="int") (by decide) ⟨_,ho,rfl⟩ (λs'=>typeIs_int s' n t) noFill_list_mul F.fills_int_mul F.slot_int_rmul repeat_list F.slot_int_index.lookup
   (call_meets F.slot_int_rmul (typeIs_int s n t) F.entry_int_rmul (F.args_int_rmul_2 _ _) (int___rmul___int_list n t a its.toArray m) ⟨ho,rfl,⟨_,ho,rfl⟩,?_⟩)
  refine call_meets F.slot_list_mul ⟨_,ho,rfl⟩ F.entry_list_mul (F.args_list_mul_2 _ _) (AutoListH.list___mul___list_int_3 a its.toArray m n t (by simp[Builtin.List.listFitsIndex];omega) (by simp[sizeLine] at hz';simp;omega) (by simp[Builtin.List.listTooLong];exact by simpa using hz')) ⟨ho,?_⟩;rw[he];simp only[Bool.false_eq_true,if_false];have ef:=aDx its n.toNat;rw[show(List.foldl (λx1 x2=>x1++x2) #[] (replicate n.toNat its.toArray))=(replicate n.toNat its).flatten.toArray from ef];have hl:(replicate n.toNat its).flatten.length<=sizeLine:=by rw[L2.len_rep];rw[size_toArray,Nat.mul_comm] at hz';exact hz'
  exact⟨.ref _,_,I.lnew (t':=s.toks) (aAQ rv n.toNat) (by rw[L2.len_rep,l2,<- L2.len_rep];exact hl),rfl,k _ _ ⟨.ref _,_,dH,hm.lnew I.fresh (aAY rs n.toNat),Ext.new I.fresh _,q _ (hm.fresh I.fresh)⟩⟩
end
section
variable {X:Cx}{pos:Pos}{st:Stmt}{t1 t2:DS}{iter tg:Expr}{body:List Stmt}{tl:DE}{g:DG}{tb:DS}
end
open Mz
section
variable {prog:Program}{w:World}{A:Around}{I S:Addr}{fp wr:List Addr}{n:Nat}{P:Nat->Value->Prop}{St:Nat->Heap->Prop}{R:Result->Shared->Prop}{dv:Value}
end
section
variable {prog:Program}{w:World}{A:Around}{E:Value->Shared->Prop}{s:Shared}{l:Addr}{xs:Array (Int×Tok)}{dv:Value}
end
section
variable {X:Cx}{pos p kp:Pos}{e d:Expr}{te td:DE}
end
section
variable {X:Cx}{pos:Pos}{iter tg:Expr}{body:List Stmt}{te:DE}
end
section
variable {prog:Program}{w:World}{A:Around}{I S:Addr}{fp wr:List Addr}{n:Nat}{P:Nat->Value->Prop}{St:Nat->Heap->Prop}{R:Result->Shared->Prop}{dv:Value}
end
section
variable {prog:Program}{w:World}{A:Around}{E:Value->Shared->Prop}{s:Shared}{l:Addr}{xs:Array (Int×Tok)}{dv:Value}
end
section
variable {X:Cx}{pos p kp:Pos}{e d:Expr}{te td:DE}
end
section
variable {X:Cx}{pos:Pos}{iter tg:Expr}{body:List Stmt}{te:DE}
end
section
variable {X:Cx}{pos:Pos}{elt iter tg cnd:Expr}{scope:Scope}{N':List Str}{fr:List (Option Nat)}{tl:DE}{oN:List Str}{osc:Scope}{g:DG}{tc:DT}{te:DE}{e:Expr}{t1 t2:DE}
end
section
variable {X:Cx}{pos:Pos}{elt iter tg cnd:Expr}{scope:Scope}{N':List Str}{fr:List (Option Nat)}{tl:DE}{oN:List Str}{osc:Scope}{g:DG}{tc:DT}{te:DE}{e:Expr}{t1 t2:DE}
end
section
variable {X:Cx}{a:Expr}{e:Expr}{es:List Expr}{t:DA}{f n cm:Str}{ps:List Str}{sp:DSp}{cond:List D->DM->Prop}{C Cm:Addr}{k1 k2 k j:Nat}{ts:Addr->DS}{b0:Stmt}{suite:List Stmt}{pf pc pa pcm ph pos:Pos}
end
def aKP (b:Bool)(j:Nat)(a:Addr):DE:=λρ M Q=>ρ[j]?=some (some (.ref a))/\Q (.bl b) M
section
variable {X:Cx}{n c:Str}{C Cc a:Addr}{o:Obj}{p p1 p2 pos:Pos}{j:Nat}
end
def aMW (t1 t2:DS):DS:=λE ρ M=>t1 E ρ M∨t2 E ρ M
section
variable {X:Cx}{st:Stmt}{t1 t2:DS}
end
section
variable {prog:Program}{w:World}{A:Around}{E:Value->Shared->Prop}{s:Shared}
end
section
variable {X:Cx}
end
def aLY (i:Nat)(te:DE):DS:=λE ρ M=>match ρ[i]? with
 |some (some d)=>te ρ M λy M1=>aKI d y M1 λr M2=>E.nx (ρ.set i (some r)) M2
 |_=>False
section
variable {X:Cx}{e:Expr}{te:DE}{x:Str}{pos:Pos}
end
section
variable {X:Cx}{a:Expr}{e:Expr}{es:List Expr}{t:DA}{f n cm:Str}{ps:List Str}{sp:DSp}{cond:List D->DM->Prop}{C Cm:Addr}{k1 k2 k j:Nat}{ts:Addr->DS}{b0:Stmt}{suite:List Stmt}{pf pc pa pcm ph pos:Pos}
end
section
variable {X:Cx}{n c:Str}{C Cc a:Addr}{o:Obj}{p p1 p2 pos:Pos}{j:Nat}
end
section
variable {X:Cx}{st:Stmt}{t1 t2:DS}
end
section
variable {prog:Program}{w:World}{A:Around}{E:Value->Shared->Prop}{s:Shared}
end
section
variable {X:Cx}
end
section
variable {X:Cx}{e:Expr}{te:DE}{x:Str}{pos:Pos}
end
section
variable {prog:Program}{w:World}{A:Around}{E:Value->Shared->Prop}{s:Shared}
end
def aLg:DSp:=λds M Q=>match ds with
 |[.tup [.int a,.int b]]=>Q (.int (if b > a then b else a)) M
 |_=>False
section
variable {X:Cx}
end
section
variable {X:Cx}{o e:Expr}{to te:DE}{pos:Pos}
def aEj (to te:DE):DE:=λρ M Q=>to ρ M λx M1=>match x with
 |.ref p=>(∃ds,M1 p=some ds)/\gQ te pR ρ M1 λys M2=>∃ds y,ys=[y]/\M2 p=some ds/\ds.length<10000000/\Q .non (aX M2 p (ds++[y]))
 |_=>False
def aFD (to te:DE):DE:=λρ M Q=>to ρ M λx M1=>match x with
 |.ref p=>(∃ds,M1 p=some ds)/\gQ te pR ρ M1 λys M2=>∃ds q es,ys=[.ref q]/\M2 p=some ds/\M2 q=some es/\ds.length+es.length<=10000000/\Q .non (aX M2 p (ds++es))
 |_=>False
end
section
variable {X:Cx}{pos:Pos}
def aIx:D2:=λx y M Q=>match x,y with
 |.tup ds,.int k=>-(2^62)<=k/\k<2^62/\ds.length*k.toNat<=10000000/\Q (.tup (replicate k.toNat ds).flatten) M
 |_,_=>False
def aFK:D2:=λx y M Q=>match x,y with
 |.tup xs,.tup ys=>xs.length+ys.length<=10000000/\Q (.tup (xs++ys)) M
 |_,_=>False
end
section
variable {X:Cx}
end
def aJi (i:Nat)(te:DE):DS:=λE ρ M=>match ρ[i]? with
 |some (some d)=>te ρ M λy M1=>aFK d y M1 λr M2=>E.nx (ρ.set i (some r)) M2
 |_=>False
section
variable {X:Cx}{e:Expr}{te:DE}{x:Str}{pos:Pos}
end
section
variable {X:Cx}{o e:Expr}{to te:DE}{pos:Pos}
end
section
variable {X:Cx}{pos:Pos}
end
section
variable {X:Cx}
end
section
variable {X:Cx}{e:Expr}{te:DE}{x:Str}{pos:Pos}
end
open PySem.W (InstAt findIn clsIn takerIn mroIn looks_findIn looks_clsIn looks_mroIn)
open PySem.Builtin PySem.Builtin.ObjectAttr
section
variable {K:Frag}{prog:Program}{w:World}{A:Around}{E:Value->Shared->Prop}{s:Shared}{x C:Addr}{ox:Obj}{name:Str}{v:Value}
end
section
variable {X:Cx}{pins:List (Addr×Obj)}{σ:L2.St}{H:Hp}{s:Shared}{e C:Addr}{f:Str}{y:V}{u:Value}
noncomputable def jU (H:Hp)(e:Addr):Hp:=λb=>if b=e then none else H b
theorem pC:jU H e e=none:=if_pos rfl
theorem eS {b:Addr}(h:b≠e):jU H e b=H b:=if_neg h
end
open PySem.W (InstAt findIn clsIn takerIn mroIn looks_findIn looks_clsIn looks_mroIn)
section
variable {X:Cx}{o value:Expr}{f:Str}{pos pos':Pos}{ta tv:TE}
end
section
variable {P:Program}{w:World}{K:Frag}{mg:Str->Option Value}{base:Heap}
end
section
variable {prog:Program}{w:World}{A:Around}{E:Value->Shared->Prop}{s:Shared}{K:Frag}
variable {nm qn:Str}{C N fI:Addr}{bs bm:List Value}{hdct:Bool}{sn:List Str}{sub:List Value}{ab:Bool}{col:Option Bool}{dd:Option Addr}{k0 k1 k2 k3 k5:Option Value}
end
open PySem.W (InstAt findIn clsIn takerIn mroIn looks_findIn looks_clsIn looks_mroIn)
def TrY (od:Option Addr)(h:Heap)(e:Addr)(cls:Value)(T:Addr)(fl:Value):Prop :=
 ∃oe vs oT ts,h.get? e=some oe/\(oe.cls=cls/\oe.dict=od)/\oe.data=.fields vs/\vs[1]?=some (.ref T)/\T≠e/\h.get? T=some oT/\oT.data=.fields ts/\ts[3]?=some fl
section
variable {X:Cx}{pins:List (Addr×Obj)}{σ:L2.St}{H:Hp}{s:Shared}{M:Model}{A:Around}{E:Value->Shared->Prop}{e T:Addr}{cls:Value}{od:Option Addr}
end
noncomputable def CXy (P:Program)(w:World):CXT:=λouter H s E e s'=>∃(a:Addr)(cls:Value) (T:Addr) (H':Hp) (od:Option Addr),e=Value.ref a/\s'.os=s.os/\AllBare s'.gens/\Un (frs outer) [] H H' s.heap s'.heap/\HOk P w H' s'.heap /\
 TrY od s'.heap a cls T .none/\s.heap.get? a=none/\s.heap.get? T=none/\H' a=none/\H' T=none/\E cls od H'
def aL7 (V:Int->DM->Prop)(ds:List D)(M:DM):Prop:=match ds with
 |[.int i]=>V i M
 |_=>False
def aGS (V:Int->DM->Prop)(te:DE):DS:=λ_ ρ M=>gQ te pR ρ M (aL7 V)
section
variable {X:Cx}{pins:List (Addr×Obj)}{σ:L2.St}{H:Hp}{s:Shared}{x f:Str}{C:Addr}{k:Nat}{i:Int}
end
section
variable {X:Cx}{x:Str}{V:Int->DM->Prop}{e:Expr}{te:DE}{np cpos pos:Pos}{k:Nat}
end
open PySem.W (InstAt findIn clsIn takerIn mroIn looks_findIn looks_clsIn looks_mroIn)
def aIZ (V:Int->DM->Prop)(cond:List D->DM->Int->Prop)(t:DA):DE:=λρ M _=>t ρ M λds M1=>∃i,cond ds M1 i/\∀M',bD M1 M'->V i M'
noncomputable def XW (K:Frag)(C:Addr)(f:Str)(M1:DM)(i:Int):XK:=λc od H'=>c=.ref C/\∃dx M',od=some dx/\bK K M' H'/\bD M1 M'/\H' dx=some (.xd [(f,.int i)])
section
variable {X:Cx}{e:Expr}{es:List Expr}{t:DA}{fn f:Str}{ps:List Str}{cond:List D->DM->Int->Prop}{C:Addr}{k1 k:Nat}{V:Int->DM->Prop}{pf pc:Pos}
end
section
variable {P:Program}{w:World}{K:Frag}{mg:Str->Option Value}{base:Heap}
end
section
variable {X:Cx}{pins:List (Addr×Obj)}{σ:L2.St}{H:Hp}{s:Shared}{a e:Addr}{o:Obj}{fs:List (Str×V)}
end
def aKJ (sp:DSp)(cond:List D->DM->Int->Prop)(j:Nat)(t:DA)(nx:hE->D->cP->DM->Prop)(ts:Addr->Int->DS):DS:=λD ρ M=>t ρ M λds M1 =>
 (∃i,cond ds M1 i/\∀a,ts a i (D.un j) (ρ.set j (some (.ref a))) M1)∨sp ds M1 λd M2=>nx D d ρ M2
section
variable {X:Cx}{a:Expr}{e:Expr}{es:List Expr}{t:DA}{x f n cm fl:Str}{ps:List Str}{sp:DSp}{cond:List D->DM->Int->Prop}{C Cm:Addr}{k1 k2 k i j:Nat}{ts:Addr->Int->DS}{b0:Stmt}{suite:List Stmt}{px pf pc pa pcm ph pos:Pos}
end
def aNc (j:Nat)(a:Addr)(i:Int):DE:=λρ M Q=>ρ[j]?=some (some (.ref a))/\Q (.int i) M
section
variable {X:Cx}{n f:Str}{C a dx:Addr}{o oD:Obj}{p pos:Pos}{j:Nat}{i:Int}{tk:Tok}
end
def aKV (tab:List (Str×Int))(non:List Str)(Q:DQ)(ds:List D)(M1:DM):Prop:=match ds with
 |[.str k]=>(∃n,tab.lookup k=some n/\Q (.int n) M1)∨(k∈non/\Q .non M1)
 |_=>False
def aK5 (tab:List (Str×Int))(non:List Str)(te:DE):DE:=λρ M Q=>gQ te pR ρ M (aKV tab non Q)
section
variable {X:Cx}{x:Str}{tab:List (Str×Int)}{non:List Str}{p apos cpos:Pos}{e:Expr}{te:DE}
end
section
variable {X:Cx}{pins:List (Addr×Obj)}{σ:L2.St}{H:Hp}{s:Shared}{M:Model}{A:Around}{E:Value->Shared->Prop}{e T:Addr}{cls:Value}{od:Option Addr}
end
section
variable {X:Cx}{pins:List (Addr×Obj)}{σ:L2.St}{H:Hp}{s:Shared}{x f:Str}{C:Addr}{k:Nat}{i:Int}
end
section
variable {X:Cx}{x:Str}{V:Int->DM->Prop}{e:Expr}{te:DE}{np cpos pos:Pos}{k:Nat}
end
section
variable {X:Cx}{e:Expr}{es:List Expr}{t:DA}{fn f:Str}{ps:List Str}{cond:List D->DM->Int->Prop}{C:Addr}{k1 k:Nat}{V:Int->DM->Prop}{pf pc:Pos}
end
section
variable {P:Program}{w:World}{K:Frag}{mg:Str->Option Value}{base:Heap}
end
section
variable {X:Cx}{pins:List (Addr×Obj)}{σ:L2.St}{H:Hp}{s:Shared}{a e:Addr}{o:Obj}{fs:List (Str×V)}
end
section
variable {X:Cx}{a:Expr}{e:Expr}{es:List Expr}{t:DA}{x f n cm fl:Str}{ps:List Str}{sp:DSp}{cond:List D->DM->Int->Prop}{C Cm:Addr}{k1 k2 k i j:Nat}{ts:Addr->Int->DS}{b0:Stmt}{suite:List Stmt}{px pf pc pa pcm ph pos:Pos}
end
section
variable {X:Cx}{n f:Str}{C a dx:Addr}{o oD:Obj}{p pos:Pos}{j:Nat}{i:Int}{tk:Tok}
end
section
variable {X:Cx}{x:Str}{tab:List (Str×Int)}{non:List Str}{p apos cpos:Pos}{e:Expr}{te:DE}
end
def aL2 (w:World)(a:Addr)(Q:DQ)(ds:List D)(M2:DM):Prop:=match ds with
 |[.str k,dv]=>∃kvs,M2 (.d a)=some (aMm w kvs)/\(kvs.map (·.1)).Nodup/\Q (((kvs.find? λp=>decide (p.1=k)).map (·.2)).getD dv) M2
 |_=>False
def aMe (w:World)(to te ti:DE):DE:=λρ M Q=>to ρ M λx M1=>match x with
 |.ref a=>(∃kvs,M1 (.d a)=some (aMm w kvs)/\(kvs.map (·.1)).Nodup)/\gQ te (gQ ti pR) ρ M1 (aL2 w a Q)
 |_=>False
section
variable {X:Cx}{o e e2:Expr}{to te ti:DE}{apos cpos pos:Pos}
end
section
open PySem.W PySem.Calls
variable {prog:Program}{w:World}{A:Around}{E:Value->Shared->Prop}{s:Shared}{K:Frag}{x C D:Addr}{ox:Obj}{od:Option Obj}
end
section
variable {X:Cx}{n c:Str}{C Cc a dx:Addr}{o oD:Obj}{p p1 p2 pos:Pos}{j:Nat}
end
def aHx (g:Bool->Bool)(ta:DE)(tn:DA):DE:=λρ M Q=>ta ρ M λx M1=>tn ρ M1 λds M2=>match x,ds with
 |.int k,[.int i,.int j]=>Q (.bl (g (decide (i<=k/\k<j)))) M2
 |_,_=>False
section
variable {X:Cx}{a n m:Expr}{ta:DE}{tn:DA}{pos p pos':Pos}
end
section
variable {X:Cx}{o e e2:Expr}{to te ti:DE}{apos cpos pos:Pos}
end
section
variable {prog:Program}{w:World}{A:Around}{E:Value->Shared->Prop}{s:Shared}{K:Frag}{x C D:Addr}{ox:Obj}{od:Option Obj}
end
section
variable {X:Cx}{n c:Str}{C Cc a dx:Addr}{o oD:Obj}{p p1 p2 pos:Pos}{j:Nat}
end
section
variable {X:Cx}{a n m:Expr}{ta:DE}{tn:DA}{pos p pos':Pos}
end
end Dd
namespace Ty
open PySem PySem.Builtin PySem.Builtin.Str PySem.StrLaws
noncomputable abbrev cl (x:Str):List Nat:=x.cps.toList
noncomputable abbrev one (c:Nat):Str:=⟨#[c]⟩
theorem ext {x y:Str}(h:cl x=cl y):x=y:=Str.ext' (Array.toList_inj.mp h)
end Ty
namespace Dd
open PySem PySem.Spec PyProof.Rows L2 Mz
open PySem.Builtin.Str (glued occurrences partsBetween strSub subAt)
def aLw:D2:=λx y M Q=>match x,y with
 |.str i,.str j=>i.length+j.length<=1000000/\Q (.str (i++j)) M
 |_,_=>False
def aLF:D2:=λx y M Q=>match x,y with
 |.str i,.int n=>(n=0∨n=1)/\Q (.str (if n=1 then i else Str.empty)) M
 |_,_=>False
def aMM:DSp:=λds M Q=>match ds with
 |[.int i]=>i.natAbs.log2<1920/\Q (.str (toString i)) M
 |_=>False
def aKZ:DSp:=λds M Q=>match ds with
 |[.str x]=>∃n,PySem.intText? x=some n/\x.length<=640/\Q (.int n) M
 |_=>False
section
variable {X:Cx}
noncomputable def aJh (x y:Str):Bool:=decide (0+y.length<=x.length)&&subAt x y 0
noncomputable def aMC (x:Str):Bool:=x.cps.all (·<128)
noncomputable def aMQ (x:Str):Bool:=x.length > 0&&x.cps.all Unicode.isDigit
end
open PySem.Builtin.Str (glued)
section
variable {prog:Program}{w:World}{A:Around}{E:Value->Shared->Prop}{s:Shared}
end
section
variable {X:Cx}{pos:Pos}{e a b o e1 e2 e3:Expr}{es:List Expr}{te ta tb to t1 t2 t3:DE}{apos cpos:Pos}
def aLK (t:DGs):DG:=λd ρ M Q=>match d with
 |.ref a=>∃d0 ds,M a=some (d0::ds)/\∀p:Addr,M p=none->t [d0,.ref p] ρ (aX M p ds) Q
 |_=>False
def aHY (sep:Str)(Q:DQ)(ds:List D)(M2:DM):Prop:=match ds with
 |[.ref a]=>∃ss:List Str,M2 a=some (ss.map D.str)/\(ss.map (·.length)).sum+ss.length*sep.length<=1000000/\Q (.str (glued sep ss)) M2
 |_=>False
def aL9 (to te:DE):DE:=λρ M Q=>to ρ M λx M1=>match x with
 |.str sep=>gQ te pR ρ M1 (aHY sep Q)
 |_=>False
def aE8 (y:Str)(Q:DQ)(ds:List D)(M2:DM):Prop:=match ds with
 |[.str z]=>∃c ss,z=Ty.one c/\y=glued (Ty.one c) ss/\ss≠[]/\(∀s∈ss,c∉Ty.cl s)/\c<256/\y.length<=900000/\∀p:Addr,M2 p=none->Q (.ref p) (aX M2 p (ss.map D.str))
 |_=>False
def aJk (to te:DE):DE:=λρ M Q=>to ρ M λx M1=>match x with
 |.str y=>gQ te pR ρ M1 (aE8 y Q)
 |_=>False
def aHN (y:Str)(Q:DQ)(ds:List D)(M2:DM):Prop:=match ds with
 |[.str z]=>∃c,z=Ty.one c/\y.length<=900000/\((c∉Ty.cl y/\Q (.tup [.str y,.str Str.empty,.str Str.empty]) M2)∨(∃a b:Str,Ty.cl y=Ty.cl a++c::Ty.cl b/\c∉Ty.cl a/\Q (.tup [.str a,.str (Ty.one c),.str b]) M2))
 |_=>False
def aLD (to te:DE):DE:=λρ M Q=>to ρ M λx M1=>match x with
 |.str y=>gQ te pR ρ M1 (aHN y Q)
 |_=>False
def aEq (y:Str)(Q:DQ)(ds:List D)(M2:DM):Prop:=match ds with
 |[.str z]=>Q (.bl (aJh y z)) M2
 |_=>False
def aJH (to te:DE):DE:=λρ M Q=>to ρ M λx M1=>match x with
 |.str y=>gQ te pR ρ M1 (aEq y Q)
 |_=>False
def aNb (to:DE):DE:=λρ M Q=>to ρ M λx M1=>match x with
 |.str y=>Q (.bl (aMC y)) M1
 |_=>False
def aMT (to:DE):DE:=λρ M Q=>to ρ M λx M1=>match x with
 |.str y=>Q (.bl (aMQ y)) M1
 |_=>False
end
section
variable {X:Cx}{pos p0 p1 p2 p3 p4:Pos}{e e1 e2:Expr}{te t1 t2:DE}{lo hi:Option Expr}{tl th:DO}{c:Str}
def aHS (x:D)(lo hi:Option Int)(M:DM)(Q:DQ):Prop:=match x,lo,hi with
 |.str y,some i,none=>y.length<=1000000/\Q (.str (Txt.slice y (some i) none)) M
 |_,_,_=>False
def aMv (te:DE)(tl th:DO):DE:=λρ M Q=>te ρ M λx M1=>tl ρ M1 λl M2=>th ρ M2 λh M3=>aHS x l h M3 Q
def aM7 (te:DE):DE:=λρ M Q=>te ρ M λx M1=>match x with
 |.int i=>i.natAbs.log2<1920/\Q (.str (toString i)) M1
 |_=>False
def aMr (c:Str)(te:DE):DE:=λρ M Q=>te ρ M λx M1=>match x with
 |.int i=>i.natAbs.log2<1920/\(c++Str.ofString (toString i)).length<=1000000/\Q (.str (c++Str.ofString (toString i))) M1
 |_=>False
def aM5 (c:Str)(t1 t2:DE):DE:=λρ M Q=>t1 ρ M λx M1=>match x with
 |.int i=>i.natAbs.log2<1920/\(Str.ofString (toString i)++c).length<=1000000/\t2 ρ M1 λy M2=>match y with
  |.int n=>n.natAbs.log2<1920/\(Str.ofString (toString i)++c++Str.ofString (toString n)).length<=1000000/\Q (.str (Str.ofString (toString i)++c++Str.ofString (toString n))) M2
  |_=>False
 |_=>False
noncomputable def aH8:D->Bool
 |.non=>true
 |_=>false
def aM4 (g:Bool->Bool):D2:=λx y M Q=>match x,y with
 |.non,.ref a=>∃ds,M a=some ds/\ds.all (bN 60)=true/\Q (.bl (g (ds.any aH8))) M
 |_,_=>False
def aNg (K:Frag)(T1 T2:String)(te:DE):DE:=λρ M Q=>te ρ M λd M1=>∃T k,tyD d=some T/\PySem.W.kitAny K (.type T) [.type T1,.type T2]=some k/\Q (.bl k) M1
end
section
variable {prog:Program}{w:World}{A:Around}{E:Value->Shared->Prop}{s:Shared}
end
section
variable {X:Cx}{pos:Pos}{e a b o e1 e2 e3:Expr}{es:List Expr}{te ta tb to t1 t2 t3:DE}{apos cpos:Pos}
end
section
variable {X:Cx}{pos p0 p1 p2 p3 p4:Pos}{e e1 e2:Expr}{te t1 t2:DE}{lo hi:Option Expr}{tl th:DO}{c:Str}
end
end Dd
namespace Ty
open PySem PySem.Builtin.Str PySem.NumText PyProof.Rows
end Ty
namespace Dd
open PySem PySem.Spec PyProof.Rows L2 Mz
section
variable {prog:Program}{w:World}{A:Around}{E:Value->Shared->Prop}{s:Shared}
theorem aC6 {l b:Addr}{Q:Value->Shared->Prop}(ha:s.TypeIs (.ref l) "list")(hb:s.TypeIs (.ref b) "list")(hc:wpAny (model prog w) A (call (.builtin "list.__iadd__") [.ref l,.ref b]) Q E s):wpAny (model prog w) A (inplaceOp .Add (.ref l) (.ref b)) Q E s:=by
 unfold inplaceOp;refine wpAny_holding ?_;have hlk:typeLookup (.type "list") (dunderI "add") = pure (some (.builtin "list.__iadd__")):=PySem.F.slot_list_iadd.lookup;have hq:isSeqSlot (some (.builtin "list.__iadd__"))=true:=by decide +kernel
 have hfi:fillsInplaceSlot (.type "list") "add" (Operator.Add == .Add)=pure false:=by unfold fillsInplaceSlot;show(typeLookup (.type "list") (dunderI "add") >>= λfi=>pure (fi.isSome && !isSeqSlot fi))=pure false;rw[hlk,pure_bind,hq];rfl
 refine wpAny_bind (wpAny_typeOf ha (wpAny_bind (wpAny_of_eq hfi ?_)));show wpAny _ A (if false=true then _ else _) Q E s;rw[if_neg Bool.false_ne_true];refine wpAny_bind (wpAny_binaryOp1_none (nm:="add") ha hb noFill_list_add ?_);refine wpAny_bind (wpAny_of_eq (PySem.seqSlot_of hlk hq) ?_);exact wpAny_bind (wpAny_rule hc)
end
section
variable {X:Cx}{x:Str}{e:Expr}{te:DE}{pos:Pos}
def aBq:D2:=λx y M Q=>match x,y with
 |.ref l,.ref b=>∃xs zs,M l=some xs/\M b=some zs/\xs.length+zs.length<=1000/\Q (.ref l) (aX M l (xs++zs))
 |_,_=>False
theorem aGO:OpD X (inplaceOp .Add) aBq:=λpins s σ H x y v u Q I rx ry ⟨dx,dy,M,Q',r1,r2,hm,q,k⟩=>by
 match dx,dy,q with
 |.ref l,.ref b,q =>
  obtain⟨xs,zs,hx,hz,hl,q⟩:=q;obtain rfl:=aP r1;obtain rfl:=aP r2;cases rx;cases ry;obtain⟨us,hu,ru⟩:=hm.l l _ hx;obtain⟨ws,hw,rw'⟩:=hm.l b _ hz;obtain⟨z,its,n,r,hl1,e⟩:=I.lstM hu;obtain⟨z2,its2,n2,r3,hl2,e2⟩:=I.lstM hw;have lx:=ru.length;have lz:=rw'.length;have hs1:=eA hl;have hsz:its.toArray.size+its2.toArray.size<=sizeLine:=by rw[size_toArray,size_toArray];omega
  have hlong:¬(!its.toArray.isEmpty&&Builtin.List.listTooLong (its.toArray.size+its2.toArray.size))=true:=by rw[aDU hsz,Bool.and_false];exact Bool.false_ne_true
  refine aC6 ⟨_,e,rfl⟩ ⟨_,e2,rfl⟩ (call_meets PySem.F.slot_list_iadd ⟨_,e,rfl⟩ PySem.F.entry_list_iadd (PySem.F.args_list_iadd_2 _ _)
   (AutoSeq1.list___iadd___list_list_0 l its.toArray n b its2.toArray n2 hlong (by rw[size_toArray];omega) (by omega)) ⟨e,e2,?_⟩)
  refine⟨.ref l,_,I.lset (its':=its++its2) hu e (by simp) (r.append r3) ?_,rfl,k _ _ ⟨.ref l,_,dH,hm.put hu (ru.append rw'),Ext.put hu _,q⟩⟩;rw[length_append];omega
def aCy (i:Nat)(te:DE):DS:=λE ρ M=>match ρ[i]? with
 |some (some z)=>te ρ M λd M1=>aBq z d M1 λr M2=>E.nx (ρ.set i (some r)) M2
 |_=>False
theorem aF7 {i:Nat}{pos':Pos}(hN:X.N.Nodup)(he:PDE X e te)(hi:X.N[i]?=some x:=by rfl)(hx:Loc X.env.scope x:=by first|exact Or.inl rfl|exact Or.inr rfl)(hf:X.fn x=true∨X.env.scope.names.lookup x=some .local:=by first|exact .inl rfl|exact .inr rfl|assumption) :
  PDS X (.AugAssign (.Name x pos') .Add e pos) (aCy i te) :=
 gR (aDL (i:=i) hN hi hx he (aGO (X:=X)) hf) λE σ H ⟨ρ,M,Dn,re,hm,q,k⟩=>by
  unfold aCy at q;split at q
  ·rename_i z e1;obtain⟨v,e2,rv⟩:=re.get i _ e1;refine⟨_,e2,ρ,M,_,re,hm,q,λw H1 ⟨d,M1,rd,hm1,ex,q1⟩=>?_⟩;exact⟨z,d,M1,_,rv.ext ex,rd,hm1,q1,λu H2 ⟨r,M2,rr,hm2,ex2,q2⟩=>k.nx _ H2 ⟨_,M2,(re.ext (ex.trans ex2)).set rr i,hm2,ex.trans ex2,q2⟩⟩
  ·exact q.elim
end
section
variable {prog:Program}{w:World}{A:Around}{E:Value->Shared->Prop}{s:Shared}
end
section
variable {X:Cx}{x:Str}{e:Expr}{te:DE}{pos:Pos}
theorem aEx {i:Nat}{pos':Pos}(hN:X.N.Nodup)(he:ZE X e te)(hi:X.N[i]?=some x:=by rfl)(hx:Loc X.env.scope x:=by first|exact Or.inl rfl|exact Or.inr rfl)(hf:X.fn x=true∨X.env.scope.names.lookup x=some .local:=by first|exact .inl rfl|exact .inr rfl|assumption):ZS X (.AugAssign (.Name x pos') .Add e pos) (aCy i te):=.i (aF7 (i:=i) hN he.o hi hx hf)
end
inductive XC where
 |x (C:Addr)
 |y (C:Addr) (f:Str) (i:Int)
abbrev XV:=XC->cP->DM->Prop
def aMV (X:Cx)(H1:Hp)(s1:Shared)(M1:DM)(ev:Value)(s':Shared):XC->Prop
 |.x C=>CXr X.prog X.w X.stack H1 s1 (λc _ H'=>c=.ref C/\∃M',bK X.K M' H'/\bD M1 M') ev s'
 |.y C f i=>CXy X.prog X.w X.stack H1 s1 (XW X.K C f M1 i) ev s'
def XOk (X:Cx)(pins:List (Addr×Obj))(H:Hp)(V:XV)(E':Value->Shared->Prop):Prop :=
 ∀xc σ H1 s1 M1 ρ ev s',Inv X pins σ H1 s1->gS X.K H1 ρ σ->Ext H H1->V xc ρ M1->aMV X H1 s1 M1 ev s' xc->E' ev s'
theorem XOk.at {X:Cx}{pins:List (Addr×Obj)}{H H':Hp}{V:XV}{E':Value->Shared->Prop}(h:XOk X pins H V E')(e:Ext H H'):XOk X pins H' V E' :=
 λxc σ H1 s1 M1 ρ ev s' I re ex v y=>h xc σ H1 s1 M1 ρ ev s' I re (e.trans ex) v y
def aMx (t:DS):XV->DS:=λ_=>t
def aLj (t u:XV->DS):XV->DS:=λV E ρ M=>t V { E with nx:=u V E } ρ M
def aMN (tc:DT)(t u:XV->DS):XV->DS:=λV E ρ M=>tc ρ M λc M1=>if c=true then t V E ρ M1 else u V E ρ M1
def aJP (R:List D->DM->XC->Prop)(sp:DSp)(t:DA)(nx:hE->D->cP->DM->Prop):XV->DS:=λV D ρ M=>t ρ M λds M1=>(∃xc,R ds M1 xc/\V xc ρ M1)∨sp ds M1 λd M2=>nx D d ρ M2
def aLV (i:Nat):hE->D->cP->DM->Prop:=λD d ρ M=>D.nx (ρ.set i (some d)) M
def aLU:hE->D->cP->DM->Prop:=λD d _ M=>D.rt d M
section
variable {X:Cx}{st:Stmt}{cH a b:List Stmt}{t:DS}{tb ub:XV->DS}{c:Expr}{tc:DT}{pos:Pos}
end
section
variable {X:Cx}{e:Expr}{es:List Expr}{t:DA}{x f:Str}{ps:List Str}{sp:DSp}{R:List D->DM->XC->Prop}{k2 k i:Nat}{px pf pc pa:Pos}
end
def aLm (tb:XV->DS)(v:hE->XV):DS:=λDe ρ M=>tb (v De) De ρ M
section
variable {X:Cx}{n cm f1 f2:Str}{CX C1 C2 Cm:Addr}{j:Nat}{tX:Addr->DS}{t1 t2:Addr->Int->DS}{body suite:List Stmt}{b0:Stmt}{tb:XV->DS}{pcm ph pos:Pos}
end
section
variable {X:Cx}{o e:Expr}{to te:DE}
def aFO (p:Addr)(Q:DQ)(ys:List D)(M2:DM):Prop:=match ys with
 |[.bl k]=>∃bs:List Bool,M2 p=some (bs.map D.bl)/\Q (.int ((bs.countP (·==k):Nat):Int)) M2
 |_=>False
def aJE (to te:DE):DE:=λρ M Q=>to ρ M λx M1=>match x with
 |.ref p=>(∃ds,M1 p=some ds)/\gQ te pR ρ M1 (aFO p Q)
 |_=>False
end
section
variable {X:Cx}{n cm f1:Str}{CX C1 Cm:Addr}{j:Nat}{tX:Addr->DS}{t1:Addr->Int->DS}{body suite:List Stmt}{b0:Stmt}{tb:XV->DS}{pcm ph pos:Pos}
end
section
variable {X:Cx}{f fl:Str}{ps:List Str}{C:Addr}{k k1:Nat}{R1 R2:List D->DM->XC->Prop}
end
section
variable {X:Cx}{n c:Str}{C Cc a:Addr}{o:Obj}{p p1 p2 pos:Pos}{j:Nat}
end
section
variable {X:Cx}{st:Stmt}{cH a b:List Stmt}{t:DS}{tb ub:XV->DS}{c:Expr}{tc:DT}{pos:Pos}
end
section
variable {X:Cx}{e:Expr}{es:List Expr}{t:DA}{x f:Str}{ps:List Str}{sp:DSp}{R:List D->DM->XC->Prop}{k2 k i:Nat}{px pf pc pa:Pos}
end
section
variable {X:Cx}{n cm f1 f2:Str}{CX C1 C2 Cm:Addr}{j:Nat}{tX:Addr->DS}{t1 t2:Addr->Int->DS}{body suite:List Stmt}{b0:Stmt}{tb:XV->DS}{pcm ph pos:Pos}
end
section
variable {X:Cx}{o e:Expr}{to te:DE}
end
section
variable {X:Cx}{n cm f1:Str}{CX C1 Cm:Addr}{j:Nat}{tX:Addr->DS}{t1:Addr->Int->DS}{body suite:List Stmt}{b0:Stmt}{tb:XV->DS}{pcm ph pos:Pos}
end
section
variable {X:Cx}{f fl:Str}{ps:List Str}{C:Addr}{k k1:Nat}{R1 R2:List D->DM->XC->Prop}
end
section
variable {X:Cx}{n c:Str}{C Cc a:Addr}{o:Obj}{p p1 p2 pos:Pos}{j:Nat}
end
section
variable {prog:Program}{w:World}{A:Around}{I S:Addr}{fp wr:List Addr}{n:Nat}{P:Nat->Value->Prop}{St:Nat->Heap->Prop}{R:Result->Shared->Prop}{dv:Value}
end
section
variable {prog:Program}{w:World}{A:Around}{E:Value->Shared->Prop}{s:Shared}{l:Addr}{xs:Array (Int×Tok)}{dv:Value}
end
section
variable {X:Cx}{pos p kp:Pos}{e d:Expr}{te td:DE}
def aMi (te td:DE):DE:=λρ M Q=>te ρ M λx M1=>td ρ M1 λy M2=>match x,y with
 |.ref a,.int k=>∃ns:List Int,M2 a=some (ns.map D.int)/\∀m:Int,(ns=[]->m=k)->(∀n∈ns,n<=m)->Q (.int m) M2
 |_,_=>False
end
section
variable {prog:Program}{w:World}{A:Around}{I S:Addr}{fp wr:List Addr}{n:Nat}{P:Nat->Value->Prop}{St:Nat->Heap->Prop}{R:Result->Shared->Prop}{dv:Value}
end
section
variable {prog:Program}{w:World}{A:Around}{E:Value->Shared->Prop}{s:Shared}{l:Addr}{xs:Array (Int×Tok)}{dv:Value}
end
section
variable {X:Cx}{pos p kp:Pos}{e d:Expr}{te td:DE}
end
def aLL:DSp:=λds M Q=>match ds with
 |[.int i]=>i.natAbs.log2<1920/\Q (.str (toString i)) M
 |[.str x]=>Q (.str x) M
 |_=>False
section
variable {X:Cx}
end
section
variable {X:Cx}{n cm fl:Str}{C Cm:Addr}{j:Nat}{ts:Addr->Int->DS}{b0:Stmt}{suite:List Stmt}{pcm ph pos:Pos}
end
section
variable {X:Cx}{n c1 c2 f1 f2:Str}{C1 C2 D1 D2:Addr}{j:Nat}{t1 t2:Addr->Int->DS}{body s1 s2:List Stmt}{b1 b2:Stmt}{h3:ExceptHandler}{tb:XV->DS}{p1 p2 ph1 ph2 pos:Pos}
end
section
variable {X:Cx}{n cm fl:Str}{C Cm:Addr}{j:Nat}{ts:Addr->Int->DS}{b0:Stmt}{suite:List Stmt}{pcm ph pos:Pos}
end
section
variable {X:Cx}{n c1 c2 f1 f2:Str}{C1 C2 D1 D2:Addr}{j:Nat}{t1 t2:Addr->Int->DS}{body s1 s2:List Stmt}{b1 b2:Stmt}{h3:ExceptHandler}{tb:XV->DS}{p1 p2 ph1 ph2 pos:Pos}
end
end Dd
namespace L2
open PySem PySem.Spec PyProof.Rows
section
variable {prog:Program}{w:World}{A:Around}{E:Value->Shared->Prop}{s:Shared}
end
end L2
namespace Dd
open PySem PySem.Spec PyProof.Rows L2
section
variable {X:Cx}{pos:Pos}{body:List Stmt}{g:DG}{tb:DS}{ta:DA}
def aLu (ds:List D)(g:DG)(tb:DS):DS:=λE ρ M=>∃Pv:Nat->cP->DM->Prop,Pv 0 ρ M /\
 (∀i d ρ M,ds[i]?=some d->Pv i ρ M->g (.tup [.int i,d]) ρ M λρ2 M2=>tb { E with nx:=Pv (i+1),ct:=Pv (i+1),bk:=E.nx } ρ2 M2)/\∀ρ M,Pv ds.length ρ M->E.nx ρ M
def aID (ta:DA)(g:DG)(tb:DS):DS:=λE ρ M=>ta ρ M λds M1=>match ds with
 |[.tup xs]=>aLu xs g tb E ρ M1
 |_=>False
end
section
variable {X:Cx}{pos:Pos}{body:List Stmt}{g:DG}{tb:DS}{ta:DA}
end
section
variable {P:Program}{w:World}{K:Frag}{mg:Str->Option Value}{base:Heap}
end
noncomputable def aL0 (f:Str)(v:D):List (Str×D)->List (Str×D)
 |[]=>[(f,v)]
 |(g,x)::r=>if g=f then (g,v)::r else (g,x)::aL0 f v r
def aMB (C:Addr)(f:Str)(te:DE):DE:=λρ M Q=>te ρ M λx M1=>∃a gs d,x=.ref a/\M1 (.o a)=some (aDl C gs)/\gs.lookup f=some d/\Q d M1
def aK0 (C:Addr)(f:Str)(te tv:DE):DS:=λE ρ M=>tv ρ M λy M1=>te ρ M1 λx M2=>∃a gs,x=.ref a/\M2 (.o a)=some (aDl C gs)/\gs.length<1000/\E.nx ρ (aK3 M2 a (aDl C (aL0 f y gs)))
def aLS (C:Addr)(m:Str)(sp:DSp)(te:DE)(t:DA):DE:=λρ M Q=>te ρ M λx M1=>∃a gs,x=.ref a/\M1 (.o a)=some (aDl C gs)/\gs.lookup m=none/\t ρ M1 λds M2=>sp (x::ds) M2 Q
def aKM (C:Addr)(sp:DSp)(t:DA):DE:=λρ M Q=>t ρ M λds M1=>∀x:Addr,M1 (.l x)=none->M1 (.d x)=none->M1 (.o x)=none->sp (.ref x::ds) (aK3 M1 x (aDl C [])) λv M2=>v=.non/\Q (.ref x) M2
section
variable {X:Cx}{o e value:Expr}{es:List Expr}{f m x:Str}{pos pos' apos p:Pos}{te tv:DE}{t:DA}{C:Addr}{fs ps:List Str}{sp:DSp}{k j:Nat}
end
section
variable {X:Cx}{pins:List (Addr×Obj)}{σ:L2.St}{H:Hp}{s:Shared}{pos:Pos}{kr:Nat}
def aMd (w:World)(g:Bool->Bool):D2:=λx y M Q=>match y with
 |.ref a=>∃kvs,M (.d a)=some (fO w kvs)/\TK kvs/\aB0 x/\Q (.bl (g (decide (x∈kvs.map (·.1))))) M
 |_=>False
theorem aCb (hr:dZ kr X.A):X.A.units+7<cLine:=Nat.lt_of_le_of_lt (Nat.add_le_add_left (by decide:7<=64) _) hr.units
theorem aDa (hr:dZ kr X.A):OpD X (compareOp .NotIn) (aMd X.w not):=λpins s σ H x y v u Q I rx ry ⟨dx,dy,M,Q',r1,r2,hm,q,k⟩=>by
 match dy,q with
 |.ref a,q =>
  obtain⟨kvs,ha,tk,hk,q⟩:=q;obtain⟨b,rfl⟩:=uU hk r1;obtain rfl:=aP r2;cases rx;cases ry;obtain⟨xs,hH,hx,hd,hs,hz⟩:=uR I hm ha tk;refine wpAny_notIn_heap (knd:=oI X.prog X.w) (by have:=aCb hr;show X.A.units+1+6<cLine;omega) ⟨hk.2,mL I hk.2 r1 rfl⟩ hs hd ?_;rw[aCC hx];exact⟨.bl _,H,I.tok _,rfl,k _ H ⟨_,M,fF,hm,.refl H,q⟩⟩
theorem yZ {K:Frag}{H:Hp}{k d:D}:∀{kvs:List (D×D)}{xs:List (D×Addr×Value)},Paired (KX K H) kvs xs->wJ kvs k=some d->∃p vv,atKey xs k=some p/\RelV vv p.2/\Rep K H d vv
 |[],_,.nil,h=>by cases h
 |p::kvs,x::xs,.cons r rr,h=>by
  unfold wJ at h;unfold atKey;rw[List.find?_cons] at h ⊢;obtain⟨e1,r2,vv,q1,q2⟩:=r;by_cases z:p.1=k
  ·rw[decide_eq_true z] at h;rw[decide_eq_true (show x.1=k by rw[<- e1];exact z)];cases h;exact⟨_,vv,rfl,q1,q2⟩
  ·rw[decide_eq_false z] at h;rw[decide_eq_false (show ¬x.1=k by rw[<- e1];exact z)];exact yZ rr h
def aM1 (w:World)(te ti:DE):DE:=λρ M Q=>te ρ M λx M1=>ti ρ M1 λi M2=>match x with
 |.ref a=>∃kvs d,M2 (.d a)=some (fO w kvs)/\TK kvs/\aB0 i/\wJ kvs i=some d/\Q d M2
 |_=>False
end
section
variable {prog:Program}{w:World}
noncomputable def prN (i j:Nat):D:=.tup [.int i,.int j]
noncomputable def aAw (es:Array (Int×Value))(ep:Nat)(t:SetTable):Obj:={ cls:=.type "set",dict:=none,data:=.set es ep t }
noncomputable def aLB (h:Int)(led:Bool):SetTable:=((SetTable.fresh 0 0 led).put (SetTable.bits h % 8)).1
noncomputable def hp2 (i j:Nat):Int:=reduceHash (Builtin.Tuple.tupleHashOf [hashInt i,hashInt j])
theorem aH1 (m:Nat)(led:Bool):((SetTable.fresh 0 0 led).put m).1.fits 1=true:=by cases led<;>rfl
def aBd (S:Addr)(h:Heap):List (Nat×Nat)->Prop
 |[]=>∃led,h.get? S=some (aAw #[] 0 (.fresh 0 0 led))
 |[p]=>∃led x ep,h.get? S=some (aAw #[(hp2 p.1 p.2,x)] ep (aLB (hp2 p.1 p.2) led))
 |[_,_]=>∃es ep t,h.get? S=some (aAw es ep t)/\es.size=2/\t.fits 2=true
 |_=>False
def zX (p:Nat×Nat):Prop:=p.1<6/\p.2<4
def OkP:List (Nat×Nat)->Prop
 |[_]=>True
 |[p,q]=>zX p/\zX q/\p≠q
 |_=>False
theorem aBd.at {S:Addr}{h h':Heap}{ps:List (Nat×Nat)}(x:aBd S h ps)(k:∀o,h.get? S=some o->h'.get? S=some o):aBd S h' ps:=by
 match ps,x with
 |[],⟨led,e⟩=>exact⟨led,k _ e⟩
 |[p],⟨led,x,ep,e⟩=>exact⟨led,x,ep,k _ e⟩
 |[p,q],⟨es,ep,t,e,r⟩=>exact⟨es,ep,t,k _ e,r⟩
theorem aBd.len {S:Addr}{h:Heap}{ps:List (Nat×Nat)}(x:aBd S h ps)(ok:OkP ps):∃es ep t,h.get? S=some (aAw es ep t)/\es.size=ps.length/\t.fits es.size=true:=by
 match ps,x,ok with
 |[p],⟨led,x,ep,e⟩,_=>exact⟨_,_,_,e,rfl,aH1 _ led⟩
 |[p,q],⟨es,ep,t,e,r,f⟩,_=>exact⟨es,ep,t,e,r,by rw[r];exact f⟩
theorem OkP.at {ps:List (Nat×Nat)}(ok:OkP ps){i:Nat}{p:Nat×Nat}(h:ps[i]?=some p):∃cH,ps=ps.take i++p::cH:=by obtain⟨hl,e⟩:=List.getElem?_eq_some_iff.mp h;exact⟨ps.drop (i+1),by rw[<- e,<- List.drop_eq_getElem_cons hl,List.take_append_drop]⟩
end
noncomputable def prs (ps:List (Nat×Nat)):List D:=ps.map λp=>prN p.1 p.2
section
variable {X:Cx}{e:Expr}{te:DE}{k:Nat}
def aGa (te:DE):DE:=λρ M Q=>te ρ M λx M1=>∃a ps,x=.ref a/\M1 (.l a)=some (prs ps)/\OkP ps/\Q (.int ps.length) M1
end
section
variable {P:Program}{w:World}{K:Frag}{mg:Str->Option Value}{base:Heap}
end
section
variable {X:Cx}{o e value:Expr}{es:List Expr}{f m x:Str}{pos pos' apos p:Pos}{te tv:DE}{t:DA}{C:Addr}{fs ps:List Str}{sp:DSp}{k j:Nat}
end
section
variable {X:Cx}{pins:List (Addr×Obj)}{σ:L2.St}{H:Hp}{s:Shared}{pos:Pos}{kr:Nat}
end
section
variable {prog:Program}{w:World}
end
section
variable {X:Cx}{e:Expr}{te:DE}{k:Nat}
end
section
variable {prog:Program}{w:World}
def aFH (S:Addr)(h:Heap):List (Nat×Nat)->Prop
 |[]=>∃led,h.get? S=some (aAw #[] 0 (.fresh 0 0 led))
 |[p]=>∃led x ep,h.get? S=some (aAw #[(hp2 p.1 p.2,x)] ep (aLB (hp2 p.1 p.2) led))/\IsK h (prN p.1 p.2) x
 |[p,q]=>∃es ep t,h.get? S=some (aAw es ep t)/\es.size=(if p=q then 1 else 2)/\t.fits es.size=true
 |_=>False
def OkQ:List (Nat×Nat)->Prop
 |[_]=>True
 |[p,q]=>zX p/\zX q
 |_=>False
noncomputable def dlP:List (Nat×Nat)->Nat
 |[_]=>1
 |[p,q]=>if p=q then 1 else 2
 |_=>0
theorem aFH.at {S:Addr}{h h':Heap}{ps:List (Nat×Nat)}(x:aFH S h ps)(k:∀o,h.get? S=some o->h'.get? S=some o)(kk:∀(p:Nat×Nat) v,IsK h (prN p.1 p.2) v->IsK h' (prN p.1 p.2) v):aFH S h' ps:=by
 match ps,x with
 |[],⟨led,e⟩=>exact⟨led,k _ e⟩
 |[p],⟨led,x,ep,e,i⟩=>exact⟨led,x,ep,k _ e,kk _ _ i⟩
 |[p,q],⟨es,ep,t,e,r⟩=>exact⟨es,ep,t,k _ e,r⟩
theorem aFH.len {S:Addr}{h:Heap}{ps:List (Nat×Nat)}(x:aFH S h ps)(ok:OkQ ps):∃es ep t,h.get? S=some (aAw es ep t)/\es.size=dlP ps/\t.fits es.size=true:=by
 match ps,x,ok with
 |[p],⟨led,x,ep,e,_⟩,_=>exact⟨_,_,_,e,rfl,aH1 _ led⟩
 |[p,q],⟨es,ep,t,e,r,f⟩,_=>exact⟨es,ep,t,e,r,f⟩
theorem OkQ.at {ps:List (Nat×Nat)}(ok:OkQ ps){i:Nat}{p:Nat×Nat}(h:ps[i]?=some p):∃cH,ps=ps.take i++p::cH:=by obtain⟨hl,e⟩:=List.getElem?_eq_some_iff.mp h;exact⟨ps.drop (i+1),by rw[<- e,<- List.drop_eq_getElem_cons hl,List.take_append_drop]⟩
end
section
variable {X:Cx}{e:Expr}{te:DE}{k:Nat}
def aE4 (te:DE):DE:=λρ M Q=>te ρ M λx M1=>∃a ps,x=.ref a/\M1 (.l a)=some (prs ps)/\OkQ ps/\Q (.int (dlP ps:Nat)) M1
end
def aLc (g:Bool->Bool):D2:=λx y M Q=>match y with
 |.tup ys=>∃(pts:List (Rat×Rat)) (u v:Rat),x=PQ u v/\ys=(pts.map λp=>PQ p.1 p.2)/\Q (.bl (g (pts.any λp=>decide (p.1=u/\p.2=v)))) M
 |_=>False
section
variable {X:Cx}
end
section
variable {prog:Program}{w:World}
end
section
variable {X:Cx}{e:Expr}{te:DE}{k:Nat}
end
section
variable {X:Cx}
end
theorem vC {pos p:Pos}{c v:Value}:∀{l:List Value},TriplesOk l->codeAmong pos (l++[rawInt p.line,rawInt p.col,c])=some v->codeAmong pos l=some v∨v=c
 |[],_,h=>by
  simp only[List.nil_append,rawInt,codeAmong] at h;split at h
  ·exact .inr (Option.some.inj h).symm
  ·cases h
 |.int a t::.int b u::x::r,h0,h=>by
  simp only[List.cons_append,codeAmong] at h ⊢;split at h
  ·rename_i hc;rw[if_pos hc];exact .inl h
  ·rename_i hc;rw[if_neg hc];exact vC (l:=r) h0 h
def aE2 (H H':Hp)(P f:Addr)(q:Str)(prm:Arguments)(b:Expr)(sc:Scope)(cl:List (Str×Addr)):Prop :=
 H f = none/\(∀a o,a≠P->H a = some o->H' a = some o)/\aC0 H' P q/\∃pm c' ctv oc u u' vs t,H' f = some (.frz (PySem.W.kla_obj "<lambda>" q prm b sc cl pm c' ctv) u)/\H' c'=some (.frz oc u')/\oc.data=.fields vs/\vs[1]?=some (.str q t)
section
variable {X:Cx}{pins:List (Addr×Obj)}{σ:L2.St}{H:Hp}{s:Shared}
theorem aFd {q:Str}{P cd:Addr}{prm:Arguments}{b:Expr}{sc:Scope}{pos:Pos}{cl:List (Str×Addr)}{Q:Value->Shared->Prop}{E:Value->Shared->Prop}{A:Around}(I:Inv X pins σ H s)(hcd:X.env.code = .ref cd)(C:CodeHd X.base cd P)(hb:X.base.BuiltinsAt X.mg P)(T:aC0 H P q)(hcl:closureFor sc X.env = pure cl)(hq:X.env.qual ++ "<lambda>"=q)(hdef:defaultsOf prm X.env=([],[]))(h:∀f H' s',Inv X pins σ H' s'->aE2 H H' P f q prm b sc cl->Q (.ref f) s'):wpAny (model X.prog X.w) A (eval (.Lambda prm b sc pos) X.env) Q E s:=by
 obtain⟨ps,hP,ht,hall⟩:=T;have oP:s.heap.get? P=some (tabObj ps):=I.hok P _ hP;have hg:s.heap.Ns mainGlobals X.mg:=I.ok.mod.glob.keeps I.bk;have hb':s.heap.BuiltinsAt X.mg P:=let ⟨bm,o,a1,a2,a3,a4,a5,r⟩:=hb;⟨bm,o,a1,a2,a3,a4,I.bk _ _ a5,r⟩
 have hgP:mainGlobals≠P:=λz=>by obtain⟨o,es,ep,e,hd,_⟩:=hg;rw[z,oP] at e;cases e;cases hd
 have fresh:∀{a:Addr},s.heap.objs.size<=a->H a=none:=λl=>I.hok.fresh l;refine PySem.W.kla_eval hdef ?_;rw[hq];cases hc:codeAmong pos ps.toList with
 |some v =>
  obtain⟨c,oc,u,vs,t,rfl,hcz,hd,hv⟩:=hall pos v hc;refine PySem.W.kla_makeFunctionHit (mg:=X.mg) hcl I.ok.glob hg hcd (C.keeps I.bk) oP ht hc hb' λctv h' tk hk hsz=>?_;have n:H h'.objs.size=none:=fresh hsz;refine h _ (upd H h'.objs.size (.frz _ (.own 0))) _ (I.laid (λb o e=>Heap.get?_push_of_some _ (hk b o e)) hsz ⟨Heap.get?_push_size _ rfl,_,Heap.get?_push_size _ rfl⟩) ⟨n,λa o _ e=>by rw[aL (aU e n)];exact e,⟨ps,by rw[aL (aU hP n)];exact hP,ht,λp v e=>?_⟩,_,c,ctv,oc,_,u,vs,t,bI,by rw[aL (aU hcz n)];exact hcz,hd,hv⟩;obtain⟨c,oc,u,vs,t,a1,a2,r⟩:=hall p v e;exact⟨c,oc,u,vs,t,a1,by rw[aL (aU a2 n)];exact a2,r⟩
 |none =>
  refine PySem.W.kla_makeFunction (mg:=X.mg) hcl I.ok.glob hg hcd (C.keeps I.bk) oP ht hc hgP hb' λc' ctv h' tk hx hge hlt hrec htb=>?_;obtain⟨c₂,oc,vs,t,e2,hoc,hd,hv⟩:=hrec;cases e2;have sz:s.heap.objs.size<=h'.objs.size:=Nat.le_of_lt (Nat.lt_of_le_of_lt hge hlt);have nc:H c'=none:=fresh hge;have nf:H h'.objs.size=none:=fresh sz;have pc:P≠c':=aU hP nc;have pf:P≠h'.objs.size:=aU hP nf;have cf:c'≠h'.objs.size:=Nat.ne_of_lt hlt;generalize hfo:(PySem.W.kla_obj "<lambda>" q prm b sc cl ((X.mg "__name__").getD .none) c' ctv)=fo;have ff:fo.isFreed=false:=by rw[<- hfo];rfl
  have at_P:∀{a:Addr}{o:HO},a≠P->H a=some o->upd (upd (upd H P (.tbl (ps++#[rawInt pos.line,rawInt pos.col,.ref c']))) c' (.frz oc (.own 0))) h'.objs.size (.frz fo (.own 0)) a=some o:=λn e=>by rw[aL (aU e nf),aL (aU e nc),aL n];exact e
  have at1:upd (upd (upd H P (.tbl (ps++#[rawInt pos.line,rawInt pos.col,.ref c']))) c' (.frz oc (.own 0))) h'.objs.size (.frz fo (.own 0)) P=some (.tbl (ps++#[rawInt pos.line,rawInt pos.col,.ref c'])):=by rw[aL pf,aL pc,bI]
  have at2:upd (upd (upd H P (.tbl (ps++#[rawInt pos.line,rawInt pos.col,.ref c']))) c' (.frz oc (.own 0))) h'.objs.size (.frz fo (.own 0)) c'=some (.frz oc (.own 0)):=by rw[aL cf,bI]
  have at3:upd (upd (upd H P (.tbl (ps++#[rawInt pos.line,rawInt pos.col,.ref c']))) c' (.frz oc (.own 0))) h'.objs.size (.frz fo (.own 0)) h'.objs.size=some (.frz fo (.own 0)):=bI;have at0:∀{a:Addr},a≠P->a≠c'->a≠h'.objs.size->upd (upd (upd H P (.tbl (ps++#[rawInt pos.line,rawInt pos.col,.ref c']))) c' (.frz oc (.own 0))) h'.objs.size (.frz fo (.own 0)) a=H a:=λn1 n2 n3=>by rw[aL n3,aL n2,aL n1]
  generalize upd (upd (upd H P (.tbl (ps++#[rawInt pos.line,rawInt pos.col,.ref c']))) c' (.frz oc (.own 0))) h'.objs.size (.frz fo (.own 0))=H' at at_P at1 at2 at3 at0;have keep:∀b o,b≠P->s.heap.get? b=some o->(h'.push fo).get? b=some o:=λb o n e=>Heap.get?_push_of_some _ (hx b o n e);have kP:(h'.push fo).get? P=some (tabObj (ps++#[rawInt pos.line,rawInt pos.col,.ref c'])):=Heap.get?_push_of_some _ htb;have ntP:∀{b:Addr}{o:HO},H b=some o->(∀p,o ≠ .tbl p)->b≠P:=λe n z=>by rw[z,hP] at e;exact n ps (Option.some.inj e).symm
  have old:∀{b:Addr}{o:Obj},s.heap.get? b=some o->b≠c'/\b≠h'.objs.size:=λe=>⟨Nat.ne_of_lt (Nat.lt_of_lt_of_le (Heap.lt_size e) hge),Nat.ne_of_lt (Nat.lt_of_lt_of_le (Heap.lt_size e) sz)⟩;have un:Un X.fs [] H H' s.heap (h'.push fo):=by
   have nP:∀{b:Addr},H b=none->b≠P:=λe z=>by rw[z,hP] at e;cases e
   refine⟨λb o e n _ _=>keep b o (nP n) e,λb o e n _ _=>⟨o.slots,keep b o (nP n) e⟩,λb o e n _=>by rw[at0 (nP n) (old e).1 (old e).2];exact n,λb o e _=>?_,λb xs e=>at_P (ntP e (by intro p z;cases z)) e,λb o u e=>at_P (ntP e (by intro p z;cases z)) e,λb qs e=>?_⟩
   ·by_cases z:b=P
    ·rw[z];exact⟨_,kP⟩
    ·exact⟨o,keep b o z e⟩
   ·by_cases z:b=P
    ·rw[z] at e ⊢;rw[hP] at e;cases e;exact⟨_,at1⟩
    ·exact⟨#[],by rw[at_P z e];simp⟩
  have hok:HOk X.prog X.w H' (h'.push fo):=λb u e=>by
   by_cases z1:b=P
   ·rw[z1] at e ⊢;rw[at1] at e;cases e;exact kP
   by_cases z2:b=c'
   ·rw[z2] at e ⊢;rw[at2] at e;cases e;exact⟨Heap.get?_push_of_some _ hoc,_,Heap.get?_push_of_some _ hoc⟩
   by_cases z3:b=h'.objs.size
   ·rw[z3] at e ⊢;rw[at3] at e;cases e;exact⟨Heap.get?_push_size _ ff,_,Heap.get?_push_size _ ff⟩
   rw[at0 z1 z2 z3] at e;refine(I.hok b u e).stay (λc v hc q=>keep c v ?_ q) (λc q=>at_P (ntP q (by intro p z;cases z)) q) λc xs q=>at_P (ntP q (by intro p z;cases z)) q;rcases hc with z|z
   ·rw[z];exact z1
   ·exact ntP z (by intro p z;cases z)
  refine h _ H' _ (I.un un hok) ⟨nf,λa o n e=>at_P n e,⟨_,at1,?_,λp v e=>?_⟩,_,c',ctv,oc,_,_,vs,t,by rw[hfo];exact at3,at2,hd,hv⟩
  ·rw[Array.toList_append];exact TriplesOk_snoc _ _ _ _ ht
  ·rw[Array.toList_append] at e;rcases vC ht e with e|e
   ·obtain⟨c,oc',u,vs',t',a1,a2,r⟩:=hall p v e;exact⟨c,oc',u,vs',t',a1,at_P (ntP a2 (by intro p z;cases z)) a2,r⟩
   ·exact⟨c',oc,_,vs,t,e,at2,hd,hv⟩
variable {P:Program}{w:World}{H2:Hp}{h h':Heap}{c f:Addr}{oc:Obj}{K:Frag}{M:DM}{fs:List Addr}{u:HO}
theorem aAV (ok:HOk P w H2 h)(f2:H2 c=some (.frz oc u)):HOk P w (jU H2 c) h:=λb o e=>by
 by_cases z:b=c
 ·rw[z,pC] at e;cases e
 ·rw[eS z] at e;have nc:∀{d:Addr}{q:HO},H2 d=some q->(∀o v,q ≠ .frz o v)->jU H2 c d=some q:=λe n=>by rw[eS (λy=>by rw[y,f2] at e;exact n _ _ (Option.some.inj e).symm)];exact e
  exact(ok b o e).stay (λ_ _ _ q=>q) (λd q=>nc q (by intro _ _ z;cases z)) λd xs q=>nc q (by intro _ _ z;cases z)
theorem aF4 (hc:h.get? c=some oc)(hn:H c=none)(v:Un fs [] (upd H c (.frz oc u)) H2 h h')(ok:HOk P w H2 h'):Un fs [] H (jU H2 c) h h':=by
 have f2:H2 c=some (.frz oc u):=v.frzs c oc u bI;have o2:h'.get? c=some oc:=(ok c _ f2).1;have nc:∀{b:Addr}{o:HO},H b=some o->b≠c:=λe=>aU e hn;refine⟨λb o e n hb hx=>?_,λb o e n hb hx=>?_,λb o e n hx=>?_,v.there,λb xs e=>?_,λb o y e=>?_,λb ps e=>?_⟩
 ·by_cases z:b=c
  ·rw[z] at e ⊢;rw[hc] at e;cases e;exact o2
  ·exact v.keep b o e (by rw[aL z];exact n) hb hx
 ·by_cases z:b=c
  ·rw[z] at e ⊢;rw[hc] at e;cases e;exact⟨oc.slots,o2⟩
  ·exact v.slot b o e (by rw[aL z];exact n) hb hx
 ·by_cases z:b=c
  ·rw[z];exact pC
  ·rw[eS z];exact v.free b o e (by rw[aL z];exact n) hx
 ·rw[eS (nc e)];exact v.tups b xs (by rw[aL (nc e)];exact e)
 ·rw[eS (nc e)];exact v.frzs b o y (by rw[aL (nc e)];exact e)
 ·rw[eS (nc e)];exact v.tbls b ps (by rw[aL (nc e)];exact e)
theorem aBC (f2:H2 c=some (.frz oc (.own f))):aBP K H2 (jU H2 c):=by
 have nc:∀{d:Addr}{q:HO},H2 d=some q->q ≠ .frz oc (.own f)->jU H2 c d=some q:=λe n=>by rw[eS (λy=>by rw[y,f2] at e;exact n (Option.some.inj e).symm)];exact e
 refine⟨λh=>?_,λh=>?_⟩
 ·rcases h with(h|⟨o,h⟩)|h
  ·exact .inl (.inl (nc h (by intro z;cases z)))
  ·exact .inl (.inr ⟨o,nc h (by intro z;cases z)⟩)
  ·exact .inr h
 ·rcases h with⟨o,h⟩|h
  ·exact .inl ⟨o,nc h (by intro z;cases z)⟩
  ·exact .inr h
noncomputable def qQ (M:DM)(f:Addr):DM:=λb=>if b=AK.x f then none else M b
theorem mJ {b:AK}(h:b ≠ .x f):qQ M f b=M b:=if_neg h
theorem aDj:qQ M f (.x f)=none:=if_pos rfl
theorem aFn {ds:List D}(h:M (.x f)=some ds):putX (qQ M f) f ds=M:=by
 funext b;by_cases z:b=.x f
 ·rw[z,pL,h]
 ·rw[gE z,mJ z]
theorem aAJ (hm:bK K M H2)(f2:H2 c=some (.frz oc (.own f))){v:Option Value}(hd:oc.data=.cell v):bK K (qQ M f) (jU H2 c):=by
 have es:aBP K H2 (jU H2 c):=aBC f2;have nc:∀{d:Addr}{q:HO},H2 d=some q->q ≠ .frz oc (.own f)->jU H2 c d=some q:=λe n=>by rw[eS (λy=>by rw[y,f2] at e;exact n (Option.some.inj e).symm)];exact e
 refine⟨λa ds q=>?_,λa ds q=>?_,λa ds q=>?_,λa ds q=>?_⟩
 ·rw[mJ (by intro z;cases z)] at q;obtain⟨xs,z,r⟩:=hm.l a ds q;exact⟨xs,nc z (by intro z;cases z),r.extS es⟩
 ·rw[mJ (by intro z;cases z)] at q;obtain⟨xs,z,r⟩:=hm.d a ds q;exact⟨xs,nc z (by intro z;cases z),Paired.mapP r λ_ _ r=>let ⟨k,v,kv,vv,a,b,c,f,g⟩:=r;⟨k,v,kv,vv,a,b,c.extS es,f,g.extS es⟩⟩
 ·rw[mJ (by intro z;cases z)] at q;obtain⟨C,dx,gs,fs,y,z,r⟩:=hm.o a ds q;exact⟨C,dx,gs,fs,y,nc z (by intro z;cases z),Paired.mapP r λ_ _ r=>⟨r.1,r.2.extS es⟩⟩
 ·by_cases na:a=f
  ·rw[na,aDj] at q;cases q
  rw[mJ (λz=>na (AK.x.inj z))] at q;have x:=hm.x a ds q;unfold rF at x ⊢;split at x
  ·obtain⟨ps,h1,h2,h3⟩:=x;exact⟨ps,nc h1 (by intro z;cases z),h2,λpos v z=>let ⟨c,oc,u,vs,t,a,b,e,r⟩:=h3 pos v z;⟨c,oc,u,vs,t,a,nc b (by intro z;cases z;rw[hd] at e;cases e),e,r⟩⟩
  ·obtain⟨q,a1,a2,b1,b2,b3,b4,b5,b6,b7,b8,d,d',pm,ct,od,od',v,v',vs,t,h1,h4,h5,h6,h7,h8⟩:=x;exact⟨q,a1,a2,b1,b2,b3,b4,b5,b6,b7,b8,d,d',pm,ct,od,od',v,v',vs,t,nc h1 (by intro z;cases z;cases hd),nc h4 (by intro z;cases z;exact na rfl),h5,nc h6 (by intro z;cases z;rw[hd] at h7;cases h7),h7,h8⟩
  ·obtain⟨o',ens,ep,h0,h1,h2⟩:=x;exact⟨o',ens,ep,h0,nc h1 (by intro z;cases z),Paired.mapP h2 λ_ _ r=>let ⟨k,v,kv,vv,a,b,c,f,g⟩:=r;⟨k,v,kv,vv,a,b,c.extS es,f,g.extS es⟩⟩
  ·exact x
theorem aFg {H':Hp}{q:Str}{p:Addr}(hm:bK K M H)(hP:M (.x p)=some [.str q])(g:∀a o,a≠p->H a=some o->H' a=some o)(T:aC0 H' p q):bK K M H'/\Ext H H':=by
 obtain⟨ps,hp,_⟩:aC0 H p q:=hm.x p _ hP;have g':∀{a:Addr}{o:HO},H a=some o->(∀ps,o ≠ .tbl ps)->H' a=some o:=λe n=>g _ _ (λz=>by rw[z,hp] at e;exact n _ (Option.some.inj e).symm) e;have ex:Ext H H':=⟨λa ys e=>g' e (by intro _ z;cases z),λa ob u e=>g' e (by intro _ z;cases z)⟩;refine⟨⟨λa ds q=>let ⟨xs,z,r⟩:=hm.l a ds q;⟨xs,g' z (by intro _ z;cases z),r.ext ex⟩,λa ds q=>let ⟨xs,z,r⟩:=hm.d a ds q;⟨xs,g' z (by intro _ z;cases z),eM r ex⟩,λa ds q=>let ⟨C,dx,gs,fs,y,z,r⟩:=hm.o a ds q;⟨C,dx,gs,fs,y,g' z (by intro _ z;cases z),hO r ex⟩,λa ds q=>?_⟩,ex⟩;by_cases z:a=p
 ·rw[z] at q ⊢;rw[hP] at q;cases q;exact T
 ·exact(hm.x a ds q).ext ex λps e=>g a _ z e
end
def aMI (p:Addr)(q:Str)(prm:Arguments)(b:Expr)(sc:Scope)(cl:List (Str×Addr)):TE:=λ_ H Q=>aC0 H p q/\∀f H',aE2 H H' p f q prm b sc cl->Q (.ref f) H'
def aCA (X:Cx)(p:Addr):Prop:=∃cd,X.env.code=.ref cd/\CodeHd X.base cd p/\X.base.BuiltinsAt X.mg p
def rP (sp:DSp)(i j:Nat)(p:Addr)(q:Str):DE:=λρ M Q=>match ρ[i]?,ρ[j]? with
 |some (some dx),some (some (.ref g))=>M (.x p)=some [.str q]/\∀f:Addr,M (.x f)=none->sp [dx,.ref f] (putX M f [.ref g]) λd M'=>Q d (qQ M' f)
 |_,_=>False
noncomputable abbrev eaS:Str:="earlier"
theorem aA2 {env:Env}{c:Addr}(e:env.cells.lookup eaS=some c):closureFor pQ env=pure [(eaS,c)]:=by simp[closureFor,pQ,cellOf,e]
section
variable {X:Cx}
theorem aKq {p:Addr}{q:Str}{prm:Arguments}{b:Expr}{sc:Scope}{pos:Pos}{cl:List (Str×Addr)}(ht:aCA X p)(hcl:closureFor sc X.env = pure cl)(hq:X.env.qual ++ "<lambda>"=q)(hdef:defaultsOf prm X.env=([],[])):PE X (.Lambda prm b sc pos) (aMI p q prm b sc cl):=by obtain⟨cd,hcd,C,hb⟩:=ht;intro pins s σ H Q I ⟨T,h⟩;exact aFd I hcd C hb T hcl hq hdef λf H' s' I' m=>⟨.ref f,H',I',rfl,h f H' m⟩
theorem aBD {fn xs:Str}{pf px pos pl a1 a2 b1 b2 b3 b4 b5 b6 b7 b8:Pos}{i j jj k:Nat}{ps:List Str}{sp:DSp}{p:Addr}{q:Str}(h:Has X.prog X.w X.K X.mg X.base jj fn ps sp)(hr:dZ k X.A)(hjk:jj<=k)(ht:aCA X p)(hx:PDE X (.Name xs px) (aBO i))(hNj:X.N[j]? = some eaS:=by rfl)(hkc:X.env.kindOf eaS = some .cell:=by rfl)(hfn:X.fn eaS = true:=by rfl)(hq:X.env.qual ++ "<lambda>"=q:=by rfl)(hg:Gl X fn:=by rfl)(hdb:(fn==("__debug__":Str))=false:=by decide) :
  PDE X (.Call (.Name fn pf) [.Name xs px,.Lambda (aEB a1 a2) (aDA b1 b2 b3 b4 b5 b6 b7 b8) pQ pl] [] pos) (rP sp i j p q):=by
 obtain⟨F0,fd,F,hmF,hkF,hb⟩:=h;intro pins s σ H Q I ⟨ρ,M,Q',re,hm,q0,kq⟩;unfold rP at q0;split at q0
 case h_2=>exact q0.elim
 rename_i dx g e1 e2;obtain⟨hP,q0⟩:=q0;obtain⟨c,hc⟩:=I.ok.has eaS (.inl hkc);refine wpAny_Call_Name_kw (yM I hg hmF ?_ hdb);have pa:=rL hx (rL (aKq (b:=aDA b1 b2 b3 b4 b5 b6 b7 b8) (prm:=aEB a1 a2) (sc:=pQ) (pos:=pl) ht (aA2 hc) hq rfl) aB8);refine callWith_K (h₀:=X.base) I.ok.mod.kin hkF (thn (pa pos pins s σ H (λvs H2=>∃v f H1,vs=[v,.ref f]/\Rep X.K H1 dx v/\bK X.K M H1/\Ext H H1/\aE2 H1 H2 p f q (aEB a1 a2) (aDA b1 b2 b3 b4 b5 b6 b7 b8) pQ [(eaS,c)]) I ?_) λus s2 ⟨vs,H2,I2,rv,v,f,H1,ev,rd,hm1,ex1,md⟩=>⟨I2.kIn,?_⟩) rfl rfl
 ·refine⟨ρ,M,λd M'=>d=dx/\M'=M,re,hm,by unfold aBO;rw[e1];exact⟨rfl,rfl⟩,λv H1 ⟨d,M1,r1,hm1,ex1,z1,z2⟩=>?_⟩;subst z1 z2;exact⟨hm1.x p _ hP,λf H2 md=>⟨v,f,H1,rfl,r1,hm1,ex1,md⟩⟩
 subst ev;obtain⟨nf,g1,T2,pm,c',ctv,oc',u1,u2,vs',t',o1,o2,o3,o4⟩:=md;obtain⟨hm2,ex2⟩:=aFg hm1 hP g1 T2;have hc2:H2 c=none:=I2.freeC _ c hc;obtain⟨m,_,hl⟩:=I2.loc;obtain⟨vg,eg,rg⟩:=re.get j _ e2;have egr:=aP rg;subst egr;obtain⟨ug,rug,lk⟩:=hl j eaS _ hNj eg (.inr (.inl hkc));have rug':ug=.ref g:=rug;subst rug';obtain⟨oc,hoc,hod⟩:s2.heap.IsCell c (some (.ref g)):=by
  rcases lk with⟨k1,_⟩|⟨_,c2,e,z⟩
  ·rw[hkc] at k1;cases k1
  ·rw[hc] at e;cases e;exact z
 have abv:X.s₀.heap.objs.size<=c:=I2.ok.cab _ c hfn hc;have nfs:∀b∈frs X.stack,b≠c:=λb hb z=>by
  rcases List.mem_cons.mp (I2.stkSub b hb) with e|hb
  ·exact I2.cne _ c hc (by rw[<- z];exact e)
  ·obtain⟨_,o,ho,_⟩:=I2.ok.funs.mem hb;rw[z] at ho;exact absurd (Nat.lt_of_lt_of_le (Heap.lt_size ho) abv) (Nat.lt_irrefl _)
 have e0:=I2.env0;have hok3:HOk X.prog X.w (upd H2 c (.frz oc (.own f))) s2.heap:=λb u e=>by
  by_cases z:b=c
  ·rw[z] at e ⊢;rw[bI] at e;cases e;exact⟨hoc,_,hoc⟩
  ·rw[aL z] at e;exact(I2.hok b u e).stay (λ_ _ _ q=>q) (λd q=>by rw[aL (aU q hc2)];exact q) λd xs q=>by rw[aL (aU q hc2)];exact q
 have e3:aDr X.prog X.w X.K X.mg X.base X.A X.stack s2 (upd H2 c (.frz oc (.own f))):=⟨e0.frames,e0.mod,λb o e=>⟨(e0.bs b o e).1,by
  rw[aL (λz=>by rw[z] at e;exact absurd (Nat.lt_of_lt_of_le (Heap.lt_size e) (Nat.le_trans I2.ok.bsz abv)) (Nat.lt_irrefl _))]
  exact(e0.bs b o e).2⟩,e0.bsz,e0.funs,λb hb=>by rw[aL (nfs b hb)];exact e0.frf b hb,hok3,e0.bare⟩
 have ex3:Ext H2 (upd H2 c (.frz oc (.own f))):=Ext.new hc2 _;have fc:f≠c:=aU o1 hc2;have hm3:bK X.K (putX M f [.ref g]) (upd H2 c (.frz oc (.own f))):=by
  have hn:=hm2.new hc2 (.frz oc (.own f));refine⟨λa ds q=>hn.l a ds (by rw[gE (by intro z;cases z)] at q;exact q),λa ds q=>hn.d a ds (by rw[gE (by intro z;cases z)] at q;exact q),λa ds q=>hn.o a ds (by rw[gE (by intro z;cases z)] at q;exact q),λa ds q=>?_⟩;by_cases z:a=f
  ·rw[z,pL] at q;cases q;rw[z];exact⟨q,a1,a2,b1,b2,b3,b4,b5,b6,b7,b8,c,c',pm,ctv,oc,oc',u1,u2,vs',t',by rw[aL fc];exact o1,bI,hod,by rw[aL (aU o2 hc2)];exact o2,o3,o4⟩
  ·rw[gE (λw=>z (AK.x.inj w))] at q;exact hn.x a ds q
 have rs3:bG X.K (upd H2 c (.frz oc (.own f))) [dx,.ref f] [v,.ref f]:=cC ((rd.ext ex2).ext ex3) (cC dH cN);have hMf:M (.x f)=none:=hm1.freshX nf;have hsp:rM X.K sp [v,.ref f] (upd H2 c (.frz oc (.own f))) (LQ X.K (upd H2 c (.frz oc (.own f))) λd M'=>Q' d (qQ M' f)) E0:=⟨[dx,.ref f],putX M f [.ref g],_,rs3,hm3,q0 f hMf,λ_ _ z=>z⟩;have hlen:us.length=ps.length:=by rw[<- rv.length];exact F.len _ _ _ _ hsp
 have bnd:=hb s2 us I2.kIn (by rw[append_nil];exact hlen);rw[append_nil] at bnd;refine wpAny_call (codeAny_mono (F.run X.A X.stack s2 _ ⟨us,[]⟩ us [v,.ref f] _ E0 (hr.mono hjk) e3 bnd rv hsp) λr s' hq=>?_);cases r with
 |error e=>exact False.elim hq
 |ok fl =>
  cases fl with
  |ret u =>
   obtain⟨v',H4,os,bare,un,hok4,rv',d,M4,rd4,hm4,ex4,q4⟩:=hq;have f4:H4 c=some (.frz oc (.own f)):=ex4.frz c _ _ bI;refine I2.after ⟨v',jU H4 c,os,bare,aF4 hoc hc2 un hok4,aAV hok4 f4,rv',kq _ _ ⟨d,qQ M4 f,rd4.extS (aBC f4),aAJ hm4 f4 hod,?_,q4⟩⟩;have all:=((ex1.trans ex2).trans ex3).trans ex4;have nc:∀{a:Addr}{o:HO},H a=some o->a≠c:=λe=>aU e (I.freeC _ c hc);exact⟨λa xs e=>by rw[eS (nc e)];exact all.tup a xs e,λa o y e=>by rw[eS (nc e)];exact all.frz a o y e⟩
  |next=>exact False.elim hq
  |brk=>exact False.elim hq
  |cont=>exact False.elim hq
end
section
variable {P:Program}{w:World}{K:Frag}{mg:Str->Option Value}{base:Heap}
noncomputable def cxL (P:Program)(w:World)(K:Frag)(mg:Str->Option Value)(base:Heap)(q:Str)(f c c':Addr)(A:Around)(outer:List Env)(s:Shared)(H:Hp):Cx where
 prog:=P
 w:=w
 K:=K
 mg:=mg
 base:=base
 A:=A.deeper (envX q pQ s.heap.objs.size f (.ref c') [(eaS,c)])
 N:=["one","other",eaS]
 s₀:=s
 H₀:=H
 env:=envX q pQ s.heap.objs.size f (.ref c') [(eaS,c)]
 outer:=outer
 stack:=envX q pQ s.heap.objs.size f (.ref c') [(eaS,c)]::outer
 ex:=[]
 calm:=true
 fn:=λ_=>false
 pn:=[]
 xe:=λ_ _=>False
theorem lk1 {x:Str}{c d:Addr}(h:List.lookup x [(eaS,c)]=some d):x=eaS/\d=c:=by
 rw[lookup_cons] at h;cases e:x==eaS with
 |true=>rw[e] at h;exact⟨eq_of_beq e,(Option.some.inj h).symm⟩
 |false=>rw[e] at h;cases h
theorem aEE {x:Str}(h:pQ.names.lookup x=some .cell∨pQ.names.lookup x=some .free):x=eaS:=by
 have:pQ.names.lookup x=if x==("one":Str) then some .local else if x==("other":Str) then some .local else if x==eaS then some .free else none:=by unfold pQ;rw[lookup_cons,lookup_cons,lookup_cons];cases x==("one":Str)<;>cases x==("other":Str)<;>cases x==eaS<;>rfl
 rw[this] at h;cases e:x==eaS with
 |true=>exact eq_of_beq e
 |false =>
  rw[e] at h;rcases h with h|h;all_goals (split at h;cases h;split at h;cases h;cases h)
theorem aGC {A:Around}{outer:List Env}{s:Shared}{H:Hp}{M:DM}{f g:Addr}{u1 u2:Value}{v1 v2:V}{d1 d2:D}{n:Str}{ps:List Str}{sp:DSp}{Q:DQ}{E:XK}{j k:Nat}(hr:dZ (k+1) A)(hjk:j<=k)(e0:aDr P w K mg base A outer s H)(hm:bK K M H)(hx:M (.x f)=some [.ref g])(hmg:mg n=some (.ref g))(hh:Has P w K mg base j n ps sp)(r:bU [v1,v2] [u1,u2])(rd:bG K H [d1,d2] [v1,v2])(q:mO d1 (.int 0) (qQ M f) λx M3=>mO d2 (.int 0) M3 λy M4=>sp [x,y] M4 λd M'=>Q d (putX M' f [.ref g])) :
  codeAny (model P w) A (.call (.ref f) ⟨[u1,u2],[]⟩) (CR CX0 outer P w H s (LQ K H Q) E) s:=by
 obtain⟨qn,a1,a2,b1,b2,b3,b4,b5,b6,b7,b8,c,c',pm,ct,oc,oc',u,u',vs,t,h1,h4,h5,h6,h7,h8⟩:aIP H f g:=hm.x f _ hx;have hf:=(e0.hok f _ h1).1;have hc:s.heap.get? c=some oc:=(e0.hok c _ h4).1;have fc:f≠c:=λz=>by rw[z,hc] at hf;have:=congrArg Obj.data (Option.some.inj hf);rw[h5] at this;cases this
 have cc:c'≠c:=λz=>by rw[z,h4] at h6;cases h6;rw[h5] at h7;cases h7
 have nfs:∀b∈frs outer,b≠c:=λb hb z=>by have:=e0.frf b hb;rw[z,h4] at this;cases this
 have lim:s.heap.NoLimit:=e0.mod.nolimit.keeps λb o e=>(e0.bs b o e).1;refine PySem.W.kla_callFunE hr.depth hf rfl rfl rfl rfl ⟨c',oc',vs,t,rfl,(e0.hok c' _ h6).1,h7,h8⟩ ?_;rw[show bindArgs _ ⟨[u1,u2],[]⟩=pure [(("one":Str),u1),(("other":Str),u2)] from rfl];refine wpAny_pure (wpAny_newFunctionEnv (show ∀x∈pQ.names,x.2 ≠ .cell by decide) (λx hx=>?_) (λh₁ hns hsb=>⟨lim.fresh _ hsb,?_⟩) rfl)
 ·simp only[List.mem_cons,List.not_mem_nil,or_false] at hx;rcases hx with rfl|rfl<;>rfl
 show codeAny _ _ (.expr (aDA b1 b2 b3 b4 b5 b6 b7 b8) (envX qn pQ s.heap.objs.size f (.ref c') [(eaS,c)])) _ _;have hk₁:∀b o,s.heap.get? b=some o->h₁.get? b=some o:=λb o e=>hsb.extBut b o (Nat.ne_of_lt (Heap.lt_size e)) (Heap.get?_push_of_some _ e);have del0:∀{b:Addr},H b=none->jU H c b=none:=λe=>by
  unfold jU;split
  ·rfl
  ·exact e
 have hokc:HOk P w (jU H c) s.heap:=aAV e0.hok h4;have I:Inv (cxL P w K mg base qn f c c' A outer s (jU H c)) [] [some v1,some v2,some (.ref g)] (jU H c) { s with heap:=h₁,toks:=s.toks+2 }:=by
  refine⟨⟨e0.mod,rfl,rfl,rfl,Nat.le_refl _,λx y d z1 z2=>?_,λx hx=>?_,λx d z=>(nomatch z),λ_=>hr.hd,Around.frames_deeper e0.frames,.inr ⟨rfl,rfl⟩,λb z=>(nomatch z),λb o e=>⟨(e0.bs b o e).1,del0 (e0.bs b o e).2⟩,e0.bsz,λb o _ z=>(nomatch z),λb z=>(nomatch z),e0.funs,λb hb=>del0 (e0.frf b hb)⟩,
   rfl,e0.bare,Un.kept hk₁,⟨_,hns,λi x v z1 z2 z3=>?_⟩,λx d z=>?_,del0 (e0.hok.fresh (Nat.le_refl _)),λx d z=>?_,λp hp=>absurd (show p∈([]:List (Addr×Obj)) from hp) (by simp),hokc.kept hk₁,rfl⟩
  ·exact(lk1 z1).1.trans (lk1 z2).1.symm
  ·exact⟨c,by rw[aEE hx];rfl⟩
  ·have cl:h₁.IsCell c (some (.ref g)):=⟨oc,hk₁ c oc hc,h5⟩;cases r with
   |cons r1 r =>
    cases r with
    |cons r2 _ =>
     match i,z1,z2 with
     |0,z1,z2=>cases z1;cases z2;exact⟨u1,r1,.inl ⟨rfl,rfl⟩⟩
     |1,z1,z2=>cases z1;cases z2;exact⟨u2,r2,.inl ⟨rfl,rfl⟩⟩
     |2,z1,z2=>cases z1;cases z2;exact⟨.ref g,rfl,.inr ⟨.inr rfl,c,rfl,cl⟩⟩
     |i+3,z1,z2=>cases z1
  ·rw[(lk1 z).2];exact⟨_,oc,hk₁ c oc hc,h5⟩
  ·rw[(lk1 z).2];exact pC
 have body:=aBg (X:=cxL P w K mg base qn f c c' A outer s (jU H c)) (p:=b1) (pos:=b8) (j:=j) (k:=k) (aAm 2) (hr.deeper _) hjk (pM (aEU (pos:=b4) (aAm (pos:=b2) 0) (aBV (i:=0) (j:=0) (pos:=b3))) (pM (aEU (pos:=b7) (aAm (pos:=b5) 1) (aBV (i:=0) (j:=0) (pos:=b6))) zG));have hmc:bK K (qQ M f) (jU H c):=aAJ hm h4 h5;have rdc:=rd.extS (aBC (K:=K) h4);obtain⟨_,r',e',rv1,cH⟩:=aQ rdc;cases e';obtain⟨_,r',e',rv2,_⟩:=aQ cH;cases e';have re:gS K (jU H c) [some d1,some d2,some (.ref g)] [some v1,some v2,some (.ref g)]:=⟨rfl,λi d z=>by
  match i,z with
  |0,z=>cases z;exact⟨v1,rfl,rv1⟩
  |1,z=>cases z;exact⟨v2,rfl,rv2⟩
  |2,z=>cases z;exact⟨_,rfl,dH⟩
  |i+3,z=>cases z⟩
 refine PySem.W.kla_codeExpr (wpAny_mono (body [] _ _ (jU H c) (LQ K (jU H c) λd M'=>Q d (putX M' f [.ref g])) I ⟨[some d1,some d2,some (.ref g)],qQ M f,_,re,hmc,⟨n,ps,sp,hmg,hh,q⟩,λ_ _ z=>z⟩) (λv s' hs=>?_) (λe s' hs=>hs.elim));obtain⟨v',H',J,rv,d,M',rd',hm',ex,qq⟩:=hs;have nc:H' c=none:=J.freeC eaS c rfl;have fz:∀{a:Addr}{o:Obj} {y:HO},a≠c->H a=some (.frz o y)->H' a=some (.frz o y):=λn e=>ex.frz _ _ _ (by rw[eS n];exact e);have un:Un (frs outer) [] (jU H c) H' s.heap s'.heap:=J.base;have kc:s'.heap.get? c=some oc:=un.keep c oc hc pC (λz=>nfs c z rfl) (λz=>nomatch z);have ne:∀{a:Addr}{o:HO},H' a=some o->a≠c:=λe=>aU e nc;refine⟨v',upd H' c (.frz oc (.own f)),J.os,J.bare,⟨λb o e n hb hx=>un.keep b o e (del0 n) hb hx,λb o e n hb hx=>un.slot b o e (del0 n) hb hx,λb o e n hx=>?_,un.there,λb xs e=>?_,λb o y e=>?_,λb ps e=>?_⟩,λb o e=>?_,rv,d,putX M' f [.ref g],rd'.ext (Ext.new nc _),?_,⟨λa xs e=>?_,λa o y e=>?_⟩,qq⟩
 ·have bc:b≠c:=λz=>by rw[z,h4] at n;cases n
  rw[aL bc];exact un.free b o e (del0 n) hx
 ·have bc:b≠c:=λz=>by rw[z,h4] at e;cases e
  rw[aL bc];exact un.tups b xs (by rw[eS bc];exact e)
 ·by_cases bc:b=c
  ·rw[bc] at e ⊢;rw[h4] at e;cases e;exact bI
  ·rw[aL bc];exact un.frzs b o y (by rw[eS bc];exact e)
 ·have bc:b≠c:=λz=>by rw[z,h4] at e;cases e
  rw[aL bc];exact un.tbls b ps (by rw[eS bc];exact e)
 ·by_cases bc:b=c
  ·rw[bc] at e ⊢;rw[bI] at e;cases e;exact⟨kc,_,kc⟩
  ·rw[aL bc] at e;exact(J.hok b o e).stay (λ_ _ _ q=>q) (λd q=>by rw[aL (ne q)];exact q) λd xs q=>by rw[aL (ne q)];exact q
 ·have hn:=hm'.new nc (.frz oc (.own f));refine⟨λa ds q=>hn.l a ds (by rw[gE (by intro z;cases z)] at q;exact q),λa ds q=>hn.d a ds (by rw[gE (by intro z;cases z)] at q;exact q),λa ds q=>hn.o a ds (by rw[gE (by intro z;cases z)] at q;exact q),λa ds q=>?_⟩;by_cases z:a=f
  ·rw[z,pL] at q;cases q;rw[z];exact⟨qn,a1,a2,b1,b2,b3,b4,b5,b6,b7,b8,c,c',pm,ct,oc,oc',u,u',vs,t,by rw[aL fc];exact fz fc h1,bI,h5,by rw[aL cc];exact fz cc h6,h7,h8⟩
  ·rw[gE (λw=>z (AK.x.inj w))] at q;exact hn.x a ds q
 ·have bc:a≠c:=λz=>by rw[z,h4] at e;cases e
  rw[aL bc];exact ex.tup a xs (by rw[eS bc];exact e)
 ·by_cases bc:a=c
  ·rw[bc] at e ⊢;rw[h4] at e;cases e;exact bI
  ·rw[aL bc];exact fz bc e
end
def yW (f g:Addr)(sp:DSp)(ds:List D)(M2:DM)(Q:DQ):Prop:=match ds with
 |[a,b]=>mO a (.int 0) (qQ M2 f) λx M3=>mO b (.int 0) M3 λy M4=>sp [x,y] M4 λd M'=>Q d (putX M' f [.ref g])
 |_=>False
def aBB (P:Program)(w:World)(K:Frag)(mg:Str->Option Value)(base:Heap)(j:Nat)(tf:DE)(ta:DA):DE:=λρ M Q=>tf ρ M λd M1=>match d with
 |.ref f=>∃g n ps sp,mg n=some (.ref g)/\Has P w K mg base j n ps sp/\M1 (.x f)=some [.ref g]/\ta ρ M1 λds M2=>M2 (.x f)=some [.ref g]/\yW f g sp ds M2 Q
 |_=>False
section
variable {X:Cx}
theorem aHP {pins:List (Addr×Obj)}{σ:L2.St}{H:Hp}{s:Shared}{M:DM}{f g:Addr}(I:Inv X pins σ H s)(hm:bK X.K M H)(hx:M (.x f)=some [.ref g]):PySem.W.FnAt f s.heap:=by obtain⟨qn,a1,a2,b1,b2,b3,b4,b5,b6,b7,b8,c,c',pm,ct,oc,oc',u,u',vs,t,h1,_⟩:aIP H f g:=hm.x f _ hx;exact⟨_,_,_,_,(I.hok f _ h1).1⟩
theorem aEN {x:Str}{p pos:Pos}{e:Expr}{es:List Expr}{tf:DE}{ta:DA}{j k:Nat}(hf:PDE X (.Name x p) tf)(hr:dZ k X.A)(hjk:j+1<=k)(ha:PDA X (e::es) ta)(he:starEach (e::es) X.env=(false,eval e X.env)::starEach es X.env:=by rfl)(hpl:(backTo pos (starEach es X.env)).any (·.1)=false:=by rfl):PDE X (.Call (.Name x p) (e::es) [] pos) (aBB X.prog X.w X.K X.mg X.base j tf ta):=by
 intro pins s σ H Q I ⟨ρ,M,Q',re,hm',q,kq⟩;refine wpAny_Call_Name_kw (thn (hf pins s σ H _ I ⟨ρ,M,_,re,hm',q,λ_ _ z=>z⟩) λu s1 ⟨y,H1,I1,ry,d1,M1,r1,hm1,e1,q1⟩=>?_);cases d1 with
 |ref f =>
  obtain⟨g,n,ps,sp,hmg,hh,hx1,q1⟩:=q1;rw[aP r1] at ry;cases ry;refine PySem.W.callWith_F (aHP I1 hm1 hx1) (thn (ha pos pins s1 σ H1 _ I1 ⟨ρ,M1,_,re.ext e1,hm1,q1,λ_ _ z=>z⟩) λus s2 ⟨vs,H2,I2,r2,ds,M2,rs,hm2,e2,hx2,q2⟩=>⟨aHP I2 hm2 hx2,?_⟩) he hpl;unfold yW at q2;split at q2
  case h_2=>exact q2.elim
  rename_i a b;obtain⟨v1,r',e',rv1,cH⟩:=aQ rs;subst e';obtain⟨v2,r'',e',rv2,rest2⟩:=aQ cH;subst e';have e':=bH rest2;subst e';cases r2 with
  |cons q1' r2 =>
   cases r2 with
   |cons q2' r2 =>
    cases r2;obtain⟨k,rfl⟩:∃k',k=k'+1:=⟨k-1,by omega⟩;refine wpAny_call (codeAny_mono (aGC (E:=E0) hr (by omega) I2.env0 hm2 hx2 hmg hh (.cons q1' (.cons q2' .nil)) (cC rv1 (cC rv2 cN)) q2) λr s' hq=>?_);cases r with
    |error e=>exact False.elim hq
    |ok fl =>
     cases fl with
     |ret u =>
      obtain⟨v,H',J,rv,z⟩:=I2.after hq;exact⟨v,H',J,rv,kq v H' (z.back (e1.trans e2))⟩
     |next=>exact False.elim hq
     |brk=>exact False.elim hq
     |cont=>exact False.elim hq
 |_=>exact q1.elim
end
section
variable {P:Program}{w:World}{K:Frag}{mg:Str->Option Value}{base:Heap}
def aEL (K:Frag)(mg:Str->Option Value)(base:Heap)(x:Str)(p:Addr):Prop:=∀f oc od fd osl,mg x=some (.ref f)->K.lookup f=some ⟨oc,od,.func fd,osl⟩->∃cd,fd.code=.ref cd/\CodeHd base cd p/\base.BuiltinsAt mg p
theorem Has.mkL {x:Str}{st:Stmt}{N ps:List Str}{k:Nat}{sp:DSp}{p:Addr}(h:cM K mg x st ps)(T:aEL K mg base x p)(S:aS N ps (aI st))(len:∀ds M Q,sp ds M Q->ds.length=ps.length)(hbody:∀(f:Addr)(cdv:Value) (A:Around) (outer:List Env) (s:Shared) (H:Hp) (ds:List D) (M:DM) (Q:DQ) (E:XK),dZ k (A.deeper (envOfC x (aI st) s.heap.objs.size f cdv))->aCA (sT CX0 P w K mg base N x (aI st) f cdv A outer s H E).nox p->sp ds M Q ->
   ∃t,ZSs (sT CX0 P w K mg base N x (aI st) f cdv A outer s H E).nox (fZ st) t/\t { nx:=λ_ M'=>Dn Q .non M',rt:=Dn Q } (jR N ds) M):Has P w K mg base (k+1) x ps sp:=by
 obtain⟨f,fd,F,hm,hb⟩:=h;have kp:=F.kp;obtain⟨oc,od,kV,doc,pm,an,cdv,ct,osl,rfl,lk,hcd⟩:=F.ex;have tb:=T f _ _ _ _ hm lk;refine⟨f,_,aHG lk hcd S (λvs H Q E ⟨ds,M,Q',rs,_,q,_⟩=>by rw[<- rs.length];exact len ds M Q' q) λA outer s H vs Q E hr ⟨ds,M,Q',rs,hm',q,k'⟩=>?_,hm,kp,hb⟩;obtain⟨t,h1,h2⟩:=hbody f cdv A outer s H ds M Q' E hr tb q;have fin:∀v H',LQ K H (Dn Q') v H'->Q v H':=λv H' ⟨d,M1,rd,hm1,ex,M2,sub,q2⟩=>k' v H' ⟨d,M2,rd,hm1.sub sub,ex,q2⟩;exact⟨_,h1.o.nox,jR N ds,M,_,wO rs N,hm',h2,⟨λσ' H' ⟨ρ',M',_,hm',ex,q'⟩=>fin _ H' ⟨.non,M',uV,hm',ex,q'⟩,fin,λσ' H' ⟨_,_,_,_,_,z⟩=>z.elim,λσ' H' ⟨_,_,_,_,_,z⟩=>z.elim⟩⟩
end
theorem aDk {P:Program}{w:World}{K:Frag}{mg mb:Str->Option Value}{k:Nat}{fa a:Addr}{fd:FuncData}{x:Str}{sp:DSp}{s₁:Shared}{vs:List Value}{ns:List Int}{tabs:List (Addr×Addr×Str)}(KX:K.In s₁.heap)(hns:s₁.heap.Ns mainGlobals mg)(hb:s₁.heap.Ns builtinsNs mb)(hbb:∀x:Str,x ≠ "__name__"->mb x=bootBuiltins x)(hlim:s₁.heap.NoLimit)(hg:s₁.gens=#[])(ha:s₁.heap.get? a = some { cls:=.type "list",data:=.seq vs.toArray })(hi:IntsAre vs ns)(hl:ns.length<=sizeLine)(hr:dZ k callerA)(hK:PySem.W.noTabs K=true)(hT:∀t∈tabs,CodeHd s₁.heap t.1 t.2.1/\s₁.heap.get? t.2.1=some (tabObj #[]))(nd:(tabs.map (·.2.1)).Nodup)(hB:∃bm o,mg "__builtins__" = some (.ref bm)/\bm≠builtinsNs/\s₁.heap.get? bm = some o/\o.cls = .type "module"/\o.dict=some builtinsNs/\o.data=.plain)(F:∀base:Heap,K.In base->base.Ns mainGlobals mg->(∀t∈tabs,CodeHd base t.1 t.2.1/\base.BuiltinsAt mg t.2.1)->mX P w K mg base CX0 k fa fd [x] (rM K sp))(hbind:∀(s:Shared)(u:Value),BindsTo s fd ⟨[u],[]⟩ [(x,u)])(hsp:∀M:DM,(∀t∈tabs,M (.x t.2.1)=some [.str t.2.2])->sp [.fz (ns.map D.int)] M λd _=>d=.bl true) :
  codeAny (model P w) callerA (.call (.ref fa) ⟨[.ref a],[]⟩) (λr s'=>r=.ok (.ret (.bool true))/\OldK s₁.heap s'.heap/\s'.os=s₁.os/\AllBare s'.gens) s₁:=by
 have rv:=xJ hi;have lenV:=hi.length;have aT:∀{t},t∈tabs->t.2.1≠a:=λ{t} ht z=>by have:=(hT t ht).2;rw[z,ha] at this;cases this
 have core:∀(S:Option HO)(H:Hp),(∀b,H b = if b = a then S else if b∈tabs.map (·.2.1) then some (.tbl #[]) else none)->(S = none∨S = some (.frz { cls:=.type "list",data:=.seq vs.toArray } (.lst (ns.map V.int))))->SqX K H a (ns.map V.int)->(S≠none->K.lookup a=none) ->
   codeAny (model P w) callerA (.call (.ref fa) ⟨[.ref a],[]⟩) (λr s'=>r=.ok (.ret (.bool true))/\OldK s₁.heap s'.heap/\s'.os=s₁.os/\AllBare s'.gens) s₁:=by
  intro S H hH hS hsq hKa;have Ha:H a=S:=by rw[hH,if_pos rfl]
  have Ht:∀{t},t∈tabs->H t.2.1=some (.tbl #[]):=λ{t} ht=>by rw[hH,if_neg (aT ht),if_pos (List.mem_map_of_mem ht)]
  have cas:∀b u,H b=some u->(b=a/\S=some u) ∨ ∃t∈tabs,t.2.1=b/\u=.tbl #[]:=λb u e=>by
   rw[hH] at e;split at e
   ·rename_i z;exact .inl ⟨z,e⟩
   ·split at e
    ·rename_i z;obtain⟨t,ht,z⟩:=List.mem_map.mp z;exact .inr ⟨t,ht,z,(Option.some.inj e).symm⟩
    ·cases e
  have non:∀{b:Addr}{o:Obj},s₁.heap.get? b=some o->(∀q,o.data ≠ .seq vs.toArray q)->o≠tabObj #[]->H b=none:=λ{b o} e n1 n2=>by
   cases q:H b with
   |none=>rfl
   |some u =>
    rcases cas b u q with⟨z,_⟩|⟨t,ht,z,_⟩
    ·rw[z,ha] at e;cases e;exact absurd rfl (n1 _)
    ·rw[<- z,(hT t ht).2] at e;cases e;exact absurd rfl n2
  have hok:HOk P w H s₁.heap:=λb u e=>by
   rcases cas b u e with⟨z,zs⟩|⟨t,ht,z,zu⟩
   ·rcases hS with y|y
    ·rw[y] at zs;cases zs
    ·rw[y] at zs;cases zs;rw[z];exact⟨ha,by rw[length_map];exact hl,vs,_,rv,ha⟩
   ·rw[zu,<- z];exact(hT t ht).2
  have base_of:∀{b:Addr}{o:Obj},s₁.heap.get? b=some o->H b=none->(vB s₁.heap H).get? b=some o:=λe n=>aFG e n;have nsK:∀{b:Addr}{m:Str->Option Value},s₁.heap.Ns b m->(vB s₁.heap H).Ns b m:=λ{b m} ⟨o,es,ep,e,d,r⟩=>⟨o,es,ep,base_of e (non e (λq z=>by rw[d] at z;cases z) (λz=>by rw[z] at d;cases d)),d,r⟩;have hKb:K.In (vB s₁.heap H):=λb o e=>base_of (KX b o e) (by
   cases q:H b with
   |none=>rfl
   |some u =>
    rcases cas b u q with⟨z,zs⟩|⟨t,ht,z,_⟩
    ·rw[z,hKa (by rw[zs];simp)] at e;cases e
    ·have e2:=KX b o e;rw[<- z,(hT t ht).2] at e2;cases e2;have h2:=List.all_eq_true.mp hK (b,tabObj #[]) (PySem.W.mem_of_lookupK e);exact absurd (show false=true from h2) Bool.false_ne_true)
  have hM:Mod K mg (vB s₁.heap H):=⟨hKb,nsK hns,⟨mb,nsK hb,hbb⟩,let ⟨mc,h1,h2⟩:=hlim;⟨mc,nsK h1,h2⟩⟩;have e0:aDr P w K mg (vB s₁.heap H) callerA [] s₁ H:=⟨rfl,hM,λb o e=>aHy e,Nat.le_of_eq (aCZ _ _),trivial,λb hb=>absurd (show b∈([]:List Addr) from hb) (by simp),hok,.of_eq hg⟩;have hCB:∀t∈tabs,CodeHd (vB s₁.heap H) t.1 t.2.1/\(vB s₁.heap H).BuiltinsAt mg t.2.1:=λt ht=>by
   obtain⟨o,ws,file,tf,flags,tg,inF,text,tt,e1,r1,r2,r⟩:=(hT t ht).1;refine⟨⟨o,ws,file,tf,flags,tg,inF,text,tt,base_of e1 (non e1 (λq z=>by rw[r2] at z;cases z) (λz=>by rw[z] at r1;cases r1)),r1,r2,r⟩,?_⟩;obtain⟨bm,ob,c1,c2,c3,c4,c5,c6⟩:=hB;refine⟨bm,ob,c1,c2,λz=>?_,λz=>?_,base_of c3 (non c3 (λq z=>by rw[c6] at z;cases z) (λz=>by rw[z] at c4;cases c4)),c4,c5,c6⟩
   ·obtain⟨o',es,ep,e,d,_⟩:=hns;rw[z,e] at c3;cases c3;rw[d] at c6;cases c6
   ·rw[z,(hT t ht).2] at c3;cases c3;cases c4
  have fnd:∀{l:List (Addr×Addr×Str)},(l.map (·.2.1)).Nodup->∀t∈l,l.find? (λy=>y.2.1==t.2.1)=some t:=λ{l}=>by
   induction l with
   |nil=>intro _ t h;cases h
   |cons y l ih =>
    intro n t ht;rw[map_cons,List.nodup_cons] at n;rcases List.mem_cons.mp ht with z|z
    ·rw[z,List.find?_cons_of_pos (by simp)]
    ·rw[List.find?_cons_of_neg (by intro w;exact n.1 (by rw[eq_of_beq w];exact List.mem_map_of_mem z))]
     exact ih n.2 t z
  have hrep:bK K (λb=>match b with|.x p=>(tabs.find? λy=>y.2.1==p).map λt=>[.str t.2.2]|_=>none) H:=by
   refine⟨λ_ _ z=>(by cases z),λ_ _ z=>(by cases z),λ_ _ z=>(by cases z),λp ds z=>?_⟩;obtain⟨t,ht,rfl⟩:=Option.map_eq_some_iff.mp z;have m:=List.mem_of_find?_eq_some ht;have e:t.2.1=p:=by have:=List.find?_some ht;exact eq_of_beq this
   exact⟨#[],by rw[<- e];exact Ht m,trivial,λpos v z=>by cases z⟩
  refine codeAny_mono ((F _ hKb (nsK hns) hCB).run callerA [] s₁ H ⟨[.ref a],[]⟩ [.ref a] [.ref a] _ E0 hr e0 (hbind s₁ (.ref a)) (.cons rfl .nil) ⟨[.fz (ns.map D.int)],_,_,cC (by unfold Rep;exact⟨a,_,rfl,hsq,xU ns⟩) cN,hrep,hsp _ λt ht=>by show(tabs.find? λy=>y.2.1==t.2.1).map _=_;rw[fnd nd t ht];rfl,λ_ _ z=>z⟩) λr s' h=>?_
  cases r with
  |error e=>exact False.elim h
  |ok fl =>
   cases fl with
   |next=>exact False.elim h
   |brk=>exact False.elim h
   |cont=>exact False.elim h
   |ret u =>
    obtain⟨v,H',os,bare,un,hok',r',d,M',rd,_,_,q⟩:=h;have q':d=.bl true:=q;subst q';have e':=cB rd;subst e';obtain rfl:u=Value.bool true:=r';have got:∀b o,s₁.heap.get? b=some o->s'.heap.get? b=some o ∨ ∃t∈tabs,t.2.1=b/\o=tabObj #[]/\∃more,s'.heap.get? b=some (tabObj (#[]++more)):=λb o e=>by
     cases q:H b with
     |none=>exact .inl (un.keep b o e q (by intro z;exact absurd (show b∈([]:List Addr) from z) (by simp)) (by simp))
     |some u =>
      rcases cas b u q with⟨z,zs⟩|⟨t,ht,z,zu⟩
      ·rcases hS with y|y
       ·rw[y] at zs;cases zs
       ·rw[y] at zs;cases zs;obtain⟨e1,_⟩:=hok b _ q;obtain⟨e2,_⟩:=hok' b _ (un.frzs b _ _ q);rw[e] at e1;cases e1;exact .inl e2
      ·rw[zu] at q;obtain⟨more,z2⟩:=un.tbls b _ q;refine .inr ⟨t,ht,z,?_,more,hok' b _ z2⟩;rw[<- z,(hT t ht).2] at e;cases e;rfl
    refine⟨rfl,⟨λb o e=>?_,λb o e=>?_⟩,os,bare⟩
    ·rcases got b o e with z|⟨t,ht,rfl,rfl,more,z⟩
     ·exact .inl z
     ·exact .inr (.inl ⟨((hT t ht).1.tab (hT t ht).2).isCodeTable,rfl,#[],more,rfl,z⟩)
    ·rcases got b o e with z|⟨t,ht,rfl,rfl,more,z⟩
     ·exact⟨_,z⟩
     ·exact⟨_,z⟩
 cases hk:K.lookup a with
 |some o =>
  have e:=KX a o hk;rw[ha] at e;cases e;exact core none _ (λb=>rfl) (.inl rfl) (.inr ⟨_,_,hk,by rw[size_toArray,lenV];exact hl,by simpa using rv⟩) λz=>absurd rfl z
 |none=>exact core _ _ (λb=>rfl) (.inr rfl) (.inl ⟨{ cls:=.type "list",data:=.seq vs.toArray },if_pos rfl⟩) λ_=>hk
theorem walk_ofL {l:PySem.W.OpenLaw}{n k:Nat}{q:Program}{loose:List Str}{XP:(Str->Option Value)->Heap->Prop}{YP:World->Heap->Prop}{d:DefRec}{K:Params->Frag}{sp:DSp}{x:Str}{tabs:List (Addr×Addr×Str)}(hn:l.most=some n)(hn2:n<=sizeLine)(hdf:d.params.defaults=[])(hr:dZ k callerA)(hY:∀(w:World)(h:Heap),YP w h->(K w.params).In h)(hK:∀w:World,PySem.W.noTabs (K w.params)=true)(nd:(tabs.map (·.2.1)).Nodup)(hT:∀(w:World)(h:Heap),YP w h->∀t∈tabs,CodeHd h t.1 t.2.1/\h.get? t.2.1=some (tabObj #[]))(F:∀(w:World)(mg:Str->Option Value) (fa:Addr) (h:Heap),(K w.params).In h->h.Ns mainGlobals mg->mg d.name=some (.ref fa) ->
   ∃fd:FuncData,(∀(s:Shared)(u:Value),BindsTo s fd ⟨[u],[]⟩ [(x,u)]) /\
    ∀base:Heap,(K w.params).In base->base.Ns mainGlobals mg->(∀t∈tabs,CodeHd base t.1 t.2.1/\base.BuiltinsAt mg t.2.1)->mX l.prog w (K w.params) mg base CX0 k fa fd [x] (rM (K w.params) sp))(hsp:∀(ns:List Int),ns.length<=n->∀M:DM,(∀t∈tabs,M (.x t.2.1)=some [.str t.2.2])->sp [.fz (ns.map D.int)] M λd _=>d=.bl true) :
  PySem.W.WalkO q loose XP YP l.row.toRowW d [] (λf vs=>PySem.call f vs):=by
 refine Att.attach_call hn hdf λw s₀ s₁ mg mb fa o pm cd doc a vs ns G Y ho hd hcd hmg hobj hints hlen hg=>?_;have KX:=hY w _ Y;obtain⟨fd,hb,hF⟩:=F w mg fa _ KX G.T.g hmg;exact aDk KX G.T.g G.T.b G.T.builtins G.T.nolimit hg hobj hints (Nat.le_trans hlen hn2) hr (hK w) (hT w _ Y) nd (let ⟨bm,ob,b1,b2,b3,b4,b5,b6⟩:=G.T.bmain;⟨bm,ob,b1,b2,b3,b4,b5,b6⟩) hF hb (hsp ns hlen)
section
variable {X:Cx}{pins:List (Addr×Obj)}{σ:L2.St}{H:Hp}{s:Shared}
variable {P:Program}{w:World}{H2:Hp}{h h':Heap}{c f:Addr}{oc:Obj}{K:Frag}{M:DM}{fs:List Addr}{u:HO}
end
section
variable {X:Cx}
theorem aBi {fn xs:Str}{pf px pos pl a1 a2 b1 b2 b3 b4 b5 b6 b7 b8:Pos}{i j jj k:Nat}{ps:List Str}{sp:DSp}{p:Addr}{q:Str}(h:Has X.prog X.w X.K X.mg X.base jj fn ps sp)(hr:dZ k X.A)(hjk:jj<=k)(ht:aCA X p)(hx:ZE X (.Name xs px) (aBO i))(hNj:X.N[j]? = some eaS:=by rfl)(hkc:X.env.kindOf eaS = some .cell:=by rfl)(hfn:X.fn eaS = true:=by rfl)(hq:X.env.qual ++ "<lambda>"=q:=by rfl)(hg:Gl X fn:=by rfl)(hdb:(fn==("__debug__":Str))=false:=by decide):ZE X (.Call (.Name fn pf) [.Name xs px,.Lambda (aEB a1 a2) (aDA b1 b2 b3 b4 b5 b6 b7 b8) pQ pl] [] pos) (rP sp i j p q):=.i (aBD (i:=i) (j:=j) (jj:=jj) (k:=k) h hr hjk ht hx.o hNj hkc hfn hq hg hdb)
end
section
variable {P:Program}{w:World}{K:Frag}{mg:Str->Option Value}{base:Heap}
end
section
variable {X:Cx}
theorem aCX {x:Str}{p pos:Pos}{e:Expr}{es:List Expr}{tf:DE}{ta:DA}{j k:Nat}(hf:ZE X (.Name x p) tf)(hr:dZ k X.A)(hjk:j+1<=k)(ha:ZA X (e::es) ta)(he:starEach (e::es) X.env=(false,eval e X.env)::starEach es X.env:=by rfl)(hpl:(backTo pos (starEach es X.env)).any (·.1)=false:=by rfl):ZE X (.Call (.Name x p) (e::es) [] pos) (aBB X.prog X.w X.K X.mg X.base j tf ta):=.i (aEN (j:=j) (k:=k) hf.o hr hjk ha.o he hpl)
end
section
variable {P:Program}{w:World}{K:Frag}{mg:Str->Option Value}{base:Heap}
end
end Dd
namespace PySem
section
variable {prog:Program}{w:World}{K:Type}[DecidableEq K]{knd:HeapKind prog w K}{A:Around}{E:Value->Shared->Prop}{s:Shared}
theorem jT {d a:Addr}{xs:List (K×Addr×Value)}{k:K}{v:Value}{Q:Value->Shared->Prop}(hu:knd.room A)(hkey:knd.is s.heap k a)(hm:s.heap.DictOfH knd d xs)(h1:∀p,atKey xs k=some p->Q p.2 { s with toks:=s.toks+knd.draws k })(h2:atKey xs k=none->∀h',h'.DictOfH knd d (storedH xs k a v)->Heap.SameBut d s.heap h'->Q v { s with heap:=h',toks:=s.toks+knd.draws k })(hsz:xs.length<=sizeLine):wpAny (model prog w) A (dictSetDefault d (.ref a) v) Q E s:=by
 obtain⟨o,es,ep,ho,hc,hd,he,his,hn⟩:=hm;unfold dictSetDefault;try with_reducible refine wpAny_holding ?_
 refine wpAny_bind (knd.pyHash hu hkey ?_);refine wpAny_bind (wpAny_dictFind_heap (s:={ s with toks:=s.toks+knd.draws k }) hu hkey ho hd he his hn ?_ ?_)
 ·intro hno;have hnot:k∉xs.map (·.1):=not_mem_keys_of_get hno;refine wpAny_bind (wpAny_rule (wpAny_bind (wpAny_updateDictKeys (hz:=by have e:=size_of_entries he;omega) (s:={ s with toks:=s.toks+knd.draws k }) ho hd (wpAny_pure (h2 (atKey_none_of_get hno) _ ⟨_,_,ep+1,Heap.get?_update_self _ ho (Obj.isFreed_of_dict (Obj.data_mapDictKeys hd _)),
   hc.mapDictKeys _,Obj.data_mapDictKeys hd _,?_,?_,?_⟩ (Heap.SameBut.update ..))))))
  ·rw[storedH_new (atKey_none_of_get hno)];simp[he,entryOfKey]
  ·rw[storedH_new (atKey_none_of_get hno)];intro x hx;rcases List.mem_append.mp hx with hx|hx
   ·exact knd.keeps (his x hx) ho hd (Heap.SameBut.update ..)
   ·simp only[mem_singleton] at hx;subst hx;exact knd.keeps hkey ho hd (Heap.SameBut.update ..)
  ·rw[storedH_new (atKey_none_of_get hno)];rw[map_append,nodup_append];refine⟨hn,by simp,?_⟩;intro x hx y hy;simp only[map_cons,map_nil,mem_singleton] at hy;subst hy;exact λe=>hnot (e ▸ hx)
 ·intro j p hj;refine wpAny_bind (wpAny_dictEntries (s:={ s with toks:=s.toks+knd.draws k }) ho hd ?_);rw[entry_at he j,hj];exact wpAny_bind (wpAny_rule (wpAny_pure (h1 p (atKey_of_get hn hj))))
end
section
variable {prog:Program}{w:World}{K:Type}[DecidableEq K](knd:HeapKind prog w K)(d a:Addr)
theorem mE (hd:(d==sysModules)=false)(dflt:Value) :
  MeetsIn prog w (Builtin.«dict.setdefault» ⟨[.ref d,.ref a,dflt],[]⟩) (λA R s=>knd.room A.in1/\∃k xs,knd.is s.heap k a/\s.heap.DictOfH knd d xs/\xs.length<=sizeLine /\
   (∀p,atKey xs k=some p->R (.ok (.ret p.2)) { s with toks:=s.toks+knd.draws k }) /\
   (atKey xs k=none->∀h',h'.DictOfH knd d (storedH xs k a dflt)->Heap.SameBut d s.heap h'->R (.ok (.ret dflt)) { s with heap:=h',toks:=s.toks+knd.draws k })) :=
 .of_wp λA R s ⟨hu,k,xs,hkey,hm,hz,h1,h2⟩=>by unfold Builtin.«dict.setdefault»;refine wpAny_bind ?_;unfold Builtin.Dict.keyAndDefault;refine wpAny_bind (wpAny_notOrdered_dict hm.typeIs ?_);show wpAny _ _ (pure (d,Value.ref a,some dflt)) _ _ s;refine wpAny_pure ?_;show wpAny _ _ (if (d==sysModules)=true then _ else (dictSetDefault d (.ref a) dflt >>= _)) _ _ s;rw[if_neg (by rw[hd];exact Bool.false_ne_true)];exact wpAny_bind (jT hu hkey hm (λp hp=>wpAny_pure ⟨_,rfl,h1 p hp⟩) (λhn h' hm' hs'=>wpAny_pure ⟨dflt,rfl,h2 hn h' hm' hs'⟩) hz)
end
end PySem
namespace Dd
open PySem PySem.Spec PyProof.Rows L2
def aI1 (w:World)(a:Addr)(Q:DQ):List D->DM->Prop:=λds M=>match ds with
 |[k,dv]=>∃kvs,M (.d a)=some (fO w kvs)/\TK kvs/\kvs.length<1000/\aB0 k/\((∃d,wJ kvs k=some d/\Q d M)∨(k∉kvs.map (·.1)/\Q dv (tO M a (fO w (zU kvs k dv)))))
 |_=>False
def aBk (w:World)(to te ti:DE):DE:=λρ M Q=>to ρ M λx M1=>match x with
 |.ref a=>(∃kvs,M1 (.d a)=some (fO w kvs)/\TK kvs)/\gQ te (gQ ti pR) ρ M1 (aI1 w a Q)
 |_=>False
section
variable {X:Cx}{o e e2:Expr}{to te ti:DE}{apos cpos:Pos}{kr:Nat}
theorem aEQ (hr:dZ kr X.A)(ho:PDE X o to)(he:PDE X e te)(hi:PDE X e2 ti)(hbase:attributeBase o "setdefault" X.env (eval o X.env)=eval o X.env:=by rfl)(hfew:((backTo cpos (starEach [e,e2] X.env)).all (λx=>!x.1)&&(backToKw cpos (keywordEach [] X.env)).all (λx=>x.1.isSome)
  &&decide ([e,e2].length+([]:List Keyword).length+(if ([]:List Keyword).isEmpty then 0 else 1)<30))=true:=by rfl)(hline:(apos.endLine==cpos.line)=true:=by rfl)(hs:starEach [e,e2] X.env=(false,eval e X.env)::starEach [e2] X.env:=by rfl)(hs2:starEach [e2] X.env=(false,eval e2 X.env)::starEach [] X.env:=by rfl)(hplain:(backTo cpos (starEach [e2] X.env)).any (·.1)=false:=by rfl) :
  PDE X (.Call (.Attribute o "setdefault" apos) [e,e2] [] cpos) (aBk X.w to te ti):=by
 intro pins s σ H Q I ⟨ρ,M,Q',re,hm',q,kq⟩;refine wpAny_Call_method_late hbase hfew hline rfl (thn (ho pins s σ H (LQ X.K H _) I ⟨ρ,M,_,re,hm',q,λ_ _ z=>z⟩) λu0 s0 ⟨y0,H0,I0,ry0,d0,M0,r0,hm0,e0,q0⟩=>?_)
 match d0,q0 with
 |.ref a,q0 =>
  obtain⟨⟨kvs0,ha0,tk0⟩,q0⟩:=q0;rw[aP r0] at ry0;cases ry0;obtain⟨xs0,hH0,hx0,hd0,hsy0,lx0⟩:=uR I0 hm0 ha0 tk0;have nod:∀b,Value.ref a=.ref b->∃o,s0.heap.get? b=some o/\o.dict=none:=λb z=>by cases z;obtain⟨o,_,_,ho,hc,_⟩:=hd0;exact⟨o,ho,hc.2.1⟩
  refine⟨"dict","dict.setdefault",PySem.F.plainAttrs_dict,PySem.F.slot_dict_setdefault,PySem.F.type_dict_setdefault,hd0.typeIs,nod,?_⟩;have hA:=(pM he (pM hi zG hs2) hs:PDA X [e,e2] (gQ te (gQ ti pR))) cpos pins s0 σ H0 (LA X.K H0 (aI1 X.w a Q')) I0 ⟨ρ,M0,_,re.ext e0,hm0,q0,λvs H' z=>z⟩;rw[hs] at hA ⊢;refine Calls.callWith_builtin (by show(false||(backTo cpos (starEach [e2] X.env)).any (·.1))=false;rw[hplain]<;>rfl) (Calls.evalArgs_plain (thn hA λus s1 ⟨vs,H1,I1,rv,ds,M1,rs,hm1,ex,q1⟩=>?_))
  match ds,q1 with
  |[k,dv],q1 =>
   obtain⟨kvs,ha,tk,hl,hk,q1⟩:=q1;obtain⟨v1,r2,rfl,hv1,r3⟩:=aQ rs;obtain⟨v2,r4,rfl,hv2,r5⟩:=aQ r3;obtain rfl:=bH r5;obtain⟨u1,u2,rfl,ru1,ru2⟩:=rv.two;obtain⟨b,rfl⟩:=uU hk hv1;cases ru1;obtain⟨xs,hH,hx,hd,hsy,lx⟩:=uR I1 hm1 ha tk;have lx':=Paired.len hx;have hz':xs.length<sizeLine:=by rw[<- lx'];exact eA (Nat.le_of_lt hl)
   refine call_meetsIn PySem.F.slot_dict_setdefault hd.typeIs PySem.F.entry_dict_setdefault (PySem.F.args_dict_setdefault_3 _ _ _) (mE (oI X.prog X.w) a b hsy u2) ⟨by have:=aCb hr;show X.A.units+1+6<cLine;omega,k,xs,⟨hk.2,mL I1 hk.2 hv1 rfl⟩,hd,lx,λp hp=>?_,λhn h' hd' hsb=>?_⟩
   ·rcases q1 with⟨d,hg,q1⟩|⟨nk,_⟩
    ·obtain⟨p',vv,e1,qv,rv'⟩:=yZ hx hg;rw[hp] at e1;cases e1;exact⟨vv,H1,I1.tok _,qv,kq _ _ ⟨d,M1,rv',hm1,e0.trans ex,q1⟩⟩
    ·have:=aCC (k:=k) hx;rw[hp,decide_eq_false nk] at this;cases this
   ·rcases q1 with⟨d,hg,_⟩|⟨nk,q1⟩
    ·obtain⟨p',vv,e1,_⟩:=yZ hx hg;rw[hn] at e1;cases e1
    ·obtain⟨I',en⟩:=yC (tk:=s1.toks+(oI X.prog X.w).draws k) I1 hH hx hsy hz' hv1 ru2 hv2 hd' hsb;have exP:=Ext.putX hH (.ext (cL a ((storedH xs k b u2).map (entryOfKey (oI X.prog X.w)))));exact⟨v2,_,I',ru2,kq _ _ ⟨dv,_,hv2.ext exP,hm1.kput hH en,(e0.trans ex).trans exP,q1⟩⟩
theorem aEo (I:Inv X pins σ H s){a:Addr}{M:DM}{kvs:List (D×D)}(hm:bK X.K M H)(ha:M (.x a)=some (.bl true::fO X.w kvs))(tk:TK kvs) :
  ∃xs,Paired (KX X.K H) kvs xs/\s.heap.DictOfH (oI X.prog X.w) a xs:=by
 obtain⟨o,es,ep,ho,hH,hr⟩:aJM X.K H a (fO X.w kvs):=hm.x a _ ha;obtain⟨xs,h1,rfl,h3⟩:=aB6 I tk.key hr;obtain⟨_,⟨hs,hz,ep,e⟩,_⟩:=I.hok a _ hH;refine⟨xs,h1,⟨_,_,ep,e,⟨rfl,rfl,rfl⟩,rfl,by rw[List.toList_toArray],h3,?_⟩⟩;rw[<- yT h1];exact tk.nd
def aIb (w:World)(te ti:DE):DE:=λρ M Q=>te ρ M λx M1=>ti ρ M1 λi M2=>match x with
 |.ref a=>∃kvs d,M2 (.x a)=some (.bl true::fO w kvs)/\TK kvs/\aB0 i/\wJ kvs i=some d/\Q d M2
 |_=>False
theorem aJ1 {e i:Expr}{te ti:DE}(hr:dZ kr X.A)(he:PDE X e te)(hi:PDE X i ti)(hs:rD i:=by intro _ _;rfl):PDE X (.Subscript e i pos) (aIb X.w te ti):=by
 intro pins s σ H Q I ⟨ρ,M,Q',re,hm',q,kq⟩;refine Subscript_ (thn (he pins s σ H (LQ X.K H _) I ⟨ρ,M,_,re,hm',q,λ_ _ z=>z⟩) λu0 s0 ⟨y0,H0,I0,ry0,d0,M0,r0,hm0,e0,q0⟩=>?_);refine thn (hi pins s0 σ H0 (LQ X.K H0 _) I0 ⟨ρ,M0,_,re.ext e0,hm0,q0,λ_ _ z=>z⟩) λu s1 ⟨y,H1,I1,ry,d1,M1,r1,hm1,e1,q1⟩=>?_
 match d0,q1 with
 |.ref a,q1 =>
  obtain⟨kvs,d,ha,tk,hk,hf,q1⟩:=q1;rw[aP r0] at ry0;cases ry0;obtain⟨b,rfl⟩:=uU hk r1;cases ry;obtain⟨xs,hx,hd⟩:=aEo I1 hm1 ha tk;obtain⟨v,vv,hv,qv,rv⟩:=yZ hx hf;refine subscriptTail_builtinR (x:=v.2) (T:="dict") hd.typeIs PySem.F.slot_dict_getitem.lookup (wpAny_getItem_heap (knd:=oI X.prog X.w) (by have:=aCb hr;show X.A.units+1+6<cLine;omega) ⟨hk.2,mL I1 hk.2 r1 rfl⟩ hd hv ⟨rfl,?_⟩) (hs _ _);exact⟨vv,H1,I1.tok _,qv,kq _ _ ⟨d,M1,rv,hm1,e0.trans e1,q1⟩⟩
end
theorem aKD {K:Frag}{M:DM}{H:Hp}{a:Addr}{es:List D}(hm:bK K M H)(h:M (.d a)=some es):M (.x a)=none:=by
 cases e:M (.x a) with
 |none=>rfl
 |some ds =>
  obtain⟨ens,hH,_⟩:=hm.d a _ h;have x:=hm.x a _ e;unfold rF at x;split at x
  ·obtain⟨ps,z,_⟩:=x;rw[hH] at z;cases z
  ·obtain⟨q,a1,a2,b1,b2,b3,b4,b5,b6,b7,b8,c,c',pm,ct,oc,oc',u,u',vs,t,z,_⟩:=x;rw[hH] at z;cases z
  ·obtain⟨o,ens,ep,_,z,_⟩:=x;rw[hH] at z;cases z
  ·exact x.elim
def zB (w:World)(i:Nat)(g:DG)(tb:DS):DS:=λE ρ M=>match ρ[i]? with
 |some (some (.ref a))=>∃kvs,M (.d a)=some (fO w kvs)/\TK kvs/\(M (.x a)=none->dIt none (kvs.map (·.1)) g tb (aJZ w E a kvs) ρ (uI w M a kvs))
 |_=>False
section
variable {X:Cx}{tg:Expr}{body:List Stmt}{g:DG}{tb:DS}{pos:Pos}
theorem aEv (i:Nat){x:Str}{p:Pos}(hp:PassesOwn (model X.prog X.w) X.A X.env X.xe)(hc:X.calm=true)(hg:PDG X tg g)(hb:mY X body tb)(hN:X.N[i]?=some x:=by rfl)(hv:Vis X.env.scope x:=by first|exact Or.inl rfl|exact Or.inr (Or.inl rfl)|exact Or.inr (Or.inr rfl))(hd:(x==("__debug__":Str))=false:=by decide)(hcd:(x==("__classdict__":Str))=false:=by decide)(hs:∀y,foldedSetIterable (.Name x p) X.env y=pure y:=by intro _;rfl):PDS X (.For tg (.Name x p) body [] pos) (zB X.w i g tb) :=
 gR (aGG i hp hc hg hb hN hv hd hcd hs) λE σ H ⟨ρ,M,Dn,re,hm,q,k⟩=>⟨ρ,M,Dn,re,hm,by
  unfold zB at q;unfold aFh;split at q
  case h_2=>exact q.elim
  rename_i a e1;obtain⟨kvs,ha,tk,q⟩:=q;try rw[e1]
  exact⟨kvs,ha,tk,q (aKD hm ha)⟩,k⟩
end
def aK8:D2:=λx y M Q=>∃sh,eX 6 x=true/\eX 6 y=true/\hs sh x/\hs sh y/\Q (.bl (ltD x y)) M
section
variable {X:Cx}{kr:Nat}
theorem aJd (hr:dZ kr X.A):OpD X (compareOp .Lt) aK8:=by intro pins s σ H x y v u Q I rx ry ⟨dx,dy,M,Q',r1,r2,hm,⟨sh,k1,k2,h1,h2,q⟩,k⟩;have i1:=mL I k1 r1 rx;have i2:=mL I k2 r2 ry;exact aB4 6 sh (by have:=aCb hr;omega) k1 k2 h1 h2 i1 i2 X.prog X.w _ _ ⟨.bl (ltD dx dy),H,I,rfl,k _ H ⟨_,M,fF,hm,.refl H,q⟩⟩
end
section
variable {K:Frag}{M:DM}{H:Hp}{w:World}{a:Addr}{kvs:List (D×D)}{es:List DictEntry}{o:Obj}{ep:Nat}
end
section
variable {X:Cx}{tg:Expr}{body:List Stmt}{g:DG}{tb:DS}{pos:Pos}
end
section
variable {X:Cx}
end
section
variable {X:Cx}{o e e2:Expr}{to te ti:DE}{apos cpos:Pos}{kr:Nat}
theorem aDc (hr:dZ kr X.A)(ho:ZE X o to)(he:ZE X e te)(hi:ZE X e2 ti)(hbase:attributeBase o "setdefault" X.env (eval o X.env)=eval o X.env:=by rfl)(hfew:((backTo cpos (starEach [e,e2] X.env)).all (λx=>!x.1)&&(backToKw cpos (keywordEach [] X.env)).all (λx=>x.1.isSome)
  &&decide ([e,e2].length+([]:List Keyword).length+(if ([]:List Keyword).isEmpty then 0 else 1)<30)) = true:=by rfl)(hline:(apos.endLine==cpos.line) = true:=by rfl)(hs:starEach [e,e2] X.env = (false,eval e X.env) :: starEach [e2] X.env:=by rfl)(hs2:starEach [e2] X.env = (false,eval e2 X.env) :: starEach [] X.env:=by rfl)(hplain:(backTo cpos (starEach [e2] X.env)).any (·.1) = false:=by rfl):ZE X (.Call (.Attribute o "setdefault" apos) [e,e2] [] cpos) (aBk X.w to te ti):=.i (aEQ hr ho.o he.o hi.o hbase hfew hline hs hs2 hplain)
theorem aCM {e i:Expr}{te ti:DE}(hr:dZ kr X.A)(he:ZE X e te)(hi:ZE X i ti)(hs:rD i:=by intro _ _;rfl):ZE X (.Subscript e i pos) (aIb X.w te ti):=.i (aJ1 hr he.o hi.o hs)
end
section
variable {X:Cx}{tg:Expr}{body:List Stmt}{g:DG}{tb:DS}{pos:Pos}
theorem aDh (i:Nat){x:Str}{p:Pos}(hp:PassesOwn (model X.prog X.w) X.A X.env X.xe)(hc:X.calm=true)(hg:ZG X tg g)(hb:ZSs X body tb)(hN:X.N[i]?=some x:=by rfl)(hv:Vis X.env.scope x:=by first|exact Or.inl rfl|exact Or.inr (Or.inl rfl)|exact Or.inr (Or.inr rfl))(hd:(x==("__debug__":Str))=false:=by decide)(hcd:(x==("__classdict__":Str))=false:=by decide)(hs:∀y,foldedSetIterable (.Name x p) X.env y=pure y:=by intro _;rfl):ZS X (.For tg (.Name x p) body [] pos) (zB X.w i g tb):=.i (aEv i hp hc hg.o hb.o hN hv hd hcd hs)
end
section
variable {X:Cx}{kr:Nat}
end
end Dd
namespace Lw
open PySem PySem.Spec PyProof.Rows L2 Dd Mz
local macro_rules | `(tactic|ac_rfl) => `(tactic|exact ⟨rfl,rfl,rfl,by decide +kernel,rfl,by decide +kernel,by decide +kernel⟩)
local macro_rules|`(tactic|ac_nf)=>do
 let l←("zB aK8 aIb aBk aI1 aMg aBS rP aBB yW aE4 aLc aMB aK0 aLS aKM aMd aM1 aGa aID aLL aMi aLm aMx aLj aMN aJP aLV aLU aJE aFO aCy aBq aLw aLF aMM aKZ aHY aL9 aE8 aJk aHN aLD aEq aJH aNb aMT aLK aMv aHS aM7 aMr aM5 aM4 aNg aMe aL2 aHx aGS aL7 aIZ aKJ aNc aK5 aKV aMW aEj aFD aIx aFK aJi aLg aKP aLY jR aIC List.map List.length_cons List.length_nil Nat.reduceAdd Nat.reduceSub List.reduceReplicate List.cons_append List.nil_append List.set_cons_zero List.set_cons_succ List.getElem?_cons_zero List.getElem?_cons_succ gCn gN gNl aJb aJc aLM aMn aF1 aGi aD4 aH4 aHq aHd aGs aHk aGY aG4 aGm ixT ixF aNa aK4 aKX aLe aLZ aJz rR gQ pR dOp aBO dC d2I d2J aKR xV aH2 dOr aJI aFu aJy aES aI0 aJf aKv aEG aI6 aE9 aJA aBt aDv aKs aEy aET aE5 aBz aEK aEW goF uC Option.join_some aLh aJg aJT dPt aLG dSl aJn aBW aAj aKS aFl aLR aHR aBM aCc aFr aMR aKf aGq aI5 isV aJX aJJ aKp aIu aJe aIn aJ8 aIY aJK aIX aJF aH9 aKA aIG aJp aJ5 aKl aJj aIz aIq aJ0 aI9 aJD aJt aJ7 aIl aKF".splitOn " ").toArray.mapM λx=>`(Lean.Parser.Tactic.simpLemma|$(Lean.mkIdent x.toName):term)
 `(tactic|try dsimp only[$l,*])
local macro_rules|`(tactic|simp_arith)=>do
 let l←("aKa aKk aJs eR cT id decide_eq_true_eq Bool.not_eq_true' decide_eq_false_iff_not".splitOn " ").toArray.mapM λx=>`(Lean.Parser.Tactic.simpLemma|$(Lean.mkIdent x.toName):term)
 `(tactic|try simp only[$l,*])
noncomputable def top (i:Nat):Stmt:=PySem.Challenge.pw_arcmill_k42_joined_on_a_circle.main.body.getD i (.Pass ⟨0,0,0,0⟩)
section
variable {P:Program}{w:World}{K:Frag}{mg:Str->Option Value}{base:Heap}
def aCd (P:Program)(w:World)(K:Frag)(mg:Str->Option Value)(base:Heap)(j:Nat)(g:Addr)(T:D->Prop)(lt:D->D->Bool):Prop:=∃n ps sp,mg n=some (.ref g)/\Has P w K mg base j n ps sp/\∀x y M Q,T x->T y->Q (.bl (lt x y)) M->sp [x,y] M Q
def Spn (T:D->Prop)(d:D):Prop:=∃a r,d=.tup (a::r)/\T a
noncomputable def hd0:D->D
 |.tup (a::_)=>a
 |d=>d
noncomputable def klt (lt:D->D->Bool)(x y:D):Bool:=lt (hd0 x) (hd0 y)
noncomputable def mrg (lt:D->D->Bool):List D->List D->List D
 |xs,[]=>xs
 |xs,y::ys=>xs.takeWhile (λx=>!klt lt y x)++y::mrg lt (xs.dropWhile λx=>!klt lt y x) ys
theorem aCo {lt:D->D->Bool}{xs:List D}:mrg lt xs []=xs:=by cases xs<;>rfl
theorem aDS {lt:D->D->Bool}{x y:D}{xs ys:List D}(h:klt lt y x=false):mrg lt (x::xs) (y::ys)=x::mrg lt xs (y::ys):=by unfold mrg;rw[List.takeWhile_cons,List.dropWhile_cons,h];rfl
theorem aA7 {lt:D->D->Bool}{x y:D}{xs ys:List D}(h:klt lt y x=true):mrg lt (x::xs) (y::ys)=y::mrg lt (x::xs) ys:=by
 conv=>lhs;unfold mrg
 rw[List.takeWhile_cons,List.dropWhile_cons,h];rfl
theorem aCQ {lt:D->D->Bool}{y:D}{ys:List D}:mrg lt [] (y::ys)=y::mrg lt [] ys:=rfl
theorem aAg {α:Type}{xs:List α}{i:Nat}{x:α}(h:xs[i]?=some x):xs.drop i=x::xs.drop (i+1):=by obtain⟨hi,e⟩:=List.getElem?_eq_some_iff.mp h;rw[List.drop_eq_getElem_cons hi,e]
theorem fY {α:Type}{xs:List α}{i:Nat}{x:α}(h:xs[i]?=some x):xs.take (i+1)=xs.take i++[x]:=by rw[List.take_add_one,h];rfl
theorem aFb (xs:List D)(k:Nat):Dd.cutD xs none (some (k:Int))=xs.take k:=by
 unfold Dd.cutD;rw[HT.sIx_nat,HT.sIx_none,List.drop_zero,Nat.sub_zero];rcases Nat.le_total k xs.length with c|c
 ·rw[Nat.min_eq_left c]
 ·rw[Nat.min_eq_right c,List.take_of_length_le (Nat.le_refl _),List.take_of_length_le c]
theorem rN (xs:List D)(k:Nat):Dd.cutD xs (some (k:Int)) none=xs.drop k:=by
 unfold Dd.cutD;rw[HT.sIx_nat,HT.sIx_none];rcases Nat.le_total k xs.length with c|c
 ·rw[Nat.min_eq_left c,List.take_of_length_le (by rw[length_drop];omega)]
 ·rw[Nat.min_eq_right c,List.drop_of_length_le (Nat.le_refl _),List.drop_of_length_le c,List.take_nil]
theorem lC {Q:DQ}{d:D}{M:DM}(h:Q d M):Dn Q d M:=⟨M,.refl M,h⟩
theorem at0 {a:D}{r:List D}:atI (a::r) 0=some a:=iJ (j:=0) rfl
def xB (P:Program)(w:World)(K:Frag)(mg:Str->Option Value)(base:Heap):DSp:=λds M Q=>∃l1 l2 f g xs ys T lt,ds=[.ref l1,.ref l2,.ref f]/\M (.l l1)=some xs/\M (.l l2)=some ys/\(∀x∈xs++ys,Spn T x)/\xs.length+ys.length<=500/\M (.x f)=some [.ref g]/\aCd P w K mg base 106 g T lt /\
 ∀p M',bD M M'->M (.l p)=none->M' (.l p)=some (mrg lt xs ys)->Q (.ref p) M'
noncomputable abbrev vA:Stmt:=top 35
theorem lI:aS ["ones","others","earlier","whole","at","other"] ["ones","others","earlier"] (aI vA):=by ac_rfl
theorem aBs (hF:cM K mg "merged" vA ["ones","others","earlier"])(eK:mg "len" = none):Has P w K mg base 108 "merged" ["ones","others","earlier"] (xB P w K mg base):=by
 refine Has.mkZ hF lI (λds M Q ⟨_,_,_,_,_,_,_,_,z,_⟩=>by rw[z];rfl) λf cdv A outer s H ds M Q E hr h=>?_;obtain⟨l1,l2,f,g,xs,ys,T,lt,rfl,h1,h2,hT,hl,hf,⟨n,ps,sp,hn,hh,hsp⟩,q⟩:=h;refine⟨_,(aF (aM (i:=3) lI.nd (fK aD))
  (aF (aM (i:=4) lI.nd aC)
  (aF (lD PassesOwn.never rfl (aA 1) (aR (i:=5) lI.nd) (aF (lK PassesOwn.never (pT (iX (aY pU (aA 4) (bX jH eK (aB (aA 0) aD))) (jO (kH (eD (aCX (j:=106) (aA 2) hr (by decide) (aB (aA 5) (aB (aH (aA 0) (aA 4)) aD)))))))) (aF (fQ (dJ (aA 3) (aH (aA 0) (aA 4))))
  (aG (aD8 (i:=4) aIS lI.nd aC))))
  (aG (fQ (dJ (aA 3) (aA 5))))))
  (aG (aO (aK cY (aA 3) (lP (aA 0) (gG (aA 4)) iL))))))),?_⟩
 ac_nf;refine⟨by decide,λp hp=>?_⟩;have n1:l1≠p:=bM h1 hp;have n2:l2≠p:=bM h2 hp;have g1:∀W,aX M p W (.l l1)=some xs:=λW=>by rw[cK n1];exact h1
 have g2:∀W,aX M p W (.l l2)=some ys:=λW=>by rw[cK n2];exact h2
 have gf:∀W,aX M p W (.x f)=some [.ref g]:=λW=>by rw[qE];exact hf
 refine⟨ys,g2 _,λi ρ M'=>∃(k:Nat)(W:List D) (o:Option D),M'=aX M p W/\k<=xs.length/\W.length=k+i/\mrg lt xs ys=W++mrg lt (xs.drop k) (ys.drop i)/\ρ=[some (.ref l1),some (.ref l2),some (.ref f),some (.ref p),some (.int k),o],⟨0,[],none,rfl,Nat.zero_le _,rfl,rfl,rfl⟩,?_,?_,?_⟩
 ·rintro i ρ M' _ ⟨k,W,o,rfl,_⟩ a' e;cases e;exact g2 W
 ·rintro i y ρ M' hd ⟨k,W,o,rfl,hk,hW,em,rfl⟩;have hi:=(List.getElem?_eq_some_iff.mp hd).1;rw[aAg hd] at em;obtain⟨ya,yr,ey,Ty⟩:=hT y (mem_append_right _ (mem_of_getElem? hd));subst ey;ac_nf;refine⟨λm ρ M'=>∃(k:Nat)(W:List D),m=xs.length-k/\M'=aX M p W/\k<=xs.length/\W.length=k+i/\mrg lt xs ys=W++mrg lt (xs.drop k) (.tup (ya::yr)::ys.drop (i+1))/\ρ=[some (.ref l1),some (.ref l2),some (.ref f),some (.ref p),some (.int k),some (.tup (ya::yr))],⟨_,k,W,rfl,rfl,hk,hW,em,rfl⟩,?_⟩;rintro m ρ M' ⟨k,W,rfl,rfl,hk,hW,em,rfl⟩;ac_nf;have brk:(∃d,xs[k]?=some d/\klt lt (.tup (ya::yr)) d=true)∨xs.length<=k->mrg lt xs ys=(W++[.tup (ya::yr)])++mrg lt (xs.drop k) (ys.drop (i+1)):=λh=>by
   rw[em,append_assoc];congr 1;rcases h with⟨d,e,z⟩|z
   ·rw[aAg e,aA7 z];rfl
   ·rw[List.drop_of_length_le z,aCQ];rfl
  refine⟨xs,g1 W,?_⟩;by_cases hkx:k<xs.length
  ·refine ifT (decide_eq_true (by omega)) ?_;obtain⟨x,hx⟩:∃x,xs[k]?=some x:=⟨_,getElem?_eq_getElem hkx⟩;obtain⟨xa,xr,ex,Tx⟩:=hT x (mem_append_left _ (mem_of_getElem? hx));subst ex;refine⟨g,n,ps,sp,hn,hh,gf W,xs,.tup (xa::xr),g1 W,iJ hx,gf W,?_⟩;ac_nf;rw[at0,at0];refine hsp _ _ _ _ Ty Tx ?_;rw[aFn (gf W)];ac_nf;cases z:lt ya xa with
   |false =>
    refine ifT rfl ⟨⟨_,aJ⟩,xs,_,g1 W,iJ hx,_,_,rfl,aJ,by omega,xs.length-(k+1),by omega,k+1,W++[.tup (xa::xr)],rfl,sR,by omega,by rw[length_append,hW];show _+1=_;omega,?_,rfl⟩;rw[em,append_assoc,aAg hx,aDS (lt:=lt) (x:=.tup (xa::xr)) (y:=.tup (ya::yr)) z];rfl
   |true=>exact ifF (by decide) ⟨⟨_,aJ⟩,_,_,rfl,aJ,by omega,k,W++[.tup (ya::yr)],_,sR,by omega,by rw[length_append,hW];show _+1=_;omega,brk (.inl ⟨_,hx,z⟩),rfl⟩
  ·rw[decide_eq_false (by omega)];exact ifF (by decide) ⟨⟨_,aJ⟩,_,_,rfl,aJ,by omega,k,W++[.tup (ya::yr)],_,sR,by omega,by rw[length_append,hW];show _+1=_;omega,brk (.inr (by omega)),rfl⟩
 ·rintro ρ M' ⟨k,W,o,rfl,hk,hW,em,rfl⟩;rw[List.drop_length,aCo] at em;ac_nf;refine⟨xs,g1 W,λp1 hp1=>?_⟩;have s1:bD (aX M p W) (aX (aX M p W) p1 (Dd.cutD xs (some (k:Int)) none)):=bD.new hp1 _;refine⟨_,_,s1 _ _ aJ,aJ,by rw[rN,length_drop];omega,λp2 hp2=>?_⟩;have s2:=s1.trans (bD.new hp2 (W++Dd.cutD xs (some (k:Int)) none));have sM:bD M (aX M p W):=bD.new hp _;refine lC (q p2 _ (sM.trans s2) ?_ (by rw[aJ,rN,em]));cases e:M (.l p2) with
  |none=>rfl
  |some o=>rw[(sM.trans s1) _ _ e] at hp2;cases hp2
structure aGc (T:D->Prop)(lt:D->D->Bool):Prop where
 asym:∀x y,T x->T y->lt x y=true->lt y x=false
 tr:∀x y z,T x->T y->T z->lt y x=false->lt z y=false->lt z x=false
def aBJ (lt:D->D->Bool)(xs:List D):Prop:=xs.Pairwise λa b=>klt lt b a=false
theorem aLo {T:D->Prop}{x:D}(h:Spn T x):T (hd0 x):=by obtain⟨a,r,rfl,h⟩:=h;exact h
theorem sE {T:D->Prop}{lt:D->D->Bool}(o:aGc T lt):∀(n:Nat)(xs ys:List D),xs.length+ys.length<=n->(∀x∈xs++ys,Spn T x)->aBJ lt xs->aBJ lt ys->aBJ lt (mrg lt xs ys)/\(mrg lt xs ys).Perm (xs++ys)
 |n,xs,[],_,_,h1,_=>by rw[aCo,append_nil];exact⟨h1,.refl _⟩
 |n,[],y::ys,hn,hT,h1,h2=>by
  have hn':ys.length+1<=n:=by simpa using hn
  match n,hn' with
  |n+1,hn' =>
   obtain⟨a,b⟩:=sE o n [] ys (by simp;omega) (λx hx=>hT x (mem_cons_of_mem _ hx)) h1 (List.pairwise_cons.mp h2).2;rw[aCQ];refine⟨List.pairwise_cons.mpr ⟨λz hz=>(List.pairwise_cons.mp h2).1 z (by simpa using b.mem_iff.mp hz),a⟩,?_⟩;exact List.Perm.cons y b
 |n,x::xs,y::ys,hn,hT,h1,h2=>by
  have hn':xs.length+ys.length+2<=n:=by simp at hn;omega
  have Tm:∀z∈(x::xs)++(y::ys),T (hd0 z):=λz hz=>aLo (hT z hz);have mx:x∈(x::xs)++(y::ys):=mem_append_left _ mem_cons_self;have my:y∈(x::xs)++(y::ys):=mem_append_right _ mem_cons_self;obtain⟨px,p1⟩:=List.pairwise_cons.mp h1;obtain⟨py,p2⟩:=List.pairwise_cons.mp h2
  match n,hn' with
  |n+1,hn' =>
   cases z:klt lt y x with
   |false =>
    rw[aDS z];obtain⟨a,b⟩:=sE o n xs (y::ys) (by simp;omega) (λw hw=>hT w (mem_cons_of_mem _ hw)) p1 h2;refine⟨List.pairwise_cons.mpr ⟨λw hw=>?_,a⟩,List.Perm.cons x b⟩;have hw:=b.mem_iff.mp hw;have mw:w∈(x::xs)++(y::ys):=mem_cons_of_mem _ hw;rcases List.mem_append.mp hw with hw|hw
    ·exact px w hw
    ·rcases List.mem_cons.mp hw with hw|hw
     ·rw[hw];exact z
     ·exact o.tr _ _ _ (Tm x mx) (Tm y my) (Tm w mw) z (py w hw)
   |true =>
    rw[aA7 z];obtain⟨a,b⟩:=sE o n (x::xs) ys (by simp;omega) (λw hw=>hT w ((List.mem_append.mp hw).elim (λh=>mem_append_left _ h) λh=>mem_append_right _ (mem_cons_of_mem _ h))) h1 p2;have z':klt lt x y=false:=o.asym _ _ (Tm y my) (Tm x mx) z;refine⟨List.pairwise_cons.mpr ⟨λw hw=>?_,a⟩,(List.Perm.cons y b).trans (List.perm_middle.symm)⟩;have hw:=b.mem_iff.mp hw;rcases List.mem_append.mp hw with hw|hw
    ·rcases List.mem_cons.mp hw with hw|hw
     ·rw[hw];exact z'
     ·exact o.tr _ _ _ (Tm y my) (Tm x mx) (Tm w (mem_append_left _ (mem_cons_of_mem _ hw))) z' (px w hw)
    ·exact py w hw
def aFe (P:Program)(w:World)(K:Frag)(mg:Str->Option Value)(base:Heap)(n:Nat):DSp:=λds M Q=>∃m l f g xs T lt,n=m+1/\ds=[.ref l,.ref f]/\M (.l l)=some xs/\(∀x∈xs,Spn T x)/\xs.length<=2^m/\xs.length<=128/\M (.x f)=some [.ref g]/\aCd P w K mg base 106 g T lt/\aGc T lt /\
 ∀p M' zs,bD M M'->M (.l p)=none->M' (.l p)=some zs->zs.Perm xs->aBJ lt zs->Q (.ref p) M'
noncomputable abbrev qK:Stmt:=top 34
theorem nV:aS ["things","earlier","half"] ["things","earlier"] (aI qK):=by ac_rfl
theorem zI (hF:cM K mg "in_order" qK ["things","earlier"])(eK:mg "len" = none)(kO:mg "list" = none)(vD:Has P w K mg base 108 "merged" ["ones","others","earlier"] (xB P w K mg base)):Has P w K mg base 118 "in_order" ["things","earlier"] (aFe P w K mg base 8):=by
 have all:∀d,Has P w K mg base (110+d) "in_order" ["things","earlier"] (aFe P w K mg base d):=λd=>by
  induction d with
  |zero=>exact(Has.never hF nV 109).imp λds M Q ⟨m,_,_,_,_,_,_,z,_⟩=>by omega
  |succ d iD =>
   refine Has.mkZ (k:=110+d) hF nV (λds M Q ⟨_,_,_,_,_,_,_,_,z,_⟩=>by rw[z];rfl) λf cdv A outer s H ds M Q E hr h=>?_;obtain⟨m,l,f,g,xs,T,lt,hm,rfl,h1,hT,hl,hl',hf,ear,ok,q⟩:=h;obtain rfl:m=d:=by omega
   refine⟨_,(aF (bV (aY pU (bX jH eK (aB (aA 0) aD)) aC) (aG (aO (jF aCl kO (aB (aA 0) aD)))) aZ)
  (aF (aM (i:=2) nV.nd (aK fJ (bX jH eK (aB (aA 0) aD)) aC))
  (aG (aO (aE vD hr (by omega) (aB (aE iD hr (by omega) (aB (lP (aA 0) iL (gG (aA 2))) (aB (aA 1) aD))) (aB (aE iD hr (by omega) (aB (lP (aA 0) (gG (aA 2)) iL) (aB (aA 1) aD))) (aB (aA 1) aD)))))))),?_⟩
   ac_nf;refine⟨xs,h1,?_⟩;by_cases c:xs.length<2
   ·refine ifT (decide_eq_true (by omega)) ⟨xs,h1,λp hp=>lC (q p _ xs (bD.new hp _) hp aJ (.refl _) ?_)⟩
    match xs,c with
    |[],_=>exact .nil
    |[_],_=>exact pairwise_singleton _ _
    |_::_::_,c=>exact absurd c (by simp)
   obtain⟨k,rfl⟩:∃k,m=k+1:=⟨m-1,by
    rcases Nat.eq_zero_or_pos m with z|z
    ·rw[z] at hl;simp at hl;omega
    ·omega⟩
   rw[Nat.pow_succ] at hl;have hd:((xs.length:Int)).fdiv 2=((xs.length/2:Nat):Int):=by rw[Int.fdiv_eq_ediv_of_nonneg _ (by decide)];rfl
   refine ifF (decide_eq_false (by omega)) ⟨xs,h1,⟨by decide,by decide⟩,xs,h1,λp1 hp1=>?_⟩;rw[hd,aFb];refine⟨k,p1,f,g,xs.take (xs.length/2),T,lt,rfl,rfl,aJ,λx hx=>hT x (List.mem_of_mem_take hx),by rw[length_take];omega,by rw[length_take];omega,(bD.new hp1 _) _ _ hf,ear,ok,λa M1 as s1 na e1 pm1 so1=>?_⟩;have s01:bD M M1:=(bD.new hp1 _).trans s1;refine⟨xs,s01 _ _ h1,λp2 hp2=>?_⟩;rw[rN];refine⟨k,p2,f,g,xs.drop (xs.length/2),T,lt,rfl,rfl,aJ,λx hx=>hT x (List.mem_of_mem_drop hx),by rw[length_drop];omega,by rw[length_drop];omega,(bD.new hp2 _) _ _ (s01 _ _ hf),ear,ok,λb M2 bs s2 nb e2 pm2 so2=>?_⟩;have s12:bD M1 M2:=(bD.new hp2 _).trans s2;have la:=pm1.length_eq;have lb:=pm2.length_eq;rw[length_take] at la;rw[length_drop] at lb;have hT2:∀x∈as++bs,Spn T x:=λx hx=>(List.mem_append.mp hx).elim (λh=>hT x (List.mem_of_mem_take (pm1.mem_iff.mp h))) λh=>hT x (List.mem_of_mem_drop (pm2.mem_iff.mp h));refine⟨a,b,f,g,as,bs,T,lt,rfl,s12 _ _ e1,e2,hT2,by omega,s12 _ _ (s01 _ _ hf),ear,λp M3 s3 np e3=>?_⟩;obtain⟨so,pm⟩:=sE ok _ as bs (Nat.le_refl _) hT2 so1 so2;have s02:=s01.trans s12;refine lC (q p M3 _ (s02.trans s3) ?_ e3 (pm.trans ((pm1.append pm2).trans (by rw[List.take_append_drop]))) so);cases e:M (.l p) with
   |none=>rfl
   |some o=>rw[s02 _ _ e] at np;cases np
 exact all 8
structure S3 where
 a:D
 b:D
 n:D
noncomputable def s3D (s:S3):D:=.tup [s.a,s.b,s.n]
noncomputable def jst (lt:D->D->Bool)(W:List S3)(s:S3):List S3:=match W.getLast? with
 |none=>W++[s]
 |some l=>if lt l.b s.a=true then W++[s] else if lt l.b s.b=true then W.dropLast++[⟨l.a,s.b,l.n⟩] else W
noncomputable def jsp (lt:D->D->Bool)(zs:List S3):List S3:=zs.foldl (jst lt) []
theorem jY {α β:Type}{f:α->β}:∀{as bs:List β},as.Perm bs->∀xs:List α,as=xs.map f->∃zs,bs=zs.map f/\xs.Perm zs:=by
 intro as bs h
 induction h with
 |nil=>intro xs e;exact⟨[],rfl,by rw[List.map_eq_nil_iff.mp e.symm]⟩
 |cons x _ ih =>
  intro xs e;cases xs with
  |nil=>cases e
  |cons y ys =>
   obtain⟨e1,e2⟩:=List.cons.inj e;obtain⟨zs,h1,h2⟩:=ih ys e2;exact⟨y::zs,by rw[h1,e1];rfl,.cons y h2⟩
 |swap x y l =>
  intro xs e
  match xs,e with
  |[],e=>cases e
  |[_],e=>cases (List.cons.inj e).2
  |a::b::ys,e =>
   obtain⟨e1,e2⟩:=List.cons.inj e;obtain⟨e2,e3⟩:=List.cons.inj e2;exact⟨b::a::ys,by rw[e1,e2,e3];rfl,.swap _ _ _⟩
 |trans _ _ ih1 ih2 =>
  intro xs e;obtain⟨ys,h1,h2⟩:=ih1 xs e;obtain⟨zs,h3,h4⟩:=ih2 ys h1;exact⟨zs,h3,h2.trans h4⟩
def kU (M M':DM)(p:Addr):Prop:=∀b:AK,b ≠ .l p->∀o,M b=some o->M' b=some o
theorem kU.of {M M':DM}(s:bD M M')(p:Addr):kU M M' p:=λb _ o e=>s b o e
theorem kU.trans {M M1 M2:DM}{p:Addr}(h:kU M M1 p)(h':kU M1 M2 p):kU M M2 p:=λb n o e=>h' b n o (h b n o e)
theorem kU.put {M:DM}{p:Addr}{ds:List D}:kU M (aX M p ds) p:=λb n o e=>by rw[eU n];exact e
theorem kU.l {M M':DM}{p a:Addr}(h:kU M M' p)(n:a≠p){o:List D}(e:M (.l a)=some o):M' (.l a)=some o:=h (.l a) (λz=>n (AK.l.inj z)) _ e
theorem aIc {M:DM}{n:Nat}{a b:Addr}{xs ys:List D}(ha:M a=some xs)(hb:M b=some ys)(ne:a≠b)(h:xs.length≠ys.length):Cm M (n+1) (.ref a) (.ref b) false :=
 ⟨xs,ys,ha,hb,ne,λe=>absurd e h,λ_=>rfl⟩
theorem aCw {n:Nat}:ixN (n+1) (-1)=some n:=by unfold ixN;rw[if_neg (by decide),if_pos (by omega)];show some (-1+((n+1:Nat):Int)).toNat=_;rw[show(-1+((n+1:Nat):Int)).toNat=n by omega]
theorem aCI (xs:List D)(x:D):atI (xs++[x]) (-1)=some x:=by unfold atI ixN;rw[if_neg (by decide),if_pos (by rw[length_append];show -((_+1:Nat):Int)<=-1;omega),length_append];show(xs++[x])[(-1+((xs.length+1:Nat):Int)).toNat]?=_;rw[show(-1+((xs.length+1:Nat):Int)).toNat=xs.length by omega,List.getElem?_append_right (Nat.le_refl _),Nat.sub_self];rfl
def aH0 (P:Program)(w:World)(K:Frag)(mg:Str->Option Value)(base:Heap)(pt:Addr):DSp:=λds M Q=>∃l g xs T lt,ds = [.ref l,.ref g]/\M (.l l) = some (xs.map s3D)/\(∀x∈xs,T x.a/\T x.b)/\xs.length<=128/\M (.x pt) = some [.str "joined_spans.<locals>.<lambda>"]/\aCd P w K mg base 106 g T lt/\aGc T lt /\
 ∀p M' zs,bD M M'->M (.l p)=none->M' (.l p)=some ((jsp lt zs).map s3D)->zs.Perm xs->aBJ lt (zs.map s3D)->Q (.ref p) M'
noncomputable abbrev jL:Stmt:=top 42
theorem iO:aS ["spans","earlier","whole","span"] ["spans","earlier"] (aI jL):=by ac_rfl
theorem sX {pt:Addr}(hF:cM K mg "joined_spans" jL ["spans","earlier"])(tb_joined_spans:aEL K mg base "joined_spans" pt)(iD:Has P w K mg base 118 "in_order" ["things","earlier"] (aFe P w K mg base 8)):Has P w K mg base 120 "joined_spans" ["spans","earlier"] (aH0 P w K mg base pt):=by
 refine Has.mkL hF tb_joined_spans iO (λds M Q ⟨_,_,_,_,_,z,_⟩=>by rw[z];rfl) λf cdv A outer s H ds M Q E hr ht h=>?_;obtain⟨l,g,xs,T,lt,rfl,h1,hT,hl,hP,ear,ok,q⟩:=h;refine⟨_,(aF (aM (i:=2) iO.nd (fK aD))
  (aF (lD PassesOwn.never rfl (aBi (i:=0) (j:=1) (q:="joined_spans.<locals>.<lambda>") iD hr (by decide) ht (aA 0)) (aR (i:=3) iO.nd) (aG (bV (pT (yR (aY (aBv hr) (aA 2) (fK aD)) (yO (eD (xK (j:=106) (aA 1) hr (by decide) (aB (aH (aH (aA 2) (eG aC)) aC) (aB (aH (aA 3) aC) aD))))))) (aG (fQ (dJ (aA 2) (aA 3)))) (aG (bV (eD (xK (j:=106) (aA 1) hr (by decide) (aB (aH (aH (aA 2) (eG aC)) aC) (aB (aH (aA 3) aC) aD)))) (aG (cU (bC (aB (aH (aH (aA 2) (eG aC)) aC) (aB (aH (aA 3) aC) (aB (aH (aH (aA 2) (eG aC)) aC) aD)))) (pK (aA 2) (eG aC)))) aZ)))))
  (aG (aO (aA 2))))),?_⟩
 ac_nf;refine⟨by decide,λp hp=>⟨by rw[qE];exact hP,λfl hfl=>?_⟩⟩;have sp0:bD (aX M p []) (putX (aX M p []) fl [.ref g]):=λb o e=>by rw[gE (bB e hfl)];exact e
 have nl:l≠p:=bM h1 hp;refine⟨7,l,fl,g,xs.map s3D,T,lt,rfl,rfl,sp0 _ _ (by rw[cK nl];exact h1),λx hx=>?_,by rw[length_map];omega,by rw[length_map];exact hl,pL,ear,ok,λp1 M1 zs' s1 n1 e1 pm so=>?_⟩
 ·obtain⟨s,hs,rfl⟩:=List.mem_map.mp hx;exact⟨_,_,rfl,(hT s hs).1⟩
 obtain⟨zs,rfl,pz⟩:=jY pm.symm xs rfl;have sN:bD (aX M p []) (qQ M1 fl):=λb o e=>by rw[mJ (bB e hfl)];exact s1 _ _ (sp0 _ _ e)
 have eN:qQ M1 fl (.l p1)=some (zs.map s3D):=by rw[mJ (by intro z;cases z)];exact e1
 have eW:qQ M1 fl (.l p)=some (([]:List S3).map s3D):=sN _ _ aJ;have np:p1≠p:=λz=>by rw[z,sp0 _ _ aJ] at n1;cases n1
 generalize qQ M1 fl=N at sN eN eW ⊢;have Tz:∀x∈zs,T x.a/\T x.b:=λx hx=>hT x (pz.symm.mem_iff.mp hx);have lz:=pz.length_eq;ac_nf;refine⟨_,eN,λi ρ M'=>kU N M' p/\(∃W,W=(zs.take i).foldl (jst lt) []/\W.length<=i/\(∀x∈W,T x.a/\T x.b)/\M' (.l p)=some (W.map s3D))/\∃o,ρ=[some (.ref l),some (.ref g),some (.ref p),o],⟨.of (.refl _) p,⟨[],rfl,Nat.le_refl _,λx hx=>(by cases hx),eW⟩,none,rfl⟩,?_,?_,?_⟩
 ·rintro i ρ M' _ ⟨A',_⟩ a' e;cases e;exact A'.l np eN
 ·rintro i d1 ρ M' hd ⟨A',⟨W,eW,lW,TW,hW⟩,o,rfl⟩;rw[getElem?_map] at hd;obtain⟨s,hs,rfl⟩:=Option.map_eq_some_iff.mp hd;have Ts:=Tz s (mem_of_getElem? hs);have hi:=(List.getElem?_eq_some_iff.mp hs).1;have stp:(zs.take (i+1)).foldl (jst lt) []=jst lt W s:=by rw[fY hs,List.foldl_append,<- eW];rfl
  dsimp only[s3D];ac_nf;refine⟨by decide,λp0 hp0=>?_⟩;have A0:kU N (aX M' p0 []) p:=A'.trans (.of (bD.new hp0 _) p);have hW0:=(bD.new hp0 []) _ _ hW;have e0:aX M' p0 [] (.l p0)=some []:=aJ;have n0:p≠p0:=bM hW hp0;generalize aX M' p0 []=M2 at A0 hW0 e0 ⊢;have add:∀{V:List S3},V=jst lt W s->V=W++[s]->(∃ds,M2 (.l p)=some ds)/\∃ds y,[D.tup [s.a,s.b,s.n]]=[y]/\M2 (.l p)=some ds/\ds.length<1000/\kU N (aX M2 p (ds++[y])) p/\(∃W,W=(zs.take (i+1)).foldl (jst lt) []/\W.length<=i+1/\(∀x∈W,T x.a/\T x.b)/\aX M2 p (ds++[y]) (.l p)=some (W.map s3D))/\∃o,[some (D.ref l),some (D.ref g),some (D.ref p),some (D.tup [s.a,s.b,s.n])]=[some (D.ref l),some (D.ref g),some (D.ref p),o]:=λ{V} e1 e2 =>
   ⟨⟨
    _,hW0⟩,_,_,rfl,hW0,by rw[length_map];omega,A0.trans .put,⟨V,by rw[stp];exact e1,by rw[e2,length_append];show _+1<=_;omega,by
    rw[e2];intro x hx;rcases List.mem_append.mp hx with h|h
    ·exact TW x h
    ·rw[List.mem_singleton.mp h];exact Ts,by rw[aJ,e2,map_append];rfl⟩,_,rfl⟩
  rcases List.eq_nil_or_concat W with z|⟨W0,lst,z⟩
  ·subst z;exact⟨.inr ⟨⟨_,rfl⟩,_,rfl⟩,true,oE (n:=19) hW0 e0 n0 (λx hx=>by cases hx),ifT rfl (ifT rfl (add rfl rfl))⟩
  ·rw[List.concat_eq_append] at z;have gl:W.getLast?=some lst:=by rw[z,List.getLast?_concat]
   have Tl:=TW lst (by rw[z];exact mem_append_right _ mem_cons_self);have hat:atI (W.map s3D) (-1)=some (s3D lst):=by rw[z,map_append];exact aCI _ _
   have js:jst lt W s=if lt lst.b s.a=true then W++[s] else if lt lst.b s.b=true then W.dropLast++[⟨lst.a,s.b,lst.n⟩] else W:=by unfold jst;rw[gl]
   obtain⟨n,ps,sp,hn,hh,hsp⟩:=id ear;refine⟨.inr ⟨⟨_,rfl⟩,_,rfl⟩,false,aIc (n:=19) hW0 e0 n0 (by rw[length_map,z,length_append];show ¬(_+1=0);omega),ifF (by decide) ⟨n,ps,sp,hn,hh,_,_,hW0,hat,?_⟩⟩;dsimp only[s3D];ac_nf;refine hsp _ _ _ _ Tl.2 Ts.1 ?_;ac_nf;cases y1:lt lst.b s.a with
   |true=>exact ifT rfl (add rfl (by rw[js,if_pos y1]))
   |false =>
    refine ifF (by decide) ⟨n,ps,sp,hn,hh,_,_,hW0,hat,?_⟩;dsimp only[s3D];ac_nf;refine hsp _ _ _ _ Tl.2 Ts.2 ?_;ac_nf;cases y2:lt lst.b s.b with
    |false=>exact ifF (by decide) ⟨A0,⟨W,by rw[stp,js,if_neg (by rw[y1];decide),if_neg (by rw[y2];decide)],by omega,TW,hW0⟩,_,rfl⟩
    |true =>
     refine ifT rfl ⟨_,_,hW0,hat,?_⟩;dsimp only[s3D];ac_nf;refine⟨_,_,hW0,hat,?_⟩;dsimp only[s3D];ac_nf;have lw:W.length=W0.length+1:=by rw[z,length_append];rfl
     refine⟨by decide,_,W0.length,hW0,by rw[length_map,lw];exact aCw,A0.trans .put,⟨W0++[⟨lst.a,s.b,lst.n⟩],?_,by rw[length_append];show _+1<=_;omega,λx hx=>?_,?_⟩,_,rfl⟩
     ·rw[stp,js,if_neg (by rw[y1];decide),if_pos y2,z,List.dropLast_concat]
     ·rcases List.mem_append.mp hx with h|h
      ·exact TW x (by rw[z];exact mem_append_left _ h)
      ·rw[List.mem_singleton.mp h];exact⟨Tl.1,Ts.2⟩
     ·rw[aJ,z,map_append,map_append,List.set_append_right _ _ (by rw[length_map];exact Nat.le_refl _),length_map,Nat.sub_self];rfl
 ·rintro ρ M' ⟨A',⟨W,eW,lW,TW,hW⟩,o,rfl⟩;rw[length_map,take_length] at eW;ac_nf;refine lC (q p M' zs (λb o e=>A' b (bB e hp) o (sN b o ?_)) hp (by rw[hW,eW];rfl) pz.symm so);rw[eU (bB e hp)];exact e
noncomputable abbrev gL:Stmt:=top 6
theorem iW:aS ["one","other"] ["one","other"] (aI gL):=by ac_rfl
theorem nO (hF:cM K mg "greatest_divisor" gL ["one","other"])(wK:mg "abs" = none):Has P w K mg base 101 "greatest_divisor" ["one","other"] gB:=by
 refine Has.mkZ hF iW (λds M Q ⟨a,b,e,_⟩=>by rw[e];rfl) λf cdv A outer s H ds M Q E hr h=>?_;obtain⟨a,b,rfl,q⟩:=h;refine⟨_,(aF (lK PassesOwn.never (aY (aAF hr) (aA 1) aC) (aG (aCV (i:=0) (j:=1) rfl iW.nd (aB (aA 1) (aB (aK kX (aA 0) (aA 1)) aD)))))
  (aG (aO (bX aBp wK (aB (aA 0) aD))))),?_⟩
 refine pH (λm ρ M'=>M'=M/\∃x y:Int,ρ=[some (.int x),some (.int y)]/\m=y.natAbs/\Int.gcd x y=Int.gcd a b) _ ⟨rfl,a,b,rfl,rfl,rfl⟩ ?_;rintro m ρ M' ⟨rfl,x,y,rfl,rfl,g⟩;refine⟨rfl,rfl,vK (λc=>?_) (λc=>?_)⟩
 ·have c:y≠0:=by simpa[eqD] using c
  exact⟨c,_,aCK c,rfl,y,x.fmod y,rfl,rfl,(aAG x y).trans g⟩
 ·have c:y=0:=by simpa[eqD] using c
  subst c;refine⟨M',.refl _,?_⟩;have e:(if x<0 then -x else x)=(Int.gcd a b:Int):=by rw[<- g,Int.gcd_zero_right];split<;>omega
  rw[e];exact q
noncomputable abbrev aBX:Stmt:=top 7
theorem qZ:aS ["one","other","shared","part","top","left"] ["one","other"] (aI aBX):=by ac_rfl
theorem aEP (hF:cM K mg "plus" aBX ["one","other"])(bZ:Has P w K mg base 101 "greatest_divisor" ["one","other"] gB):Has P w K mg base 102 "plus" ["one","other"] mG:=by
 refine Has.mkZ hF qZ pI λf cdv A outer s H ds M Q E hr h=>?_;obtain⟨p,r,m,n,rfl,_,h1,h2,l,q⟩:=h;refine⟨_,(aF (aM (i:=2) qZ.nd (aE bZ hr (by decide) (aB (aH (aA 0) aC) (aB (aH (aA 1) aC) aD))))
  (aF (aM (i:=3) qZ.nd (aK fJ (aH (aA 0) aC) (aA 2)))
  (aF (aM (i:=4) qZ.nd (aK cY (aK bE (aH (aA 0) aC) (aK fJ (aH (aA 1) aC) (aA 2))) (aK bE (aH (aA 1) aC) (aA 3))))
  (aF (aM (i:=5) qZ.nd (aE bZ hr (by decide) (aB (aA 4) (aB (aA 2) aD))))
  (aG (aO (bC (aB (aK fJ (aA 4) (aA 5)) (aB (aK bE (aA 3) (aK fJ (aH (aA 1) aC) (aA 5))) aD))))))))),?_⟩
 obtain⟨g0,l0,gd,ld,e1,e2⟩:=aMK p r _ _ _ _ rfl rfl rfl rfl;have gr:(Int.gcd p.den r.den:Int)∣(r.den:Int):=Int.gcd_dvd_right _ _;have bg:Bd m (Int.gcd p.den r.den:Int):=h1.2.dvd gd (cX p);refine⟨_,_,rfl,aBb h1.2 (by omega) gd (cX p) g0,aBb h1.2 (by omega) gd (cX p) g0,cG h1.1 (h2.2.fdiv gr) (by omega),cG h2.1 (h1.2.fdiv gd) (by omega),_,_,rfl,?_⟩;refine⟨aBb bg (by omega) ld g0 l0,aBb bg (by omega) ld g0 l0,cG (h1.2.fdiv gd) (h2.2.fdiv (Int.dvd_trans ld gr)) (by omega),by show(2:Nat)<=1000;decide,M,.refl _,?_⟩;have q':Q (.tup [.int (p+r).num,.int ((p+r).den:Int)]) M:=q;rw[<- e1,<- e2] at q';exact q'
noncomputable abbrev aAa:Stmt:=top 8
theorem aFM:aS ["one","other"] ["one","other"] (aI aAa):=by ac_rfl
theorem aDi (hF:cM K mg "minus" aAa ["one","other"])(fE:Has P w K mg base 102 "plus" ["one","other"] mG):Has P w K mg base 103 "minus" ["one","other"] rO:=by refine Has.mkZ hF aFM pI λf cdv A outer s H ds M Q E hr h=>?_;obtain⟨p,r,m,n,rfl,_,h1,h2,l,q⟩:=h;refine⟨_,(aG (aO (aE fE hr (by decide) (aB (aA 0) (aB (bC (aB (eG (aH (aA 1) aC)) (aB (aH (aA 1) aC) aD))) aD))))),?_⟩;refine⟨by show(2:Nat)<=1000;decide,p,-r,m,n,by rw[aHt],trivial,h1,h2.neg,l,M,.refl _,?_⟩;show Q (FQ (p + -r)) M;rw[<- Rat.sub_eq_add_neg];exact q
noncomputable abbrev zZ:Stmt:=top 9
theorem vH:aS ["one","other","falling","rising"] ["one","other"] (aI zZ):=by ac_rfl
theorem aDC (hF:cM K mg "times" zZ ["one","other"])(bZ:Has P w K mg base 101 "greatest_divisor" ["one","other"] gB):Has P w K mg base 102 "times" ["one","other"] lB:=by
 refine Has.mkZ hF vH pI λf cdv A outer s H ds M Q E hr h=>?_;obtain⟨p,r,m,n,rfl,_,h1,h2,l,q⟩:=h;refine⟨_,(aF (aM (i:=2) vH.nd (aE bZ hr (by decide) (aB (aH (aA 0) aC) (aB (aH (aA 1) aC) aD))))
  (aF (aM (i:=3) vH.nd (aE bZ hr (by decide) (aB (aH (aA 1) aC) (aB (aH (aA 0) aC) aD))))
  (aG (aO (bC (aB (aK bE (aK fJ (aH (aA 0) aC) (aA 2)) (aK fJ (aH (aA 1) aC) (aA 3))) (aB (aK bE (aK fJ (aH (aA 0) aC) (aA 3)) (aK fJ (aH (aA 1) aC) (aA 2))) aD))))))),?_⟩
 obtain⟨f0,r0,fd,rd,e1,e2⟩:=aML p r _ _ rfl rfl;have fl:(Int.gcd p.num r.den:Int)∣p.num:=Int.gcd_dvd_left _ _;have rl:(Int.gcd r.num p.den:Int)∣r.num:=Int.gcd_dvd_left _ _;refine⟨_,_,rfl,_,_,rfl,aBb h2.2 (by omega) fd (cX r) f0,aBb h1.2 (by omega) rd (cX p) r0,cG (h1.1.fdiv fl) (h2.1.fdiv rl) (by omega),aBb h1.2 (by omega) rd (cX p) r0,aBb h2.2 (by omega) fd (cX r) f0,cG (h1.2.fdiv rd) (h2.2.fdiv fd) (by omega),by show(2:Nat)<=1000;decide,M,.refl _,?_⟩;have q':Q (.tup [.int (p*r).num,.int ((p*r).den:Int)]) M:=q;rw[<- e1,<- e2] at q';exact q'
noncomputable abbrev aBH:Stmt:=top 10
theorem aF2:aS ["one","other"] ["one","other"] (aI aBH):=by ac_rfl
theorem aFC (hF:cM K mg "over" aBH ["one","other"])(dD:Has P w K mg base 102 "times" ["one","other"] lB):Has P w K mg base 103 "over" ["one","other"] yQ:=by
 refine Has.mkZ hF aF2 pI λf cdv A outer s H ds M Q E hr h=>?_;obtain⟨p,r,m,n,rfl,h0,h1,h2,l,q⟩:=h;refine⟨_,(aF (bV (aY (eP hr) (aH (aA 1) aC) aC) (aG aDz) aZ)
  (aF (bV (aY pU (aH (aA 1) aC) aC) (aG (aO (aE dD hr (by decide) (aB (aA 0) (aB (bC (aB (eG (aH (aA 1) aC)) (aB (eG (aH (aA 1) aC)) aD))) aD))))) aZ)
  (aG (aO (aE dD hr (by decide) (aB (aA 0) (aB (bC (aB (aH (aA 1) aC) (aB (aH (aA 1) aC) aD))) aD))))))),?_⟩
 have e:p*(1/r)=p/r:=by grind
 refine⟨rfl,rfl,vK (λc=>absurd (rQ.mp (by simpa[eqD] using c)) h0) (λ_=>dif (λc=>?_) (λc=>?_))⟩
 ·have c':r<0:=nT.mp c;obtain⟨e1,e2⟩:=aMD c';refine⟨by show(2:Nat)<=1000;decide,p,1/r,m,n,by unfold FQ;rw[<- e1,<- e2],trivial,h1,⟨e1 ▸ h2.2.neg,e2 ▸ h2.1.neg⟩,l,M,.refl _,?_⟩;show Q (FQ (p*(1/r))) M;rw[e];exact q
 ·have c':0<r:=by have:¬r<0:=λz=>c (nT.mpr z);grind
  obtain⟨e1,e2⟩:=aMF c';refine⟨by show(2:Nat)<=1000;decide,p,1/r,m,n,by unfold FQ;rw[<- e1,<- e2],trivial,h1,⟨e1 ▸ h2.2,e2 ▸ h2.1⟩,l,M,.refl _,?_⟩;show Q (FQ (p*(1/r))) M;rw[e];exact q
noncomputable abbrev zH:Stmt:=top 11
theorem aFj:aS ["one","other"] ["one","other"] (aI zH):=by ac_rfl
theorem aDE (hF:cM K mg "below" zH ["one","other"]):Has P w K mg base 101 "below" ["one","other"] wD:=by refine Has.mkZ hF aFj pI λf cdv A outer s H ds M Q E hr h=>?_;obtain⟨p,r,m,n,rfl,_,h1,h2,l,q⟩:=h;refine⟨_,(aG (aO (gI pU (aK bE (aH (aA 0) aC) (aH (aA 1) aC)) (aK bE (aH (aA 1) aC) (aH (aA 0) aC))))),?_⟩;refine⟨cG h1.1 h2.2 (by omega),cG h2.1 h1.2 (by omega),M,.refl _,?_⟩;have e:decide (p.num*(r.den:Int)<r.num*(p.den:Int))=decide (p<r):=decide_eq_decide.mpr (ltQ p r);show Q (.bl (decide (p.num*(r.den:Int)<r.num*(p.den:Int)))) M;rw[e];exact q
noncomputable abbrev aEZ:Stmt:=top 14
theorem aI8:aS ["p","q"] ["p","q"] (aI aEZ):=by ac_rfl
theorem aGy (hF:cM K mg "off" aEZ ["p","q"])(gX:Has P w K mg base 103 "minus" ["one","other"] rO):Has P w K mg base 104 "off" ["p","q"] sK:=by refine Has.mkZ hF aI8 (λds M Q ⟨x,y,u,v,e,_⟩=>by rw[e];rfl) λf cdv A outer s H ds M Q E hr h=>?_;obtain⟨x,y,u,v,rfl,h1,h2,h3,h4,q⟩:=h;refine⟨_,(aG (aO (bC (aB (aE gX hr (by decide) (aB (aH (aA 0) aC) (aB (aH (aA 1) aC) aD))) (aB (aE gX hr (by decide) (aB (aH (aA 0) aC) (aB (aH (aA 1) aC) aD))) aD))))),?_⟩;exact⟨x,u,_,_,rfl,trivial,h1,h3,by decide,y,v,_,_,rfl,trivial,h2,h4,by decide,by show(2:Nat)<=1000;decide,M,.refl _,q⟩
noncomputable abbrev qM:Stmt:=top 13
theorem aAM:aS ["p","q"] ["p","q"] (aI qM):=by ac_rfl
theorem aAb (hF:cM K mg "together" qM ["p","q"])(fE:Has P w K mg base 102 "plus" ["one","other"] mG):Has P w K mg base 104 "together" ["p","q"] jZ:=by refine Has.mkZ hF aAM (λds M Q ⟨x,y,u,v,e,_⟩=>by rw[e];rfl) λf cdv A outer s H ds M Q E hr h=>?_;obtain⟨x,y,u,v,rfl,h1,h2,h3,h4,q⟩:=h;refine⟨_,(aG (aO (bC (aB (aE fE hr (by decide) (aB (aH (aA 0) aC) (aB (aH (aA 1) aC) aD))) (aB (aE fE hr (by decide) (aB (aH (aA 0) aC) (aB (aH (aA 1) aC) aD))) aD))))),?_⟩;exact⟨x,u,_,_,rfl,trivial,h1,h3,by decide,y,v,_,_,rfl,trivial,h2,h4,by decide,by show(2:Nat)<=1000;decide,M,.refl _,q⟩
noncomputable abbrev kM:Stmt:=top 15
theorem uX:aS ["p","q"] ["p","q"] (aI kM):=by ac_rfl
theorem uK (hF:cM K mg "dot_product" kM ["p","q"])(fE:Has P w K mg base 102 "plus" ["one","other"] mG)(dD:Has P w K mg base 102 "times" ["one","other"] lB):Has P w K mg base 104 "dot_product" ["p","q"] jI:=by refine Has.mkZ hF uX (λds M Q ⟨x,y,u,v,e,_⟩=>by rw[e];rfl) λf cdv A outer s H ds M Q E hr h=>?_;obtain⟨x,y,u,v,rfl,m,n,h1,h2,h3,h4,l,q⟩:=h;refine⟨_,(aG (aO (aE fE hr (by decide) (aB (aE dD hr (by decide) (aB (aH (aA 0) aC) (aB (aH (aA 1) aC) aD))) (aB (aE dD hr (by decide) (aB (aH (aA 0) aC) (aB (aH (aA 1) aC) aD))) aD))))),?_⟩;exact⟨x,u,_,_,rfl,trivial,h1,h3,by omega,y,v,_,_,rfl,trivial,h2,h4,by omega,_,_,_,_,rfl,trivial,h1.mul h3,h2.mul h4,by omega,M,.refl _,q⟩
noncomputable abbrev iQ:Stmt:=top 16
theorem sP:aS ["p","q"] ["p","q"] (aI iQ):=by ac_rfl
theorem rX (hF:cM K mg "cross_product" iQ ["p","q"])(gX:Has P w K mg base 103 "minus" ["one","other"] rO)(dD:Has P w K mg base 102 "times" ["one","other"] lB):Has P w K mg base 104 "cross_product" ["p","q"] lQ:=by refine Has.mkZ hF sP (λds M Q ⟨x,y,u,v,e,_⟩=>by rw[e];rfl) λf cdv A outer s H ds M Q E hr h=>?_;obtain⟨x,y,u,v,rfl,m,n,h1,h2,h3,h4,l,q⟩:=h;refine⟨_,(aG (aO (aE gX hr (by decide) (aB (aE dD hr (by decide) (aB (aH (aA 0) aC) (aB (aH (aA 1) aC) aD))) (aB (aE dD hr (by decide) (aB (aH (aA 0) aC) (aB (aH (aA 1) aC) aD))) aD))))),?_⟩;exact⟨x,v,_,_,rfl,trivial,h1,h4,by omega,y,u,_,_,rfl,trivial,h2,h3,by omega,_,_,_,_,rfl,trivial,h1.mul h4,h2.mul h3,by omega,M,.refl _,q⟩
inductive Pc where
 |dot (x y:Rat)|str (x y u v:Rat)|arc (cx cy ax ay bx by':Rat)|ring (cx cy ax ay:Rat)
noncomputable def pcD:Pc->D
 |.dot x y=>.tup [.str "dot",PQ x y]
 |.str x y u v=>.tup [.str "stretch",PQ x y,PQ u v]
 |.arc a b c d e f=>.tup [.str "arc",PQ a b,PQ c d,PQ e f]
 |.ring a b c d=>.tup [.str "ring",PQ a b,PQ c d]
def pcB (B:Nat):Pc->Prop
 |.dot x y=>BQ B x/\BQ B y
 |.str x y u v=>BQ B x/\BQ B y/\BQ B u/\BQ B v
 |.arc a b c d e f=>BQ B a/\BQ B b/\BQ B c/\BQ B d/\BQ B e/\BQ B f
 |.ring a b c d=>BQ B a/\BQ B b/\BQ B c/\BQ B d
noncomputable abbrev qT:Stmt:=top 51
theorem aAx:aS ["_law_cell"] ["_law_cell"] (aI qT):=by ac_rfl
theorem yG (hF:cM K mg "_law_feed" qT ["_law_cell"])(xW:mg "int" = none):Has P w K mg base 101 "_law_feed" ["_law_cell"] oQ:=by refine Has.mkZ hF aAx (λds M Q ⟨c,e,_⟩=>by rw[e];rfl) λf cdv A outer s H ds M Q E hr h=>?_;obtain⟨c,rfl,q⟩:=h;refine⟨_,(aG (aO (fK (aB (aA 0) (aB aC (aB (jF aEp xW (aB (gI aLC (aA 0) (aK uZ aC aC)) aD)) aD)))))),?_⟩;refine⟨⟨by decide,by decide,by decide⟩,by show(3:Nat)<=1000;decide,λp hp=>⟨_,.refl _,?_⟩⟩;exact q p _ hp ⟨c,0,_,aJ,by decide,by decide⟩ Adv.put
noncomputable abbrev qB:Stmt:=top 52
theorem iM:aS ["_law_from","_law_many","_law_k","_law_found","_law_number"] ["_law_from","_law_many"] (aI qB):=by ac_rfl
theorem zY (hF:cM K mg "_law_draw" qB ["_law_from","_law_many"]):Has P w K mg base 101 "_law_draw" ["_law_from","_law_many"] kI:=by
 refine Has.mkZ hF iM (λds M Q ⟨a,m,n,e,_⟩=>by rw[e];rfl) λf cdv A outer s H ds M Q E hr h=>?_;obtain⟨a,many,n,rfl,⟨c,k,fl,ha,k0,k1⟩,hn,hm,hB,q⟩:=h;refine⟨_,(aF (aM (i:=2) iM.nd (aH (aA 0) aC))
  (aF (cU (aK cY (aA 2) aC) (pK (aA 0) aC))
  (aF (bV (pT (iX (aY (eP hr) (aH (aA 0) aC) aC) (jO (aY xY (aH (aA 0) aC) aC)))) (aF (aM (i:=3) iM.nd (aK kX (aH (aA 0) aC) (aA 1)))
  (aF (cU (aK fJ (aH (aA 0) aC) (aA 1)) (pK (aA 0) aC))
  (aG (aO (aA 3))))) aZ)
  (aF (aM (i:=4) iM.nd (aK kX (aK bE (aK cY (aK cY (aK kX (aH (aA 0) aC) (aK uZ aC aC)) (aK bE (aK bE aC (aA 2)) (aA 2))) (aA 2)) aC) aC))
  (aF (aM (i:=4) iM.nd (aK kX (aK cY (aK bE (aA 4) aC) aC) aC))
  (aG (aO (aK kX (aK fJ (aA 4) aC) (aA 1))))))))),?_⟩
 have hm0:many≠0:=by omega
 have hk:Bd 63 k:=Bd.of (by omega) (by omega);refine⟨_,_,ha,rfl,_,1,ha,rfl,?_⟩;have h1:aX M a [.int c,.int (k+1),.int fl] a=some [.int c,.int (k+1),.int fl]:=aJ;have av:Adv M (aX M a [.int c,.int (k+1),.int fl]) a:=Adv.put;have fd1:FdN (aX M a [.int c,.int (k+1),.int fl]) a (n+1):=⟨c,k+1,fl,h1,by omega,by omega⟩;have slow:∀x:Int,Q (.int ((x.fdiv 16).fmod many)) (aX M a [.int c,.int (k+1),.int fl]):=λx=>q _ _ (Int.fmod_nonneg_of_pos _ hm) (Int.fmod_lt_of_pos _ hm) fd1 av;refine⟨_,_,h1,rfl,rfl,rfl,?_⟩;have cH:∀(u v:Int),∃ds d,aX M a [.int c,.int (k+1),.int fl] a=some ds/\atI ds 0=some d/\True:=λ_ _=>⟨_,_,h1,rfl,trivial⟩;refine vK (λ_=>?_) (λ_=>?_)
 ·refine⟨_,_,h1,rfl,?_⟩;refine dif (λ_=>?_) (λ_=>?_)
  ·refine⟨_,_,h1,rfl,hm0,_,_,h1,rfl,⟨hm0,Nat.lt_succ_of_lt (hB.log (by decide))⟩,_,0,h1,rfl,_,.refl _,?_⟩;refine q _ _ (Int.fmod_nonneg_of_pos _ hm) (Int.fmod_lt_of_pos _ hm) ⟨_,k+1,fl,aJ,by omega,by omega⟩ (Adv.put.trans Adv.put)
  ·refine⟨_,_,h1,rfl,⟨by decide,by decide,by decide⟩,(by dsimp only;decide),aBn (by unfold Bd;decide),sQ hk,sQ (by unfold Bd;decide),(by dsimp only;decide),sQ (by unfold Bd;decide),(by dsimp only;decide),⟨by decide,by decide +kernel⟩,hm0,_,.refl _,?_⟩;exact slow _
 ·refine⟨_,_,h1,rfl,⟨by decide,by decide,by decide⟩,(by dsimp only;decide),aBn (by unfold Bd;decide),sQ hk,sQ (by unfold Bd;decide),(by dsimp only;decide),sQ (by unfold Bd;decide),(by dsimp only;decide),⟨by decide,by decide +kernel⟩,hm0,_,.refl _,?_⟩;exact slow _
noncomputable abbrev mU:Stmt:=top 53
theorem gF:aS ["_law_top","_law_bottom","_law_one","_law_other"] ["_law_top","_law_bottom"] (aI mU):=by ac_rfl
theorem wM (hF:cM K mg "_law_lowest" mU ["_law_top","_law_bottom"])(wK:mg "abs" = none):Has P w K mg base 101 "_law_lowest" ["_law_top","_law_bottom"] eE:=by
 refine Has.mkZ hF gF (λds M Q ⟨a,b,e,_⟩=>by rw[e];rfl) λf cdv A outer s H ds M Q E hr h=>?_;obtain⟨t,b,rfl,hb,hB,q⟩:=h;refine⟨_,(aF (aM (i:=2) gF.nd (bX aBp wK (aB (aA 0) aD)))
  (aF (aM (i:=3) gF.nd (bX aBp wK (aB (aA 1) aD)))
  (aF (lK PassesOwn.never (aY xY (aA 3) aC) (aG (aCV (i:=2) (j:=3) rfl gF.nd (aB (aA 3) (aB (aK kX (aA 2) (aA 3)) aD)))))
  (aF (bV (aY pU (aA 1) aC) (aG (aM (i:=2) gF.nd (aK gW aC (aA 2)))) aZ)
  (aG (aO (bC (aB (aK fJ (aA 0) (aA 2)) (aB (aK fJ (aA 1) (aA 2)) aD))))))))),?_⟩
 refine pH (λm ρ M'=>M'=M/\∃x y:Int,ρ=[some (.int t),some (.int b),some (.int x),some (.int y)]/\m=y.natAbs/\0<=x/\0<=y/\Int.gcd x y=Int.gcd t b) _ ⟨rfl,_,_,rfl,rfl,by split<;>omega,by split<;>omega,by split<;>split<;>simp[Int.gcd_neg,Int.neg_gcd]⟩ ?_
 rintro m ρ M' ⟨rfl,x,y,rfl,rfl,hx,hy,g⟩;refine dif (λc=>?_) (λc=>?_)
 ·have hy':y≠0:=by omega
  exact⟨hy',_,aCK hy',rfl,y,x.fmod y,rfl,rfl,hy,Int.fmod_nonneg_of_pos _ (by omega),(aAG x y).trans g⟩
 ·have hy':y=0:=by omega
  subst hy';have e:x=(Int.gcd t b:Int):=by rw[<- g,Int.gcd_zero_right];omega
  have fin:Q (.tup [.int (fT t b),.int (fB t b)]) M':=by rw[aHj hb];exact q
  unfold fT fB at fin;have s1:=aKU (t:=t) hb;have s2:=(hB.sg (t:=t) hb).log (by decide);unfold sg at fin s1 s2;refine dif (λc=>?_) (λc=>?_)
  ·rw[if_pos c,<- e,<- Int.zero_sub] at fin s1 s2;exact⟨⟨s1,Nat.lt_succ_of_lt s2⟩,⟨s1,Nat.lt_succ_of_lt s2⟩,by show(2:Nat)<=1000;decide,M',.refl _,fin⟩
  ·rw[if_neg c,<- e] at fin s1 s2;exact⟨⟨s1,Nat.lt_succ_of_lt s2⟩,⟨s1,Nat.lt_succ_of_lt s2⟩,by show(2:Nat)<=1000;decide,M',.refl _,fin⟩
def rA:DSp:=rS 40000 3 (IsF 24)
theorem aJ4 {x:Int}(h1:-10000000<=x)(h2:x<=10000000):Bd 24 x:=by unfold Bd;omega
theorem aDI {z:Int}(h1:-10000000<=z)(h2:z<=10000000):IsF 24 (.tup [.int z,.int 1]):=⟨z,(aKi z).symm,.int (aJ4 h1 h2) (by decide)⟩
theorem xQ {t b:Int}(h0:0<b)(h1:-10000000<=t)(h2:t<=10000000)(h3:b<=10000000):IsF 24 (FQ ((t:Rat)/(b:Rat))):=⟨_,rfl,.make (by omega) (aJ4 h1 h2) (aJ4 (by omega) h3)⟩
noncomputable abbrev nU:Stmt:=top 54
theorem sF:aS ["_law_from","_law_way"] ["_law_from"] (aI nU):=by ac_rfl
theorem wW (hF:cM K mg "_law_small" nU ["_law_from"])(bJ:Has P w K mg base 101 "_law_draw" ["_law_from","_law_many"] kI)(bF:Has P w K mg base 101 "_law_lowest" ["_law_top","_law_bottom"] eE):Has P w K mg base 102 "_law_small" ["_law_from"] rA:=by
 refine Has.mkZ hF sF tN λf cdv A outer s H ds M Q E hr h=>?_;obtain⟨a,n,rfl,fd,hn,q⟩:=h;refine⟨_,(aF (aM (i:=1) sF.nd (aE bJ hr (by decide) (aB (aA 0) (aB aC aD))))
  (aF (bV (aY pU (aA 1) aC) (aG (aO (bC (aB (aK gW (aE bJ hr (by decide) (aB (aA 0) (aB aC aD))) aC) (aB aC aD))))) aZ)
  (aF (bV (aY pU (aA 1) aC) (aG (aO (aE bF hr (by decide) (aB (aK gW (aE bJ hr (by decide) (aB (aA 0) (aB aC aD))) aC) (aB (aK cY aC (aE bJ hr (by decide) (aB (aA 0) (aB aC aD)))) aD))))) aZ)
  (aG (aO (aE bF hr (by decide) (aB (aK gW (aE bJ hr (by decide) (aB (aA 0) (aB (aK bE aC (aK uZ aC aC)) aD))) (aK uZ aC aC)) (aB (aK cY aC (aE bJ hr (by decide) (aB (aA 0) (aB (aK uZ aC aC) aD)))) aD)))))))),?_⟩
 refine⟨a,12,n,rfl,fd,by omega,by decide,bdk (by decide),λway M1 w0 w1 fd1 av1=>dif (λ_=>?_) (λ_=>?_)⟩
 ·refine⟨a,9,_,rfl,fd1,by omega,by decide,bdk (by decide),λr M2 r0 r1 fd2 av2=>?_⟩;exact⟨by show(2:Nat)<=1000;decide,M2,.refl _,q _ M2 (aDI (by omega) (by omega)) (fd2.mono (by omega)) (av1.trans av2)⟩
 refine dif (λ_=>?_) (λ_=>?_)
 ·refine⟨a,41,_,rfl,fd1,by omega,by decide,bdk (by decide),λr M2 r0 r1 fd2 av2=>?_⟩;refine⟨a,12,_,rfl,fd2,by omega,by decide,bdk (by decide),λr' M3 s0 s1 fd3 av3=>?_⟩;exact⟨_,_,rfl,by omega,(aHH (by omega) (by omega)).mono (by decide),M3,.refl _,q _ M3 (xQ (by omega) (by omega) (by omega) (by omega)) (fd3.mono (by omega)) ((av1.trans av2).trans av3)⟩
 refine⟨⟨by decide,by decide,by decide⟩,aBn (by unfold Bd;decide),a,_,_,rfl,fd1,by omega,by decide,bdk (by decide),λr M2 r0 r1 fd2 av2=>?_⟩;have r1:r<2000000:=r1;refine⟨⟨by decide,by decide,by decide⟩,⟨by decide,by decide,by decide⟩,a,_,_,rfl,fd2,by omega,by decide,bdk (by decide),λr' M3 s0 s1 fd3 av3=>?_⟩;have s1:r'<10000:=s1;have e:((10:Int)^Int.toNat 6)=1000000:=by decide
 exact⟨_,_,rfl,by omega,(aHH (by omega) (by omega)).mono (by decide),M3,.refl _,q _ M3 (xQ (by omega) (by rw[e];omega) (by rw[e];omega) (by omega)) (fd3.mono (by omega)) ((av1.trans av2).trans av3)⟩
def tU:DSp:=rS 30000 6 (IsP 24)
noncomputable abbrev qO:Stmt:=top 55
theorem tW:aS ["_law_from","_law_x"] ["_law_from"] (aI qO):=by ac_rfl
theorem aAh (hF:cM K mg "_law_spot" qO ["_law_from"])(jX:Has P w K mg base 102 "_law_small" ["_law_from"] rA):Has P w K mg base 103 "_law_spot" ["_law_from"] tU:=by
 refine Has.mkZ hF tW tN λf cdv A outer s H ds M Q E hr h=>?_;obtain⟨a,n,rfl,fd,hn,q⟩:=h;refine⟨_,(aF (aM (i:=1) tW.nd (aE jX hr (by decide) (aB (aA 0) aD)))
  (aG (aO (bC (aB (aA 1) (aB (aE jX hr (by decide) (aB (aA 0) aD)) aD)))))),?_⟩
 refine⟨a,_,rfl,fd,by omega,λd M2 ⟨x,ex,hx⟩ fd2 av2=>⟨a,_,rfl,fd2,by omega,λd' M3 ⟨y,ey,hy⟩ fd3 av3=>?_⟩⟩;subst ex ey;exact⟨by show(2:Nat)<=1000;decide,M3,.refl _,q _ M3 ⟨x,y,rfl,hx,hy⟩ (fd3.mono (by omega)) (av2.trans av3)⟩
noncomputable def zs (z:Int)(p r:Rat):Rat:=if z=1 then p+r else p-r
theorem aFk (p r:Rat):zs 1 p r=p+r:=rfl
theorem aEY (p r:Rat):zs (-1) p r=p-r:=rfl
def qL:DSp:=λds M Q=>∃p r z m n,ds=[FQ p,FQ r,.int z]/\(z=1∨z = -1)/\BQ m p/\BQ n r/\m+n<=8998/\Q (FQ (zs z p r)) M
noncomputable abbrev tF:Stmt:=top 56
theorem aBY:aS ["_law_one","_law_other","_law_by"] ["_law_one","_law_other","_law_by"] (aI tF):=by ac_rfl
theorem aAE (hF:cM K mg "_law_sum" tF ["_law_one","_law_other","_law_by"])(bF:Has P w K mg base 101 "_law_lowest" ["_law_top","_law_bottom"] eE):Has P w K mg base 102 "_law_sum" ["_law_one","_law_other","_law_by"] qL:=by
 refine Has.mkZ hF aBY (λds M Q ⟨x,y,z,m,n,e,_⟩=>by rw[e];rfl) λf cdv A outer s H ds M Q E hr h=>?_;obtain⟨p,r,z,m,n,rfl,hz,h1,h2,l,q⟩:=h;refine⟨_,(aG (aO (aE bF hr (by decide) (aB (aK cY (aK bE (aH (aA 0) aC) (aH (aA 1) aC)) (aK bE (aK bE (aA 2) (aH (aA 1) aC)) (aH (aA 0) aC))) (aB (aK bE (aH (aA 0) aC) (aH (aA 1) aC)) aD))))),?_⟩;have hz':Bd 1 z:=by unfold Bd;rcases hz with rfl|rfl<;>decide
 refine⟨cG h1.1 h2.2 (by omega),cG hz' h2.1 (by omega),cG (hz'.mul h2.1) h1.2 (by omega),cG h1.2 h2.2 (by omega),_,_,rfl,Int.mul_ne_zero (cX p) (cX r),(h1.2.mul h2.2).mono (by omega),M,.refl _,?_⟩;have e:(((p.num*r.den+z*r.num*p.den:Int)):Rat)/((p.den*r.den:Int):Rat)=zs z p r:=by
  rcases hz with rfl|rfl
  ·rw[aFk,<- aMl,Int.one_mul]
  ·rw[aEY,<- aL5,show p.num*(r.den:Int) + -1*r.num*p.den=p.num*r.den-r.num*p.den by grind]
 rw[e];exact q
theorem aCu {m n:Nat}{p r:Rat}{z:Int}(h:BQ m p)(h2:BQ n r):BQ (m+n+1) (zs z p r):=by
 unfold Lw.zs;split
 ·exact h.add h2
 ·exact h.sub h2
def kF:DSp:=λds M Q=>∃x y u v z m n,ds=[PQ x y,PQ u v,.int z]/\(z=1∨z = -1)/\BQ m x/\BQ m y/\BQ n u/\BQ n v/\m+n<=8998/\Q (PQ (zs z x u) (zs z y v)) M
noncomputable abbrev qV:Stmt:=top 58
theorem aA5:aS ["_law_p","_law_q","_law_by"] ["_law_p","_law_q","_law_by"] (aI qV):=by ac_rfl
theorem yF (hF:cM K mg "_law_both" qV ["_law_p","_law_q","_law_by"])(gP:Has P w K mg base 102 "_law_sum" ["_law_one","_law_other","_law_by"] qL):Has P w K mg base 103 "_law_both" ["_law_p","_law_q","_law_by"] kF:=by refine Has.mkZ hF aA5 (λds M Q ⟨x,y,u,v,z,m,n,e,_⟩=>by rw[e];rfl) λf cdv A outer s H ds M Q E hr h=>?_;obtain⟨x,y,u,v,z,m,n,rfl,hz,h1,h2,h3,h4,l,q⟩:=h;refine⟨_,(aG (aO (bC (aB (aE gP hr (by decide) (aB (aH (aA 0) aC) (aB (aH (aA 1) aC) (aB (aA 2) aD)))) (aB (aE gP hr (by decide) (aB (aH (aA 0) aC) (aB (aH (aA 1) aC) (aB (aA 2) aD)))) aD))))),?_⟩;exact⟨x,u,z,_,_,rfl,hz,h1,h3,l,y,v,z,_,_,rfl,hz,h2,h4,l,by show(2:Nat)<=1000;decide,M,.refl _,q⟩
def oC:DSp:=lB
noncomputable abbrev kW:Stmt:=top 57
theorem vX:aS ["_law_one","_law_other"] ["_law_one","_law_other"] (aI kW):=by ac_rfl
theorem uF (hF:cM K mg "_law_product" kW ["_law_one","_law_other"])(bF:Has P w K mg base 101 "_law_lowest" ["_law_top","_law_bottom"] eE):Has P w K mg base 102 "_law_product" ["_law_one","_law_other"] oC:=by refine Has.mkZ hF vX pI λf cdv A outer s H ds M Q E hr h=>?_;obtain⟨p,r,m,n,rfl,_,h1,h2,l,q⟩:=h;refine⟨_,(aG (aO (aE bF hr (by decide) (aB (aK bE (aH (aA 0) aC) (aH (aA 1) aC)) (aB (aK bE (aH (aA 0) aC) (aH (aA 1) aC)) aD))))),?_⟩;exact⟨cG h1.1 h2.1 (by omega),cG h1.2 h2.2 (by omega),_,_,rfl,Int.mul_ne_zero (cX p) (cX r),(h1.2.mul h2.2).mono (by omega),M,.refl _,by rw[aMj];exact q⟩
def nQ:DSp:=λds M Q=>∃(ns:List Int)(k:Nat),ds=[.fz (ns.map D.int),.int (k:Int)]/\∀c:Int,Q (.int c) M
noncomputable abbrev kT:Stmt:=top 50
theorem vE:aS ["_law_script","_law_k"] ["_law_script","_law_k"] (aI kT):=by ac_rfl
theorem uJ (hF:cM K mg "_law_cell_at" kT ["_law_script","_law_k"])(eK:mg "len" = none):Has P w K mg base 101 "_law_cell_at" ["_law_script","_law_k"] nQ:=by
 refine Has.mkZ hF vE (λds M Q ⟨a,n,z,_⟩=>by rw[z];rfl) λf cdv A outer s H ds M Q E hr h=>?_;obtain⟨ns,k,rfl,q⟩:=h;refine⟨_,(aF (bV (aY pU (aA 1) (bX jH eK (aB (aA 0) aD))) (aG (aO (aH (aA 0) (aA 1)))) aZ)
  (aG (aO aC))),?_⟩
 ac_nf;show(λx M1=>_) _ _;refine dif (λc=>?_) (λc=>⟨M,.refl _,q 0⟩);have hk:k<(ns.map D.int).length:=by have:(k:Int)<((ns.map D.int).length:Int):=c;omega
 have hat:atI (ns.map D.int) (k:Int)=some (.int (ns[k]'(by simpa using hk))):=iJ (by rw[getElem?_eq_getElem hk];simp);try dsimp only[mO]
 rw[hat];exact⟨M,.refl _,q _⟩
noncomputable abbrev Sp:=Int×Int
structure Cmp (S L:List Sp):Prop where
 sep:L.Pairwise λx y=>x.2<y.1∨y.2<x.1
 wf:∀x∈L,x.1<=x.2
 cov:∀s∈S,∃x∈L,x.1<=s.1/\s.2<=x.2
 st:∀x∈L,∃s∈S,s.1=x.1
 gap:∀x∈L,∀t,x.1<=t->t<x.2->∃s∈S,s.1<=t/\t<s.2
theorem aDT {R:Sp->Sp->Prop}(sy:∀x y,R x y->R y x){L:List Sp}(h:L.Pairwise R){x y:Sp}(hx:x∈L)(hy:y∈L)(ne:x≠y):R x y:=by
 induction L with
 |nil=>cases hx
 |cons a L ih =>
  obtain⟨h1,h2⟩:=List.pairwise_cons.mp h;rcases List.mem_cons.mp hx with e1|e1<;>rcases List.mem_cons.mp hy with e2|e2
  ·exact absurd (e1.trans e2.symm) ne
  ·rw[e1];exact h1 y e2
  ·rw[e2];exact sy _ _ (h1 x e1)
  ·exact ih h2 e1 e2
theorem Cmp.ne {S L:List Sp}(h:Cmp S L){x y:Sp}(hx:x∈L)(hy:y∈L)(ne:x≠y):x.2<y.1∨y.2<x.1:=aDT (R:=λx y=>x.2<y.1∨y.2<x.1) (λ_ _ h=>h.symm) h.sep hx hy ne
theorem Cmp.of_mem {S S' L:List Sp}(h:Cmp S L)(e:∀s,s∈S↔s∈S'):Cmp S' L :=
 ⟨h.sep,h.wf,λs hs=>h.cov s ((e s).mpr hs),λx hx=>by obtain⟨s,hs,z⟩:=h.st x hx;exact⟨s,(e s).mp hs,z⟩,λx hx t a b=>by obtain⟨s,hs,z⟩:=h.gap x hx t a b;exact⟨s,(e s).mp hs,z⟩⟩
noncomputable def jn (W:List Sp)(s:Sp):List Sp:=match W.getLast? with
 |none=>W++[s]
 |some l=>if l.2<s.1 then W++[s] else if l.2<s.2 then W.dropLast++[(l.1,s.2)] else W
structure Jn (S W:List Sp):Prop where
 c:Cmp S W
 asc:W.Pairwise λx y=>x.2<y.1
theorem Jn.step {S W:List Sp}(h:Jn S W){s:Sp}(ws:s.1<=s.2)(hs:∀x∈S,x.1<=s.1):Jn (S++[s]) (jn W s):=by
 have up:∀{x},x∈S->x∈S++[s]:=λh=>mem_append_left _ h;have sm:s∈S++[s]:=mem_append_right _ mem_cons_self;rcases List.eq_nil_or_concat W with z|⟨V,l,z⟩
 ·have e:jn W s=[s]:=by rw[z];rfl
  rw[e];refine⟨⟨pairwise_singleton _ _,λx hx=>by rw[List.mem_singleton.mp hx];exact ws,λx hx=>?_,λx hx=>?_,λx hx t a b=>?_⟩,pairwise_singleton _ _⟩
  ·rcases List.mem_append.mp hx with hx|hx
   ·obtain⟨y,hy,_⟩:=h.c.cov x hx;rw[z] at hy;cases hy
   ·rw[List.mem_singleton.mp hx];exact⟨s,mem_cons_self,Int.le_refl _,Int.le_refl _⟩
  ·rw[List.mem_singleton.mp hx];exact⟨s,sm,rfl⟩
  ·rw[List.mem_singleton.mp hx] at a b;exact⟨s,sm,a,b⟩
 rw[List.concat_eq_append] at z;have gl:W.getLast?=some l:=by rw[z,List.getLast?_concat]
 have asc:=h.asc;rw[z,List.pairwise_append] at asc;obtain⟨av,_,avl⟩:=asc;have avl:∀x∈V,x.2<l.1:=λx hx=>avl x hx l mem_cons_self;have lW:l∈W:=by rw[z];exact mem_append_right _ mem_cons_self
 have vW:∀{x},x∈V->x∈W:=λhx=>by rw[z];exact mem_append_left _ hx
 have wl:=h.c.wf l lW;have ls:l.1<=s.1:=by obtain⟨x,hx,e⟩:=h.c.st l lW;rw[<- e];exact hs x hx
 have asc2:∀{m:Sp},l.1<=m.1->(V++[m]).Pairwise (λx y=>x.2<y.1):=λ{m} hm =>
  List.pairwise_append.mpr ⟨av,pairwise_singleton _ _,λx hx y hy=>by rw[List.mem_singleton.mp hy];have:=avl x hx;omega⟩
 have sep:∀{U:List Sp},U.Pairwise (λx y=>x.2<y.1)->U.Pairwise λx y=>x.2<y.1∨y.2<x.1:=λh=>h.imp λh=>.inl h;have e:jn W s=if l.2<s.1 then W++[s] else if l.2<s.2 then W.dropLast++[(l.1,s.2)] else W:=by unfold jn;rw[gl]
 rw[e];by_cases c1:l.2<s.1
 ·rw[if_pos c1];have asc:(W++[s]).Pairwise λx y=>x.2<y.1:=List.pairwise_append.mpr ⟨h.asc,pairwise_singleton _ _,λx hx y hy=>by
   rw[List.mem_singleton.mp hy];rw[z] at hx;rcases List.mem_append.mp hx with hx|hx
   ·have:=avl x hx;omega
   ·rw[List.mem_singleton.mp hx];exact c1⟩
  refine⟨⟨sep asc,λx hx=>?_,λx hx=>?_,λx hx=>?_,λx hx t a b=>?_⟩,asc⟩
  ·rcases List.mem_append.mp hx with hx|hx
   ·exact h.c.wf x hx
   ·rw[List.mem_singleton.mp hx];exact ws
  ·rcases List.mem_append.mp hx with hx|hx
   ·obtain⟨y,hy,q⟩:=h.c.cov x hx;exact⟨y,mem_append_left _ hy,q⟩
   ·exact⟨s,mem_append_right _ mem_cons_self,by rw[List.mem_singleton.mp hx];exact⟨Int.le_refl _,Int.le_refl _⟩⟩
  ·rcases List.mem_append.mp hx with hx|hx
   ·obtain⟨y,hy,q⟩:=h.c.st x hx;exact⟨y,up hy,q⟩
   ·rw[List.mem_singleton.mp hx];exact⟨s,sm,rfl⟩
  ·rcases List.mem_append.mp hx with hx|hx
   ·obtain⟨y,hy,q⟩:=h.c.gap x hx t a b;exact⟨y,up hy,q⟩
   ·rw[List.mem_singleton.mp hx] at a b;exact⟨s,sm,a,b⟩
 rw[if_neg c1];by_cases c2:l.2<s.2
 ·rw[if_pos c2,z,List.dropLast_concat];have asc:=asc2 (m:=(l.1,s.2)) (Int.le_refl _);refine⟨⟨sep asc,λx hx=>?_,λx hx=>?_,λx hx=>?_,λx hx t a b=>?_⟩,asc⟩
  ·rcases List.mem_append.mp hx with hx|hx
   ·exact h.c.wf x (vW hx)
   ·rw[List.mem_singleton.mp hx];show l.1<=s.2;omega
  ·have lst:(l.1,s.2)∈V++[(l.1,s.2)]:=mem_append_right _ mem_cons_self;rcases List.mem_append.mp hx with hx|hx
   ·obtain⟨y,hy,q⟩:=h.c.cov x hx;rw[z] at hy;rcases List.mem_append.mp hy with hy|hy
    ·exact⟨y,mem_append_left _ hy,q⟩
    ·rw[List.mem_singleton.mp hy] at q;exact⟨_,lst,q.1,by show x.2<=s.2;omega⟩
   ·rw[List.mem_singleton.mp hx];exact⟨_,lst,ls,Int.le_refl _⟩
  ·rcases List.mem_append.mp hx with hx|hx
   ·obtain⟨y,hy,q⟩:=h.c.st x (vW hx);exact⟨y,up hy,q⟩
   ·obtain⟨y,hy,q⟩:=h.c.st l lW;rw[List.mem_singleton.mp hx];exact⟨y,up hy,q⟩
  ·rcases List.mem_append.mp hx with hx|hx
   ·obtain⟨y,hy,q⟩:=h.c.gap x (vW hx) t a b;exact⟨y,up hy,q⟩
   ·rw[List.mem_singleton.mp hx] at a b;have a:l.1<=t:=a;have b:t<s.2:=b;by_cases d:t<l.2
    ·obtain⟨y,hy,q⟩:=h.c.gap l lW t a d;exact⟨y,up hy,q⟩
    ·exact⟨s,sm,by omega,b⟩
 ·rw[if_neg c2];refine⟨⟨h.c.sep,h.c.wf,λx hx=>?_,λx hx=>?_,λx hx t a b=>?_⟩,h.asc⟩
  ·rcases List.mem_append.mp hx with hx|hx
   ·exact h.c.cov x hx
   ·rw[List.mem_singleton.mp hx];exact⟨l,lW,ls,by omega⟩
  ·obtain⟨y,hy,q⟩:=h.c.st x hx;exact⟨y,up hy,q⟩
  ·obtain⟨y,hy,q⟩:=h.c.gap x hx t a b;exact⟨y,up hy,q⟩
theorem Jn.nil:Jn [] []:=⟨⟨.nil,(λ_ h=>by cases h),(λ_ h=>by cases h),(λ_ h=>by cases h),(λ_ h=>by cases h)⟩,.nil⟩
theorem aHL:∀{S:List Sp}{pre W:List Sp},Jn pre W->(∀s∈S,s.1<=s.2)->S.Pairwise (λa b=>a.1<=b.1)->(∀x∈pre,∀s∈S,x.1<=s.1)->Jn (pre++S) (S.foldl jn W)
 |[],pre,W,h,_,_,_=>by rw[append_nil];exact h
 |s::S,pre,W,h,wf,so,hp=>by
  obtain⟨s1,s2⟩:=List.pairwise_cons.mp so;have:=aHL (S:=S) (h.step (wf s mem_cons_self) λx hx=>hp x hx s mem_cons_self) (λx hx=>wf x (mem_cons_of_mem _ hx)) s2 λx hx y hy=>by
   rcases List.mem_append.mp hx with hx|hx
   ·exact hp x hx y (mem_cons_of_mem _ hy)
   ·rw[List.mem_singleton.mp hx];exact s1 y hy
  rw[append_assoc] at this;exact this
theorem aEa:∀(S W:List Sp),(S.foldl jn W).length<=W.length+S.length
 |[],W=>Nat.le_refl _
 |s::S,W=>by
  have:=aEa S (jn W s);have:(jn W s).length<=W.length+1:=by
   unfold jn;split
   ·rw[length_append];exact Nat.le_refl _
   ·split
    ·rw[length_append];exact Nat.le_refl _
    ·split
     ·rw[length_append,List.length_dropLast];show _+1<=_;omega
     ·omega
  rw[foldl_cons,length_cons];omega
theorem Cmp.en {S L:List Sp}(h:Cmp S L){x:Sp}(hx:x∈L)(l:x.1<x.2):∃s∈S,s.2=x.2:=by
 obtain⟨s,hs,a,b⟩:=h.gap x hx (x.2-1) (by omega) (by omega);obtain⟨y,hy,c,d⟩:=h.cov s hs;by_cases e:y=x
 ·exact⟨s,hs,by rw[e] at d;omega⟩
 ·rcases h.ne hy hx e with f|f<;>omega
theorem Cmp.all {S L:List Sp}(h:Cmp S L){R:Int->Prop}(hS:∀s∈S,R s.1/\R s.2):∀x∈L,R x.1/\R x.2:=λx hx=>by
 obtain⟨s,hs,e⟩:=h.st x hx;have r1:R x.1:=by rw[<- e];exact(hS s hs).1
 by_cases l:x.1<x.2
 ·obtain⟨t,ht,e⟩:=h.en hx l;exact⟨r1,by rw[<- e];exact(hS t ht).2⟩
 ·have:=h.wf x hx;exact⟨r1,by rw[show x.2=x.1 by omega];exact r1⟩
noncomputable def stp (m r k:Int):Int:=if r+k<m then r+k else r+k-m
noncomputable def rel (m r j:Int):Int:=if r<=j then j-r else j+m-r
noncomputable def pg (m a:Int):Int:=if a=0 then m-1 else a-1
noncomputable def wrp:Int->List Sp->Int×List Sp
 |e,[]=>(e,[])
 |e,x::xs=>if x.1<=e then wrp (if e<x.2 then x.2 else e) xs else (e,x::xs)
theorem aIV {e:Int}{x:Sp}{xs:List Sp}(h:x.1<=e):wrp e (x::xs)=wrp (if e<x.2 then x.2 else e) xs:=if_pos h
theorem aDW {e:Int}{x:Sp}{xs:List Sp}(h:¬x.1<=e):wrp e (x::xs)=(e,x::xs):=if_neg h
structure aLd (e0:Int)(V:List Sp)(e:Int)(V':List Sp):Prop where
 low:e0<=e
 sub:∀x∈V',x∈V
 pw:V'.Pairwise λx y=>x.2<y.1
 cov:∀x∈V,x∈V'∨(x.1<=e/\x.2<=e)
 fill:∀g,g<e->g<e0 ∨ ∃x∈V,x.1<=g/\g<x.2
 up:∀x∈V',e<x.1
 is:e=e0 ∨ ∃x∈V,e=x.2
theorem aBK:∀(V:List Sp)(e0:Int),V.Pairwise (λx y=>x.2<y.1)->(∀x∈V,x.1<=x.2)->aLd e0 V (wrp e0 V).1 (wrp e0 V).2
 |[],e0,_,_=>⟨Int.le_refl _,λ_ h=>h,.nil,λ_ h=>(by cases h),λg h=>.inl h,λ_ h=>(by cases h),.inl rfl⟩
 |x::xs,e0,p,wf=>by
  obtain⟨p1,p2⟩:=List.pairwise_cons.mp p;unfold wrp;by_cases c:x.1<=e0
  ·rw[if_pos c];have h:=aBK xs (if e0<x.2 then x.2 else e0) p2 λy hy=>wf y (mem_cons_of_mem _ hy);generalize wrp (if e0<x.2 then x.2 else e0) xs=r at h ⊢;have hm:e0<=(if e0<x.2 then x.2 else e0)/\x.2<=(if e0<x.2 then x.2 else e0):=by split<;>omega
   have he:(if e0<x.2 then x.2 else e0)=e0∨(if e0<x.2 then x.2 else e0)=x.2:=by split<;>simp
   generalize (if e0<x.2 then x.2 else e0)=e1 at h hm he;have:=h.low;refine⟨by omega,λy hy=>mem_cons_of_mem _ (h.sub y hy),h.pw,λy hy=>?_,λg hg=>?_,h.up,?_⟩
   ·rcases List.mem_cons.mp hy with e|e
    ·rw[e];exact .inr ⟨by omega,by omega⟩
    ·exact h.cov y e
   ·rcases h.fill g hg with z|⟨y,hy,z⟩
    ·by_cases d:g<e0
     ·exact .inl d
     ·exact .inr ⟨x,mem_cons_self,by omega,by omega⟩
    ·exact .inr ⟨y,mem_cons_of_mem _ hy,z⟩
   ·rcases h.is with z|⟨y,hy,z⟩
    ·rcases he with q|q
     ·exact .inl (z.trans q)
     ·exact .inr ⟨x,mem_cons_self,z.trans q⟩
    ·exact .inr ⟨y,mem_cons_of_mem _ hy,z⟩
  ·rw[if_neg c];refine⟨Int.le_refl _,λ_ h=>h,p,λy hy=>.inl hy,λg h=>.inl h,λy hy=>?_,.inl rfl⟩;rcases List.mem_cons.mp hy with e|e
   ·rw[e];omega
   ·have:=p1 y e;have:=wf x mem_cons_self;show e0<y.1;omega
def inA (a b g:Int):Prop:=if a<b then a<=g/\g<b else a<=g∨g<b
structure MR (m:Int)(C:Int->Prop)(a b:Int):Prop where
 a0:0<=a
 am:a<m
 b0:0<=b
 bm:b<m
 ne:a≠b
 all:∀g,0<=g->g<m->inA a b g->C g
 lo:¬C (pg m a)
 hi:¬C b
noncomputable def iR (m:Int)(V:List Sp)(l:Sp):Option (List Sp) :=
 if l.2<m then some (V++[l]) else if (wrp (l.2-m) V).2=[]/\l.1<=(wrp (l.2-m) V).1 then none else some ((wrp (l.2-m) V).2++[(l.1,(wrp (l.2-m) V).1)])
structure aIA (m:Int)(C:Int->Prop)(V:List Sp)(l:Sp):Prop where
 asc:(V++[l]).Pairwise λx y=>x.2<y.1
 lo:∀x∈V++[l],0<=x.1/\x.1<x.2/\x.1<m
 cov:∀g,0<=g->g<m->(C g↔(∃x∈V++[l],x.1<=g/\g<x.2)∨g+m<l.2)
theorem aDe {m:Int}{C:Int->Prop}{V:List Sp}{l:Sp}(h:aIA m C V l)(e:iR m V l=none):∀g,0<=g->g<m->C g:=by
 unfold iR at e;by_cases c:l.2<m
 ·rw[if_pos c] at e;cases e
 ·rw[if_neg c] at e;have w:=aBK V (l.2-m) (List.pairwise_append.mp h.asc).1 λx hx=>by have:=h.lo x (mem_append_left _ hx);omega
  generalize wrp (l.2-m) V=r at e w;by_cases d:r.2=[]/\l.1<=r.1
  ·intro g g0 gm;rw[h.cov g g0 gm];by_cases q:l.1<=g
   ·exact .inl ⟨l,mem_append_right _ mem_cons_self,q,by omega⟩
   ·rcases w.fill g (by omega) with z|⟨x,hx,z⟩
    ·exact .inr (by omega)
    ·exact .inl ⟨x,mem_append_left _ hx,z⟩
  ·rw[if_neg d] at e;cases e
theorem aC2 {m:Int}{C:Int->Prop}{V F:List Sp}{l:Sp}(m0:0<m)(h:aIA m C V l)(e:iR m V l=some F):(F.map (·.1)).Nodup/\(∃g,0<=g/\g<m/\¬C g)/\(∀a b,(a,b)∈F↔MR m C a b)/\∀g,0<=g->g<m->C g->∃y∈F,inA y.1 y.2 g:=by
 obtain⟨pV,_,pl⟩:=List.pairwise_append.mp h.asc;have pl:∀x∈V,x.2<l.1:=λx hx=>pl x hx l mem_cons_self;have lV:∀x∈V,0<=x.1/\x.1<x.2/\x.1<m:=λx hx=>h.lo x (mem_append_left _ hx);have ll:=h.lo l (mem_append_right _ mem_cons_self);have nd:∀{L:List Sp},L.Pairwise (λx y=>x.1<y.1)->(L.map (·.1)).Nodup:=λh=>by unfold Nodup;rw[pairwise_map];exact h.imp λ{a b} h=>by show a.1≠b.1;omega
 unfold iR at e;by_cases c:l.2<m
 ·rw[if_pos c] at e;cases e;have bd:∀x∈V++[l],x.2<m:=λx hx=>by
   rcases List.mem_append.mp hx with z|z
   ·have:=pl x z;omega
   ·rw[List.mem_singleton.mp z];exact c
  have cv:∀g,0<=g->g<m->(C g ↔ ∃x∈V++[l],x.1<=g/\g<x.2):=λg g0 gm=>by rw[h.cov g g0 gm];exact⟨λz=>z.elim id λz=>by omega,.inl⟩
  have sp:∀x∈V++[l],∀y∈V++[l],x≠y->x.2<y.1∨y.2<x.1:=λx hx y hy ne=>aDT (R:=λx y=>x.2<y.1∨y.2<x.1) (λ_ _ h=>h.symm) (h.asc.imp λh=>.inl h) hx hy ne;refine⟨nd (List.Pairwise.imp_of_mem (λ{a b} ha hb z=>by have:=(h.lo a ha).2.1;omega) h.asc),⟨m-1,by omega,by omega,λz=>?_⟩,λa b=>⟨λhx=>?_,λq=>?_⟩,λg g0 gm z=>by obtain⟨x,hx,z⟩:=(cv g g0 gm).mp z;exact⟨x,hx,by unfold inA;rw[if_pos (h.lo x hx).2.1];exact z⟩⟩
  ·obtain⟨x,hx,z⟩:=(cv (m-1) (by omega) (by omega)).mp z;have:=bd x hx;omega
  ·have l1:=h.lo _ hx;have l2:=bd _ hx;dsimp only at l1 l2;refine⟨by omega,by omega,by omega,l2,by omega,λg g0 gm hg=>?_,λz=>?_,λz=>?_⟩
   ·unfold inA at hg;rw[if_pos l1.2.1] at hg;exact(cv g g0 gm).mpr ⟨_,hx,hg⟩
   ·unfold pg at z;by_cases a0:a=0
    ·rw[if_pos a0] at z;obtain⟨x,hx,z⟩:=(cv (m-1) (by omega) (by omega)).mp z;have:=bd x hx;omega
    ·rw[if_neg a0] at z;obtain⟨x,hy,z⟩:=(cv (a-1) (by omega) (by omega)).mp z;rcases sp x hy _ hx (λe=>by rw[e] at z;dsimp only at z;omega) with q|q<;>dsimp only at q<;>omega
   ·obtain⟨x,hy,z⟩:=(cv b (by omega) l2).mp z;rcases sp x hy _ hx (λe=>by rw[e] at z;dsimp only at z;omega) with q|q<;>dsimp only at q<;>omega
  ·have ca:C a:=q.all a q.a0 q.am (by unfold inA;split<;>omega);obtain⟨x,hx,z⟩:=(cv a q.a0 q.am).mp ca;have e1:x.1=a:=by refine Classical.byContradiction λn=>q.lo ?_;have:=(h.lo x hx).1;unfold pg;rw[if_neg (by omega)];exact(cv _ (by omega) (by have:=q.am;omega)).mpr ⟨x,hx,by omega,by omega⟩
   have:=bd x hx;have lx:=h.lo x hx;by_cases d:a<b
   ·have e2:x.2=b:=by
     rcases Int.lt_trichotomy x.2 b with t|t|t
     ·obtain⟨y,hy,z2⟩:=(cv x.2 (by omega) this).mp (q.all x.2 (by omega) this (by unfold inA;rw[if_pos d];omega));rcases sp y hy x hx (λe=>by rw[e] at z2;omega) with r|r<;>omega
     ·exact t
     ·exact absurd ((cv b q.b0 q.bm).mpr ⟨x,hx,by omega,by omega⟩) q.hi
    rw[<- e1,<- e2];exact hx
   ·obtain⟨y,hy,z2⟩:=(cv (m-1) (by omega) (by omega)).mp (q.all (m-1) (by omega) (by omega) (by unfold inA;rw[if_neg d];have:=q.am;omega));have:=bd y hy;omega
 ·rw[if_neg c] at e;have w:=aBK V (l.2-m) pV λx hx=>by have:=lV x hx;omega
  generalize wrp (l.2-m) V=r at e w;by_cases d:r.2=[]/\l.1<=r.1
  ·rw[if_pos d] at e;cases e
  rw[if_neg d] at e;cases e;obtain⟨E,W⟩:=r;dsimp only at w d ⊢;have eW:E<l.1:=by
   cases W with
   |nil=>exact Int.not_le.mp λz=>d ⟨rfl,z⟩
   |cons x xs =>
    have h1:=w.up x mem_cons_self;have h2:=pl x (w.sub x mem_cons_self);have h3:=lV x (w.sub x mem_cons_self);omega
  have wl:=w.low;have lW:∀x∈W,0<=x.1/\x.1<x.2/\x.1<m/\x.2<l.1/\E<x.1:=λx hx=>by have h1:=lV x (w.sub x hx);have h2:=pl x (w.sub x hx);exact⟨h1.1,h1.2.1,h1.2.2,h2,w.up x hx⟩
  have cv:∀g,0<=g->g<m->(C g↔g<E∨(∃x∈W,x.1<=g/\g<x.2)∨l.1<=g):=λg g0 gm=>by
   rw[h.cov g g0 gm];constructor
   ·rintro(⟨x,hx,z⟩|z)
    ·rcases List.mem_append.mp hx with hx|hx
     ·rcases w.cov x hx with y|y
      ·exact .inr (.inl ⟨x,y,z⟩)
      ·exact .inl (by omega)
     ·rw[List.mem_singleton.mp hx] at z;exact .inr (.inr z.1)
    ·exact .inl (by omega)
   ·rintro(z|⟨x,hx,z⟩|z)
    ·rcases w.fill g z with y|⟨x,hx,y⟩
     ·exact .inr (by omega)
     ·exact .inl ⟨x,mem_append_left _ hx,y⟩
    ·exact .inl ⟨x,mem_append_left _ (w.sub x hx),z⟩
    ·exact .inl ⟨l,mem_append_right _ mem_cons_self,z,by omega⟩
  have sp:∀x∈W,∀y∈W,x≠y->x.2<y.1∨y.2<x.1:=λx hx y hy ne=>aDT (R:=λx y=>x.2<y.1∨y.2<x.1) (λ_ _ h=>h.symm) (w.pw.imp λh=>.inl h) hx hy ne;have E0:0<=E:=by omega
  have nE:¬C E:=λz=>by
   rcases (cv E E0 (by omega)).mp z with z|⟨x,hx,z⟩|z
   ·omega
   ·have:=(lW x hx).2.2.2.2;omega
   ·omega
  refine⟨nd (List.pairwise_append.mpr ⟨List.Pairwise.imp_of_mem (λ{a b} ha hb z=>by have:=(lW a ha).2.1;omega) w.pw,pairwise_singleton _ _,λx hx y hy=>?_⟩),⟨E,E0,by omega,nE⟩,λa b=>⟨λhx=>?_,λq=>?_⟩,λg g0 gm z=>by
   rcases (cv g g0 gm).mp z with z|⟨x,hx,z⟩|z
   ·exact⟨_,mem_append_right _ mem_cons_self,by unfold inA;rw[if_neg (show ¬l.1<E by omega)];exact .inr z⟩
   ·exact⟨x,mem_append_left _ hx,by unfold inA;rw[if_pos (lW x hx).2.1];exact z⟩
   ·exact⟨_,mem_append_right _ mem_cons_self,by unfold inA;rw[if_neg (show ¬l.1<E by omega)];exact .inl z⟩⟩
  ·rw[List.mem_singleton.mp hy];have:=lW x hx;show x.1<l.1;omega
  ·rcases List.mem_append.mp hx with hx|hx
   ·have l1:=lW _ hx;dsimp only at l1;refine⟨by omega,by omega,by omega,by omega,by omega,λg g0 gm hg=>?_,λz=>?_,λz=>?_⟩
    ·unfold inA at hg;rw[if_pos l1.2.1] at hg;exact(cv g g0 gm).mpr (.inr (.inl ⟨_,hx,hg⟩))
    ·unfold pg at z;rw[if_neg (by omega)] at z;rcases (cv (a-1) (by omega) (by omega)).mp z with z|⟨x,hy,z⟩|z
     ·omega
     ·rcases sp x hy _ hx (λe=>by rw[e] at z;dsimp only at z;omega) with q|q<;>dsimp only at q<;>omega
     ·omega
    ·rcases (cv b (by omega) (by omega)).mp z with z|⟨x,hy,z⟩|z
     ·omega
     ·rcases sp x hy _ hx (λe=>by rw[e] at z;dsimp only at z;omega) with q|q<;>dsimp only at q<;>omega
     ·omega
   ·have e:=List.mem_singleton.mp hx;obtain⟨rfl,rfl⟩:=Prod.mk.inj e;refine⟨by omega,by omega,E0,by omega,by omega,λg g0 gm hg=>?_,λz=>?_,nE⟩
    ·unfold inA at hg;rw[if_neg (by omega)] at hg;exact(cv g g0 gm).mpr (hg.elim (λz=>.inr (.inr z)) .inl)
    ·unfold pg at z;rw[if_neg (by omega)] at z;rcases (cv (l.1-1) (by omega) (by omega)).mp z with z|⟨x,hy,z⟩|z
     ·omega
     ·have:=(lW x hy).2.2.2.1;omega
     ·omega
  ·have qa:=q.a0;have qm:=q.am;have qb:=q.b0;have qn:=q.bm;have ca:C a:=q.all a qa qm (by unfold inA;split<;>omega);have lo:=q.lo;unfold pg at lo;rcases (cv a qa qm).mp ca with z|⟨x,hx,z⟩|z
   ·exfalso;by_cases a0:a=0
    ·rw[if_pos a0] at lo;exact lo ((cv _ (by omega) (by omega)).mpr (.inr (.inr (by omega))))
    ·rw[if_neg a0] at lo;exact lo ((cv _ (by omega) (by omega)).mpr (.inl (by omega)))
   ·have l1:=lW x hx;have e1:x.1=a:=by refine Classical.byContradiction λn=>lo ?_;rw[if_neg (by omega)];exact(cv _ (by omega) (by omega)).mpr (.inr (.inl ⟨x,hx,by omega,by omega⟩))
    have nx:¬C x.2:=λy=>by
     rcases (cv x.2 (by omega) (by omega)).mp y with y|⟨y,hy,z2⟩|y
     ·omega
     ·rcases sp y hy x hx (λe=>by rw[e] at z2;omega) with r|r<;>omega
     ·omega
    refine mem_append_left _ ?_;by_cases dd:a<b
    ·have e2:x.2=b:=by
      rcases Int.lt_trichotomy x.2 b with t|t|t
      ·exact absurd (q.all x.2 (by omega) (by omega) (by unfold inA;rw[if_pos dd];omega)) nx
      ·exact t
      ·exact absurd ((cv b qb qn).mpr (.inr (.inl ⟨x,hx,by omega,by omega⟩))) q.hi
     rw[<- e1,<- e2];exact hx
    ·exact absurd (q.all x.2 (by omega) (by omega) (by unfold inA;rw[if_neg dd];omega)) nx
   ·have e1:a=l.1:=by refine Classical.byContradiction λn=>lo ?_;rw[if_neg (by omega)];exact(cv _ (by omega) (by omega)).mpr (.inr (.inr (by omega)))
    have hb:=q.hi;have b1:E<=b:=Int.not_lt.mp λz=>hb ((cv b qb qn).mpr (.inl z));have b2:b<l.1:=Int.not_le.mp λz=>hb ((cv b qb qn).mpr (.inr (.inr z)));have e2:b=E:=by refine Classical.byContradiction λn=>nE (q.all E E0 (by omega) ?_);unfold inA;rw[if_neg (by omega)];omega
    rw[e1,e2];exact mem_append_right _ mem_cons_self
noncomputable def iB (t:Rat):Rat:=if t<0 then 3+t/(1-t) else t/(1+t)
noncomputable def phi (x y p q:Rat):Rat:=if SS x y p q=0 then 1 else iB (LL x y p q/SS x y p q)
theorem aCx {t x y:Rat}(h0:¬(x=0/\y=0)):phi x y (bR t x y) (bT t x y)=iB t:=by obtain⟨a,b⟩:=vI (t:=t) h0;have a':SS x y (bR t x y) (bT t x y)≠0:=a;have b':LL x y (bR t x y) (bT t x y)/SS x y (bR t x y) (bT t x y)=t:=b;unfold phi;rw[if_neg a',b']
theorem aCp {x y:Rat}:phi x y (-x) (-y)=1:=by
 have:SS x y (-x) (-y)=0:=by unfold SS;grind
 unfold phi;rw[if_pos this]
theorem lA {t:Rat}(h:0<=t):iB t=t/(1+t)/\0<=iB t/\iB t<1:=by
 have e:iB t=t/(1+t):=by unfold iB;rw[if_neg (by grind)]
 have d:0<1+t:=by grind
 have k:t/(1+t)*(1+t)=t:=by grind
 rw[e];refine⟨rfl,?_,?_⟩
 ·rcases (show 0<=t/(1+t)∨t/(1+t)<0 by grind) with c|c
  ·exact c
  ·have:=Rat.mul_pos (show 0 < -(t/(1+t)) by grind) d;grind
 ·rcases (show t/(1+t)<1∨1<=t/(1+t) by grind) with c|c
  ·exact c
  ·have:=Rat.mul_nonneg (show 0<=t/(1+t)-1 by grind) (Rat.le_of_lt d);grind
theorem kY {t:Rat}(h:t<0):iB t=3+t/(1-t)/\2<iB t/\iB t<3:=by
 have e:iB t=3+t/(1-t):=by unfold iB;rw[if_pos h]
 have d:0<1-t:=by grind
 have k:t/(1-t)*(1-t)=t:=by grind
 rw[e];refine⟨rfl,?_,?_⟩
 ·rcases (show -1<t/(1-t)∨t/(1-t)<=-1 by grind) with c|c
  ·grind
  ·have:=Rat.mul_nonneg (show 0<=-1-t/(1-t) by grind) (Rat.le_of_lt d);grind
 ·rcases (show t/(1-t)<0∨0<=t/(1-t) by grind) with c|c
  ·grind
  ·have:=Rat.mul_nonneg c (Rat.le_of_lt d);grind
theorem aG0 {s t:Rat}(hs:0<=s)(ht:0<=t):s/(1+s)<t/(1+t)↔s<t:=by
 have d1:0<1+s:=by grind
 have d2:0<1+t:=by grind
 have e:(t/(1+t)-s/(1+s))*((1+s)*(1+t))=t-s:=by grind
 have dd:=Rat.mul_pos d1 d2;generalize t/(1+t)=T at *;generalize s/(1+s)=S at *;constructor
 ·intro h;have:=Rat.mul_pos (show 0<T-S by grind) dd;grind
 ·intro h;rcases (show S<T∨T-S<=0 by grind) with c|c
  ·exact c
  ·have:=Rat.mul_nonneg (show 0<=-(T-S) by grind) (Rat.le_of_lt dd);grind
theorem aFF {s t:Rat}(hs:s<0)(ht:t<0):s/(1-s)<t/(1-t)↔s<t:=by
 have d1:0<1-s:=by grind
 have d2:0<1-t:=by grind
 have e:(t/(1-t)-s/(1-s))*((1-s)*(1-t))=t-s:=by grind
 have dd:=Rat.mul_pos d1 d2;generalize t/(1-t)=T at *;generalize s/(1-s)=S at *;constructor
 ·intro h;have:=Rat.mul_pos (show 0<T-S by grind) dd;grind
 ·intro h;rcases (show S<T∨T-S<=0 by grind) with c|c
  ·exact c
  ·have:=Rat.mul_nonneg (show 0<=-(T-S) by grind) (Rat.le_of_lt dd);grind
theorem pE {s t:Rat}:iB s<iB t↔((s<0↔t<0)/\s<t)∨(0<=s/\t<0):=by
 by_cases c1:s<0
 ·obtain⟨e1,a1,b1⟩:=kY c1;by_cases c2:t<0
  ·obtain⟨e2,a2,b2⟩:=kY c2;have:=aFF c1 c2;rw[e1,e2];constructor
   ·intro h;exact .inl ⟨⟨λ_=>c2,λ_=>c1⟩,this.mp (by grind)⟩
   ·rintro(⟨_,h⟩|⟨h,_⟩)
    ·have:=this.mpr h;grind
    ·grind
  ·obtain⟨e2,a2,b2⟩:=lA (t:=t) (by grind);constructor
   ·intro h;grind
   ·rintro(⟨h,_⟩|⟨h,_⟩)
    ·exact absurd (h.mp c1) c2
    ·grind
 ·obtain⟨e1,a1,b1⟩:=lA (t:=s) (by grind);by_cases c2:t<0
  ·obtain⟨e2,a2,b2⟩:=kY c2;exact⟨λ_=>.inr ⟨by grind,c2⟩,λ_=>by grind⟩
  ·obtain⟨e2,a2,b2⟩:=lA (t:=t) (by grind);have:=aG0 (show 0<=s by grind) (show 0<=t by grind);rw[e1,e2,this];constructor
   ·intro h;exact .inl ⟨⟨λz=>absurd z c1,λz=>absurd z c2⟩,h⟩
   ·rintro(⟨_,h⟩|⟨_,h⟩)
    ·exact h
    ·exact absurd h c2
theorem aGr (t r u x y:Rat):bL (bR t x y) (bT t x y) (bR r x y) (bT r x y) (bR u x y) (bT u x y)*((1+t*t)*(1+r*r)*(1+u*u))=((r-t)*(u-t)*(u-r))*(4*(x*x+y*y)):=by
 have a1:uu t*(1+t*t)=1-t*t:=by have:=cD t;unfold uu;grind
 have a2:vv t*(1+t*t)=t+t:=by have:=cD t;unfold vv;grind
 have b1:uu r*(1+r*r)=1-r*r:=by have:=cD r;unfold uu;grind
 have b2:vv r*(1+r*r)=r+r:=by have:=cD r;unfold vv;grind
 have c1:uu u*(1+u*u)=1-u*u:=by have:=cD u;unfold uu;grind
 have c2:vv u*(1+u*u)=u+u:=by have:=cD u;unfold vv;grind
 have e:bL (bR t x y) (bT t x y) (bR r x y) (bT r x y) (bR u x y) (bT u x y)=(x*x+y*y)*((uu r-uu t)*(vv u-vv t)-(vv r-vv t)*(uu u-uu t)):=by unfold bL bR bT;grind
 rw[e];generalize uu t=ut at *;generalize vv t=vt at *;generalize uu r=ur at *;generalize vv r=vr at *;generalize uu u=uu' at *;generalize vv u=vu at *;have k:((ur-ut)*(vu-vt)-(vr-vt)*(uu'-ut))*((1+t*t)*(1+r*r)*(1+u*u))=(ur*(1+r*r))*(vu*(1+u*u))*(1+t*t)-(ur*(1+r*r))*(vt*(1+t*t))*(1+u*u)-(ut*(1+t*t))*(vu*(1+u*u))*(1+r*r)-(vr*(1+r*r))*(uu'*(1+u*u))*(1+t*t)+(vr*(1+r*r))*(ut*(1+t*t))*(1+u*u)+(vt*(1+t*t))*(uu'*(1+u*u))*(1+r*r):=by grind
 have k2:((ur-ut)*(vu-vt)-(vr-vt)*(uu'-ut))*((1+t*t)*(1+r*r)*(1+u*u))=4*((r-t)*(u-t)*(u-r)):=by rw[k,a1,a2,b1,b2,c1,c2];grind
 grind
theorem aAi (t r x y:Rat):bL (bR t x y) (bT t x y) (bR r x y) (bT r x y) (-x) (-y)*((1+t*t)*(1+r*r))=(r-t)*(4*(x*x+y*y)):=by
 have a1:uu t*(1+t*t)=1-t*t:=by have:=cD t;unfold uu;grind
 have a2:vv t*(1+t*t)=t+t:=by have:=cD t;unfold vv;grind
 have b1:uu r*(1+r*r)=1-r*r:=by have:=cD r;unfold uu;grind
 have b2:vv r*(1+r*r)=r+r:=by have:=cD r;unfold vv;grind
 have e:bL (bR t x y) (bT t x y) (bR r x y) (bT r x y) (-x) (-y)=(x*x+y*y)*((uu r-uu t)*(0-vv t)-(vv r-vv t)*(-1-uu t)):=by unfold bL bR bT;grind
 rw[e];generalize uu t=ut at *;generalize vv t=vt at *;generalize uu r=ur at *;generalize vv r=vr at *;have k2:((ur-ut)*(0-vt)-(vr-vt)*(-1-ut))*((1+t*t)*(1+r*r))=4*(r-t):=by
  have:((ur-ut)*(0-vt)-(vr-vt)*(-1-ut))*((1+t*t)*(1+r*r)) = -(ur*(1+r*r))*(vt*(1+t*t))+(vr*(1+r*r))*(1+t*t)-(vt*(1+t*t))*(1+r*r)+(vr*(1+r*r))*(ut*(1+t*t)):=by grind
  rw[this,a1,a2,b1,b2];grind
 grind
theorem mD {a k F G:Rat}(e:a*F=k*G)(hF:0<F)(hG:0<G)(hk:0<k):0<a:=by
 have:=Rat.mul_pos hk hG;rcases (show 0<a∨a<=0 by grind) with c|c
 ·exact c
 ·have:=Rat.mul_nonneg (show 0<=-a by grind) (Rat.le_of_lt hF);grind
def OnR (x y p q:Rat):Prop:=p*p+q*q=x*x+y*y
theorem dO (a b c d e f:Rat):bL a b c d e f=bL c d e f a b/\bL a b c d e f = -bL c d a b e f:=by unfold bL;constructor<;>grind
theorem sq1 (t:Rat):0<1+t*t:=by have:=nS t;grind
theorem aAc {x y p q:Rat}(h0:¬(x=0/\y=0))(hc:OnR x y p q):(p = -x/\q = -y/\phi x y p q=1) ∨ ∃t,p=bR t x y/\q=bT t x y/\phi x y p q=iB t:=by
 rcases aDB h0 hc with⟨_,rfl,rfl⟩|⟨_,t,_,rfl,rfl⟩
 ·exact .inl ⟨rfl,rfl,aCp⟩
 ·exact .inr ⟨t,rfl,rfl,aCx h0⟩
theorem aFx {x y p1 q1 p2 q2 p3 q3:Rat}(h0:¬(x=0/\y=0))(h1:OnR x y p1 q1)(h2:OnR x y p2 q2)(h3:OnR x y p3 q3)(l1:phi x y p1 q1<phi x y p2 q2)(l2:phi x y p2 q2<phi x y p3 q3):0<bL p1 q1 p2 q2 p3 q3:=by
 have hN:0<4*(x*x+y*y):=by have:=aAu h0;grind
 rcases aAc h0 h1 with⟨rfl,rfl,e1⟩|⟨t1,rfl,rfl,e1⟩<;>rcases aAc h0 h2 with⟨rfl,rfl,e2⟩|⟨t2,rfl,rfl,e2⟩<;>rcases aAc h0 h3 with⟨rfl,rfl,e3⟩|⟨t3,rfl,rfl,e3⟩<;>(try rw[e1] at l1)<;>(try rw[e2] at l1)<;>(try rw[e2] at l2)<;>(try rw[e3] at l2)
 ·grind
 ·grind
 ·grind
 ·-- opp,t2<t3<0
  have n2:t2<0:=by
   rcases (show t2<0∨0<=t2 by grind) with c|c
   ·exact c
   ·have:=(lA c).2;grind
  have:=pE.mp l2;rw[(dO _ _ _ _ _ _).1];exact mD (aAi t2 t3 x y) (Rat.mul_pos (sq1 t2) (sq1 t3)) hN (by grind)
 ·grind
 ·-- 0<=t1,opp,t3<0
  have n1:0<=t1:=by
   rcases (show t1<0∨0<=t1 by grind) with c|c
   ·have:=(kY c).2;grind
   ·exact c
  have n3:t3<0:=by
   rcases (show t3<0∨0<=t3 by grind) with c|c
   ·exact c
   ·have:=(lA c).2;grind
  rw[<- (dO _ _ _ _ _ _).1];exact mD (aAi t3 t1 x y) (Rat.mul_pos (sq1 t3) (sq1 t1)) hN (by grind)
 ·-- 0<=t1<t2,opp
  have n2:0<=t2:=by
   rcases (show t2<0∨0<=t2 by grind) with c|c
   ·have:=(kY c).2;grind
   ·exact c
  have:=pE.mp l1;exact mD (aAi t1 t2 x y) (Rat.mul_pos (sq1 t1) (sq1 t2)) hN (by grind)
 ·have m1:=pE.mp l1;have m2:=pE.mp l2;have m3:=pE.mp (show iB t1<iB t3 by grind);have mm:∀{a b:Rat},0<a->0<b->0<a*b:=λh1 h2=>Rat.mul_pos h1 h2;refine mD (aGr t1 t2 t3 x y) (Rat.mul_pos (Rat.mul_pos (sq1 t1) (sq1 t2)) (sq1 t3)) hN ?_;by_cases c1:t1<0
  ·have:t1<t2/\t2<t3:=by grind
   exact mm (mm (by grind) (by grind)) (by grind)
  ·by_cases c2:t2<0
   ·have h:=mm (mm (show 0 < -(t2-t1) by grind) (show 0 < -(t3-t1) by grind)) (show 0<t3-t2 by grind);grind
   ·by_cases c3:t3<0
    ·have h:=mm (mm (show 0<t2-t1 by grind) (show 0 < -(t3-t1) by grind)) (show 0 < -(t3-t2) by grind);grind
    ·exact mm (mm (by grind) (by grind)) (by grind)
structure Ax where
 X:Int->D
 R:Int->Prop
def Ax.Ok (c:Ax):Prop:=∀s t,c.R s->c.R t->c.X s=c.X t->s=t
noncomputable def Ax.lt (c:Ax)(x y:D):Bool:=@decide (∃s t,c.R s/\c.R t/\x=c.X s/\y=c.X t/\s<t) (Classical.propDecidable _)
def Ax.dom (c:Ax)(d:D):Prop:=∃t,c.R t/\d=c.X t
noncomputable def Ax.s3 (c:Ax)(s:Sp):S3:=⟨c.X s.1,c.X s.2,.non⟩
def Ax.In (c:Ax)(s:Sp):Prop:=c.R s.1/\c.R s.2
theorem Ax.lt_eq {c:Ax}(h:c.Ok){s t:Int}(hs:c.R s)(ht:c.R t):c.lt (c.X s) (c.X t)=decide (s<t):=by
 unfold Ax.lt;by_cases l:s<t
 ·rw[decide_eq_true l];exact @decide_eq_true _ (Classical.propDecidable _) ⟨s,t,hs,ht,rfl,rfl,l⟩
 ·rw[decide_eq_false l];exact @decide_eq_false _ (Classical.propDecidable _) λ⟨a,b,ha,hb,e1,e2,z⟩=>l (by rw[h _ _ hs ha e1,h _ _ ht hb e2];exact z)
theorem aDt {R:Sp->Prop}(hR:∀a b,R a->R b->R (a.1,b.2)):∀{W:List Sp}{s:Sp},(∀x∈W,R x)->R s->∀x∈jn W s,R x:=λ{W s} hW hs x hx=>by
 unfold jn at hx;split at hx
 ·rcases List.mem_append.mp hx with z|z
  ·exact hW x z
  ·rw[List.mem_singleton.mp z];exact hs
 ·rename_i l e;have hl:R l:=hW l (List.mem_of_getLast? e);split at hx
  ·rcases List.mem_append.mp hx with z|z
   ·exact hW x z
   ·rw[List.mem_singleton.mp z];exact hs
  ·split at hx
   ·rcases List.mem_append.mp hx with z|z
    ·exact hW x (List.dropLast_subset _ z)
    ·rw[List.mem_singleton.mp z];exact hR _ _ hl hs
   ·exact hW x hx
theorem Ax.jst1 {c:Ax}(h:c.Ok){W:List Sp}{s:Sp}(hW:∀x∈W,c.In x)(hs:c.In s):jst c.lt (W.map c.s3) (c.s3 s)=(jn W s).map c.s3:=by
 unfold jst jn;rw[List.getLast?_map];cases e:W.getLast? with
 |none=>rw[Option.map_none];dsimp only;rw[map_append];rfl
 |some l =>
  rw[Option.map_some];dsimp only;have hl:=hW l (List.mem_of_getLast? e);have e1:c.lt (c.s3 l).b (c.s3 s).a=decide (l.2<s.1):=Ax.lt_eq h hl.2 hs.1;have e2:c.lt (c.s3 l).b (c.s3 s).b=decide (l.2<s.2):=Ax.lt_eq h hl.2 hs.2;by_cases c1:l.2<s.1
  ·rw[if_pos (e1.trans (decide_eq_true c1)),if_pos c1,map_append];rfl
  ·rw[if_neg (λz=>c1 (of_decide_eq_true (e1.symm.trans z))),if_neg c1];by_cases c2:l.2<s.2
   ·rw[if_pos (e2.trans (decide_eq_true c2)),if_pos c2,map_append,List.map_dropLast];rfl
   ·rw[if_neg (λz=>c2 (of_decide_eq_true (e2.symm.trans z))),if_neg c2]
theorem Ax.jsp1 {c:Ax}(h:c.Ok):∀(S W:List Sp),(∀x∈S,c.In x)->(∀x∈W,c.In x)->(S.map c.s3).foldl (jst c.lt) (W.map c.s3)=(S.foldl jn W).map c.s3/\∀x∈S.foldl jn W,c.In x
 |[],W,_,hW=>⟨rfl,hW⟩
 |s::S,W,hS,hW=>by rw[map_cons,foldl_cons,foldl_cons,Ax.jst1 h hW (hS s mem_cons_self)];exact Ax.jsp1 h S (jn W s) (λx hx=>hS x (mem_cons_of_mem _ hx)) (aDt (λa b ha hb=>⟨ha.1,hb.2⟩) hW (hS s mem_cons_self))
theorem Ax.ltOk {c:Ax}(h:c.Ok):aGc c.dom c.lt where
 asym:=λx y ⟨s,hs,e1⟩ ⟨t,ht,e2⟩ z=>by subst e1 e2;rw[Ax.lt_eq h hs ht] at z;rw[Ax.lt_eq h ht hs];have z:=of_decide_eq_true z;exact decide_eq_false (by omega)
 tr:=λx y z ⟨s,hs,e1⟩ ⟨t,ht,e2⟩ ⟨r,hr,e3⟩ a b=>by subst e1 e2 e3;rw[Ax.lt_eq h ht hs] at a;rw[Ax.lt_eq h hr ht] at b;rw[Ax.lt_eq h hr hs];have a:=of_decide_eq_false a;have b:=of_decide_eq_false b;exact decide_eq_false (by omega)
theorem Ax.joined {c:Ax}(h:c.Ok){S:List Sp}(hR:∀s∈S,c.In s)(wf:∀s∈S,s.1<=s.2){zs:List S3}(pm:zs.Perm (S.map c.s3))(so:aBJ c.lt (zs.map s3D)):∃J,Jn S J/\jsp c.lt zs=J.map c.s3/\J.length<=S.length/\∀x∈J,c.In x:=by
 obtain⟨Z,rfl,pz⟩:=jY pm.symm S rfl;have hZ:∀s∈Z,c.In s:=λs hs=>hR s (pz.mem_iff.mpr hs);have so':Z.Pairwise λa b=>a.1<=b.1:=by unfold aBJ at so;rw[pairwise_map,pairwise_map] at so;refine List.Pairwise.imp_of_mem (λ{a b} ha hb z=>?_) so;have z:c.lt (c.X b.1) (c.X a.1)=false:=z;rw[Ax.lt_eq h (hZ b hb).1 (hZ a ha).1] at z;have:=of_decide_eq_false z;omega
 have lz:=aEa Z [];have lp:=pz.length_eq;have ln:([]:List Sp).length=0:=rfl;have g:=aHL Jn.nil (λs hs=>wf s (pz.mem_iff.mpr hs)) so' λx hx=>by cases hx
 rw[List.nil_append] at g;obtain⟨j1,j2⟩:=Ax.jsp1 h Z [] hZ λx hx=>by cases hx
 exact⟨Z.foldl jn [],⟨g.c.of_mem λs=>pz.symm.mem_iff,g.asc⟩,j1,by omega,j2⟩
theorem cR {M M':DM}(s:bD M M'){b:AK}(h:M' b=none):M b=none:=by
 cases e:M b with
 |none=>rfl
 |some o=>rw[s _ _ e] at h;cases h
theorem aM3 {p r:Rat}{m n:Nat}{M:DM}{Q:DQ}(h1:BQ m p)(h2:BQ n r)(l:m+n<=8998)(q:Q (FQ (p+r)) M):mG [FQ p,FQ r] M Q:=⟨_,_,_,_,rfl,trivial,h1,h2,l,q⟩
def aHO:DSp:=λds M Q=>∃cx cy x y p q,ds=[PQ cx cy,PQ (cx+x) (cy+y),PQ (cx+p) (cy+q)]/\BQ 60 cx/\BQ 60 cy/\BQ 200 x/\BQ 200 y/\BQ 200 p/\BQ 200 q/\Q (if SS x y p q=0 then .non else FQ (LL x y p q/SS x y p q)) M
theorem aIp {x y u v:Rat}{m n:Nat}{M:DM}{Q:DQ}(h1:BQ m x)(h2:BQ m y)(h3:BQ n u)(h4:BQ n v)(l1:m<=4400)(l2:n<=4400)(q:Q (PQ (x-u) (y-v)) M):sK [PQ x y,PQ u v] M Q:=⟨_,_,_,_,rfl,h1.mono l1,h2.mono l1,h3.mono l2,h4.mono l2,q⟩
theorem aMu {x y u v:Rat}{m n:Nat}{M:DM}{Q:DQ}(h1:BQ m x)(h2:BQ m y)(h3:BQ n u)(h4:BQ n v)(l1:m<=4400)(l2:n<=4400)(q:Q (PQ (x+u) (y+v)) M):jZ [PQ x y,PQ u v] M Q:=⟨_,_,_,_,rfl,h1.mono l1,h2.mono l1,h3.mono l2,h4.mono l2,q⟩
theorem jW (c x:Rat):c+x-c=x:=by grind
noncomputable abbrev qP:Stmt:=top 32
theorem kD:aS ["c","a","p","start","stop","bottom"] ["c","a","p"] (aI qP):=by ac_rfl
theorem zN (hF:cM K mg "share_of" qP ["c","a","p"])(fE:Has P w K mg base 102 "plus" ["one","other"] mG)(qN:Has P w K mg base 103 "over" ["one","other"] yQ)(lH:Has P w K mg base 104 "off" ["p","q"] sK)(eF:Has P w K mg base 104 "dot_product" ["p","q"] jI)(iN:Has P w K mg base 104 "cross_product" ["p","q"] lQ):Has P w K mg base 105 "share_of" ["c","a","p"] aHO:=by
 refine Has.mkZ hF kD (λds M Q ⟨x,y,u,v,t,t2,e,_⟩=>by rw[e];rfl) λf cdv A outer s H ds M Q E hr h=>?_;obtain⟨cx,cy,x,y,p,q',rfl,h1,h2,h3,h4,h5,h6,q⟩:=h;refine⟨_,(aF (aM (i:=3) kD.nd (aE lH hr (by decide) (aB (aA 1) (aB (aA 0) aD))))
  (aF (aM (i:=4) kD.nd (aE lH hr (by decide) (aB (aA 2) (aB (aA 0) aD))))
  (aF (aM (i:=5) kD.nd (aE fE hr (by decide) (aB (aE eF hr (by decide) (aB (aA 3) (aB (aA 3) aD))) (aB (aE eF hr (by decide) (aB (aA 3) (aB (aA 4) aD))) aD))))
  (aF (bV (aY (eP hr) (aH (aA 5) aC) aC) (aG (aO rY)) aZ)
  (aG (aO (aE qN hr (by decide) (aB (aE iN hr (by decide) (aB (aA 3) (aB (aA 4) aD))) (aB (aA 5) aD))))))))),?_⟩
 ac_nf;refine aIp (h1.add h3) (h2.add h4) h1 h2 (by decide) (by decide) ?_;rw[jW,jW];ac_nf;refine aIp (h1.add h5) (h2.add h6) h1 h2 (by decide) (by decide) ?_;rw[jW,jW];ac_nf;have c1:BQ 801 (x*x+y*y):=((h3.mul h3).add (h4.mul h4)).mono (by decide);have c2:BQ 801 (x*p+y*q'):=((h3.mul h5).add (h4.mul h6)).mono (by decide);have c3:BQ 801 (x*q'-y*p):=((h3.mul h6).sub (h4.mul h5)).mono (by decide);refine⟨_,_,_,_,rfl,_,_,h3,h4,h3,h4,by decide,_,_,_,_,rfl,_,_,h3,h4,h5,h6,by decide,?_⟩;refine aM3 c1 c2 (by decide) ?_;ac_nf;rw[eR];unfold SS LL at q;by_cases c:x*x+y*y+(x*p+y*q')=0
 ·rw[if_pos c] at q;exact ifT (decide_eq_true (rQ.mpr c)) ⟨M,.refl _,q⟩
 ·rw[if_neg c] at q;refine ifF (decide_eq_false λz=>c (rQ.mp z)) ⟨_,_,_,_,rfl,_,_,h3,h4,h5,h6,by decide,_,_,_,_,rfl,c,c3,c1.add c2,by decide,M,.refl _,q⟩
def aHB:DSp:=λds M Q=>∃cx cy x y t,ds=[PQ cx cy,PQ (cx+x) (cy+y),FQ t]/\BQ 60 cx/\BQ 60 cy/\BQ 200 x/\BQ 200 y/\BQ 100 t/\Q (PQ (cx+bR t x y) (cy+bT t x y)) M
noncomputable abbrev qC:Stmt:=top 31
theorem fU:aS ["c","a","t","square","bottom","u","v","x","y"] ["c","a","t"] (aI qC):=by ac_rfl
theorem aAn (hF:cM K mg "at_share" qC ["c","a","t"])(aCP:aDQ K mg "ONE" aKQ)(fE:Has P w K mg base 102 "plus" ["one","other"] mG)(gX:Has P w K mg base 103 "minus" ["one","other"] rO)(dD:Has P w K mg base 102 "times" ["one","other"] lB)(qN:Has P w K mg base 103 "over" ["one","other"] yQ)(lH:Has P w K mg base 104 "off" ["p","q"] sK)(iC:Has P w K mg base 104 "together" ["p","q"] jZ):Has P w K mg base 105 "at_share" ["c","a","t"] aHB:=by
 refine Has.mkZ hF fU (λds M Q ⟨x,y,u,v,t,e,_⟩=>by rw[e];rfl) λf cdv A outer s H ds M Q E hr h=>?_;obtain⟨cx,cy,x,y,t,rfl,h1,h2,h3,h4,h5,q⟩:=h;refine⟨_,(aF (aM (i:=3) fU.nd (aE dD hr (by decide) (aB (aA 2) (aB (aA 2) aD))))
  (aF (aM (i:=4) fU.nd (aE fE hr (by decide) (aB (sJ aCP) (aB (aA 3) aD))))
  (aF (aM (i:=5) fU.nd (aE qN hr (by decide) (aB (aE gX hr (by decide) (aB (sJ aCP) (aB (aA 3) aD))) (aB (aA 4) aD))))
  (aF (aM (i:=6) fU.nd (aE qN hr (by decide) (aB (aE fE hr (by decide) (aB (aA 2) (aB (aA 2) aD))) (aB (aA 4) aD))))
  (aF (cU (aE lH hr (by decide) (aB (aA 1) (aB (aA 0) aD))) (eH (n:=2) rfl (aV (aR (i:=7) fU.nd) (aV (aR (i:=8) fU.nd) cZ))))
  (aG (aO (aE iC hr (by decide) (aB (aA 0) (aB (bC (aB (aE gX hr (by decide) (aB (aE dD hr (by decide) (aB (aA 5) (aB (aA 7) aD))) (aB (aE dD hr (by decide) (aB (aA 6) (aB (aA 8) aD))) aD))) (aB (aE fE hr (by decide) (aB (aE dD hr (by decide) (aB (aA 6) (aB (aA 7) aD))) (aB (aE dD hr (by decide) (aB (aA 5) (aB (aA 8) aD))) aD))) aD))) aD)))))))))),?_⟩
 have b1:=h5.mul h5;have b2:=bq1.add b1;have b3:=bq1.sub b1;have b4:=h5.add h5;have h0:=cD t;refine⟨t,t,_,_,rfl,trivial,h5,h5,by decide,1,_,_,_,rfl,trivial,bq1,b1,by decide,1,_,_,_,rfl,trivial,bq1,b1,by decide,?_⟩;refine⟨_,_,_,_,rfl,h0,b3,b2,by decide,t,t,_,_,rfl,trivial,h5,h5,by decide,_,_,_,_,rfl,h0,b4,b2,by decide,?_⟩;refine⟨cx+x,cy+y,cx,cy,rfl,(h1.add h3).mono (by decide),(h2.add h4).mono (by decide),h1.mono (by decide),h2.mono (by decide),?_⟩;rw[jW,jW];refine⟨rfl,?_⟩;have bu:BQ 500 (uu t):=(BQ.div b3 b2 h0).mono (by decide);have bv:BQ 500 (vv t):=(BQ.div b4 b2 h0).mono (by decide);refine⟨uu t,x,_,_,rfl,trivial,bu,h3,by decide,vv t,y,_,_,rfl,trivial,bv,h4,by decide,_,_,_,_,rfl,trivial,bu.mul h3,bv.mul h4,by decide,?_⟩;refine⟨vv t,x,_,_,rfl,trivial,bv,h3,by decide,uu t,y,_,_,rfl,trivial,bu,h4,by decide,_,_,_,_,rfl,trivial,bv.mul h3,bu.mul h4,by decide,by show(2:Nat)<=1000;decide,?_⟩;exact⟨cx,cy,bR t x y,bT t x y,rfl,h1.mono (by decide),h2.mono (by decide),((bu.mul h3).sub (bv.mul h4)).mono (by decide),((bv.mul h3).add (bu.mul h4)).mono (by decide),M,.refl _,q⟩
noncomputable def plc (lap:Int)(x y p q:Rat):D:=.tup [.int lap,.int (plK x y p q),FQ (plZ x y p q)]
def oR:DSp:=λds M Q=>∃cx cy x y p q,ds=[PQ cx cy,PQ (cx+x) (cy+y),PQ (cx+p) (cy+q)]/\BQ 60 cx/\BQ 60 cy/\BQ 200 x/\BQ 200 y/\BQ 200 p/\BQ 200 q/\¬(x=0/\y=0)/\OnR x y p q/\Q (plc 0 x y p q) M
noncomputable abbrev qJ:Stmt:=top 37
theorem tQ:aS ["c","a","p","share"] ["c","a","p"] (aI qJ):=by ac_rfl
theorem zV (hF:cM K mg "place_of" qJ ["c","a","p"])(qF:Has P w K mg base 105 "share_of" ["c","a","p"] aHO):Has P w K mg base 106 "place_of" ["c","a","p"] oR:=by
 refine Has.mkZ hF tQ (λds M Q ⟨x,y,u,v,t,t2,e,_⟩=>by rw[e];rfl) λf cdv A outer s H ds M Q E hr h=>?_;obtain⟨cx,cy,x,y,p,q',rfl,h1,h2,h3,h4,h5,h6,h0,hc,q⟩:=h;refine⟨_,(aF (aM (i:=3) tQ.nd (aE qF hr (by decide) (aB (aA 0) (aB (aA 1) (aB (aA 2) aD)))))
  (aF (bV (aY aMc (aA 3) rY) (aG (aO (bC (aB aC (aB aC (aB (bC (aB aC (aB aC aD))) aD)))))) aZ)
  (aG (aO (bC (aB aC (aB (lO (aY pU (aH (aA 3) aC) aC) aC aC) (aB (aA 3) aD)))))))),?_⟩
 ac_nf;refine⟨cx,cy,x,y,p,q',rfl,h1,h2,h3,h4,h5,h6,?_⟩;unfold plc at q;rcases aDB h0 hc with⟨hS,rfl,rfl⟩|⟨hS,t,ht,rfl,rfl⟩
 ·rw[if_pos hS];rw[jQ.1,jQ.2] at q;ac_nf;exact ifT rfl ⟨by decide,by decide,M,.refl _,q⟩
 ·rw[if_neg hS,ht];rw[(iP h0).1,(iP h0).2] at q;ac_nf;refine ifF (b:=false) rfl ?_;refine dif (λc=>?_) (λc=>?_)
  ·rw[if_pos (nT.mp c)] at q;exact⟨by decide,M,.refl _,q⟩
  ·rw[if_neg (λz=>c (nT.mpr z))] at q;exact⟨by decide,M,.refl _,q⟩
noncomputable def lat (a k:Int)(z:Rat)(a' k':Int)(z':Rat):Bool:=if a=a'/\k=k' then decide (z<z') else decide (a<a'∨(a=a'/\k<k'))
def lE:DSp:=λds M Q=>∃a k z a' k' z',ds=[.tup [.int a,.int k,FQ z],.tup [.int a',.int k',FQ z']]/\BQ 100 z/\BQ 100 z'/\Q (.bl (lat a k z a' k' z')) M
theorem sl2 {a b c:D}{M:DM}{Q:DQ}(q:Q (.tup [a,b]) M):aHW (.tup [a,b,c]) none (some 2) M Q:=⟨λz=>absurd (show(2:Nat)=3 from z.2) (by decide),q⟩
theorem aKG (a k a' k':Int):eqD (.tup [.int a,.int k]) (.tup [.int a',.int k'])=decide (a=a'/\k=k'):=by simp only[eqD,iH];by_cases h1:a=a'<;>by_cases h2:k=k'<;>simp[h1,h2]
theorem aIi (a k a' k':Int):ltD (.tup [.int a,.int k]) (.tup [.int a',.int k'])=if a=a'/\k=k' then false else decide (a<a'∨(a=a'/\k<k')):=by
 rw[mM,fA];by_cases h1:a=a'
 ·rw[if_pos (by rw[h1]),fA];by_cases h2:k=k'
  ·rw[if_pos (by rw[h2]),if_pos ⟨h1,h2⟩,gA]
  ·rw[if_neg (λz=>h2 (D.int.inj z)),jA,if_neg (λz=>h2 z.2)];exact decide_eq_decide.mpr ⟨λz=>.inr ⟨h1,z⟩,λz=>z.elim (λz=>by omega) λz=>z.2⟩
 ·rw[if_neg (λz=>h1 (D.int.inj z)),jA,if_neg (λz=>h1 z.1)];exact decide_eq_decide.mpr ⟨.inl,λz=>z.elim id λz=>absurd z.1 h1⟩
noncomputable abbrev vP:Stmt:=top 39
theorem aDd:aS ["one","other"] ["one","other"] (aI vP):=by ac_rfl
theorem aBm (hF:cM K mg "sooner" vP ["one","other"])(mN:Has P w K mg base 101 "below" ["one","other"] wD):Has P w K mg base 102 "sooner" ["one","other"] lE:=by
 refine Has.mkZ hF aDd (λds M Q ⟨x,y,u,v,t,t2,e,_⟩=>by rw[e];rfl) λf cdv A outer s H ds M Q E hr h=>?_;obtain⟨a,k,z,a',k',z',rfl,h1,h2,q⟩:=h;refine⟨_,(aF (bV (aY (aAF hr) (mC (aA 0) iL (gG aC)) (mC (aA 1) iL (gG aC))) (aG (aO (gI (aJd hr) (mC (aA 0) iL (gG aC)) (mC (aA 1) iL (gG aC))))) aZ)
  (aG (aO (aE mN hr (by decide) (aB (aH (aA 0) aC) (aB (aH (aA 1) aC) aD)))))),?_⟩
 ac_nf;refine sl2 (sl2 ⟨rfl,rfl,?_⟩);rw[aKG];unfold lat at q;by_cases c:a=a'/\k=k'
 ·rw[if_pos c] at q;rw[decide_eq_true c];refine ifF rfl ⟨_,_,_,_,rfl,trivial,h1,h2,by decide,M,.refl _,q⟩
 ·rw[if_neg c] at q;rw[decide_eq_false c];refine ifT rfl (sl2 (sl2 ⟨.t [.i,.i],rfl,rfl,by simp[hs,hss],by simp[hs,hss],M,.refl _,?_⟩));rw[aIi,if_neg c];exact q
def qI:DSp:=λds M Q=>∃a k z n,ds=[.tup [.int a,.int k,FQ z],.int n]/\Q (.tup [.int (a+n),.int k,FQ z]) M
noncomputable abbrev tP:Stmt:=top 40
theorem aBR:aS ["place","laps"] ["place","laps"] (aI tP):=by ac_rfl
theorem aAA (hF:cM K mg "laps_on" tP ["place","laps"]):Has P w K mg base 101 "laps_on" ["place","laps"] qI:=by refine Has.mkZ hF aBR (λds M Q ⟨x,y,u,v,e,_⟩=>by rw[e];rfl) λf cdv A outer s H ds M Q E hr h=>?_;obtain⟨a,k,z,n,rfl,q⟩:=h;refine⟨_,(aG (aO (bC (aB (aK cY (aH (aA 0) aC) (aA 1)) (aB (aH (aA 0) aC) (aB (aH (aA 0) aC) aD)))))),?_⟩;ac_nf;exact⟨by decide,M,.refl _,q⟩
def nN:DSp:=λds M Q=>∃cx cy x y p q lap,ds=[PQ cx cy,PQ (cx+x) (cy+y),plc lap x y p q]/\BQ 60 cx/\BQ 60 cy/\BQ 200 x/\BQ 200 y/\BQ 100 (plZ x y p q)/\¬(x=0/\y=0)/\OnR x y p q/\Q (PQ (cx+p) (cy+q)) M
noncomputable abbrev qS:Stmt:=top 38
theorem aA0:aS ["c","a","place"] ["c","a","place"] (aI qS):=by ac_rfl
theorem zR (hF:cM K mg "point_of" qS ["c","a","place"])(iC:Has P w K mg base 104 "together" ["p","q"] jZ)(lH:Has P w K mg base 104 "off" ["p","q"] sK)(qU:Has P w K mg base 105 "at_share" ["c","a","t"] aHB):Has P w K mg base 106 "point_of" ["c","a","place"] nN:=by
 refine Has.mkZ hF aA0 (λds M Q ⟨x,y,u,v,t,t2,l,e,_⟩=>by rw[e];rfl) λf cdv A outer s H ds M Q E hr h=>?_;obtain⟨cx,cy,x,y,p,q',lap,rfl,h1,h2,h3,h4,hz,h0,hc,q⟩:=h;refine⟨_,(aF (bV (aY (eP hr) (aH (aA 2) aC) aC) (aG (aO (aE iC hr (by decide) (aB (aA 0) (aB (aE lH hr (by decide) (aB (aA 0) (aB (aA 1) aD))) aD))))) aZ)
  (aG (aO (aE qU hr (by decide) (aB (aA 0) (aB (aA 1) (aB (aH (aA 2) aC) aD))))))),?_⟩
 unfold plc;rcases aDB h0 hc with⟨hS,rfl,rfl⟩|⟨hS,t,ht,rfl,rfl⟩
 ·rw[jQ.1,jQ.2];ac_nf;rw[eR];refine ifT rfl (aIp h1 h2 (h1.add h3) (h2.add h4) (by decide) (by decide) ?_);rw[show cx-(cx+x) = -x by grind,show cy-(cy+y) = -y by grind];exact aMu h1 h2 h3.neg h4.neg (by decide) (by decide) ⟨M,.refl _,q⟩
 ·rw[(iP h0).1,(iP h0).2];rw[(iP h0).2] at hz;ac_nf;rw[eR];refine ifF (decide_eq_false (by split<;>decide)) ⟨cx,cy,x,y,t,rfl,h1,h2,h3,h4,hz,M,.refl _,q⟩
theorem aIy {x y u v:Rat}(h:PQ x y=PQ u v):x=u/\y=v:=by
 unfold PQ FQ at h;injection h with h
 injection h with h1 h
 injection h with h2 _
 injection h1 with h1
 injection h1 with h1 h3
 injection h3 with h3 _
 injection h1 with h1
 injection h3 with h3
 injection h2 with h2
 injection h2 with h2 h4
 injection h4 with h4 _
 injection h2 with h2
 injection h4 with h4
 exact⟨Rat.ext h1 (by exact_mod_cast h3),Rat.ext h2 (by exact_mod_cast h4)⟩
structure Rd where
 cx:Rat
 cy:Rat
 x:Rat
 y:Rat
 m:Int
 P:Int->Rat×Rat
def Rd.In (c:Rd)(i:Int):Prop:=0<=i/\i<c.m
structure Rd.Ok (c:Rd):Prop where
 m0:0<c.m
 m1:c.m<=30
 bx:BQ 60 c.cx
 b_y:BQ 60 c.cy
 h0:¬(c.x=0/\c.y=0)
 on:∀i,c.In i->OnR c.x c.y (c.P i).1 (c.P i).2
 inc:∀i j,0<=i->i<j->j<c.m->phi c.x c.y (c.P i).1 (c.P i).2<phi c.x c.y (c.P j).1 (c.P j).2
 bw:∀i,c.In i->BQ 200 (c.P i).1/\BQ 200 (c.P i).2
 bz:∀r i,c.In r->c.In i->BQ 100 (plZ (c.P r).1 (c.P r).2 (c.P i).1 (c.P i).2)
theorem Rd.Ok.ne0 {c:Rd}(h:c.Ok){i:Int}(hi:c.In i):¬((c.P i).1=0/\(c.P i).2=0):=λ⟨a,b⟩=>by have e:=h.on i hi;unfold OnR at e;rw[a,b] at e;have:=aAu h.h0;grind
theorem Rd.Ok.on2 {c:Rd}(h:c.Ok){i j:Int}(hi:c.In i)(hj:c.In j):OnR (c.P i).1 (c.P i).2 (c.P j).1 (c.P j).2:=(h.on j hj).trans (h.on i hi).symm
theorem Rd.Ok.inj {c:Rd}(h:c.Ok){i j:Int}(hi:c.In i)(hj:c.In j)(e:(c.P i).1=(c.P j).1/\(c.P i).2=(c.P j).2):i=j:=by
 rcases Int.lt_trichotomy i j with l|l|l
 ·have:=h.inc i j hi.1 l hj.2;rw[e.1,e.2] at this;exact absurd this Rat.lt_irrefl
 ·exact l
 ·have:=h.inc j i hj.1 l hi.2;rw[e.1,e.2] at this;exact absurd this Rat.lt_irrefl
theorem tJ (a b c d e f:Rat):bL a b c d e f = -bL a b e f c d:=by unfold bL;grind
theorem Rd.Ok.ahead {c:Rd}(h:c.Ok){r j k:Int}(hr:c.In r)(hj:c.In j)(hk:c.In k):kS (c.P r).1 (c.P r).2 (c.P j).1 (c.P j).2 (c.P k).1 (c.P k).2=decide (rel c.m r j<rel c.m r k):=by
 have L:∀a b d,0<=a->a<b->b<d->d<c.m->0<bL (c.P a).1 (c.P a).2 (c.P b).1 (c.P b).2 (c.P d).1 (c.P d).2:=λa b d h1 h2 h3 h4 =>
  aFx h.h0 (h.on a ⟨h1,by omega⟩) (h.on b ⟨by omega,by omega⟩) (h.on d ⟨by omega,h4⟩) (h.inc a b h1 h2 (by omega)) (h.inc b d (by omega) h3 h4)
 have hr':=hr;have hj':=hj;have hk':=hk;unfold Rd.In at hr' hj' hk';unfold kS;by_cases e1:j=r
 ·subst e1;rw[if_pos ⟨rfl,rfl⟩];by_cases e2:k=j
  ·subst e2;rw[decide_eq_true ⟨rfl,rfl⟩,decide_eq_false (by omega)];rfl
  ·rw[decide_eq_false (λz=>e2 (h.inj hk hj z)),decide_eq_true (by unfold rel;split<;>split<;>omega)];rfl
 ·rw[if_neg (λz=>e1 (h.inj hj hr z))];refine decide_eq_decide.mpr ?_;rw[uQ];have e1:r≠j:=λz=>e1 z.symm;by_cases e2:k=j
  ·subst e2;have:bL (c.P r).1 (c.P r).2 (c.P k).1 (c.P k).2 (c.P k).1 (c.P k).2=0:=by unfold bL;grind
   rw[this];exact⟨λz=>absurd z Rat.lt_irrefl,λz=>by omega⟩
  by_cases e3:k=r
  ·subst e3;have:bL (c.P k).1 (c.P k).2 (c.P j).1 (c.P j).2 (c.P k).1 (c.P k).2=0:=by unfold bL;grind
   rw[this];exact⟨λz=>absurd z Rat.lt_irrefl,λz=>by unfold rel at z;split at z<;>split at z<;>omega⟩
  have up:∀{A:Rat},0<A->rel c.m r j<rel c.m r k->(0<A↔rel c.m r j<rel c.m r k):=λa b=>⟨λ_=>b,λ_=>a⟩;have dn:∀{A:Rat},A<0->¬rel c.m r j<rel c.m r k->(0<A↔rel c.m r j<rel c.m r k):=λa b=>⟨λz=>by grind,λz=>absurd z b⟩;rcases Int.lt_or_lt_of_ne e1 with o1|o1<;>rcases Int.lt_or_lt_of_ne (show j≠k from λz=>e2 z.symm) with o2|o2
  ·exact up (L r j k hr'.1 o1 o2 hk'.2) (by unfold rel;split<;>split<;>omega)
  ·rcases Int.lt_or_lt_of_ne e3 with o3|o3
   ·rw[(dO _ _ _ _ _ _).1,(dO _ _ _ _ _ _).1];exact up (L k r j hk'.1 o3 o1 hj'.2) (by unfold rel;split<;>split<;>omega)
   ·rw[tJ];have:=L r k j hr'.1 o3 o2 hj'.2;exact dn (by grind) (by unfold rel;split<;>split<;>omega)
  ·rcases Int.lt_or_lt_of_ne e3 with o3|o3
   ·rw[(dO _ _ _ _ _ _).1];exact up (L j k r hj'.1 o2 o3 hr'.2) (by unfold rel;split<;>split<;>omega)
   ·rw[(dO _ _ _ _ _ _).1,(dO _ _ _ _ _ _).1,(dO _ _ _ _ _ _).1,tJ,(dO _ _ _ _ _ _).1,(dO _ _ _ _ _ _).1];have:=L j r k hj'.1 o1 o3 hk'.2;exact dn (by grind) (by unfold rel;split<;>split<;>omega)
  ·rw[tJ,(dO _ _ _ _ _ _).1];have:=L k j r hk'.1 o2 o1 hr'.2;exact dn (by grind) (by unfold rel;split<;>split<;>omega)
noncomputable def nW (m k:Int):Int:=if k<m then 0 else 1
noncomputable def inK (m k:Int):Int:=if k<m then k else k-m
noncomputable def Rd.ax (c:Rd)(r:Int):Ax:=⟨λk=>plc (nW c.m k) (c.P r).1 (c.P r).2 (c.P (stp c.m r (inK c.m k))).1 (c.P (stp c.m r (inK c.m k))).2,λk=>0<=k/\k<2*c.m⟩
theorem cQ {m r k:Int}(hr:0<=r/\r<m)(hk:0<=k/\k<m):0<=stp m r k/\stp m r k<m:=by unfold stp;split<;>omega
theorem dB {m r k:Int}(hr:0<=r/\r<m)(hk:0<=k/\k<m):0<=rel m r k/\rel m r k<m:=by unfold rel;split<;>omega
theorem mR {m r k:Int}(hr:0<=r/\r<m)(hk:0<=k/\k<m):rel m r (stp m r k)=k:=by unfold rel stp;split<;>split<;>omega
theorem iZ {m r k:Int}(hr:0<=r/\r<m)(hk:0<=k/\k<m):stp m r (rel m r k)=k:=by unfold rel stp;split<;>split<;>omega
theorem yY {m k:Int}(hk:0<=k/\k<2*m):0<=inK m k/\inK m k<m:=by unfold inK;split<;>omega
theorem Rd.Ok.lat {c:Rd}(h:c.Ok){r s t:Int}(hr:c.In r)(hs:(c.ax r).R s)(ht:(c.ax r).R t) :
  lat (nW c.m s) (plK (c.P r).1 (c.P r).2 (c.P (stp c.m r (inK c.m s))).1 (c.P (stp c.m r (inK c.m s))).2) (plZ (c.P r).1 (c.P r).2 (c.P (stp c.m r (inK c.m s))).1 (c.P (stp c.m r (inK c.m s))).2)
   (nW c.m t) (plK (c.P r).1 (c.P r).2 (c.P (stp c.m r (inK c.m t))).1 (c.P (stp c.m r (inK c.m t))).2) (plZ (c.P r).1 (c.P r).2 (c.P (stp c.m r (inK c.m t))).1 (c.P (stp c.m r (inK c.m t))).2)=decide (s<t):=by
 have is:=yY hs;have it:=yY ht;have js:=cQ hr is;have jt:=cQ hr it;have e:=(aFN (h.ne0 hr) (h.on2 hr js) (h.on2 hr jt)).symm.trans (h.ahead hr js jt);rw[mR hr is,mR hr it] at e;unfold Lw.lat;unfold aKy at e;by_cases l:nW c.m s=nW c.m t
 ·have st:(inK c.m s<inK c.m t)↔s<t:=by unfold inK nW at *;split at l<;>split at l<;>simp_all<;>omega
  rw[decide_eq_decide.mpr st] at e;rw[<- e];by_cases k:plK (c.P r).1 (c.P r).2 (c.P (stp c.m r (inK c.m s))).1 (c.P (stp c.m r (inK c.m s))).2=plK (c.P r).1 (c.P r).2 (c.P (stp c.m r (inK c.m t))).1 (c.P (stp c.m r (inK c.m t))).2
  ·rw[if_pos ⟨l,k⟩,if_pos k]
  ·rw[if_neg (λz=>k z.2),if_neg k];exact decide_eq_decide.mpr ⟨λz=>z.elim (λz=>by omega) λz=>z.2,λz=>.inr ⟨l,z⟩⟩
 ·rw[if_neg (λz=>l z.1)];refine decide_eq_decide.mpr ?_;have st:(nW c.m s<nW c.m t)↔s<t:=by unfold nW at *;split at l<;>split at l<;>simp_all<;>omega
  rw[<- st];exact⟨λz=>z.elim id λz=>absurd z.1 l,.inl⟩
theorem aJQ {x y:Rat}(h:FQ x=FQ y):x=y:=by
 unfold FQ at h;injection h with h
 injection h with h1 h
 injection h1 with h1
 injection h with h2 _
 injection h2 with h2
 exact Rat.ext h1 (by exact_mod_cast h2)
theorem aFZ {a b:Int}{x y p q u v:Rat}(h:plc a x y p q=plc b x y u v):a=b/\plK x y p q=plK x y u v/\plZ x y p q=plZ x y u v:=by
 unfold plc at h;injection h with h
 injection h with h1 h
 injection h with h2 h
 injection h with h3 _
 injection h1 with h1
 injection h2 with h2
 exact⟨h1,h2,aJQ h3⟩
theorem aAs (a k:Int)(z:Rat):lat a k z a k z=false:=by unfold lat;rw[if_pos ⟨rfl,rfl⟩];exact decide_eq_false Rat.lt_irrefl
theorem Rd.Ok.axOk {c:Rd}(h:c.Ok){r:Int}(hr:c.In r):(c.ax r).Ok:=λs t hs ht e=>by obtain⟨e1,e2,e3⟩:=aFZ e;have a:=h.lat hr hs ht;have b:=h.lat hr ht hs;rw[e1,e2,e3,aAs] at a;rw[e1,e2,e3,aAs] at b;have a:=of_decide_eq_false a.symm;have b:=of_decide_eq_false b.symm;omega
noncomputable def Rd.c0 (c:Rd):D:=PQ c.cx c.cy
noncomputable def Rd.pt (c:Rd)(i:Int):D:=PQ (c.cx+(c.P i).1) (c.cy+(c.P i).2)
noncomputable def Rd.arc (c:Rd)(i j:Int):D:=.tup [.str "arc",c.c0,c.pt i,c.pt j]
noncomputable def Rd.dot (c:Rd)(i:Int):D:=.tup [.str "dot",c.pt i]
noncomputable def Rd.ring (c:Rd)(i:Int):D:=.tup [.str "ring",c.c0,c.pt i]
noncomputable def Rd.pc (c:Rd)(s:Sp):D:=if s.2=0 then c.dot s.1 else if s.2=c.m then c.ring s.1 else c.arc s.1 (stp c.m s.1 s.2)
theorem Rd.Ok.pt_inj {c:Rd}(h:c.Ok){i j:Int}(hi:c.In i)(hj:c.In j)(e:c.pt i=c.pt j):i=j:=by obtain⟨e1,e2⟩:=aIy e;exact h.inj hi hj ⟨by grind,by grind⟩
def Cov (m:Int)(T:List Sp)(g:Int):Prop:=∃x∈T,rel m x.1 g<x.2
def MRi (m:Int)(C:Int->Prop)(x:Sp):Prop:=(0<=x.1/\x.1<m)/\(0<x.2/\x.2<m)/\(∀k,0<=k->k<x.2->C (stp m x.1 k))/\¬C (pg m x.1)/\¬C (stp m x.1 x.2)
theorem aHa {m r a b:Int}{C:Int->Prop}(hr:0<=r/\r<m)(q:MR m (λg=>C (stp m r g)) a b):MRi m C (stp m r a,rel m a b):=by
 obtain⟨a0,am,b0,bm,ne,all,lo,hi⟩:=q;have h1:=dB (m:=m) (r:=a) (k:=b) ⟨a0,am⟩ ⟨b0,bm⟩;have h2:rel m a b≠0:=by unfold rel;split<;>omega
 refine⟨cQ hr ⟨a0,am⟩,⟨by show 0<rel m a b;omega,h1.2⟩,λk k0 kl=>?_,λz=>lo ?_,λz=>hi ?_⟩
 ·have kl:k<rel m a b:=kl;have e:stp m (stp m r a) k=stp m r (stp m a k):=by unfold stp;split<;>split<;>split<;>split<;>omega
  show C (stp m (stp m r a) k);rw[e];have i:=cQ (m:=m) (r:=a) (k:=k) ⟨a0,am⟩ ⟨k0,by omega⟩;refine all _ i.1 i.2 ?_;unfold inA stp;unfold rel at kl;split<;>split<;>split at kl<;>omega
 ·have e:pg m (stp m r a)=stp m r (pg m a):=by unfold pg stp;split<;>split<;>split<;>split<;>omega
  rw[<- e];exact z
 ·have e:stp m (stp m r a) (rel m a b)=stp m r b:=by unfold stp rel;split<;>split<;>split<;>split<;>omega
  rw[<- e];exact z
theorem aGd {m r:Int}{x:Sp}{C:Int->Prop}(hr:0<=r/\r<m)(q:MRi m C x):∃a b,MR m (λg=>C (stp m r g)) a b/\x=(stp m r a,rel m a b):=by
 obtain⟨i,l⟩:=x;obtain⟨⟨i0,im⟩,⟨l0,lm⟩,all,lo,hi⟩:=q;dsimp only at i0 im l0 lm all lo hi;have ha:=dB (m:=m) hr ⟨i0,im⟩;have ea:=iZ (m:=m) hr ⟨i0,im⟩;generalize rel m r i=a at ha ea;have hb:=cQ (m:=m) (r:=a) (k:=l) ha ⟨by omega,lm⟩;have eb:=mR (m:=m) (r:=a) (k:=l) ha ⟨by omega,lm⟩;refine⟨a,stp m a l,⟨ha.1,ha.2,hb.1,hb.2,by unfold stp;split<;>omega,λg g0 gm hg=>?_,λz=>lo ?_,λz=>hi ?_⟩,by rw[ea,eb]⟩
 ·have hk:=dB (m:=m) (r:=a) ha ⟨g0,gm⟩;have ek:=iZ (m:=m) (r:=a) ha ⟨g0,gm⟩;have kl:rel m a g<l:=by unfold inA stp at hg;unfold rel;split at hg<;>split at hg<;>split<;>omega
  have:=all _ hk.1 kl;rw[<- ea] at this;have e:stp m (stp m r a) (rel m a g)=stp m r (stp m a (rel m a g)):=by unfold stp;split<;>split<;>split<;>split<;>omega
  rw[e,ek] at this;exact this
 ·rw[<- ea];have e:pg m (stp m r a)=stp m r (pg m a):=by unfold pg stp;split<;>split<;>split<;>split<;>omega
  rw[e];exact z
 ·rw[<- ea];have e:stp m (stp m r a) l=stp m r (stp m a l):=by unfold stp;split<;>split<;>split<;>split<;>omega
  rw[e];exact z
noncomputable def spn (m r:Int)(x:Sp):Sp:=(rel m r x.1,rel m r x.1+x.2)
theorem aEc {m r:Int}{T V:List Sp}{l:Sp}(hr:0<=r/\r<m)(hT:∀x∈T,(0<=x.1/\x.1<m)/\0<x.2/\x.2<m)(h:Jn (T.map (spn m r)) (V++[l])):aIA m (λg=>Cov m T (stp m r g)) V l:=by
 have inS:∀s∈T.map (spn m r),(0<=s.1/\s.1<m)/\s.1<s.2/\s.2<s.1+m:=λs hs=>by obtain⟨x,hx,rfl⟩:=List.mem_map.mp hs;obtain⟨a,b⟩:=hT x hx;have:=dB (m:=m) hr a;unfold spn;dsimp only;omega
 have lg:∀x∈V++[l],x.1<x.2:=λx hx=>by
  obtain⟨s,hs,e⟩:=h.c.st x hx;obtain⟨y,hy,a,b⟩:=h.c.cov s hs;have:=(inS s hs).2.1;have wx:=h.c.wf x hx;have wy:=h.c.wf y hy;by_cases d:x=y
  ·rw[d] at e ⊢;omega
  ·rcases h.c.ne hx hy d with f|f<;>omega
 have lo:∀x∈V++[l],0<=x.1/\x.1<x.2/\x.1<m:=λx hx=>by obtain⟨s,hs,e⟩:=h.c.st x hx;have:=(inS s hs).1;exact⟨by omega,lg x hx,by omega⟩
 have ml:l∈V++[l]:=mem_append_right _ mem_cons_self;have lV:∀x∈V,x.2<l.1:=λx hx=>(List.pairwise_append.mp h.asc).2.2 x hx l mem_cons_self;have cv:∀t,(∃s∈T.map (spn m r),s.1<=t/\t<s.2) ↔ ∃x∈V++[l],x.1<=t/\t<x.2:=λt=>by
  constructor
  ·rintro⟨s,hs,a,b⟩;obtain⟨y,hy,c,d⟩:=h.c.cov s hs;exact⟨y,hy,by omega,by omega⟩
  ·rintro⟨x,hx,a,b⟩;exact h.c.gap x hx t a b
 refine⟨h.asc,lo,λg g0 gm=>?_⟩;have e1:Cov m T (stp m r g)↔(∃s∈T.map (spn m r),s.1<=g/\g<s.2) ∨ ∃s∈T.map (spn m r),s.1<=g+m/\g+m<s.2:=by
  have k:∀x∈T,rel m x.1 (stp m r g)<x.2↔((spn m r x).1<=g/\g<(spn m r x).2)∨((spn m r x).1<=g+m/\g+m<(spn m r x).2):=λx hx=>by obtain⟨a,b⟩:=hT x hx;unfold spn rel stp;dsimp only;split<;>split<;>split<;>omega
  constructor
  ·rintro⟨x,hx,z⟩;rcases (k x hx).mp z with z|z
   ·exact .inl ⟨_,List.mem_map.mpr ⟨x,hx,rfl⟩,z⟩
   ·exact .inr ⟨_,List.mem_map.mpr ⟨x,hx,rfl⟩,z⟩
  ·rintro(⟨s,hs,z⟩|⟨s,hs,z⟩)
   ·obtain⟨x,hx,rfl⟩:=List.mem_map.mp hs;exact⟨x,hx,(k x hx).mpr (.inl z)⟩
   ·obtain⟨x,hx,rfl⟩:=List.mem_map.mp hs;exact⟨x,hx,(k x hx).mpr (.inr z)⟩
 show Cov m T (stp m r g)↔_;rw[e1,cv,cv];constructor
 ·rintro(z|⟨x,hx,a,b⟩)
  ·exact .inl z
  ·rcases List.mem_append.mp hx with z|z
   ·have:=lV x z;have:=lo l ml;omega
   ·rw[List.mem_singleton.mp z] at b;exact .inr b
 ·rintro(z|z)
  ·exact .inl z
  ·exact .inr ⟨l,ml,by have:=lo l ml;omega,z⟩
structure Due (m:Int)(T U:List Sp):Prop where
 nd:(U.map (·.1)).Nodup
 full:(∀g,0<=g->g<m->Cov m T g)->∃i,T.head?.map (·.1)=some i/\U=[(i,m)]
 cov:∀g,0<=g->g<m->Cov m T g->∃x∈U,rel m x.1 g<x.2
 part:(∃g,0<=g/\g<m/\¬Cov m T g)->∀x,x∈U↔MRi m (Cov m T) x
theorem aFP {m r:Int}{T V:List Sp}{l:Sp}(m0:0<m)(hr:0<=r/\r<m)(hT:∀x∈T,(0<=x.1/\x.1<m)/\0<x.2/\x.2<m)(e1:T.head?.map (·.1)=some r)(h:Jn (T.map (spn m r)) (V++[l])) :
  match iR m V l with
  |none=>Due m T [(r,m)]
  |some F=>Due m T (F.map λy=>(stp m r y.1,rel m y.1 y.2))/\∀y∈F,(0<=y.1/\y.1<m)/\0<=y.2/\y.2<m/\y.1≠y.2:=by
 have c:=aEc hr hT h;cases e:iR m V l with
 |none =>
  have al:=aDe c e;refine⟨by simp,λ_=>⟨r,e1,rfl⟩,λg g0 gm _=>⟨(r,m),mem_cons_self,(dB hr ⟨g0,gm⟩).2⟩,λ⟨g,g0,gm,z⟩=>absurd ?_ z⟩;have:=al (rel m r g) (dB hr ⟨g0,gm⟩).1 (dB hr ⟨g0,gm⟩).2;rw[iZ hr ⟨g0,gm⟩] at this;exact this
 |some F =>
  obtain⟨n1,⟨g,g0,gm,ng⟩,n3,n4⟩:=aC2 m0 c e;have ng:¬Cov m T (stp m r g):=ng;have gi:=cQ hr ⟨g0,gm⟩;have inF:∀y∈F,MR m (λg=>Cov m T (stp m r g)) y.1 y.2:=λy hy=>(n3 y.1 y.2).mp hy;refine⟨⟨?_,λz=>absurd (z _ gi.1 gi.2) ng,λg2 g20 g2m z=>?_,λ_ x=>⟨λhx=>?_,λq=>?_⟩⟩,λy hy=>?_⟩
  ·rw[map_map];have:F.map ((λx:Sp=>x.1) ∘ λy:Sp=>(stp m r y.1,rel m y.1 y.2))=(F.map (·.1)).map (stp m r):=by rw[map_map];rfl
   rw[this];unfold Nodup at n1 ⊢;rw[pairwise_map];refine List.Pairwise.imp_of_mem (λ{a b} ha hb n z=>n ?_) n1;obtain⟨y1,h1,rfl⟩:=List.mem_map.mp ha;obtain⟨y2,h2,rfl⟩:=List.mem_map.mp hb;have i1:=inF y1 h1;have i2:=inF y2 h2;have e1:=mR (m:=m) hr ⟨i1.a0,i1.am⟩;have e2:=mR (m:=m) hr ⟨i2.a0,i2.am⟩;rw[<- e1,<- e2,z]
  ·have i1:=dB hr ⟨g20,g2m⟩;obtain⟨y,hy,z⟩:=n4 (rel m r g2) i1.1 i1.2 (by show Cov m T (stp m r (rel m r g2));rw[iZ hr ⟨g20,g2m⟩];exact z);have i:=inF y hy;refine⟨_,List.mem_map.mpr ⟨y,hy,rfl⟩,?_⟩;have a0:=i.a0;have am:=i.am;have b0:=i.b0;have bm:=i.bm;show rel m (stp m r y.1) g2<rel m y.1 y.2;have hg:(rel m r g2=g2-r/\r<=g2)∨(rel m r g2=g2+m-r/\g2<r):=by unfold rel;split<;>omega
   have hs:(stp m r y.1=r+y.1/\r+y.1<m)∨(stp m r y.1=r+y.1-m/\m<=r+y.1):=by unfold stp;split<;>omega
   generalize rel m r g2=gg at z hg i1;generalize stp m r y.1=s1 at hs ⊢;have ne:=i.ne;unfold inA at z;by_cases c1:y.1<y.2
   ·rw[if_pos c1] at z;have e1:rel m y.1 y.2=y.2-y.1:=if_pos (by omega);rw[e1];unfold rel;split<;>omega
   ·rw[if_neg c1] at z;have e1:rel m y.1 y.2=y.2+m-y.1:=if_neg (by omega);rw[e1];unfold rel;split<;>omega
  ·obtain⟨y,hy,rfl⟩:=List.mem_map.mp hx;exact aHa hr (inF y hy)
  ·obtain⟨a,b,q2,e2⟩:=aGd hr q;exact List.mem_map.mpr ⟨(a,b),(n3 a b).mpr q2,e2.symm⟩
  ·have i:=inF y hy;exact⟨⟨i.a0,i.am⟩,i.b0,i.bm,i.ne⟩
def Rd.itm (c:Rd)(x:Sp):Prop:=(0<=x.1/\x.1<c.m)/\0<x.2/\x.2<=c.m
theorem Rd.Ok.plcC {c:Rd}(h:c.Ok){r i:Int}(hr:c.In r)(hi:c.In i){M:DM}{Q:DQ}(q:Q ((c.ax r).X (rel c.m r i)) M):oR [c.c0,c.pt r,c.pt i] M Q:=by
 have e:(c.ax r).X (rel c.m r i)=plc 0 (c.P r).1 (c.P r).2 (c.P i).1 (c.P i).2:=by have k:=dB hr hi;show plc (nW c.m (rel c.m r i)) (c.P r).1 (c.P r).2 (c.P (stp c.m r (inK c.m (rel c.m r i)))).1 (c.P (stp c.m r (inK c.m (rel c.m r i)))).2=_;unfold nW inK;rw[if_pos k.2,if_pos k.2,iZ hr hi]
 rw[e] at q;exact⟨_,_,_,_,_,_,rfl,h.bx,h.b_y,(h.bw r hr).1,(h.bw r hr).2,(h.bw i hi).1,(h.bw i hi).2,h.ne0 hr,h.on2 hr hi,q⟩
theorem Rd.Ok.sooC {c:Rd}(h:c.Ok){r s t:Int}(hr:c.In r)(hs:(c.ax r).R s)(ht:(c.ax r).R t){M:DM}{Q:DQ}(q:Q (.bl (decide (s<t))) M):lE [(c.ax r).X s,(c.ax r).X t] M Q:=by have js:=cQ hr (yY hs);have jt:=cQ hr (yY ht);refine⟨_,_,_,_,_,_,rfl,h.bz r _ hr js,h.bz r _ hr jt,?_⟩;rw[h.lat hr hs ht];exact q
theorem Rd.Ok.ear {c:Rd}(h:c.Ok){r:Int}(hr:c.In r)(eV:Has P w K mg base 102 "sooner" ["one","other"] lE){g:Addr}(hg:mg "sooner"=some (.ref g)):aCd P w K mg base 106 g (c.ax r).dom (c.ax r).lt :=
 ⟨_,_,_,hg,eV.mono (by decide),λx y M Q ⟨s,hs,e1⟩ ⟨t,ht,e2⟩ q=>by rw[e1,e2] at q ⊢;rw[Ax.lt_eq (h.axOk hr) hs ht] at q;exact h.sooC hr hs ht q⟩
theorem Rd.lapC (c:Rd){r i:Int}(h0:0<=i)(h1:i<c.m):∃k z,(c.ax r).X i=.tup [.int 0,.int k,FQ z]/\(c.ax r).X (i+c.m)=.tup [.int 1,.int k,FQ z]:=by
 have e1:(c.ax r).X i=plc 0 (c.P r).1 (c.P r).2 (c.P (stp c.m r i)).1 (c.P (stp c.m r i)).2:=by show plc (nW c.m i) _ _ (c.P (stp c.m r (inK c.m i))).1 (c.P (stp c.m r (inK c.m i))).2=_;unfold nW inK;rw[if_pos h1,if_pos h1]
 have e2:(c.ax r).X (i+c.m)=plc 1 (c.P r).1 (c.P r).2 (c.P (stp c.m r i)).1 (c.P (stp c.m r i)).2:=by show plc (nW c.m (i+c.m)) _ _ (c.P (stp c.m r (inK c.m (i+c.m)))).1 (c.P (stp c.m r (inK c.m (i+c.m)))).2=_;unfold nW inK;rw[if_neg (by omega),if_neg (by omega),show i+c.m-c.m=i by omega]
 exact⟨_,_,e1,e2⟩
theorem Rd.Ok.poiC {c:Rd}(h:c.Ok){r k:Int}(hr:c.In r)(hk:0<=k/\k<c.m){M:DM}{Q:DQ}(q:Q (c.pt (stp c.m r k)) M):nN [c.c0,c.pt r,(c.ax r).X k] M Q:=by
 have j:=cQ hr hk;have e:(c.ax r).X k=plc 0 (c.P r).1 (c.P r).2 (c.P (stp c.m r k)).1 (c.P (stp c.m r k)).2:=by show plc (nW c.m k) (c.P r).1 (c.P r).2 (c.P (stp c.m r (inK c.m k))).1 (c.P (stp c.m r (inK c.m k))).2=_;unfold nW inK;rw[if_pos hk.2,if_pos hk.2]
 rw[e];exact⟨_,_,_,_,_,_,_,rfl,h.bx,h.b_y,(h.bw r hr).1,(h.bw r hr).2,h.bz r _ hr j,h.ne0 hr,h.on2 hr j,q⟩
def tV:DSp:=λds M Q=>∃(c:Rd)(r:Int) (x:Sp),ds=[c.pt r,c.arc x.1 (stp c.m x.1 x.2),.non]/\c.Ok/\c.In r/\c.In x.1/\0<x.2/\x.2<c.m/\Q (s3D ((c.ax r).s3 (spn c.m r x))) M
noncomputable abbrev qH:Stmt:=top 41
theorem nZ:aS ["a","piece","number","start","stop"] ["a","piece","number"] (aI qH):=by ac_rfl
theorem zK (hF:cM K mg "arc_span" qH ["a","piece","number"])(mV:Has P w K mg base 106 "place_of" ["c","a","p"] oR)(eV:Has P w K mg base 102 "sooner" ["one","other"] lE)(jC:Has P w K mg base 101 "laps_on" ["place","laps"] qI):Has P w K mg base 108 "arc_span" ["a","piece","number"] tV:=by
 refine Has.mkZ hF nZ (λds M Q ⟨_,_,_,e,_⟩=>by rw[e];rfl) λf cdv A outer s H ds M Q E hr h=>?_;obtain⟨c,r,x,rfl,ok,ir,ix,x0,xm,q⟩:=h;refine⟨_,(aF (aM (i:=3) nZ.nd (aE mV hr (by decide) (aB (aH (aA 1) aC) (aB (aA 0) (aB (aH (aA 1) aC) aD)))))
  (aF (aM (i:=4) nZ.nd (aE mV hr (by decide) (aB (aH (aA 1) aC) (aB (aA 0) (aB (aH (aA 1) aC) aD)))))
  (aG (aO (bC (aB (aA 3) (aB (lO (eD (aE eV hr (by decide) (aB (aA 3) (aB (aA 4) aD)))) (aA 4) (aE jC hr (by decide) (aB (aA 4) (aB aC aD)))) (aB (aA 2) aD)))))))),?_⟩
 have j:=cQ ix ⟨Int.le_of_lt x0,xm⟩;have k1:=dB ir ix;have k2:=dB ir j;unfold Rd.arc;ac_nf;refine ok.plcC ir ix ?_;ac_nf;refine ok.plcC ir j ?_;ac_nf;refine ok.sooC ir ⟨k1.1,by omega⟩ ⟨k2.1,by omega⟩ ?_;ac_nf;have e:spn c.m r x=(rel c.m r x.1,if rel c.m r x.1<rel c.m r (stp c.m x.1 x.2) then rel c.m r (stp c.m x.1 x.2) else rel c.m r (stp c.m x.1 x.2)+c.m):=by unfold spn;refine Prod.ext rfl ?_;show rel c.m r x.1+x.2=_;unfold rel stp;unfold Rd.In at ix ir;split<;>split<;>split<;>split<;>omega
 rw[e] at q;by_cases z:rel c.m r x.1<rel c.m r (stp c.m x.1 x.2)
 ·rw[if_pos z] at q;exact ifT (decide_eq_true z) ⟨by decide,M,.refl _,q⟩
 ·rw[if_neg z] at q;obtain⟨kk,zz,g1,g2⟩:=c.lapC (r:=r) k2.1 k2.2;have q:Q (.tup [(c.ax r).X (rel c.m r x.1),(c.ax r).X (rel c.m r (stp c.m x.1 x.2)+c.m),.non]) M:=q;rw[g2] at q;rw[g1];exact ifF (decide_eq_false z) ⟨_,_,_,_,rfl,by decide,M,.refl _,q⟩
theorem Rd.pcs {c:Rd}{x:Sp}(h:c.itm x):(x.2=c.m/\c.pc x=c.ring x.1)∨(x.2<c.m/\c.pc x=c.arc x.1 (stp c.m x.1 x.2)):=by
 obtain⟨_,h1,h2⟩:=h;unfold Rd.pc;rw[if_neg (by omega)];by_cases e:x.2=c.m
 ·rw[if_pos e];exact .inl ⟨e,rfl⟩
 ·rw[if_neg e];exact .inr ⟨by omega,rfl⟩
theorem Rd.ix {c:Rd}{x:Sp}(h:c.itm x){M:DM}{Q:DQ}:(Q (.str (if x.2 = c.m then "ring" else "arc")) M->mO (c.pc x) (.int 0) M Q)/\(Q c.c0 M->mO (c.pc x) (.int 1) M Q)/\(Q (c.pt x.1) M->mO (c.pc x) (.int 2) M Q):=by
 rcases Rd.pcs h with⟨e,z⟩|⟨e,z⟩
 ·rw[z,if_pos e];unfold Rd.ring;ac_nf;exact⟨id,id,id⟩
 ·rw[z,if_neg (by omega)];unfold Rd.arc;ac_nf;exact⟨id,id,id⟩
theorem aDR {m:Int}{T:List Sp}{r:Int}(hr:∀g,0<=g->g<m->rel m r g<m)(e:T.head?.map (·.1)=some r)(al:∀g,0<=g->g<m->Cov m T g):Due m T [(r,m)] :=
 ⟨by simp,λ_=>⟨r,e,rfl⟩,λg g0 gm _=>⟨(r,m),mem_cons_self,hr g g0 gm⟩,λ⟨g,g0,gm,z⟩=>absurd (al g g0 gm) z⟩
theorem Rd.pc_ring {c:Rd}(m0:0<c.m)(r:Int):c.pc (r,c.m)=c.ring r:=by unfold Rd.pc;rw[if_neg (show ¬c.m=0 by omega),if_pos rfl]
noncomputable def Rd.sD (c:Rd)(r:Int)(y:Sp):D:=s3D ((c.ax r).s3 y)
def aHD (pt:Addr):DSp:=λds M Q=>∃(l:Addr)(c:Rd) (T:List Sp),ds = [.ref l]/\c.Ok/\M (.l l) = some (T.map c.pc)/\T≠[]/\(∀x∈T,c.itm x)/\T.length<=31/\M (.x pt) = some [.str "joined_spans.<locals>.<lambda>"] /\
 ∀(p:Addr)(M':DM) (U:List Sp),bD M M'->M (.l p)=none->M' (.l p)=some (U.map c.pc)->Due c.m T U->(∀x∈U,c.itm x)->U.length<=T.length->Q (.ref p) M'
noncomputable abbrev eZ:Stmt:=top 48
theorem cA:aS ["pieces","c","a","ring","runs","start","stop","number"] ["pieces"] (aI eZ):=by ac_rfl
theorem uM {pt:Addr}(hF:cM K mg "joined_arcs" eZ ["pieces"])(qW:Has P w K mg base 108 "arc_span" ["a","piece","number"] tV)(eV:Has P w K mg base 102 "sooner" ["one","other"] lE)(jC:Has P w K mg base 101 "laps_on" ["place","laps"] qI)(mB:Has P w K mg base 106 "point_of" ["c","a","place"] nN)(jK:Has P w K mg base 120 "joined_spans" ["spans","earlier"] (aH0 P w K mg base pt))(xM:mg "any" = none)(eK:mg "len" = none):Has P w K mg base 122 "joined_arcs" ["pieces"] (aHD pt):=by
 obtain⟨gs,_,_,hgs,_⟩:=id eV;have g_sooner:aDQ K mg "sooner" (.ref gs):=⟨_,.ref gs,hgs,rfl,λH=>dH⟩;refine Has.mkZ hF cA (λds M Q ⟨_,_,_,e,_⟩=>by rw[e];rfl) λf cdv A outer s H ds M Q E hr h=>?_;obtain⟨l,c,T,rfl,ok,hl,Tne,hT,lT,hP,q⟩:=h;refine⟨_,(aF (aM (i:=1) cA.nd (aH (aH (aA 0) aC) aC))
  (aF (aM (i:=2) cA.nd (aH (aH (aA 0) aC) aC))
  (aF (aM (i:=3) cA.nd (fK (aB (bC (aB dW (aB (aA 1) (aB (aA 2) aD)))) aD)))
  (aF (bV (eD (bX (aEO rfl) xM (aB (uP (⟨rfl,by decide +kernel,by decide +kernel,by decide +kernel,rfl,by decide +kernel⟩:rB ["pieces","c","a","ring","runs","start","stop","number"] (aI eZ) ["piece"] [none] _) rfl (aA 0) (λ_ _ _ _ _=>(aR (i:=0) (show Nodup (["piece"]:List Str) by decide +kernel))) (λ_ _ _ _ _=>(gI (eP hr) (aH (aA 0) aC) dW))) aD))) (aG (aO (aA 3))) aZ)
  (aF (aM (i:=4) cA.nd (aE jK hr (by decide) (aB (uP (⟨rfl,by decide +kernel,by decide +kernel,by decide +kernel,rfl,by decide +kernel⟩:rB ["pieces","c","a","ring","runs","start","stop","number"] (aI eZ) ["piece","a"] [none,some 2] _) rfl (aA 0) (λ_ _ _ _ _=>(aR (i:=0) (show Nodup (["piece","a"]:List Str) by decide +kernel))) (λ_ _ _ _ _=>(aE qW hr (by decide) (aB (aA 1) (aB (aA 0) (aB rY aD)))))) (aB (sJ g_sooner) aD))))
  (aF (cU (aH (aA 4) (eG aC)) (eH (n:=3) rfl (aV (aR (i:=5) cA.nd) (aV (aR (i:=6) cA.nd) (aV (aR (i:=7) cA.nd) cZ)))))
  (jP (bV (aY (eP hr) (aH (aA 6) aC) aC) (aF (aM (i:=6) cA.nd (aE jC hr (by decide) (aB (aA 6) (aB (eG aC) aD))))
  (jP (lK PassesOwn.never (pT (iX (aY xY (bX jH eK (aB (aA 4) aD)) aC) (jO (kH (eD (aE eV hr (by decide) (aB (aA 6) (aB (aH (aH (aA 4) aC) aC) aD)))))))) (aF (aM (i:=6) cA.nd (lO (eD (aE eV hr (by decide) (aB (aA 6) (aB (aH (aH (aA 4) aC) aC) aD)))) (aH (aH (aA 4) aC) aC) (aA 6)))
  (aG (aM (i:=4) cA.nd (lP (aA 4) (gG aC) iL)))))
  (aF (bV (pT (iX (aY (eP hr) (bX jH eK (aB (aA 4) aD)) aC) (jO (kH (eD (aE eV hr (by decide) (aB (aA 6) (aB (aA 5) aD)))))))) (aG (aO (aA 3))) aZ)
  (aG (cU (bC (aB (aA 5) (aB (aA 6) (aB (aA 7) aD)))) (pK (aA 4) (eG aC))))))) aZ)
  (aG (aO (uP (⟨rfl,by decide +kernel,by decide +kernel,by decide +kernel,rfl,by decide +kernel⟩:rB ["pieces","c","a","ring","runs","start","stop","number"] (aI eZ) ["run","c","a"] [none,some 1,some 2] _) rfl (aA 4) (λ_ _ _ _ _=>(aR (i:=0) (show Nodup (["run","c","a"]:List Str) by decide +kernel))) (λ_ _ _ _ _=>(bC (aB dW (aB (aA 1) (aB (aE mB hr (by decide) (aB (aA 1) (aB (aA 2) (aB (aH (aA 0) aC) aD)))) (aB (aE mB hr (by decide) (aB (aA 1) (aB (aA 2) (aB (aH (aA 0) aC) aD)))) aD)))))))))))))))),?_⟩
 ac_nf;obtain⟨x0,T',eT⟩:=List.exists_cons_of_ne_nil Tne;have i0:=hT x0 (by rw[eT];exact mem_cons_self);have ir:c.In x0.1:=i0.1;have m0:=ok.m0;have at0:atI (T.map c.pc) 0=some (c.pc x0):=by rw[eT];exact iJ (j:=0) rfl
 have hd:T.head?.map (·.1)=some x0.1:=by rw[eT];rfl
 refine⟨_,_,hl,at0,(Rd.ix i0).2.1 ⟨_,_,hl,at0,(Rd.ix i0).2.2 ⟨by decide,by decide,λpr hpr=>?_⟩⟩⟩;have s1:=bD.new hpr [c.ring x0.1];have hr1:aX M pr [c.ring x0.1] (.l pr)=some [c.ring x0.1]:=aJ;show ∃ds,aX M pr [c.ring x0.1] _=_/\aGp _ _ _ _ _ (aX M pr [c.ring x0.1]) _;generalize aX M pr [c.ring x0.1]=M1 at s1 hr1 ⊢;refine⟨_,s1 _ _ hl,by rw[length_map];omega,λi ys M'=>M'=M1/\ys=((T.take i).map λx=>decide (x.2=c.m)).map D.bl,⟨rfl,rfl⟩,?_,?_,?_⟩
 ·rintro i ys M' _ ⟨rfl,_⟩ a e;cases e;exact s1 _ _ hl
 ·rintro i d ys M' hd2 ⟨rfl,rfl⟩;rw[getElem?_map] at hd2;obtain⟨x,hx,rfl⟩:=Option.map_eq_some_iff.mp hd2;ac_nf;refine(Rd.ix (hT x (mem_of_getElem? hx))).1 ?_;rw[cT];refine⟨rfl,?_⟩;rw[fY hx,map_append,map_append];by_cases e:x.2=c.m
  ·rw[if_pos e];simp[e]
  ·rw[if_neg e,map_cons,decide_eq_false e];rfl
 rintro ys M2 - ⟨e0,rfl⟩ pa hpa;rw[e0] at hpa ⊢;clear e0 M2;rw[length_map,take_length];refine⟨_,aJ,?_⟩;have s2:=s1.trans (bD.new hpa (map D.bl (T.map λx=>decide (x.2=c.m))));have hr2:=(bD.new hpa (map D.bl (T.map λx=>decide (x.2=c.m)))) _ _ hr1;generalize aX M1 pa (map D.bl (T.map λx=>decide (x.2=c.m)))=M2 at s2 hr2 ⊢;by_cases y2:∃x∈T,x.2=c.m
 ·obtain⟨x,hx,hy⟩:=id y2;have ea:(T.map λx=>decide (x.2=c.m)).any id=true:=List.any_eq_true.mpr ⟨true,List.mem_map.mpr ⟨x,hx,decide_eq_true hy⟩,rfl⟩;refine ifT ea (lC (q pr M2 [(x0.1,c.m)] s2 hpr ?_ (aDR (λg g0 gm=>(dB ir ⟨g0,gm⟩).2) hd λg g0 gm=>⟨x,hx,?_⟩) (λy hy=>?_) ?_))
  ·rw[hr2,map_cons,map_nil,Rd.pc_ring m0]
  ·rw[hy];exact(dB (hT x hx).1 ⟨g0,gm⟩).2
  ·rw[List.mem_singleton.mp hy];exact⟨ir,m0,Int.le_refl _⟩
  ·rw[eT];exact Nat.succ_le_succ (Nat.zero_le _)
 have ea:(T.map λx=>decide (x.2=c.m)).any id=false:=List.any_eq_false.mpr λb hb=>by obtain⟨x,hx,e⟩:=List.mem_map.mp hb;intro z;have z:b=true:=z;rw[z] at e;exact y2 ⟨x,hx,of_decide_eq_true e⟩
 have hT2:∀x∈T,(0<=x.1/\x.1<c.m)/\0<x.2/\x.2<c.m:=λx hx=>by obtain⟨a,b,d⟩:=hT x hx;have:x.2≠c.m:=λz=>y2 ⟨x,hx,z⟩;exact⟨a,b,by omega⟩
 refine ifF ea ⟨_,s2 _ _ hl,by rw[length_map];omega,λi ys M'=>M'=M2/\ys=(T.take i).map λx=>c.sD x0.1 (spn c.m x0.1 x),⟨rfl,rfl⟩,?_,?_,?_⟩
 ·rintro i ys M' _ ⟨rfl,_⟩ a e;cases e;exact s2 _ _ hl
 ·rintro i d ys M' hd2 ⟨rfl,rfl⟩;rw[getElem?_map] at hd2;obtain⟨x,hx,rfl⟩:=Option.map_eq_some_iff.mp hd2;have mx:=mem_of_getElem? hx;obtain⟨a1,a2,a3⟩:=hT2 x mx;ac_nf;have e:c.pc x=c.arc x.1 (stp c.m x.1 x.2):=(Rd.pcs (hT x mx)).elim (λz=>by have:=z.1;omega) λz=>z.2;rw[e];exact⟨c,x0.1,x,rfl,ok,ir,a1,a2,a3,rfl,by rw[fY hx,map_append];rfl⟩
 rintro ys M3 - ⟨e0,rfl⟩ pb hpb;rw[e0] at hpb ⊢;clear e0 M3;rw[length_map,take_length];have s3:=s2.trans (bD.new hpb (T.map λx=>c.sD x0.1 (spn c.m x0.1 x)));have hr3:=(bD.new hpb (T.map λx=>c.sD x0.1 (spn c.m x0.1 x))) _ _ hr2;have hS3:aX M2 pb (T.map λx=>c.sD x0.1 (spn c.m x0.1 x)) (.l pb)=some (((T.map (spn c.m x0.1)).map (c.ax x0.1).s3).map s3D):=by rw[aJ,map_map,map_map];rfl
 generalize aX M2 pb (T.map λx=>c.sD x0.1 (spn c.m x0.1 x))=M3 at s3 hr3 hS3 ⊢;have inS:∀y∈T.map (spn c.m x0.1),(c.ax x0.1).In y/\y.1<=y.2:=λy hy=>by obtain⟨x,hx,rfl⟩:=List.mem_map.mp hy;obtain⟨a1,a2,a3⟩:=hT2 x hx;have:=dB ir a1;exact⟨⟨⟨this.1,by show rel _ _ _<_;omega⟩,by show 0<=rel _ _ _+_;omega,by show rel _ _ _+_<_;omega⟩,by show rel _ _ _<=rel _ _ _+_;omega⟩
 refine⟨pb,gs,(T.map (spn c.m x0.1)).map (c.ax x0.1).s3,(c.ax x0.1).dom,(c.ax x0.1).lt,rfl,hS3,λy hy=>?_,by rw[length_map,length_map];omega,s3 _ _ hP,ok.ear ir eV hgs,Ax.ltOk (ok.axOk ir),λp2 M4 zs s4 n4 e4 pm so=>?_⟩
 ·obtain⟨z,hz,rfl⟩:=List.mem_map.mp hy;have:=(inS z hz).1;exact⟨⟨_,this.1,rfl⟩,_,this.2,rfl⟩
 obtain⟨J,cj,ej,lj,jin⟩:=Ax.joined (ok.axOk ir) (λy hy=>(inS y hy).1) (λy hy=>(inS y hy).2) pm so;rw[ej,map_map] at e4;rw[length_map] at lj;have Jne:J≠[]:=λz=>by obtain⟨y,hy,_⟩:=cj.c.cov (spn c.m x0.1 x0) (List.mem_map.mpr ⟨x0,by rw[eT];exact mem_cons_self,rfl⟩);rw[z] at hy;cases hy
 obtain⟨V,lst,eJ⟩:∃V lst,J=V++[lst]:=by
  rcases List.eq_nil_or_concat J with z|⟨V,lst,z⟩
  ·exact absurd z Jne
  ·exact⟨V,lst,by rw[z,List.concat_eq_append]⟩
 subst eJ;have hr4:=s4 _ _ hr3;have n4:=cR s3 n4;have s4:=s3.trans s4;have e4:M4 (.l p2)=some ((V++[lst]).map (c.sD x0.1)):=e4;have hat:atI ((V++[lst]).map (c.sD x0.1)) (-1)=some (c.sD x0.1 lst):=by rw[map_append];exact aCI _ _
 have cy:=aEc ir hT2 cj;have du:=aFP m0 ir hT2 hd cj;have ll:=cy.lo lst (mem_append_right _ mem_cons_self);have l2:lst.2<2*c.m:=(jin lst (mem_append_right _ mem_cons_self)).2.2;have lV:∀x∈V,0<=x.1/\x.1<x.2/\x.2<lst.1:=λx hx=>by have h1:=cy.lo x (mem_append_left _ hx);exact⟨h1.1,h1.2.1,(List.pairwise_append.mp cy.asc).2.2 x hx lst mem_cons_self⟩
 have ir':=ir;generalize x0.1=r at ir ir' hd hr4 e4 hat du;clear ej so pm inS s3 hr3 hS3 s2 hr2 s1 hr1 at0 hpb hpa ea y2 cj jin Jne cy;ac_nf;refine⟨_,_,e4,hat,?_⟩;dsimp only[Rd.sD,s3D,Ax.s3];ac_nf;refine⟨rfl,λρ N=>bD M N/\∃(F:List Sp)(q:Addr) (o5 o6 o7:Option D),N (.l q)=some (F.map (c.sD r))/\iR c.m V lst=some F/\F.length<=T.length/\ρ=[some (.ref l),some c.c0,some (c.pt r),some (.ref pr),some (.ref q),o5,o6,o7],?_,?_⟩
 ·by_cases z:lst.2<c.m
  ·obtain⟨k,zz,g1,_⟩:=c.lapC (r:=r) (i:=lst.2) (by omega) z;rw[g1];ac_nf;rw[eR];exact ifF (decide_eq_false (by decide)) ⟨s4,V++[lst],p2,_,_,_,e4,by unfold iR;rw[if_pos z],lj,rfl⟩
  obtain⟨k,zz,g1,g2⟩:=c.lapC (r:=r) (i:=lst.2-c.m) (by omega) (by omega);rw[show lst.2-c.m+c.m=lst.2 by omega] at g2;rw[g2];ac_nf;rw[eR];refine ifT (decide_eq_true rfl) ⟨_,_,_,_,rfl,?_⟩;ac_nf;rw[show(1:Int) + -1=0 from rfl,<- g1];clear g1 g2;refine⟨λρ N=>∃(W:List Sp)(e:Int) (qv:Addr),(0<=e/\e<c.m)/\wrp (lst.2-c.m) V=(e,W)/\W.length<=V.length/\bD M N/\M (.l qv)=none/\N (.l pr)=some [c.ring r]/\N (.l qv)=some ((W++[lst]).map (c.sD r))/\ρ=[some (.ref l),some c.c0,some (c.pt r),some (.ref pr),some (.ref qv),some ((c.ax r).X lst.1),some ((c.ax r).X e),some .non],?_,?_⟩
  ·refine pH (λn ρ N=>∃(W:List Sp)(e:Int) (qv:Addr),n=W.length/\(0<=e/\e<c.m)/\wrp (lst.2-c.m) V=wrp e W/\(∀x∈W,x∈V)/\W.length<=V.length/\bD M N/\M (.l qv)=none/\N (.l pr)=some [c.ring r]/\N (.l qv)=some ((W++[lst]).map (c.sD r))/\ρ=[some (.ref l),some c.c0,some (c.pt r),some (.ref pr),some (.ref qv),some ((c.ax r).X lst.1),some ((c.ax r).X e),some .non]) _ ⟨V,lst.2-c.m,p2,rfl,⟨by omega,by omega⟩,rfl,λ_ h=>h,Nat.le_refl _,s4,n4,hr4,e4,rfl⟩ ?_;rintro n ρ N ⟨W,e,qv,rfl,he,ew,sub,lW,sN,nq,hrN,hq,rfl⟩;ac_nf;refine⟨_,hq,?_⟩;cases W with
   |nil =>
    refine ifF (decide_eq_false (show ¬((1:Int)<((1:Nat):Int)) by decide)) ?_;exact⟨[],e,qv,he,ew,Nat.zero_le _,sN,nq,hrN,hq,rfl⟩
   |cons x W =>
    have hx:=lV x (sub x mem_cons_self);have a0:atI (((x::W)++[lst]).map (c.sD r)) 0=some (c.sD r x):=iJ (j:=0) rfl;refine ifT (decide_eq_true (by simp;omega)) ⟨_,_,hq,a0,?_⟩;dsimp only[Rd.sD,s3D,Ax.s3];ac_nf;refine ok.sooC ir ⟨he.1,by omega⟩ ⟨hx.1,by omega⟩ ?_;ac_nf;by_cases c1:e<x.1
    ·refine ifF (by rw[decide_eq_true c1];rfl) ⟨x::W,e,qv,he,?_,lW,sN,nq,hrN,hq,rfl⟩;rw[ew];exact aDW (by omega)
    ·refine ifT (by rw[decide_eq_false c1];rfl) ⟨_,_,hq,a0,?_⟩;dsimp only[Rd.sD,s3D,Ax.s3];ac_nf;refine ok.sooC ir ⟨he.1,by omega⟩ ⟨by omega,by omega⟩ ?_;ac_nf;have nx:∀e',e'=(if e<x.2 then x.2 else e)->∀p,N (.l p)=none->∃m',m'<(x::W).length/\∃W' e2 qv,m'=W'.length/\(0<=e2/\e2<c.m)/\wrp (lst.2-c.m) V=wrp e2 W'/\(∀x∈W',x∈V)/\W'.length<=V.length/\bD M (aX N p (Dd.cutD (((x::W)++[lst]).map (c.sD r)) (some 1) none))/\M (.l qv)=none/\aX N p (Dd.cutD (((x::W)++[lst]).map (c.sD r)) (some 1) none) (.l pr)=some [c.ring r]/\aX N p (Dd.cutD (((x::W)++[lst]).map (c.sD r)) (some 1) none) (.l qv)=some ((W'++[lst]).map (c.sD r))/\[some (.ref l),some c.c0,some (c.pt r),some (.ref pr),some (.ref p),some ((c.ax r).X lst.1),some ((c.ax r).X e'),some .non]=[some (.ref l),some c.c0,some (c.pt r),some (.ref pr),some (.ref qv),some ((c.ax r).X lst.1),some ((c.ax r).X e2),some .non]:=λe' ee p hp=>by
      refine⟨W.length,Nat.lt_succ_self _,W,e',p,rfl,?_,?_,λy hy=>sub y (mem_cons_of_mem _ hy),Nat.le_of_succ_le lW,sN.trans (bD.new hp _),cR sN hp,(bD.new hp _) _ _ hrN,?_,rfl⟩
      ·rw[ee];split<;>omega
      ·rw[ew,ee];exact aIV (by omega)
      ·rw[aJ,show(1:Int)=((1:Nat):Int) from rfl,rN];rfl
     by_cases c2:e<x.2
     ·refine ifT (decide_eq_true c2) ⟨_,_,hq,a0,?_⟩;dsimp only[Rd.sD,s3D,Ax.s3];ac_nf;exact⟨_,hq,nx x.2 (by rw[if_pos c2])⟩
     ·exact ifF (decide_eq_false c2) ⟨_,hq,nx e (by rw[if_neg c2])⟩
  ·rintro _ N ⟨W,e,qv,he,ew,lW,sN,nq,hrN,hq,rfl⟩;ac_nf;refine⟨_,hq,?_⟩;have lj':V.length+1<=T.length:=by rw[length_append] at lj;exact lj
   have ixl:ixN ((W++[lst]).map (c.sD r)).length (-1)=some W.length:=by rw[length_map,length_append];exact aCw
   have nx:¬(W=[]/\lst.1<=e)->bD M (aX N qv (((W++[lst]).map (c.sD r)).set W.length (.tup [(c.ax r).X lst.1,(c.ax r).X e,.non])))/\∃(F:List Sp)(q:Addr) (o5 o6 o7:Option D),aX N qv (((W++[lst]).map (c.sD r)).set W.length (.tup [(c.ax r).X lst.1,(c.ax r).X e,.non])) (.l q)=some (F.map (c.sD r))/\iR c.m V lst=some F/\F.length<=T.length/\[some (.ref l),some c.c0,some (c.pt r),some (.ref pr),some (.ref qv),some ((c.ax r).X lst.1),some ((c.ax r).X e),some .non]=[some (.ref l),some c.c0,some (c.pt r),some (.ref pr),some (.ref q),o5,o6,o7]:=λhn=>by
    refine⟨λb o g=>by rw[eU (bB g nq)];exact sN _ _ g,W++[(lst.1,e)],qv,_,_,_,?_,?_,by rw[length_append];show _+1<=_;omega,rfl⟩
    ·rw[aJ,map_append,map_append,List.set_append_right _ _ (by rw[length_map];exact Nat.le_refl _),length_map,Nat.sub_self];rfl
    ·unfold iR;rw[if_neg z,ew,if_neg hn]
   have eL:((((W++[lst]).map (c.sD r)).length:Nat):Int)=(W.length:Int)+1:=by rw[length_map,length_append];rfl
   rw[eL,eR];by_cases w0:W=[]
   ·refine ifT (decide_eq_true (by rw[w0];rfl)) ?_;refine ok.sooC ir ⟨he.1,by omega⟩ ⟨ll.1,by omega⟩ ?_;by_cases c1:e<lst.1
    ·exact ifF (by rw[decide_eq_true c1];rfl) ⟨by decide,_,W.length,hq,ixl,nx λz=>by omega⟩
    ·refine ifT (by rw[decide_eq_false c1];rfl) (lC (q pr N [(r,c.m)] sN hpr ?_ ?_ (λy hy=>?_) ?_))
     ·rw[hrN,map_cons,map_nil,Rd.pc_ring m0]
     ·have e:iR c.m V lst=none:=by unfold iR;rw[if_neg z,ew,if_pos ⟨w0,by omega⟩]
      rw[e] at du;exact du
     ·rw[List.mem_singleton.mp hy];exact⟨ir,m0,Int.le_refl _⟩
     ·rw[eT];exact Nat.succ_le_succ (Nat.zero_le _)
   ·refine ifF (decide_eq_false (λz=>w0 (by cases W with|nil=>rfl|cons a b=>rw[length_cons] at z;omega))) (ifF rfl ⟨by decide,_,W.length,hq,ixl,nx λz=>w0 z.1⟩)
 ·rintro _ N ⟨sN,F,q2,o5,o6,o7,hq,hF,lF,rfl⟩;rw[hF] at du;obtain⟨du,dF⟩:=du;ac_nf;refine⟨_,hq,by rw[length_map];omega,λi ys M'=>M'=N/\ys=(F.take i).map λy=>c.pc (stp c.m r y.1,rel c.m y.1 y.2),⟨rfl,rfl⟩,?_,?_,?_⟩
  ·rintro i ys M' _ ⟨rfl,_⟩ a e;cases e;exact hq
  ·rintro i d ys M' hd2 ⟨rfl,rfl⟩;rw[getElem?_map] at hd2;obtain⟨y,hy,rfl⟩:=Option.map_eq_some_iff.mp hd2;obtain⟨y1,y2,y3,y4⟩:=dF y (mem_of_getElem? hy);dsimp only[Rd.sD,s3D,Ax.s3];ac_nf;refine ok.poiC ir y1 ?_;ac_nf;refine ok.poiC ir ⟨y2,y3⟩ ?_;ac_nf;have e:c.pc (stp c.m r y.1,rel c.m y.1 y.2) = .tup [.str "arc",c.c0,c.pt (stp c.m r y.1),c.pt (stp c.m r y.2)]:=by
    have h1:=dB (m:=c.m) (r:=y.1) (k:=y.2) y1 ⟨y2,y3⟩;have h2:rel c.m y.1 y.2≠0:=by unfold rel;split<;>omega
    unfold Rd.pc;rw[if_neg h2,if_neg (show ¬rel c.m y.1 y.2=c.m by omega)];show c.arc (stp c.m r y.1) (stp c.m (stp c.m r y.1) (rel c.m y.1 y.2))=_;have e:stp c.m (stp c.m r y.1) (rel c.m y.1 y.2)=stp c.m r y.2:=by unfold Rd.In at ir;unfold stp rel;split<;>split<;>split<;>split<;>omega
    rw[e];rfl
   exact⟨by decide,rfl,by rw[fY hy,map_append,map_cons,e];rfl⟩
  rintro ys M5 - ⟨e0,rfl⟩ p3 hp3;rw[e0] at hp3 ⊢;clear e0 M5;rw[length_map,take_length];refine lC (q p3 _ (F.map λy=>(stp c.m r y.1,rel c.m y.1 y.2)) (sN.trans (bD.new hp3 _)) (cR sN hp3) (by rw[aJ,map_map];rfl) du (λx hx=>?_) (by rw[length_map];omega));obtain⟨y,hy,rfl⟩:=List.mem_map.mp hx;obtain⟨y1,y2,y3,y4⟩:=dF y hy;have h1:=dB (m:=c.m) (r:=y.1) (k:=y.2) y1 ⟨y2,y3⟩;have h2:rel c.m y.1 y.2≠0:=by unfold rel;split<;>omega
  exact⟨cQ ir y1,by show 0<rel _ _ _;omega,by show rel _ _ _<=_;omega⟩
noncomputable def oD (x y:Rat):Int:=if (x.den:Int)=(y.den:Int) then (x.den:Int) else (x.den:Int)*(y.den:Int)
noncomputable def oX (x y:Rat):Int:=if (x.den:Int)=(y.den:Int) then x.num else x.num*(y.den:Int)
noncomputable def oY (x y:Rat):Int:=if (x.den:Int)=(y.den:Int) then y.num else y.num*(x.den:Int)
theorem tM (x y:Rat):0<oD x y:=by
 have h1:(0:Int)<x.den:=by have:=x.den_pos;omega
 have h2:(0:Int)<y.den:=by have:=y.den_pos;omega
 unfold oD;split
 ·exact h1
 ·exact Int.mul_pos h1 h2
theorem aBf (x y:Rat):((oX x y:Int):Rat)=x*(oD x y:Int):=by
 have e:=eI x;unfold oX oD;split
 ·rw[e]
 ·rw[Rat.intCast_mul,Rat.intCast_mul,e];grind
theorem aAP (x y:Rat):((oY x y:Int):Rat)=y*(oD x y:Int):=by
 have e:=eI y;unfold oY oD;split
 ·rename_i h;rw[e,h]
 ·rw[Rat.intCast_mul,Rat.intCast_mul,e];grind
theorem yV {x y:Rat}{n:Nat}(hx:BQ n x)(hy:BQ n y):Bd (n+n) (oX x y)/\Bd (n+n) (oY x y)/\Bd (n+n) (oD x y):=by
 unfold oX oY oD;refine⟨?_,?_,?_⟩
 ·split
  ·exact hx.1.mono (by omega)
  ·exact hx.1.mul hy.2
 ·split
  ·exact hy.1.mono (by omega)
  ·exact hy.1.mul hx.2
 ·split
  ·exact hx.2.mono (by omega)
  ·exact hx.2.mul hy.2
def fW:DSp:=λds M Q=>∃x y n,ds=[PQ x y]/\BQ n x/\BQ n y/\n<=8998/\Q (.tup [.int (oX x y),.int (oY x y),.int (oD x y)]) M
noncomputable abbrev iV:Stmt:=top 18
theorem hX:aS ["p","x","y"] ["p"] (aI iV):=by ac_rfl
theorem sH (hF:cM K mg "on_one_bottom" iV ["p"]):Has P w K mg base 101 "on_one_bottom" ["p"] fW:=by
 refine Has.mkZ hF hX (λds M Q ⟨x,y,n,e,_⟩=>by rw[e];rfl) λf cdv A outer s H ds M Q E hr h=>?_;obtain⟨x,y,n,rfl,hx,hy,hn,q⟩:=h;refine⟨_,(aF (cU (aA 0) (eH (n:=2) rfl (aV (aR (i:=1) hX.nd) (aV (aR (i:=2) hX.nd) cZ))))
  (aF (bV (aY (eP hr) (aH (aA 1) aC) (aH (aA 2) aC)) (aG (aO (bC (aB (aH (aA 1) aC) (aB (aH (aA 2) aC) (aB (aH (aA 1) aC) aD)))))) aZ)
  (aG (aO (bC (aB (aK bE (aH (aA 1) aC) (aH (aA 2) aC)) (aB (aK bE (aH (aA 2) aC) (aH (aA 1) aC)) (aB (aK bE (aH (aA 1) aC) (aH (aA 2) aC)) aD)))))))),?_⟩
 unfold oX oY oD at q;ac_nf;rw[eR];refine⟨rfl,dif (λc=>?_) (λc=>?_)⟩
 ·rw[if_pos c,if_pos c,if_pos c] at q;exact⟨by decide,M,.refl _,q⟩
 ·rw[if_neg c,if_neg c,if_neg c] at q;exact⟨cG hx.1 hy.2 (by omega),cG hy.1 hx.2 (by omega),cG hx.2 hy.2 (by omega),by decide,M,.refl _,q⟩
def uT:DSp:=λds M Q=>∃i,ds=[.int i]/\Q (.int (if 0<i then 1 else if i=0 then 0 else -1)) M
noncomputable abbrev aBN:Stmt:=top 20
theorem aGP:aS ["number"] ["number"] (aI aBN):=by ac_rfl
theorem aFB (hF:cM K mg "sign" aBN ["number"]):Has P w K mg base 101 "sign" ["number"] uT:=by
 refine Has.mkZ hF aGP (λds M Q ⟨x,e,_⟩=>by rw[e];rfl) λf cdv A outer s H ds M Q E hr h=>?_;obtain⟨i,rfl,q⟩:=h;refine⟨_,(aF (bV (aY xY (aA 0) aC) (aG (aO aC)) aZ)
  (aG (aO (lO (aY (eP hr) (aA 0) aC) aC (eG aC))))),?_⟩
 ac_nf;refine dif (λc=>?_) (λc=>?_)
 ·rw[if_pos c] at q;exact⟨M,.refl _,q⟩
 ·rw[if_neg c] at q;rw[eR];refine dif (λd=>?_) (λd=>?_)
  ·rw[if_pos d] at q;exact⟨M,.refl _,q⟩
  ·rw[if_neg d] at q;exact⟨M,.refl _,q⟩
noncomputable def fS (cx cy px py:Rat):Int:=(oX px py*oD cx cy-oX cx cy*oD px py)*(oX px py*oD cx cy-oX cx cy*oD px py)+(oY px py*oD cx cy-oY cx cy*oD px py)*(oY px py*oD cx cy-oY cx cy*oD px py)
theorem aHK (cx cy px py:Rat):((fS cx cy px py:Int):Rat)=((px-cx)*(px-cx)+(py-cy)*(py-cy))*(((oD cx cy:Int):Rat)*((oD px py:Int):Rat))*(((oD cx cy:Int):Rat)*((oD px py:Int):Rat)):=by unfold fS;simp only[Rat.intCast_add,Rat.intCast_mul,Rat.intCast_sub];rw[aBf,aBf,aAP,aAP];grind
def pX:DSp:=λds M Q=>∃cx cy px py n,ds=[PQ cx cy,PQ px py]/\BQ n cx/\BQ n cy/\BQ n px/\BQ n py/\n<=4000/\Q (.tup [.int (fS cx cy px py),.int (oD px py)]) M
noncomputable abbrev lY:Stmt:=top 22
theorem cO:aS ["c","p","cx","cy","cd","px","py","pd","x","y"] ["c","p"] (aI lY):=by ac_rfl
theorem vU (hF:cM K mg "scaled_far" lY ["c","p"])(cE:Has P w K mg base 101 "on_one_bottom" ["p"] fW):Has P w K mg base 102 "scaled_far" ["c","p"] pX:=by
 refine Has.mkZ hF cO (λds M Q ⟨cx,cy,px,py,n,e,_⟩=>by rw[e];rfl) λf cdv A outer s H ds M Q E hr h=>?_;obtain⟨cx,cy,px,py,n,rfl,h1,h2,h3,h4,hn,q⟩:=h;refine⟨_,(aF (cU (aE cE hr (by decide) (aB (aA 0) aD)) (eH (n:=3) rfl (aV (aR (i:=2) cO.nd) (aV (aR (i:=3) cO.nd) (aV (aR (i:=4) cO.nd) cZ)))))
  (aF (cU (aE cE hr (by decide) (aB (aA 1) aD)) (eH (n:=3) rfl (aV (aR (i:=5) cO.nd) (aV (aR (i:=6) cO.nd) (aV (aR (i:=7) cO.nd) cZ)))))
  (aF (aM (i:=8) cO.nd (aK gW (aK bE (aA 5) (aA 4)) (aK bE (aA 2) (aA 7))))
  (aF (aM (i:=9) cO.nd (aK gW (aK bE (aA 6) (aA 4)) (aK bE (aA 3) (aA 7))))
  (aG (aO (bC (aB (aK cY (aK bE (aA 8) (aA 8)) (aK bE (aA 9) (aA 9))) (aB (aA 7) aD))))))))),?_⟩
 ac_nf;obtain⟨a1,a2,a3⟩:=yV h1 h2;obtain⟨b1,b2,b3⟩:=yV h3 h4;have dX:Bd (n+n+(n+n)+1) (oX px py*oD cx cy-oX cx cy*oD px py):=(b1.mul a3).sub (a1.mul b3);have dY:Bd (n+n+(n+n)+1) (oY px py*oD cx cy-oY cx cy*oD px py):=(b2.mul a3).sub (a2.mul b3);refine⟨cx,cy,n,rfl,h1,h2,by omega,?_⟩;ac_nf;refine⟨rfl,px,py,n,rfl,h3,h4,by omega,?_⟩;ac_nf;exact⟨rfl,cG b1 a3 (by omega),cG a1 b3 (by omega),cG b2 a3 (by omega),cG a2 b3 (by omega),cG dX dX (by omega),cG dY dY (by omega),by decide,M,.refl _,q⟩
noncomputable def gC (cx cy px py:Rat):Rat:=(px-cx)*(px-cx)+(py-cy)*(py-cy)
theorem aHV {cx cy px py:Rat}{n:Nat}(h1:BQ n cx)(h2:BQ n cy)(h3:BQ n px)(h4:BQ n py):Bd (8*n+3) (fS cx cy px py):=by obtain⟨a1,a2,a3⟩:=yV h1 h2;obtain⟨b1,b2,b3⟩:=yV h3 h4;have dX:Bd (n+n+(n+n)+1) (oX px py*oD cx cy-oX cx cy*oD px py):=(b1.mul a3).sub (a1.mul b3);have dY:Bd (n+n+(n+n)+1) (oY px py*oD cx cy-oY cx cy*oD px py):=(b2.mul a3).sub (a2.mul b3);exact((dX.mul dX).add (dY.mul dY)).mono (by omega)
theorem aGk (cx cy px py qx qy:Rat):(0<fS cx cy px py*oD qx qy*oD qx qy-fS cx cy qx qy*oD px py*oD px py↔gC cx cy qx qy<gC cx cy px py) /\
  (fS cx cy px py*oD qx qy*oD qx qy-fS cx cy qx qy*oD px py*oD px py=0↔gC cx cy px py=gC cx cy qx qy):=by
 have e:((fS cx cy px py*oD qx qy*oD qx qy-fS cx cy qx qy*oD px py*oD px py:Int):Rat)=(gC cx cy px py-gC cx cy qx qy)*((((oD cx cy:Int):Rat)*((oD px py:Int):Rat)*((oD qx qy:Int):Rat))*(((oD cx cy:Int):Rat)*((oD px py:Int):Rat)*((oD qx qy:Int):Rat))):=by simp only[Rat.intCast_mul,Rat.intCast_sub];rw[aHK,aHK];unfold gC;grind
 have c1:(0:Rat)<((oD cx cy:Int):Rat):=Rat.intCast_pos.mpr (tM _ _);have c2:(0:Rat)<((oD px py:Int):Rat):=Rat.intCast_pos.mpr (tM _ _);have c3:(0:Rat)<((oD qx qy:Int):Rat):=Rat.intCast_pos.mpr (tM _ _);have k0:(0:Rat)<(((oD cx cy:Int):Rat)*((oD px py:Int):Rat)*((oD qx qy:Int):Rat))*(((oD cx cy:Int):Rat)*((oD px py:Int):Rat)*((oD qx qy:Int):Rat)):=Rat.mul_pos (Rat.mul_pos (Rat.mul_pos c1 c2) c3) (Rat.mul_pos (Rat.mul_pos c1 c2) c3);generalize (((oD cx cy:Int):Rat)*((oD px py:Int):Rat)*((oD qx qy:Int):Rat))*(((oD cx cy:Int):Rat)*((oD px py:Int):Rat)*((oD qx qy:Int):Rat))=κ at e k0;generalize fS cx cy px py*oD qx qy*oD qx qy-fS cx cy qx qy*oD px py*oD px py=z at e ⊢;generalize gC cx cy px py=u at e ⊢;generalize gC cx cy qx qy=v at e ⊢;constructor
 ·rw[<- Rat.intCast_pos,e];constructor
  ·intro h;by_cases c:v<u
   ·exact c
   ·have:u-v<=0:=by grind
    have:=Rat.mul_nonneg (a:=v-u) (b:=κ) (by grind) (by grind);grind
  ·intro h;exact Rat.mul_pos (by grind) k0
 ·constructor
  ·intro h;rw[h] at e;have:=(Rat.mul_eq_zero.mp e.symm).resolve_right (by grind);grind
  ·intro h;have:(z:Rat)=0:=by rw[e,h];grind
   exact Rat.intCast_eq_zero_iff.mp this
noncomputable def aD0 (cx cy px py qx qy:Rat):Int:=if gC cx cy qx qy<gC cx cy px py then 1 else if gC cx cy px py=gC cx cy qx qy then 0 else -1
def uY:DSp:=λds M Q=>∃cx cy px py qx qy n,ds=[PQ cx cy,PQ px py,PQ qx qy]/\BQ n cx/\BQ n cy/\BQ n px/\BQ n py/\BQ n qx/\BQ n qy/\n<=4000/\Q (.int (aD0 cx cy px py qx qy)) M
noncomputable abbrev sY:Stmt:=top 21
theorem jS:aS ["c","p","q","p_square","pd","q_square","qd"] ["c","p","q"] (aI sY):=by ac_rfl
theorem aBe (hF:cM K mg "farther" sY ["c","p","q"])(iY:Has P w K mg base 102 "scaled_far" ["c","p"] pX)(sZ:Has P w K mg base 101 "sign" ["number"] uT):Has P w K mg base 103 "farther" ["c","p","q"] uY:=by
 refine Has.mkZ hF jS (λds M Q ⟨cx,cy,px,py,qx,qy,n,e,_⟩=>by rw[e];rfl) λf cdv A outer s H ds M Q E hr h=>?_;obtain⟨cx,cy,px,py,qx,qy,n,rfl,h1,h2,h3,h4,h5,h6,hn,q⟩:=h;refine⟨_,(aF (cU (aE iY hr (by decide) (aB (aA 0) (aB (aA 1) aD))) (eH (n:=2) rfl (aV (aR (i:=3) jS.nd) (aV (aR (i:=4) jS.nd) cZ))))
  (aF (cU (aE iY hr (by decide) (aB (aA 0) (aB (aA 2) aD))) (eH (n:=2) rfl (aV (aR (i:=5) jS.nd) (aV (aR (i:=6) jS.nd) cZ))))
  (aG (aO (aE sZ hr (by decide) (aB (aK gW (aK bE (aK bE (aA 3) (aA 6)) (aA 6)) (aK bE (aK bE (aA 5) (aA 4)) (aA 4))) aD)))))),?_⟩
 ac_nf;have bP:=aHV h1 h2 h3 h4;have bQ:=aHV h1 h2 h5 h6;have dP:=(yV h3 h4).2.2;have dQ:=(yV h5 h6).2.2;refine⟨cx,cy,px,py,n,rfl,h1,h2,h3,h4,hn,?_⟩;ac_nf;refine⟨rfl,cx,cy,qx,qy,n,rfl,h1,h2,h5,h6,hn,?_⟩;ac_nf;refine⟨rfl,cG bP dQ (by omega),cG (bP.mul dQ) dQ (by omega),cG bQ dP (by omega),cG (bQ.mul dP) dP (by omega),_,rfl,M,.refl _,?_⟩;obtain⟨e1,e2⟩:=aGk cx cy px py qx qy;have e:(if 0<fS cx cy px py*oD qx qy*oD qx qy-fS cx cy qx qy*oD px py*oD px py then 1 else if fS cx cy px py*oD qx qy*oD qx qy-fS cx cy qx qy*oD px py*oD px py=0 then 0 else -1:Int)=aD0 cx cy px py qx qy:=by
  unfold aD0;by_cases c:gC cx cy qx qy<gC cx cy px py
  ·rw[if_pos c,if_pos (e1.mpr c)]
  ·rw[if_neg c,if_neg (λz=>c (e1.mp z))];by_cases d:gC cx cy px py=gC cx cy qx qy
   ·rw[if_pos d,if_pos (e2.mpr d)]
   ·rw[if_neg d,if_neg (λz=>d (e2.mp z))]
 rw[e];exact q
def aBL:DSp:=λds M Q=>∃x y u v,ds=[PQ x y,PQ u v]/\BQ 500 x/\BQ 500 y/\BQ 500 u/\BQ 500 v/\Q (FQ ((x-u)*(x-u)+(y-v)*(y-v))) M
noncomputable abbrev aFY:Stmt:=top 17
theorem aDK:aS ["p","q","way"] ["p","q"] (aI aFY):=by ac_rfl
theorem aGe (hF:cM K mg "far" aFY ["p","q"])(lH:Has P w K mg base 104 "off" ["p","q"] sK)(eF:Has P w K mg base 104 "dot_product" ["p","q"] jI):Has P w K mg base 105 "far" ["p","q"] aBL:=by
 refine Has.mkZ hF aDK (λds M Q ⟨x,y,u,v,e,_⟩=>by rw[e];rfl) λf cdv A outer s H ds M Q E hr h=>?_;obtain⟨x,y,u,v,rfl,h1,h2,h3,h4,q⟩:=h;refine⟨_,(aF (aM (i:=2) aDK.nd (aE lH hr (by decide) (aB (aA 0) (aB (aA 1) aD))))
  (aG (aO (aE eF hr (by decide) (aB (aA 2) (aB (aA 2) aD)))))),?_⟩
 ac_nf;exact⟨x,y,u,v,rfl,h1.mono (by decide),h2.mono (by decide),h3.mono (by decide),h4.mono (by decide),_,_,_,_,rfl,_,_,h1.sub h3,h2.sub h4,h1.sub h3,h2.sub h4,by decide,M,.refl _,q⟩
theorem aG2 (z:Int):(if 0<z then 1 else if z=0 then 0 else -1:Int)=sgn (z:Rat):=by
 unfold sgn;by_cases c:0<z
 ·rw[if_pos c,if_pos (show(0:Rat)<(z:Rat) by exact_mod_cast c)]
 ·rw[if_neg c,if_neg (show ¬(0:Rat)<(z:Rat) from λh=>c (by exact_mod_cast h))];by_cases d:z=0
  ·rw[if_pos d,if_neg (show ¬(z:Rat)<0 by rw[d];decide)]
  ·have h1:z<0:=by omega
   rw[if_neg d,if_pos (show(z:Rat)<0 by exact_mod_cast h1)]
noncomputable abbrev aBu:Stmt:=top 19
theorem iK:aS ["a","b","p","ax","ay","ad","bx","by","bd","px","py","pd"] ["a","b","p"] (aI aBu):=by ac_rfl
theorem aFw (hF:cM K mg "side" aBu ["a","b","p"])(cE:Has P w K mg base 101 "on_one_bottom" ["p"] fW)(sZ:Has P w K mg base 101 "sign" ["number"] uT):Has P w K mg base 102 "side" ["a","b","p"] zS:=by
 refine Has.mkZ hF iK (λds M Q ⟨x,y,u,v,x2,y2,e,_⟩=>by rw[e];rfl) λf cdv A outer s H ds M Q E hr h=>?_;obtain⟨ax,ay,bx,by',px,py,rfl,h1,h2,h3,h4,h5,h6,q⟩:=h;refine⟨_,(aF (cU (aE cE hr (by decide) (aB (aA 0) aD)) (eH (n:=3) rfl (aV (aR (i:=3) iK.nd) (aV (aR (i:=4) iK.nd) (aV (aR (i:=5) iK.nd) cZ)))))
  (aF (cU (aE cE hr (by decide) (aB (aA 1) aD)) (eH (n:=3) rfl (aV (aR (i:=6) iK.nd) (aV (aR (i:=7) iK.nd) (aV (aR (i:=8) iK.nd) cZ)))))
  (aF (cU (aE cE hr (by decide) (aB (aA 2) aD)) (eH (n:=3) rfl (aV (aR (i:=9) iK.nd) (aV (aR (i:=10) iK.nd) (aV (aR (i:=11) iK.nd) cZ)))))
  (aG (aO (aE sZ hr (by decide) (aB (aK cY (aK gW (aK bE (aA 9) (aK gW (aK bE (aA 4) (aA 8)) (aK bE (aA 7) (aA 5)))) (aK bE (aA 10) (aK gW (aK bE (aA 3) (aA 8)) (aK bE (aA 6) (aA 5))))) (aK bE (aA 11) (aK gW (aK bE (aA 3) (aA 7)) (aK bE (aA 6) (aA 4))))) aD))))))),?_⟩
 ac_nf;obtain⟨bX1,bY1,bd1⟩:=yV h1 h2;obtain⟨bX2,bY2,bd2⟩:=yV h3 h4;obtain⟨bX3,bY3,bd3⟩:=yV h5 h6;have ex1:=aBf ax ay;have ey1:=aAP ax ay;have ex2:=aBf bx by';have ey2:=aAP bx by';have ex3:=aBf px py;have ey3:=aAP px py;have p1:=tM ax ay;have p2:=tM bx by';have p3:=tM px py;refine⟨ax,ay,900,rfl,h1,h2,by decide,?_⟩;ac_nf;refine⟨rfl,bx,by',900,rfl,h3,h4,by decide,?_⟩;ac_nf;refine⟨rfl,px,py,900,rfl,h5,h6,by decide,?_⟩;ac_nf;generalize oX ax ay=X1 at *;generalize oY ax ay=Y1 at *;generalize oD ax ay=d1 at *;generalize oX bx by'=X2 at *;generalize oY bx by'=Y2 at *;generalize oD bx by'=d2 at *;generalize oX px py=X3 at *;generalize oY px py=Y3 at *;generalize oD px py=d3 at *;have k1:IntMulOk Y1 d2:=cG bY1 bd2;have k2:IntMulOk Y2 d1:=cG bY2 bd1;have k3:IntMulOk X3 (Y1*d2-Y2*d1):=cG bX3 ((bY1.mul bd2).sub (bY2.mul bd1));have k4:IntMulOk X1 d2:=cG bX1 bd2;have k5:IntMulOk X2 d1:=cG bX2 bd1;have k6:IntMulOk Y3 (X1*d2-X2*d1):=cG bY3 ((bX1.mul bd2).sub (bX2.mul bd1));have k7:IntMulOk X1 Y2:=cG bX1 bY2;have k8:IntMulOk X2 Y1:=cG bX2 bY1;have k9:IntMulOk d3 (X1*Y2-X2*Y1):=cG bd3 ((bX1.mul bY2).sub (bX2.mul bY1));refine⟨rfl,k1,k2,k3,k4,k5,k6,k7,k8,k9,_,rfl,M,.refl _,?_⟩;have e:((X3*(Y1*d2-Y2*d1)-Y3*(X1*d2-X2*d1)+d3*(X1*Y2-X2*Y1):Int):Rat)=bL ax ay bx by' px py*((d1:Rat)*d2*d3):=by simp only[Rat.intCast_add,Rat.intCast_sub,Rat.intCast_mul];rw[ex1,ey1,ex2,ey2,ex3,ey3];unfold bL;grind
 rw[aG2,e,sI (Rat.mul_pos (Rat.mul_pos (aKn p1) (aKn p2)) (aKn p3))];exact q
noncomputable abbrev wH:Stmt:=top 23
theorem aC8:aS ["p","q"] ["p","q"] (aI wH):=by ac_rfl
theorem aBA (hF:cM K mg "before" wH ["p","q"])(mN:Has P w K mg base 101 "below" ["one","other"] wD):Has P w K mg base 102 "before" ["p","q"] xG:=by
 refine Has.mkZ hF aC8 (λds M Q ⟨x,y,u,v,e,_⟩=>by rw[e];rfl) λf cdv A outer s H ds M Q E hr h=>?_;obtain⟨x,y,u,v,rfl,h1,h2,h3,h4,q⟩:=h;refine⟨_,(aF (bV (aY (eP hr) (aH (aA 0) aC) (aH (aA 1) aC)) (aG (aO (aE mN hr (by decide) (aB (aH (aA 0) aC) (aB (aH (aA 1) aC) aD))))) aZ)
  (aG (aO (aE mN hr (by decide) (aB (aH (aA 0) aC) (aB (aH (aA 1) aC) aD)))))),?_⟩
 unfold bef at q;refine⟨rfl,rfl,?_⟩;rw[show(id (eqD (FQ x) (FQ u)))=decide (x=u) from wN x u];refine dif (λc=>?_) (λc=>?_)
 ·rw[if_pos c] at q;exact⟨y,v,_,_,rfl,trivial,h2,h4,by decide,M,.refl _,q⟩
 ·rw[if_neg c] at q;exact⟨x,u,_,_,rfl,trivial,h1,h3,by decide,M,.refl _,q⟩
noncomputable def onS (x y u v a b:Rat):Bool:=decide (bL x y u v a b=0)&&(!bef a b x y && !bef u v a b)
theorem aAq {z:Rat}:sgn z=0↔z=0:=by
 unfold sgn;by_cases h:0<z
 ·rw[if_pos h];constructor
  ·intro e;exact absurd e (by decide)
  ·rintro rfl;exact absurd h (by decide)
 rw[if_neg h];by_cases h2:z<0
 ·rw[if_pos h2];constructor
  ·intro e;exact absurd e (by decide)
  ·rintro rfl;exact absurd h2 (by decide)
 rw[if_neg h2];exact⟨λ_=>by grind,λ_=>rfl⟩
def oG:DSp:=λds M Q=>(∃x y u v a b,ds=[pcD (.str x y u v),PQ a b]/\BQ 900 x/\BQ 900 y/\BQ 900 u/\BQ 900 v/\BQ 900 a/\BQ 900 b/\Q (.bl (onS x y u v a b)) M) ∨
 (∃x y a b,ds=[pcD (.dot x y),PQ a b]/\Q (.bl (decide (a=x/\b=y))) M)
noncomputable abbrev kK:Stmt:=top 27
theorem vJ:aS ["piece","p"] ["piece","p"] (aI kK):=by ac_rfl
theorem uE (hF:cM K mg "on_straight" kK ["piece","p"])(sV:Has P w K mg base 102 "side" ["a","b","p"] zS)(rK:Has P w K mg base 102 "before" ["p","q"] xG):Has P w K mg base 103 "on_straight" ["piece","p"] oG:=by
 refine Has.mkZ hF vJ (λds M Q h=>by rcases h with⟨x,y,u,v,a,b,e,_⟩|⟨x,y,a,b,e,_⟩<;>(rw[e];rfl)) λf cdv A outer s H ds M Q E hr h=>?_;refine⟨_,(aF (bV (aY (eP hr) (aH (aA 0) aC) dW) (aG (aO (gI (eP hr) (aA 1) (aH (aA 0) aC)))) aZ)
  (aG (aO (zQ (gI (eP hr) (aE sV hr (by decide) (aB (aH (aA 0) aC) (aB (aH (aA 0) aC) (aB (aA 1) aD)))) aC) (zQ (zE (aE rK hr (by decide) (aB (aA 1) (aB (aH (aA 0) aC) aD)))) (zJ (zE (aE rK hr (by decide) (aB (aH (aA 0) aC) (aB (aA 1) aD)))))))))),?_⟩
 rcases h with⟨x,y,u,v,a,b,rfl,h1,h2,h3,h4,h5,h6,q⟩|⟨x,y,a,b,rfl,q⟩
 ·dsimp only[pcD];ac_nf;simp_arith;have m:∀{z:Rat},BQ 900 z->BQ 4400 z:=λh=>h.mono (by decide);rw[if_neg (by decide)];refine⟨_,_,_,_,_,_,rfl,h1,h2,h3,h4,h5,h6,?_⟩;simp_arith;unfold onS at q;by_cases c:bL x y u v a b=0
  ·rw[if_pos (aAq.mpr c)];rw[decide_eq_true c,Bool.true_and] at q;refine⟨_,_,_,_,rfl,m h5,m h6,m h1,m h2,?_⟩;cases d:bef a b x y with
   |true =>
    rw[d] at q;exact⟨M,.refl _,q⟩
   |false =>
    rw[d] at q;exact⟨_,_,_,_,rfl,m h3,m h4,m h5,m h6,M,.refl _,q⟩
  ·rw[if_neg (λz=>c (aAq.mp z))];rw[decide_eq_false c,Bool.false_and] at q;exact⟨M,.refl _,q⟩
 ·dsimp only[pcD];ac_nf;simp_arith;rw[if_pos trivial];exact⟨M,.refl _,q⟩
def aAo:DSp:=λds M Q=>∃c ax ay px py qx qy,ds=[c,PQ ax ay,PQ px py,PQ qx qy]/\BQ 900 ax/\BQ 900 ay/\BQ 900 px/\BQ 900 py/\BQ 900 qx/\BQ 900 qy/\Q (.bl (kS ax ay px py qx qy)) M
noncomputable abbrev aAe:Stmt:=top 30
theorem aE0:aS ["c","a","p","q"] ["c","a","p","q"] (aI aAe):=by ac_rfl
theorem aC1 (hF:cM K mg "ahead" aAe ["c","a","p","q"])(sV:Has P w K mg base 102 "side" ["a","b","p"] zS):Has P w K mg base 103 "ahead" ["c","a","p","q"] aAo:=by
 refine Has.mkZ hF aE0 (λds M Q ⟨c,x,y,u,v,x2,y2,e,_⟩=>by rw[e];rfl) λf cdv A outer s H ds M Q E hr h=>?_;obtain⟨c,ax,ay,px,py,qx,qy,rfl,h1,h2,h3,h4,h5,h6,q⟩:=h;refine⟨_,(aF (bV (aY (eP hr) (aA 2) (aA 1)) (aG (aO (gI (aAF hr) (aA 3) (aA 1)))) aZ)
  (aG (aO (gI (eP hr) (aE sV hr (by decide) (aB (aA 1) (aB (aA 2) (aB (aA 3) aD)))) aC)))),?_⟩
 ac_nf;simp_arith;unfold kS at q;by_cases c1:px=ax/\py=ay
 ·rw[if_pos c1] at q ⊢;exact⟨M,.refl _,q⟩
 ·rw[if_neg c1] at q ⊢;refine⟨ax,ay,px,py,qx,qy,rfl,h1,h2,h3,h4,h5,h6,?_⟩;simp_arith;exact⟨M,.refl _,q⟩
theorem aAI (cx cy x y p q u v:Rat):kS (cx+x) (cy+y) (cx+p) (cy+q) (cx+u) (cy+v)=kS x y p q u v:=by
 unfold kS;have e1:(cx+p=cx+x/\cy+q=cy+y)↔(p=x/\q=y):=⟨λ⟨a,b⟩=>⟨by grind,by grind⟩,λ⟨a,b⟩=>⟨by grind,by grind⟩⟩;have e2:(cx+u=cx+x/\cy+v=cy+y)↔(u=x/\v=y):=⟨λ⟨a,b⟩=>⟨by grind,by grind⟩,λ⟨a,b⟩=>⟨by grind,by grind⟩⟩;have e3:bL (cx+x) (cy+y) (cx+p) (cy+q) (cx+u) (cy+v)=bL x y p q u v:=by unfold bL;grind
 rw[e3];by_cases h1:p=x/\q=y<;>by_cases h2:u=x/\v=y<;>simp[h1,h2,e1,e2]
noncomputable def onP:Pc->Rat->Rat->Bool
 |.dot x y,a,b=>decide (a=x/\b=y)
 |.str x y u v,a,b=>onS x y u v a b
 |.arc cx cy ax ay bx by',a,b=>decide (gC cx cy a b=gC cx cy ax ay) && !kS ax ay bx by' a b
 |.ring cx cy ax ay,a,b=>decide (gC cx cy a b=gC cx cy ax ay)
theorem pO {cx cy px py qx qy:Rat}:aD0 cx cy px py qx qy=0↔gC cx cy px py=gC cx cy qx qy:=by
 unfold aD0;by_cases c:gC cx cy qx qy<gC cx cy px py
 ·rw[if_pos c];exact⟨λz=>absurd z (by decide),λz=>by rw[z] at c;exact absurd c Rat.lt_irrefl⟩
 ·rw[if_neg c];by_cases d:gC cx cy px py=gC cx cy qx qy
  ·rw[if_pos d];exact⟨λ_=>d,λ_=>rfl⟩
  ·rw[if_neg d];exact⟨λz=>absurd z (by decide),λz=>absurd z d⟩
def aFa:DSp:=λds M Q=>∃pc a b,ds=[pcD pc,PQ a b]/\pcB 900 pc/\BQ 900 a/\BQ 900 b/\Q (.bl (onP pc a b)) M
noncomputable abbrev aIK:Stmt:=top 29
theorem aLf:aS ["piece","p"] ["piece","p"] (aI aIK):=by ac_rfl
theorem aIU (hF:cM K mg "on" aIK ["piece","p"])(kJ:Has P w K mg base 103 "on_straight" ["piece","p"] oG)(tK:Has P w K mg base 103 "farther" ["c","p","q"] uY)(aAf:Has P w K mg base 103 "ahead" ["c","a","p","q"] aAo):Has P w K mg base 104 "on" ["piece","p"] aFa:=by
 refine Has.mkZ hF aLf (λds M Q ⟨x,y,u,e,_⟩=>by rw[e];rfl) λf cdv A outer s H ds M Q E hr h=>?_;obtain⟨pc,a,b,rfl,hB,ha,hb,q⟩:=h;refine⟨_,(aF (bV (pT (yR (aY (eP hr) (aH (aA 0) aC) dW) (yO (aY (eP hr) (aH (aA 0) aC) dW)))) (aG (aO (aE kJ hr (by decide) (aB (aA 0) (aB (aA 1) aD))))) aZ)
  (aF (bV (aY (aAF hr) (aE tK hr (by decide) (aB (aH (aA 0) aC) (aB (aA 1) (aB (aH (aA 0) aC) aD)))) aC) (aG (aO qR)) aZ)
  (aG (aO (aI2 (gI (eP hr) (aH (aA 0) aC) dW) (zJ (zE (aE aAf hr (by decide) (aB (aH (aA 0) aC) (aB (aH (aA 0) aC) (aB (aH (aA 0) aC) (aB (aA 1) aD)))))))))))),?_⟩
 cases pc with
 |dot x y =>
  dsimp only[pcD];ac_nf;rw[cT];refine dif (λ_=>?_) (λc=>absurd rfl c);exact ifT rfl (.inr ⟨x,y,a,b,rfl,M,.refl _,q⟩)
 |str x y u v =>
  dsimp only[pcD];ac_nf;rw[cT];refine dif (λc=>absurd c (by decide)) (λ_=>?_);rw[cT];refine dif (λ_=>?_) (λc=>absurd rfl c);exact .inl ⟨x,y,u,v,a,b,rfl,hB.1,hB.2.1,hB.2.2.1,hB.2.2.2,ha,hb,M,.refl _,q⟩
 |ring cx cy ax ay =>
  obtain⟨b1,b2,b3,b4⟩:=hB;dsimp only[pcD];ac_nf;rw[cT];refine dif (λc=>absurd c (by decide)) (λ_=>?_);rw[cT];refine dif (λc=>absurd c (by decide)) (λ_=>?_);refine⟨_,_,_,_,_,_,900,rfl,b1,b2,ha,hb,b3,b4,by decide,?_⟩;ac_nf;rw[eR];dsimp only[onP] at q;by_cases c:gC cx cy a b=gC cx cy ax ay
  ·rw[decide_eq_true (pO.mpr c)];rw[decide_eq_true c] at q;refine ifF rfl ?_;rw[cT];exact⟨M,.refl _,q⟩
  ·rw[decide_eq_false (λz=>c (pO.mp z))];rw[decide_eq_false c] at q;exact ifT rfl ⟨M,.refl _,q⟩
 |arc cx cy ax ay bx by' =>
  obtain⟨b1,b2,b3,b4,b5,b6⟩:=hB;dsimp only[pcD];ac_nf;rw[cT];refine dif (λc=>absurd c (by decide)) (λ_=>?_);rw[cT];refine dif (λc=>absurd c (by decide)) (λ_=>?_);refine⟨_,_,_,_,_,_,900,rfl,b1,b2,ha,hb,b3,b4,by decide,?_⟩;ac_nf;rw[eR];dsimp only[onP] at q;by_cases c:gC cx cy a b=gC cx cy ax ay
  ·rw[decide_eq_true (pO.mpr c)];rw[decide_eq_true c,Bool.true_and] at q;refine ifF rfl ?_;rw[cT];exact⟨_,_,_,_,_,_,_,rfl,b3,b4,b5,b6,ha,hb,M,.refl _,q⟩
  ·rw[decide_eq_false (λz=>c (pO.mp z))];rw[decide_eq_false c,Bool.false_and] at q;exact ifT rfl ⟨M,.refl _,q⟩
noncomputable def Rd.ky (c:Rd):D:=.tup [.str "circle",c.c0,FQ (c.x*c.x+c.y*c.y)]
def aCU:DSp:=λds M Q=>∃(c:Rd)(x:Sp),ds=[c.pc x]/\c.Ok/\c.itm x/\Q c.ky M
noncomputable abbrev aB1:Stmt:=top 25
theorem aGo:aS ["p","q","a","b","d"] ["p","q"] (aI aB1):=by ac_rfl
theorem aFE (hF:cM K mg "line" aB1 ["p","q"]):Has P w K mg base 104 "line" ["p","q"] (λ_ _ _=>False):=by exact Has.never hF aGo 103
noncomputable abbrev tI:Stmt:=top 44
theorem aBr:aS ["piece"] ["piece"] (aI tI):=by ac_rfl
theorem aAS (hF:cM K mg "carrier" tI ["piece"])(aBT:Has P w K mg base 104 "line" ["p","q"] (λ_ _ _=>False))(aFv:Has P w K mg base 105 "far" ["p","q"] aBL):Has P w K mg base 106 "carrier" ["piece"] aCU:=by
 refine Has.mkZ hF aBr (λds M Q ⟨_,_,e,_⟩=>by rw[e];rfl) λf cdv A outer s H ds M Q E hr h=>?_;obtain⟨c,x,rfl,ok,hx,q⟩:=h;refine⟨_,(aF (bV (aY (eP hr) (aH (aA 0) aC) dW) (aG (aO rY)) aZ)
  (aF (bV (aY (eP hr) (aH (aA 0) aC) dW) (aG (aO (aE aBT hr (by decide) (aB (aH (aA 0) aC) (aB (aH (aA 0) aC) aD))))) aZ)
  (aG (aO (bC (aB dW (aB (aH (aA 0) aC) (aB (aE aFv hr (by decide) (aB (aH (aA 0) aC) (aB (aH (aA 0) aC) aD))) aD)))))))),?_⟩
 have b:=ok.bw x.1 hx.1;have m:∀{n:Nat}{z:Rat},n<=500->BQ n z->BQ 500 z:=λl h=>h.mono l;have far:∀{Q:DQ},Q (FQ (c.x*c.x+c.y*c.y)) M->aBL [c.c0,c.pt x.1] M Q:=λ{Q} q=>by
  refine⟨_,_,_,_,rfl,m (by decide) ok.bx,m (by decide) ok.b_y,m (by decide) (ok.bx.add b.1),m (by decide) (ok.b_y.add b.2),?_⟩;have e:(c.cx-(c.cx+(c.P x.1).1))*(c.cx-(c.cx+(c.P x.1).1))+(c.cy-(c.cy+(c.P x.1).2))*(c.cy-(c.cy+(c.P x.1).2))=c.x*c.x+c.y*c.y:=by have:=ok.on x.1 hx.1;unfold OnR at this;grind
  rw[e];exact q
 rcases Rd.pcs hx with⟨_,e⟩|⟨_,e⟩
 ·rw[e];unfold Rd.ring;ac_nf;rw[cT];refine ifF (by decide) ?_;ac_nf;rw[cT];exact ifF (by decide) (far ⟨by decide,M,.refl _,q⟩)
 ·rw[e];unfold Rd.arc;ac_nf;rw[cT];refine ifF (by decide) ?_;ac_nf;rw[cT];exact ifF (by decide) (far ⟨by decide,M,.refl _,q⟩)
theorem Rd.Ok.far {c:Rd}(h:c.Ok){i:Int}(hi:c.In i):gC c.cx c.cy (c.cx+(c.P i).1) (c.cy+(c.P i).2)=c.x*c.x+c.y*c.y:=by have:=h.on i hi;unfold OnR at this;unfold gC;grind
theorem Rd.Ok.onC {c:Rd}(h:c.Ok){x:Sp}(hx:c.itm x){n:Int}(hn:c.In n){M:DM}{Q:DQ}(q:Q (.bl (decide (rel c.m x.1 n<=x.2))) M):aFa [c.pc x,c.pt n] M Q:=by
 have m:∀{n:Nat}{z:Rat},n<=900->BQ n z->BQ 900 z:=λl h=>h.mono l;have bp:∀{i},c.In i->BQ 900 (c.cx+(c.P i).1)/\BQ 900 (c.cy+(c.P i).2):=λhi=>⟨m (by decide) (h.bx.add (h.bw _ hi).1),m (by decide) (h.b_y.add (h.bw _ hi).2)⟩;have rn:=dB hx.1 hn;rcases Rd.pcs hx with⟨z,e⟩|⟨z,e⟩
 ·rw[e];refine⟨.ring c.cx c.cy (c.cx+(c.P x.1).1) (c.cy+(c.P x.1).2),_,_,rfl,⟨m (by decide) h.bx,m (by decide) h.b_y,(bp hx.1).1,(bp hx.1).2⟩,(bp hn).1,(bp hn).2,?_⟩;have:onP (.ring c.cx c.cy (c.cx+(c.P x.1).1) (c.cy+(c.P x.1).2)) (c.cx+(c.P n).1) (c.cy+(c.P n).2)=decide (rel c.m x.1 n<=x.2):=by unfold onP;dsimp only;rw[h.far hn,h.far hx.1,decide_eq_true rfl,decide_eq_true (by omega)]
  rw[this];exact q
 ·have j:=cQ hx.1 ⟨Int.le_of_lt hx.2.1,z⟩;rw[e];refine⟨.arc c.cx c.cy (c.cx+(c.P x.1).1) (c.cy+(c.P x.1).2) (c.cx+(c.P (stp c.m x.1 x.2)).1) (c.cy+(c.P (stp c.m x.1 x.2)).2),_,_,rfl,⟨m (by decide) h.bx,m (by decide) h.b_y,(bp hx.1).1,(bp hx.1).2,(bp j).1,(bp j).2⟩,(bp hn).1,(bp hn).2,?_⟩;have:onP (.arc c.cx c.cy (c.cx+(c.P x.1).1) (c.cy+(c.P x.1).2) (c.cx+(c.P (stp c.m x.1 x.2)).1) (c.cy+(c.P (stp c.m x.1 x.2)).2)) (c.cx+(c.P n).1) (c.cy+(c.P n).2)=decide (rel c.m x.1 n<=x.2):=by
   unfold onP;dsimp only;rw[h.far hn,h.far hx.1,decide_eq_true rfl,Bool.true_and,aAI,h.ahead hx.1 j hn,mR hx.1 ⟨Int.le_of_lt hx.2.1,z⟩];by_cases c1:x.2<rel c.m x.1 n
   ·rw[decide_eq_true c1,decide_eq_false (by omega)];rfl
   ·rw[decide_eq_false c1,decide_eq_true (by omega)];rfl
  rw[this];exact q
noncomputable def Rd.kv (c:Rd)(ns:List Int):List (D×D):=ns.map λn=>(c.dot n,.bl true)
theorem Rd.kv_keys (c:Rd)(ns:List Int):(c.kv ns).map (·.1)=ns.map c.dot:=by unfold Rd.kv;rw[map_map];rfl
theorem Rd.Ok.dot_inj {c:Rd}(h:c.Ok){i j:Int}(hi:c.In i)(hj:c.In j)(e:c.dot i=c.dot j):i=j:=by
 unfold Rd.dot at e;injection e with e
 injection e with _ e
 injection e with e _
 exact h.pt_inj hi hj e
theorem Rd.Ok.tk {c:Rd}(h:c.Ok){ns:List Int}(hi:∀n∈ns,c.In n)(nd:ns.Nodup):TK (c.kv ns):=by
 refine⟨λp hp=>?_,?_⟩
 ·obtain⟨n,_,rfl⟩:=List.mem_map.mp hp;exact⟨⟨_,rfl⟩,rfl⟩
 ·rw[c.kv_keys];unfold Nodup at nd ⊢;rw[pairwise_map];exact List.Pairwise.imp_of_mem (λ{a b} ha hb n e=>n (h.dot_inj (hi a ha) (hi b hb) e)) nd
def Rd.it0 (c:Rd)(x:Sp):Prop:=(0<=x.1/\x.1<c.m)/\0<=x.2/\x.2<=c.m
def aHJ:DSp:=λds M Q=>∃(l1 l2:Addr)(c:Rd) (S J:List Sp),ds=[.ref l1,.ref l2]/\c.Ok/\M (.l l1)=some (S.map c.pc)/\M (.l l2)=some (J.map c.pc)/\(∀x∈S,c.it0 x)/\(∀x∈J,c.itm x)/\S.length<=100/\J.length<=100 /\
 ∀(p:Addr)(M':DM) (ns:List Int),bD M M'->M (.l p)=none->M' (.l p)=some (ns.map c.dot)->ns.Nodup->(∀n,n∈ns↔(n,0)∈S/\¬ ∃x∈J,rel c.m x.1 n<=x.2)->ns.length<=S.length->Q (.ref p) M'
noncomputable abbrev jV:Stmt:=top 46
theorem mP:aS ["pieces","others","dots","piece"] ["pieces","others"] (aI jV):=by ac_rfl
theorem wT (hF:cM K mg "lone_dots" jV ["pieces","others"])(aIB:Has P w K mg base 104 "on" ["piece","p"] aFa)(xM:mg "any" = none)(kO:mg "list" = none):Has P w K mg base 122 "lone_dots" ["pieces","others"] aHJ:=by
 refine Has.mkZ hF mP (λds M Q ⟨_,_,_,_,_,e,_⟩=>by rw[e];rfl) λf cdv A outer s H ds M Q E hr h=>?_;obtain⟨l1,l2,c,S,J,rfl,ok,h1,h2,hS,hJ,ln1,ln2,q⟩:=h;refine⟨_,(aF (aM (i:=2) mP.nd xR)
  (aF (lD PassesOwn.never rfl (aA 0) (aR (i:=3) mP.nd) (aG (bV (pT (iX (aY (eP hr) (aH (aA 3) aC) dW) (iX (aY (aDa hr) (aA 3) (aA 2) rfl) (jO (kH (eD (bX (aEO rfl) xM (aB (uP (⟨rfl,by decide +kernel,by decide +kernel,by decide +kernel,rfl,by decide +kernel⟩:rB ["pieces","others","dots","piece"] (aI jV) ["other","piece"] [none,some 3] _) rfl (aA 1) (λ_ _ _ _ _=>(aR (i:=0) (show Nodup (["other","piece"]:List Str) by decide +kernel))) (λ_ _ _ _ _=>(aE aIB hr (by decide) (aB (aA 0) (aB (aH (aA 1) aC) aD))))) aD)))))))) (aG (cU qR (aC4 hr (aA 2) (aA 3)))) aZ)))
  (aG (aO (jF (aD6 rfl) kO (aB (aA 2) aD)))))),?_⟩
 ac_nf;intro g hg;have s0:=bD.newK hg [];refine⟨_,s0 _ _ h1,λi ρ M'=>bD M M'/\(∃ns:List Int,M' (.d g)=some (fO w (c.kv ns))/\ns.Nodup/\(∀n,n∈ns↔(n,0)∈S.take i/\¬ ∃x∈J,rel c.m x.1 n<=x.2)/\ns.length<=i)/\∃o,ρ=[some (.ref l1),some (.ref l2),some (.ref g),o],⟨s0,⟨[],jB,nodup_nil,λn=>by simp,Nat.le_refl _⟩,none,rfl⟩,?_,?_,?_⟩
 ·rintro i ρ M' _ ⟨s1,_⟩ a e;cases e;exact s1 _ _ h1
 ·rintro i d ρ M' hd ⟨s1,⟨ns,hn,nd,mem,ln⟩,o,rfl⟩;rw[getElem?_map] at hd;obtain⟨s,hs,rfl⟩:=Option.map_eq_some_iff.mp hd;have ins:∀n∈ns,c.In n:=λn hn=>(hS _ (List.mem_of_mem_take ((mem n).mp hn).1)).1;have tk:=ok.tk ins nd;have tki:=fY hs;have hi:=(List.getElem?_eq_some_iff.mp hs).1;have is:=hS s (mem_of_getElem? hs);have skip:(s.2=0->s.1∈ns ∨ ∃x∈J,rel c.m x.1 s.1<=x.2)->∀n,n∈ns↔(n,0)∈S.take (i+1)/\¬ ∃x∈J,rel c.m x.1 n<=x.2:=λhz n=>by rw[tki,mem_append,mem_singleton,mem];refine⟨λz=>⟨.inl z.1,z.2⟩,λ⟨z,y⟩=>z.elim (λz=>⟨z,y⟩) λz=>?_⟩;rw[<- z] at hz;exact(hz rfl).elim (λz=>(mem n).mp z) λz=>absurd z y
  by_cases z:s.2=0
  ·have es:c.pc s=c.dot s.1:=if_pos z;rw[es];dsimp only[Rd.dot];ac_nf;rw[cT];refine ifT rfl ⟨_,hn,tk,⟨⟨_,rfl⟩,rfl⟩,?_⟩;rw[show(D.tup [.str "dot",c.pt s.1])=c.dot s.1 from rfl];ac_nf;by_cases y:s.1∈ns
   ·have hk:c.dot s.1∈(c.kv ns).map (·.1):=by rw[c.kv_keys];exact List.mem_map.mpr ⟨_,y,rfl⟩
    exact ifF (by rw[decide_eq_true hk];rfl) (ifF rfl ⟨s1,⟨ns,hn,nd,skip λ_=>.inl y,by omega⟩,_,rfl⟩)
   ·have hk:c.dot s.1∉(c.kv ns).map (·.1):=by rw[c.kv_keys];intro hk;obtain⟨n,hn,e⟩:=List.mem_map.mp hk;exact y (by rw[<- ok.dot_inj (ins n hn) is.1 e];exact hn)
    refine ifT (by rw[decide_eq_false hk];rfl) ⟨_,s1 _ _ h2,by rw[length_map];omega,λj ys M2=>M2=M'/\ys=((J.take j).map λx=>decide (rel c.m x.1 s.1<=x.2)).map D.bl,⟨rfl,rfl⟩,?_,?_,?_⟩
    ·rintro j ys M2 _ ⟨rfl,_⟩ a e;cases e;exact s1 _ _ h2
    ·rintro j d ys M2 hd2 ⟨rfl,rfl⟩;rw[getElem?_map] at hd2;obtain⟨x,hx,rfl⟩:=Option.map_eq_some_iff.mp hd2;dsimp only[Rd.dot];ac_nf;exact ok.onC (hJ x (mem_of_getElem? hx)) is.1 ⟨rfl,by rw[fY hx,map_append,map_append];rfl⟩
    rintro ys M2 - ⟨e0,rfl⟩ pa hpa;rw[e0] at hpa ⊢;clear e0 M2;rw[length_map,take_length];refine⟨_,aJ,?_⟩;have s2:=s1.trans (bD.new hpa (map D.bl (J.map λx=>decide (rel c.m x.1 s.1<=x.2))));have hn2:aX M' pa (map D.bl (J.map λx=>decide (rel c.m x.1 s.1<=x.2))) (.d g)=some (fO w (c.kv ns)):=by rw[jJ];exact hn
    generalize aX M' pa (map D.bl (J.map λx=>decide (rel c.m x.1 s.1<=x.2)))=M2 at s2 hn2 ⊢;by_cases y2:∃x∈J,rel c.m x.1 s.1<=x.2
    ·obtain⟨x,hx,hy⟩:=id y2;have ea:(J.map λx=>decide (rel c.m x.1 s.1<=x.2)).any id=true:=List.any_eq_true.mpr ⟨true,List.mem_map.mpr ⟨x,hx,decide_eq_true hy⟩,rfl⟩;exact ifF (by rw[ea];rfl) ⟨s2,⟨ns,hn2,nd,skip λ_=>.inr y2,by omega⟩,_,rfl⟩
    ·have ea:(J.map λx=>decide (rel c.m x.1 s.1<=x.2)).any id=false:=List.any_eq_false.mpr λb hb=>by obtain⟨x,hx,e⟩:=List.mem_map.mp hb;intro z;have z:b=true:=z;rw[z] at e;exact y2 ⟨x,hx,of_decide_eq_true e⟩
     have lk:(c.kv ns).length=ns.length:=by unfold Rd.kv;rw[length_map]
     refine ifT (by rw[ea];rfl) ⟨_,hn2,tk,by omega,⟨⟨_,rfl⟩,rfl⟩,λb o e=>by rw[wQ (bB e hg)];exact s2 _ _ e,⟨ns++[s.1],?_,?_,λn=>?_,by rw[length_append];show _+1<=_;omega⟩,_,rfl⟩
     ·rw[jB];unfold zU;rw[if_neg hk];unfold Rd.kv;rw[map_append];rfl
     ·rw[nodup_append];exact⟨nd,by simp,λa ha b hb e=>y (by rw[mem_singleton] at hb;rw[<- hb,<- e];exact ha)⟩
     ·rw[tki,mem_append,mem_append,mem_singleton,mem_singleton,mem];have es:((n,0)=s)↔n=s.1:=⟨λe=>by rw[<- e],λe=>by rw[e];exact Prod.ext rfl z.symm⟩;rw[es];constructor
      ·rintro(⟨a,b⟩|a)
       ·exact⟨.inl a,b⟩
       ·exact⟨.inr a,by rw[a];exact y2⟩
      ·rintro⟨a|a,b⟩
       ·exact .inl ⟨a,b⟩
       ·exact .inr a
  ·have w0:∀(Q:DQ),Q (.str (if s.2 = c.m then "ring" else "arc")) M'->mO (c.pc s) (.int 0) M' Q:=λQ h=>(Rd.ix ⟨is.1,by have:=is.2.1;omega,is.2.2⟩).1 h;ac_nf;refine w0 _ ?_;rw[cT];refine ifF (decide_eq_false ?_) ⟨s1,⟨ns,hn,nd,skip λh=>absurd h z,by omega⟩,_,rfl⟩;split<;>decide
 ·rintro ρ M' ⟨s1,⟨ns,hn,nd,mem,ln⟩,o,rfl⟩;rw[length_map] at mem ln;rw[take_length] at mem;ac_nf;refine⟨_,hn,λp hp=>lC (q p _ ns (s1.trans (bD.new hp _)) (cR s1 hp) ?_ nd mem ln)⟩;rw[aJ,wY,c.kv_keys]
noncomputable abbrev tl (x:Sp):Bool:=0<x.2
structure vR (m:Int)(S F:List Sp):Prop where
 nd:F.Nodup
 full:(∀g,0<=g->g<m->Cov m (S.filter tl) g)->∃i,(S.filter tl).head?.map (·.1)=some i/\F=[(i,m)]
 part:(∃g,0<=g/\g<m/\¬Cov m (S.filter tl) g)->∀x,x∈F↔MRi m (Cov m (S.filter tl)) x∨(x.2=0/\x∈S/\¬Cov m (S.filter tl) x.1/\¬Cov m (S.filter tl) (pg m x.1))
theorem aF8 {m:Int}(m0:0<m):Due m [] []:=by
 have no:∀g,¬Cov m [] g:=λg ⟨x,hx,_⟩=>by cases hx
 refine⟨nodup_nil,λh=>absurd (h 0 (Int.le_refl _) m0) (no 0),λg _ _ h=>absurd h (no g),λ_ x=>⟨λh=>(by cases h),λh=>?_⟩⟩;exact absurd (h.2.2.1 0 (Int.le_refl _) h.2.1.1) (no _)
theorem xZ {m:Int}{T U:List Sp}(h:Due m T U)(hU:∀x∈U,(0<=x.1/\x.1<m)/\0<x.2)(p:∃g,0<=g/\g<m/\¬Cov m T g){n:Int}(hn:0<=n/\n<m):(∃x∈U,rel m x.1 n<=x.2)↔Cov m T n∨Cov m T (pg m n):=by
 have pn:0<=pg m n/\pg m n<m:=by unfold pg;split<;>omega
 constructor
 ·rintro⟨x,hx,z⟩;obtain⟨a,b,all,_⟩:=(h.part p x).mp hx;have r:=dB a hn;by_cases e:rel m x.1 n=x.2
  ·refine .inr ?_;have:=all (x.2-1) (by omega) (by omega);have e2:stp m x.1 (x.2-1)=pg m n:=by
    rw[<- e];have hne:rel m x.1 n≠0:=by omega
    have:(rel m x.1 n=n-x.1/\x.1<=n)∨(rel m x.1 n=n+m-x.1/\n<x.1):=by unfold rel;split<;>omega
    unfold stp pg;split<;>split<;>omega
   rw[e2] at this;exact this
  ·refine .inl ?_;have:=all _ r.1 (by omega);rw[iZ a hn] at this;exact this
 ·rintro(z|z)
  ·obtain⟨x,hx,z⟩:=h.cov n hn.1 hn.2 z;exact⟨x,hx,by omega⟩
  ·obtain⟨x,hx,z⟩:=h.cov _ pn.1 pn.2 z;refine⟨x,hx,?_⟩;obtain⟨a,b⟩:=hU x hx;unfold rel pg at z;unfold rel;split at z<;>split at z<;>split<;>omega
theorem aEV {m:Int}{S U:List Sp}{ns:List Int}(m0:0<m)(hS:∀x∈S,(0<=x.1/\x.1<m)/\0<=x.2/\x.2<=m)(h:Due m (S.filter tl) U)(hU:∀x∈U,(0<=x.1/\x.1<m)/\0<x.2/\x.2<=m)(nd:ns.Nodup)(mem:∀n,n∈ns↔(n,0)∈S/\¬ ∃x∈U,rel m x.1 n<=x.2):vR m S (U++ns.map λn=>(n,0)):=by
 have ndU:U.Nodup:=by have:=h.nd;unfold Nodup at this ⊢;rw[pairwise_map] at this;exact this.imp λh z=>h (by rw[z])
 refine⟨?_,λal=>?_,λp x=>?_⟩
 ·rw[nodup_append];refine⟨ndU,?_,λa ha b hb e=>?_⟩
  ·unfold Nodup at nd ⊢;rw[pairwise_map];exact nd.imp λh z=>h (Prod.mk.inj z).1
  ·obtain⟨n,_,rfl⟩:=List.mem_map.mp hb;have:=(hU a ha).2.1;rw[e] at this;have this:(0:Int)<0:=this;omega
 ·obtain⟨i,e1,e2⟩:=h.full al;have hi:=(hU (i,m) (by rw[e2];exact mem_cons_self)).1;have e3:ns=[]:=List.eq_nil_iff_forall_not_mem.mpr λn hn=>by obtain⟨a,b⟩:=(mem n).mp hn;exact b ⟨(i,m),by rw[e2];exact mem_cons_self,by have:rel m i n<m:=(dB hi (hS _ a).1).2;show rel m i n<=m;omega⟩
  rw[e3,e2];exact⟨i,e1,rfl⟩
 ·rw[mem_append,h.part p x,List.mem_map];refine or_congr Iff.rfl ?_;constructor
  ·rintro⟨n,hn,rfl⟩;obtain⟨a,b⟩:=(mem n).mp hn;rw[xZ h (λx hx=>⟨(hU x hx).1,(hU x hx).2.1⟩) p (hS _ a).1] at b;exact⟨rfl,a,λz=>b (.inl z),λz=>b (.inr z)⟩
  ·rintro⟨a,b,c,d⟩;have e:((x.1,0):Sp)=x:=Prod.ext rfl a.symm;refine⟨x.1,(mem _).mpr ⟨by rw[e];exact b,?_⟩,e⟩;rw[xZ h (λx hx=>⟨(hU x hx).1,(hU x hx).2.1⟩) p (hS _ b).1];exact λz=>z.elim c d
theorem vR.perm {m:Int}{S F F':List Sp}(h:vR m S F)(h':vR m S F'):F.Perm F':=by
 by_cases p:∃g,0<=g/\g<m/\¬Cov m (S.filter tl) g
 ·exact(List.perm_ext_iff_of_nodup h.nd h'.nd).mpr λx=>(h.part p x).trans (h'.part p x).symm
 ·have al:∀g,0<=g->g<m->Cov m (S.filter tl) g:=λg g0 gm=>Classical.byContradiction λn=>p ⟨g,g0,gm,n⟩;obtain⟨i,e1,e2⟩:=h.full al;obtain⟨j,e3,e4⟩:=h'.full al;rw[e1] at e3;cases e3;rw[e2,e4]
def Grp (w:World)(c:Rd)(T:List Sp)(M:DM)(g:Addr)(M':DM):Prop:=(T=[]/\M' (.d g)=some (fO w [])) ∨ ∃a:Addr,T≠[]/\M (.l a)=none/\M' (.d g)=some (fO w [(c.ky,.ref a)])/\M' (.l a)=some (T.map c.pc)
theorem Rd.tk1 (c:Rd)(d:D):TK [(c.ky,d)]:=⟨λp hp=>by rw[List.mem_singleton.mp hp];exact⟨⟨_,rfl⟩,rfl⟩,by simp⟩
theorem aLO {k d:D}:wJ [(k,d)] k=some d:=by unfold wJ;rw[List.find?_cons_of_pos (by exact decide_eq_true rfl)];rfl
theorem aCq {w:World}{M N:DM}{g:Addr}{kvs:List (D×D)}(s:bD M N)(hg:M (.d g)=none)(hx:N (.x g)=none):bD M (uI w N g kvs):=λb o e=>by rw[kG (λz=>by rw[z] at e;rw[s _ _ e] at hx;cases hx) (bB e hg)];exact s _ _ e
theorem aCG {w:World}{M N:DM}{g:Addr}{kvs:List (D×D)}(s:bD M N)(hg:M (.d g)=none)(hx:M (.x g)=none):bD M (aA4 w N g kvs):=λb o e=>by rw[mH (bB e hx) (bB e hg)];exact s _ _ e
noncomputable def ptS:Sh:=.t [.t [.i,.i],.t [.i,.i]]
theorem Rd.pc_sh (c:Rd)(x:Sp):hs (.t (.s::[ptS,ptS,ptS])) (c.pc x)/\c.pc x ≠ .tup []:=by
 unfold Rd.pc;split
 ·exact⟨by simp[hs,hss,Rd.dot,Rd.pt,PQ,FQ,ptS],by simp[Rd.dot]⟩
 ·split
  ·exact⟨by simp[hs,hss,Rd.ring,Rd.c0,Rd.pt,PQ,FQ,ptS],by simp[Rd.ring]⟩
  ·exact⟨by simp[hs,hss,Rd.arc,Rd.c0,Rd.pt,PQ,FQ,ptS],by simp[Rd.arc]⟩
theorem Rd.pc_key (c:Rd)(x:Sp):eX 6 (c.pc x)=true:=by
 unfold Rd.pc;split
 ·rfl
 ·split<;>rfl
def xA (pt:Addr):DSp:=λds M Q=>∃(l:Addr)(c:Rd) (S:List Sp),ds = [.ref l]/\c.Ok/\M (.l l) = some (S.map c.pc)/\(∀s∈S,c.it0 s)/\S.length<=31/\M (.x pt) = some [.str "joined_spans.<locals>.<lambda>"] /\
 ∀(p:Addr)(M':DM) (F:List Sp),bD M M'->M (.l p)=none->M' (.l p)=some (F.map c.pc)->vR c.m S F->(∀g,0<=g->g<c.m->Cov c.m (S.filter tl) g->∃x∈F,rel c.m x.1 g<x.2)->(∀x∈F,c.it0 x)->F.length<=2*S.length->(F.map c.pc).Pairwise (λa b=>ltD b a=false)->Q (.ref p) M'
noncomputable abbrev gJ:Stmt:=top 47
theorem pP:aS ["stretches","spans"] ["stretches"] (aI gJ):=by ac_rfl
theorem oW (hF:cM K mg "joined_stretches" gJ ["stretches"]):Has P w K mg base 122 "joined_stretches" ["stretches"] (λ_ _ _=>False):=by exact Has.never hF pP 121
noncomputable abbrev vY:Stmt:=top 45
theorem jD:aS ["pieces","groups","piece","whole","each"] ["pieces"] (aI vY):=by ac_rfl
theorem aBj {pt:Addr}(hF:cM K mg "joined" vY ["pieces"])(tD:Has P w K mg base 106 "carrier" ["piece"] aCU)(gK:Has P w K mg base 122 "joined_stretches" ["stretches"] (λ_ _ _=>False))(kL:Has P w K mg base 122 "joined_arcs" ["pieces"] (aHD pt))(nC:Has P w K mg base 122 "lone_dots" ["pieces","others"] aHJ)(kZ:mg "sorted" = none):Has P w K mg base 124 "joined" ["pieces"] (xA pt):=by
 refine Has.mkZ hF jD (λds M Q ⟨_,_,_,e,_⟩=>by rw[e];rfl) λf cdv A outer s H ds M Q E hr h=>?_;obtain⟨l,c,S,rfl,ok,hl,hS,ln,hP,q⟩:=h;refine⟨_,(aF (aM (i:=1) jD.nd xR)
  (aF (lD PassesOwn.never rfl (aA 0) (aR (i:=2) jD.nd) (aG (bV (aY (aAF hr) (aH (aA 2) aC) dW) (aG (fQ (dJ (aDc hr (aA 1) (aE tD hr (by decide) (aB (aA 2) aD)) (fK aD)) (aA 2)))) aZ)))
  (aF (aM (i:=3) jD.nd (fK aD))
  (jP (aDh 1 PassesOwn.never rfl (aR (i:=4) jD.nd) (aG (aEx (i:=3) jD.nd (lO (aY (eP hr) (aH (aA 4) aC) dW) (aE gK hr (by decide) (aB (aCM hr (aA 1) (aA 4)) aD)) (aE kL hr (by decide) (aB (aCM hr (aA 1) (aA 4)) aD))))))
  (aG (aO (bX (xT hr) kZ (aB (aK cY (aA 3) (aE nC hr (by decide) (aB (aA 0) (aB (aA 3) aD)))) aD)))))))),?_⟩
 ac_nf;intro g hg;have s0:=bD.newK hg [];refine⟨_,s0 _ _ hl,λi ρ M'=>bD M M'/\Grp w c ((S.take i).filter tl) M g M'/\∃o,ρ=[some (.ref l),some (.ref g),o,none,none],⟨s0,.inl ⟨rfl,jB⟩,none,rfl⟩,?_,?_,?_⟩
 ·rintro i ρ M' _ ⟨s1,_⟩ a e;cases e;exact s1 _ _ hl
 ·rintro i d ρ M' hd ⟨s1,gr,o,rfl⟩;rw[getElem?_map] at hd;obtain⟨s,hs,rfl⟩:=Option.map_eq_some_iff.mp hd;have ms:=hS s (mem_of_getElem? hs);by_cases z:s.2=0
  ·have es:c.pc s=c.dot s.1:=if_pos z;have et:(S.take (i+1)).filter tl=(S.take i).filter tl:=by rw[fY hs,filter_append,List.filter_cons_of_neg (by unfold tl;simp;omega),filter_nil,append_nil]
   rw[es];dsimp only[Rd.dot];ac_nf;rw[cT];exact ifF (by decide) ⟨s1,by rw[et];exact gr,_,rfl⟩
  ·have im:c.itm s:=⟨ms.1,by have:=ms.2.1;omega,ms.2.2⟩;have et:(S.take (i+1)).filter tl=(S.take i).filter tl++[s]:=by rw[fY hs,filter_append,List.filter_cons_of_pos (by unfold tl;simp;exact im.2.1),filter_nil]
   ac_nf;refine(Rd.ix im).1 ?_;rw[cT];refine ifT (by
           rw[decide_eq_false];· rfl
           ·split<;>decide) ?_
   have there:∃kvs,M' (.d g)=some (fO w kvs)/\TK kvs:=by
    rcases gr with⟨_,h⟩|⟨a,_,_,h,_⟩
    ·exact⟨_,h,TK.nil⟩
    ·exact⟨_,h,c.tk1 _⟩
   have lT:((S.take i).filter tl).length<=31:=Nat.le_trans (List.length_filter_le _ _) (Nat.le_trans (List.length_take_le' _ _) ln);refine⟨there,c,s,rfl,ok,im,by decide,λp hp=>?_⟩;have hpM:=cR s1 hp;have s2:=s1.trans (bD.new hp []);rcases gr with⟨e,h⟩|⟨a,e,na,h,ha⟩
   ·refine⟨[],by rw[jJ];exact h,TK.nil,by decide,⟨⟨_,rfl⟩,rfl⟩,.inr ⟨by simp,⟨_,by rw[zC];exact aJ⟩,_,_,rfl,by rw[zC];exact aJ,by decide,λb o e=>?_,.inr ⟨p,by rw[et];simp,hpM,by rw[jJ,jB];rfl,by rw[aJ,et,e];rfl⟩,_,rfl⟩⟩;rw[eU (bB e hpM),wQ (bB e hg)];exact s2 _ _ e
   ·have np:a≠p:=bM ha hp;have ha2:aX M' p [] (.l a)=some (((S.take i).filter tl).map c.pc):=by rw[cK np];exact ha
    refine⟨_,by rw[jJ];exact h,c.tk1 _,Nat.le_of_ble_eq_true rfl,⟨⟨_,rfl⟩,rfl⟩,.inl ⟨.ref a,aLO,⟨_,ha2⟩,_,_,rfl,ha2,by rw[length_map];omega,λb o e=>?_,.inr ⟨a,by rw[et];simp,na,by rw[jJ,jJ];exact h,by rw[aJ,et,map_append];rfl⟩,_,rfl⟩⟩;rw[eU (bB e na)];exact s2 _ _ e
 ·rintro ρ M' ⟨s1,gr,o,rfl⟩;rw[length_map,take_length] at gr;ac_nf;have lT:(S.filter tl).length<=S.length:=List.length_filter_le _ _;refine⟨by decide,λp hp=>⟨λρ N=>bD M N/\(∃U,N (.l p)=some (U.map c.pc)/\Due c.m (S.filter tl) U/\(∀x∈U,c.itm x)/\U.length<=S.length)/\∃o o',ρ=[some (.ref l),some (.ref g),o,some (.ref p),o'],?_,?_⟩⟩
  ·have hpM:=cR s1 hp;have s2:=s1.trans (bD.new hp []);rcases gr with⟨e,h⟩|⟨a,e,na,h,ha⟩
   ·refine⟨[],by rw[jJ];exact h,TK.nil,λhx=>aHT ⟨aBU,?_,⟨[],?_,?_,λx hx=>(by cases hx),Nat.zero_le _⟩,_,_,rfl⟩⟩
    ·exact aCG (aCq s2 hg hx) hg (cR s2 hx)
    ·rw[mH (by intro z;cases z) (by intro z;cases z),kG (by intro z;cases z) (by intro z;cases z)];exact aJ
    ·rw[e];exact aF8 ok.m0
   ·have tk:=c.tk1 (.ref a);have np:a≠p:=bM ha hp;unfold Rd.ky at tk h;refine⟨_,by rw[jJ];exact h,tk,λhx=>aHT ?_⟩;have sf:=aCq (kvs:=[(D.tup [.str "circle",c.c0,FQ (c.x*c.x+c.y*c.y)],D.ref a)]) (w:=w) s2 hg hx;have hf:uI w (aX M' p []) g [(D.tup [.str "circle",c.c0,FQ (c.x*c.x+c.y*c.y)],D.ref a)] (.l a)=some ((S.filter tl).map c.pc):=by rw[kG (by intro z;cases z) (by intro z;cases z),cK np];exact ha
    have hfp:uI w (aX M' p []) g [(D.tup [.str "circle",c.c0,FQ (c.x*c.x+c.y*c.y)],D.ref a)] (.l p)=some []:=by rw[kG (by intro z;cases z) (by intro z;cases z)];exact aJ
    have hfx:uI w (aX M' p []) g [(D.tup [.str "circle",c.c0,FQ (c.x*c.x+c.y*c.y)],D.ref a)] (.x g) = some (.bl true :: fO w [(D.tup [.str "circle",c.c0,FQ (c.x*c.x+c.y*c.y)],D.ref a)]):=aBU;generalize uI w (aX M' p []) g [(D.tup [.str "circle",c.c0,FQ (c.x*c.x+c.y*c.y)],D.ref a)]=N0 at sf hf hfp hfx ⊢;ac_nf;rw[cT];refine ifF (by decide) ⟨_,.ref a,hfx,tk,⟨⟨_,rfl⟩,rfl⟩,aLO,a,c,S.filter tl,rfl,ok,hf,e,λs hs=>?_,by omega,sf _ _ hP,λp2 N1 U s3 n2 e2 du iU lU=>?_⟩
    ·have:=hS s (List.mem_filter.mp hs).1;have h2:=(List.mem_filter.mp hs).2;unfold tl at h2;exact⟨this.1,by simpa using h2,this.2.2⟩
    ac_nf;have npp:p2≠p:=λz=>by rw[z,hfp] at n2;cases n2
    refine⟨_,_,s3 _ _ hfp,e2,by rw[length_map];show 0+_<=1000;omega,?_⟩;have sp:bD M (aX N1 p ([]++U.map c.pc)):=λb o e=>by rw[eU (bB e hpM)];exact s3 _ _ (sf _ _ e)
    refine⟨by rw[qE];exact s3 _ _ hfx,aCG sp hg (cR s2 hx),⟨U,?_,du,iU,by omega⟩,_,_,rfl⟩;rw[mH (by intro z;cases z) (by intro z;cases z)];exact aJ
  rintro _ N ⟨s1,⟨U,hJ,du,iU,lJ⟩,o,o',rfl⟩;clear gr hp;ac_nf;refine⟨l,p,c,S,U,rfl,ok,s1 _ _ hl,hJ,hS,iU,by omega,by omega,λp2 N2 ns s2 n2 e2 nd mem lns=>?_⟩;have er:U.map c.pc++ns.map c.dot=(U++ns.map λn=>((n,0):Sp)).map c.pc:=by rw[map_append,map_map];rfl
  have inF:∀x∈U++ns.map λn=>((n,0):Sp),c.it0 x:=λx hx=>by
   rcases List.mem_append.mp hx with z|z
   ·have:=iU x z;exact⟨this.1,by have:=this.2.1;omega,this.2.2⟩
   ·obtain⟨n,hn,rfl⟩:=List.mem_map.mp z;exact hS _ ((mem n).mp hn).1
  refine⟨_,_,s2 _ _ hJ,e2,by rw[length_map,length_map];omega,λp3 hp3=>⟨_,.s,[ptS,ptS,ptS],aJ,λd hd=>?_,?_,by rw[length_append,length_map,length_map];omega,λp4 zs hp4 pm so=>?_⟩⟩
  ·rw[er] at hd;obtain⟨x,_,rfl⟩:=List.mem_map.mp hd;exact c.pc_sh x
  ·rw[er];exact List.all_eq_true.mpr λd hd=>by obtain⟨x,_,rfl⟩:=List.mem_map.mp hd;exact c.pc_key x
  rw[er] at pm hp4 ⊢;obtain⟨F,rfl,pF⟩:=jY pm.symm _ rfl;have dF:=aEV ok.m0 hS du iU nd mem;have lF:=pF.length_eq;rw[length_append,length_map] at lF;have s3:=(s1.trans s2).trans ((bD.new hp3 _).trans (bD.new hp4 (F.map c.pc)));refine lC (q p4 _ F s3 (cR (s1.trans (s2.trans (bD.new hp3 _))) hp4) aJ ⟨pF.nodup_iff.mp dF.nd,λal=>?_,λpp x=>pF.mem_iff.symm.trans (dF.part pp x)⟩ (λg g0 gm z=>by obtain⟨x,hx,z⟩:=du.cov g g0 gm z;exact⟨x,pF.mem_iff.mp (mem_append_left _ hx),z⟩) (λx hx=>inF x (pF.mem_iff.mpr hx)) (by omega) so)
  obtain⟨i,e1,e2⟩:=dF.full al;rw[e2] at pF;exact⟨i,e1,(List.singleton_perm.mp pF).symm⟩
theorem vR.self {m:Int}{S G:List Sp}(h:vR m S G)(m0:0<m)(hG:∀x∈G,(0<=x.1/\x.1<m)/\0<=x.2/\x.2<=m)(cov:∀g,0<=g->g<m->Cov m (S.filter tl) g->∃x∈G,rel m x.1 g<x.2):vR m G G:=by
 have up:∀g,0<=g->g<m->Cov m (S.filter tl) g->Cov m (G.filter tl) g:=λg g0 gm z=>by obtain⟨x,hx,z⟩:=cov g g0 gm z;have:=dB (hG x hx).1 ⟨g0,gm⟩;exact⟨x,List.mem_filter.mpr ⟨hx,by unfold tl;simp;omega⟩,z⟩
 by_cases p:∃g,0<=g/\g<m/\¬Cov m (S.filter tl) g
 ·have dn:∀g,0<=g->g<m->(Cov m (G.filter tl) g↔Cov m (S.filter tl) g):=λg g0 gm=>⟨λ⟨x,hx,z⟩=>by
   obtain⟨hx,t⟩:=List.mem_filter.mp hx;unfold tl at t;have t:0<x.2:=by simpa using t
   rcases (h.part p x).mp hx with y|y
   ·have r:=dB y.1 ⟨g0,gm⟩;have:=y.2.2.1 _ r.1 z;rw[iZ y.1 ⟨g0,gm⟩] at this;exact this
   ·omega,up g g0 gm⟩
  have pg':∀a,0<=a/\a<m->0<=pg m a/\pg m a<m:=λa ha=>by unfold pg;split<;>omega
  have mr:∀x,MRi m (Cov m (G.filter tl)) x↔MRi m (Cov m (S.filter tl)) x:=λx=>by
   constructor
   ·rintro⟨a,b,c,d,e⟩;have i1:=cQ a ⟨Int.le_of_lt b.1,b.2⟩;exact⟨a,b,λk k0 kl=>(dn _ (cQ a ⟨k0,by omega⟩).1 (cQ a ⟨k0,by omega⟩).2).mp (c k k0 kl),λz=>d ((dn _ (pg' _ a).1 (pg' _ a).2).mpr z),λz=>e ((dn _ i1.1 i1.2).mpr z)⟩
   ·rintro⟨a,b,c,d,e⟩;have i1:=cQ a ⟨Int.le_of_lt b.1,b.2⟩;exact⟨a,b,λk k0 kl=>(dn _ (cQ a ⟨k0,by omega⟩).1 (cQ a ⟨k0,by omega⟩).2).mpr (c k k0 kl),λz=>d ((dn _ (pg' _ a).1 (pg' _ a).2).mp z),λz=>e ((dn _ i1.1 i1.2).mp z)⟩
  obtain⟨g,g0,gm,ng⟩:=id p;refine⟨h.nd,λal=>absurd ((dn g g0 gm).mp (al g g0 gm)) ng,λ_ x=>(h.part p x).trans ?_⟩;rw[mr x];constructor
  ·rintro(y|⟨a,b,c,d⟩)
   ·exact .inl y
   ·have hx:x∈G:=(h.part p x).mpr (.inr ⟨a,b,c,d⟩);have ix:=(hG x hx).1;exact .inr ⟨a,hx,λz=>c ((dn _ ix.1 ix.2).mp z),λz=>d ((dn _ (pg' _ ix).1 (pg' _ ix).2).mp z)⟩
  ·rintro(y|⟨a,b,_,_⟩)
   ·exact .inl y
   ·exact(h.part p x).mp b
 ·have al:∀g,0<=g->g<m->Cov m (S.filter tl) g:=λg g0 gm=>Classical.byContradiction λn=>p ⟨g,g0,gm,n⟩;obtain⟨i,_,e2⟩:=h.full al;refine⟨h.nd,λ_=>⟨i,?_,e2⟩,λ⟨g,g0,gm,n⟩=>absurd (up g g0 gm (al g g0 gm)) n⟩;rw[e2,List.filter_cons_of_pos (by unfold tl;simpa using m0)];rfl
theorem uuQ (t:Rat):(((t.den*t.den-t.num*t.num:Int)):Rat)/((t.den*t.den+t.num*t.num:Int):Rat)=uu t:=by have k1:=oO t;have k2:=cD t;have e1:=eI t;rw[Rat.intCast_sub,Rat.intCast_add,Rat.intCast_mul,Rat.intCast_mul,e1];unfold uu;grind
theorem vvQ (t:Rat):(((2*t.num*t.den:Int)):Rat)/((t.den*t.den+t.num*t.num:Int):Rat)=vv t:=by have k1:=oO t;have k2:=cD t;have e1:=eI t;rw[Rat.intCast_add,Rat.intCast_mul,Rat.intCast_mul,Rat.intCast_mul,Rat.intCast_mul,e1];unfold vv;grind
theorem sL (t:Rat):0<(t.den:Int)*t.den+t.num*t.num:=by
 have h1:=Int.mul_pos (den_pos t) (den_pos t);have h2:0<=t.num*t.num:=by
  rcases Int.le_total 0 t.num with h|h
  ·exact Int.mul_nonneg h h
  ·exact Int.mul_nonneg_of_nonpos_of_nonpos h h
 omega
theorem aLT {n:Nat}{t:Rat}(h:BQ n t):BQ (n+n+1) (uu t):=by rw[<- uuQ];exact .make (by have:=sL t;omega) ((h.2.mul h.2).sub (h.1.mul h.1)) ((h.2.mul h.2).add (h.1.mul h.1))
theorem aKY {n:Nat}{t:Rat}(h:BQ n t):BQ (n+n+2) (vv t):=by
 rw[<- vvQ];have h2:Bd 2 2:=by unfold Bd;decide
 exact .make (by have:=sL t;omega) (((h2.mul h.1).mul h.2).mono (by omega)) (((h.2.mul h.2).add (h.1.mul h.1)).mono (by omega))
def iT:DSp:=aAH
noncomputable abbrev jG:Stmt:=top 61
theorem cF:aS ["_law_c","_law_a","_law_t","_law_top","_law_bottom","_law_whole_here","_law_u","_law_v","_law_x","_law_y","_law_way"] ["_law_c","_law_a","_law_t"] (aI jG):=by ac_rfl
theorem sS (hF:cM K mg "_law_at_share" jG ["_law_c","_law_a","_law_t"])(bF:Has P w K mg base 101 "_law_lowest" ["_law_top","_law_bottom"] eE)(gP:Has P w K mg base 102 "_law_sum" ["_law_one","_law_other","_law_by"] qL)(eY:Has P w K mg base 102 "_law_product" ["_law_one","_law_other"] oC)(dR:Has P w K mg base 103 "_law_both" ["_law_p","_law_q","_law_by"] kF):Has P w K mg base 104 "_law_at_share" ["_law_c","_law_a","_law_t"] iT:=by
 refine Has.mkZ hF cF (λds M Q ⟨x,y,u,v,t,e,_⟩=>by rw[e];rfl) λf cdv A outer s H ds M Q E hr h=>?_;obtain⟨cx,cy,ax,ay,t,rfl,h1,h2,h3,h4,h5,q⟩:=h;refine⟨_,(aF (cU (aA 2) (eH (n:=2) rfl (aV (aR (i:=3) cF.nd) (aV (aR (i:=4) cF.nd) cZ))))
  (aF (aM (i:=5) cF.nd (aK cY (aK bE (aA 4) (aA 4)) (aK bE (aA 3) (aA 3))))
  (aF (aM (i:=6) cF.nd (aE bF hr (by decide) (aB (aK gW (aK bE (aA 4) (aA 4)) (aK bE (aA 3) (aA 3))) (aB (aA 5) aD))))
  (aF (aM (i:=7) cF.nd (aE bF hr (by decide) (aB (aK bE (aK bE aC (aA 3)) (aA 4)) (aB (aA 5) aD))))
  (aF (cU (aE dR hr (by decide) (aB (aA 1) (aB (aA 0) (aB (eG aC) aD)))) (eH (n:=2) rfl (aV (aR (i:=8) cF.nd) (aV (aR (i:=9) cF.nd) cZ))))
  (aF (aM (i:=10) cF.nd (bC (aB (aE gP hr (by decide) (aB (aE eY hr (by decide) (aB (aA 6) (aB (aA 8) aD))) (aB (aE eY hr (by decide) (aB (aA 7) (aB (aA 9) aD))) (aB (eG aC) aD)))) (aB (aE gP hr (by decide) (aB (aE eY hr (by decide) (aB (aA 7) (aB (aA 8) aD))) (aB (aE eY hr (by decide) (aB (aA 6) (aB (aA 9) aD))) (aB aC aD)))) aD))))
  (aG (aO (aE dR hr (by decide) (aB (aA 0) (aB (aA 10) (aB aC aD)))))))))))),?_⟩
 ac_nf;have hw:=sL t;have bw:Bd 421 ((t.den:Int)*t.den+t.num*t.num):=(h5.2.mul h5.2).add (h5.1.mul h5.1);have b2:Bd 2 2:=by unfold Bd;decide
 refine⟨rfl,cG h5.2 h5.2,cG h5.1 h5.1,cG h5.2 h5.2,cG h5.1 h5.1,_,_,rfl,by omega,bw.mono (by decide),cG b2 h5.1,cG (b2.mul h5.1) h5.2,_,_,rfl,by omega,bw.mono (by decide),?_⟩;rw[uuQ,vvQ];ac_nf;have bu:BQ 421 (uu t):=aLT h5;have bv:BQ 422 (vv t):=aKY h5;have bx:BQ 401 (zs (-1) ax cx):=aCu h3 h1;have bY:BQ 401 (zs (-1) ay cy):=aCu h4 h2;refine⟨ax,ay,cx,cy,-1,_,_,rfl,.inr rfl,h3,h4,h1,h2,by decide,?_⟩;ac_nf;refine⟨rfl,?_⟩;refine⟨uu t,_,_,_,rfl,trivial,bu,bx,by decide,vv t,_,_,_,rfl,trivial,bv,bY,by decide,_,_,_,_,_,rfl,.inr rfl,bu.mul bx,bv.mul bY,by decide,?_⟩;ac_nf;refine⟨vv t,_,_,_,rfl,trivial,bv,bx,by decide,uu t,_,_,_,rfl,trivial,bu,bY,by decide,_,_,_,_,_,rfl,.inl rfl,bv.mul bx,bu.mul bY,by decide,by decide,?_⟩;ac_nf;exact⟨cx,cy,bR t (ax-cx) (ay-cy),bT t (ax-cx) (ay-cy),1,_,_,rfl,.inl rfl,h1,h2,((bu.mul bx).sub (bv.mul bY)).mono (by decide:_<=2000),((bv.mul bx).add (bu.mul bY)).mono (by decide:_<=2000),by decide,M,.refl _,q⟩
theorem bq0:BQ 24 0:=⟨by show(0:Int).natAbs<2^24;decide,by show((1:Nat):Int).natAbs<2^24;decide⟩
def IsS (d:D):Prop:=∃cx cy x y,d=.tup [PQ cx cy,PQ (cx+x) (cy+y)]/\BQ 24 cx/\BQ 24 cy/\BQ 24 x/\BQ 24 y/\¬(x=0/\y=0)
def kC:DSp:=rS 20000 12 IsS
noncomputable abbrev iF:Stmt:=top 65
theorem fH:aS ["_law_from","_law_c","_law_way"] ["_law_from"] (aI iF):=by ac_rfl
theorem qY (hF:cM K mg "_law_start_here" iF ["_law_from"])(mK:Has P w K mg base 103 "_law_spot" ["_law_from"] tU)(dR:Has P w K mg base 103 "_law_both" ["_law_p","_law_q","_law_by"] kF):Has P w K mg base 104 "_law_start_here" ["_law_from"] kC:=by
 refine Has.mkZ hF fH tN λf cdv A outer s H ds M Q E hr h=>?_;obtain⟨a,n,rfl,fd,hn,q⟩:=h;refine⟨_,(aF (aM (i:=1) fH.nd (aE mK hr (by decide) (aB (aA 0) aD)))
  (aF (aM (i:=2) fH.nd (aE mK hr (by decide) (aB (aA 0) aD)))
  (aF (bV (aY (eP hr) (aA 2) (bC (aB (bC (aB aC (aB aC aD))) (aB (bC (aB aC (aB aC aD))) aD)))) (aG (aM (i:=2) fH.nd (bC (aB (bC (aB aC (aB aC aD))) (aB (bC (aB aC (aB aC aD))) aD))))) aZ)
  (aG (aO (bC (aB (aA 1) (aB (aE dR hr (by decide) (aB (aA 1) (aB (aA 2) (aB aC aD)))) aD)))))))),?_⟩
 ac_nf;refine⟨a,_,rfl,fd,by omega,λd M2 ⟨cx,cy,ec,hcx,hcy⟩ fd2 av2=>⟨a,_,rfl,fd2,by omega,λd' M3 ⟨x,y,ew,hx,hy⟩ fd3 av3=>?_⟩⟩;subst ec ew;refine⟨by show(2:Nat)<=1000;decide,by show(2:Nat)<=1000;decide,by show(2:Nat)<=1000;decide,rfl,rfl,vK (λc=>?_) (λc=>?_)⟩
 ·refine⟨by show(2:Nat)<=1000;decide,by show(2:Nat)<=1000;decide,by show(2:Nat)<=1000;decide,cx,cy,1,0,1,24,24,rfl,.inl rfl,hcx,hcy,bq1.mono (by decide),bq0,by decide,by show(2:Nat)<=1000;decide,M3,.refl _,q _ M3 ⟨cx,cy,1,0,rfl,hcx,hcy,bq1.mono (by decide),bq0,λz=>absurd z.1 (by decide)⟩ (fd3.mono (by omega)) (av2.trans av3)⟩
 ·refine⟨cx,cy,x,y,1,24,24,rfl,.inl rfl,hcx,hcy,hx,hy,by decide,by show(2:Nat)<=1000;decide,M3,.refl _,q _ M3 ⟨cx,cy,x,y,rfl,hcx,hcy,hx,hy,?_⟩ (fd3.mono (by omega)) (av2.trans av3)⟩;rintro⟨rfl,rfl⟩;exact absurd c (by decide)
noncomputable def eQ (x y:Rat):Option Rat->Rat×Rat
 |none=>(-x,-y)
 |some t=>(bR t x y,bT t x y)
noncomputable def aAR:Option Rat->Rat
 |none=>1
 |some t=>iB t
def aBQ:Option Rat->Prop
 |none=>True
 |some t=>BQ 9 t
theorem aCS {x y:Rat}(h0:¬(x=0/\y=0))(θ:Option Rat):phi x y (eQ x y θ).1 (eQ x y θ).2=aAR θ:=by
 cases θ with
 |none=>exact aCp
 |some t=>exact aCx h0
theorem aEI (x y:Rat)(θ:Option Rat):OnR x y (eQ x y θ).1 (eQ x y θ).2:=by
 cases θ with
 |none=>unfold OnR eQ;grind
 |some t=>exact aId t x y
theorem aHm {s t:Rat}(x y:Rat)(h:1+s*t≠0):bR ((t-s)/(1+s*t)) (bR s x y) (bT s x y)=bR t x y/\bT ((t-s)/(1+s*t)) (bR s x y) (bT s x y)=bT t x y:=by
 have hs:=cD s;have ht:=cD t;have hu:=cD ((t-s)/(1+s*t));generalize e:(t-s)/(1+s*t)=u at hu ⊢;have e1:u*(1+s*t)=t-s:=by rw[<- e];exact Rat.div_mul_cancel h
 have a1:uu s*(1+s*s)=1-s*s:=by unfold uu;grind
 have a2:vv s*(1+s*s)=s+s:=by unfold vv;grind
 have b1:uu t*(1+t*t)=1-t*t:=by unfold uu;grind
 have b2:vv t*(1+t*t)=t+t:=by unfold vv;grind
 have c1:uu u*(1+u*u)=1-u*u:=by unfold uu;grind
 have c2:vv u*(1+u*u)=u+u:=by unfold vv;grind
 have f:(1+u*u)*((1+s*t)*(1+s*t))=(1+s*s)*(1+t*t):=by grind
 have k1:uu u*((1+s*s)*(1+t*t))=(1+s*t)*(1+s*t)-(t-s)*(t-s):=by rw[<- f];grind
 have k2:vv u*((1+s*s)*(1+t*t))=2*(t-s)*(1+s*t):=by rw[<- f];grind
 have m1:(uu u*uu s-vv u*vv s)*((1+s*s)*(1+s*s)*(1+t*t))=(1-t*t)*((1+s*s)*(1+s*s)):=by
  have:(uu u*uu s-vv u*vv s)*((1+s*s)*(1+s*s)*(1+t*t))=(uu u*((1+s*s)*(1+t*t)))*(uu s*(1+s*s))-(vv u*((1+s*s)*(1+t*t)))*(vv s*(1+s*s)):=by grind
  rw[this,k1,k2,a1,a2];grind
 have m2:(uu u*vv s+vv u*uu s)*((1+s*s)*(1+s*s)*(1+t*t))=(t+t)*((1+s*s)*(1+s*s)):=by
  have:(uu u*vv s+vv u*uu s)*((1+s*s)*(1+s*s)*(1+t*t))=(uu u*((1+s*s)*(1+t*t)))*(vv s*(1+s*s))+(vv u*((1+s*s)*(1+t*t)))*(uu s*(1+s*s)):=by grind
  rw[this,k1,k2,a1,a2];grind
 have fin:∀{E U A T V:Rat},A≠0->T≠0->E*(A*A*T)=V*(A*A)->U*T=V->E=U:=λ{E U A T V} hA hT h1 h2=>by
  have:(E-U)*(A*A*T)=0:=by rw[<- h2] at h1;grind
  have:=(Rat.mul_eq_zero.mp this).resolve_right λz=>(Rat.mul_eq_zero.mp z).elim (λz=>(Rat.mul_eq_zero.mp z).elim hA hA) hT;grind
 have n1:uu u*uu s-vv u*vv s=uu t:=fin hs ht m1 b1;have n2:uu u*vv s+vv u*uu s=vv t:=fin hs ht m2 b2;unfold bR bT;constructor<;>grind
theorem aCj {s:Rat}(x y:Rat)(h:s≠0):bR (1/s) (bR s x y) (bT s x y) = -x/\bT (1/s) (bR s x y) (bT s x y) = -y:=by
 have hs:=cD s;have e1:uu (1/s) = -uu s:=by unfold uu;grind
 have e2:vv (1/s)=vv s:=by unfold vv;grind
 have e3:=aHU s;unfold bR bT;rw[e1,e2];constructor<;>grind
theorem aGw {t:Rat}(x y:Rat)(h:t≠0):bR (-1/t) (-x) (-y)=bR t x y/\bT (-1/t) (-x) (-y)=bT t x y:=by
 have hs:=cD t;have e1:uu (-1/t) = -uu t:=by unfold uu;grind
 have e2:vv (-1/t) = -vv t:=by unfold vv;grind
 unfold bR bT;rw[e1,e2];constructor<;>grind
theorem aIJ {x y:Rat}(h0:¬(x=0/\y=0))(θ:Option Rat):¬((eQ x y θ).1=0/\(eQ x y θ).2=0):=λ⟨a,b⟩=>by have e:=aEI x y θ;unfold OnR at e;rw[a,b] at e;have:=aAu h0;grind
theorem aJ6 {x y:Rat}(h0:¬(x=0/\y=0)){θ ψ:Option Rat}(h1:aBQ θ)(h2:aBQ ψ):BQ 100 (plZ (eQ x y θ).1 (eQ x y θ).2 (eQ x y ψ).1 (eQ x y ψ).2):=by
 have z0:BQ 100 (0:Rat):=.int (by unfold Bd;decide) (by decide);have n0:=aIJ h0 θ;have go:∀{u:Rat},BQ 100 u->bR u (eQ x y θ).1 (eQ x y θ).2=(eQ x y ψ).1->bT u (eQ x y θ).1 (eQ x y θ).2=(eQ x y ψ).2->BQ 100 (plZ (eQ x y θ).1 (eQ x y θ).2 (eQ x y ψ).1 (eQ x y ψ).2):=λ{u} b e1 e2=>by rw[<- e1,<- e2,(iP n0).2];exact b
 have op:(eQ x y ψ).1 = -(eQ x y θ).1->(eQ x y ψ).2 = -(eQ x y θ).2->BQ 100 (plZ (eQ x y θ).1 (eQ x y θ).2 (eQ x y ψ).1 (eQ x y ψ).2):=λe1 e2=>by rw[e1,e2,jQ.2];exact z0
 cases θ with
 |none =>
  cases ψ with
  |none=>exact go z0 ((qA (t:=0) n0).mpr rfl).1 ((qA (t:=0) n0).mpr rfl).2
  |some t =>
   by_cases e:t=0
   ·subst e;have:=(qA (t:=0) h0).mpr rfl;refine op ?_ ?_
    ·show bR 0 x y = - -x;rw[this.1];grind
    ·show bT 0 x y = - -y;rw[this.2];grind
   ·have h2:BQ 9 t:=h2;have:=aGw x y e;exact go ((BQ.div (show BQ 1 (-1:Rat) from⟨by unfold Bd;decide,by unfold Bd;decide⟩) h2 e).mono (by decide)) this.1 this.2
 |some s =>
  have h1:BQ 9 s:=h1;cases ψ with
  |none =>
   by_cases e:s=0
   ·subst e;have:=(qA (t:=0) h0).mpr rfl;refine op ?_ ?_
    ·show -x = -bR 0 x y;rw[this.1]
    ·show -y = -bT 0 x y;rw[this.2]
   ·have:=aCj x y e;exact go ((BQ.div bq1 h1 e).mono (by decide)) this.1 this.2
  |some t =>
   have h2:BQ 9 t:=h2;by_cases e:1+s*t=0
   ·have es:s≠0:=λz=>by rw[z] at e;grind
    have et:t = -1/s:=by grind
    have k:=aCj x y es;refine op ?_ ?_
    ·show bR t x y = -bR s x y;have e1:uu (-1/s) = -uu s:=by have:=cD s;unfold uu;grind
     have e2:vv (-1/s) = -vv s:=by have:=cD s;unfold vv;grind
     unfold bR;rw[et,e1,e2];grind
    ·show bT t x y = -bT s x y;have e1:uu (-1/s) = -uu s:=by have:=cD s;unfold uu;grind
     have e2:vv (-1/s) = -vv s:=by have:=cD s;unfold vv;grind
     unfold bT;rw[et,e1,e2];grind
   ·have:=aHm x y e;exact go ((BQ.div (h2.sub h1) (bq1.add (h1.mul h2)) e).mono (by decide)) this.1 this.2
noncomputable def gM (cx cy x y:Rat)(L:List (Option Rat)):Rd:=⟨cx,cy,x,y,(L.length:Int),λi=>eQ x y (L.getD i.toNat none)⟩
theorem aGI {cx cy x y:Rat}{L:List (Option Rat)}(l0:L≠[])(l1:L.length<=30)(bx:BQ 24 cx)(b_y:BQ 24 cy)(b1:BQ 24 x)(b2:BQ 24 y)(h0:¬(x=0/\y=0))(pw:L.Pairwise λa b=>aAR a<aAR b)(bi:∀θ∈L,aBQ θ):(gM cx cy x y L).Ok:=by
 have gt:∀i:Int,0<=i->i<(L.length:Int)->∃h:i.toNat<L.length,L.getD i.toNat none=L[i.toNat]:=λi a b=>by
  have h:i.toNat<L.length:=by omega
  exact⟨h,by rw[getD_eq_getElem?_getD,getElem?_eq_getElem h];rfl⟩
 have bg:∀i,(gM cx cy x y L).In i->aBQ (L.getD i.toNat none):=λi hi=>by obtain⟨h,e⟩:=gt i hi.1 hi.2;rw[e];exact bi _ (getElem_mem h)
 refine⟨?_,by show(L.length:Int)<=30;omega,bx.mono (by decide),b_y.mono (by decide),h0,λi _=>aEI x y _,λi j i0 ij jm=>?_,λi hi=>?_,λr i hr hi=>aJ6 h0 (bg r hr) (bg i hi)⟩
 ·show 0<(L.length:Int);have:=List.length_pos_iff.mpr l0;omega
 ·have jm:j<(L.length:Int):=jm;obtain⟨h1,e1⟩:=gt i i0 (by omega);obtain⟨h2,e2⟩:=gt j (by omega) jm;show phi x y (eQ x y (L.getD i.toNat none)).1 (eQ x y (L.getD i.toNat none)).2<phi x y (eQ x y (L.getD j.toNat none)).1 (eQ x y (L.getD j.toNat none)).2;rw[aCS h0,aCS h0,e1,e2];exact List.pairwise_iff_getElem.mp pw _ _ h1 h2 (by omega)
 ·have b:=bg i hi;show BQ 200 (eQ x y (L.getD i.toNat none)).1/\BQ 200 (eQ x y (L.getD i.toNat none)).2;generalize L.getD i.toNat none=θ at b;cases θ with
  |none=>exact⟨b1.neg.mono (by decide),b2.neg.mono (by decide)⟩
  |some t =>
   have b:BQ 9 t:=b;have u:=aLT b;have v:=aKY b;exact⟨((u.mul b1).sub (v.mul b2)).mono (by decide),((v.mul b1).add (u.mul b2)).mono (by decide)⟩
noncomputable def ptO (cx cy x y:Rat)(θ:Option Rat):D:=PQ (cx+(eQ x y θ).1) (cy+(eQ x y θ).2)
theorem uN {cx cy x y:Rat}{L:List (Option Rat)}{i:Int}(h:(gM cx cy x y L).In i):atI (L.map (ptO cx cy x y)) i=some ((gM cx cy x y L).pt i):=by
 have h1:=h.1;have h2:i<(L.length:Int):=h.2;have hn:i.toNat<L.length:=by omega
 have e:i=(i.toNat:Int):=by omega
 rw[e];refine iJ ?_;rw[getElem?_map,getElem?_eq_getElem hn];show some (ptO cx cy x y L[i.toNat])=some (PQ (cx+(eQ x y (L.getD _ none)).1) (cy+(eQ x y (L.getD _ none)).2));have:L.getD (Int.toNat ((i.toNat:Nat):Int)) none=L[i.toNat]:=by rw[Int.toNat_natCast,getD_eq_getElem?_getD,getElem?_eq_getElem hn];rfl
 rw[this];rfl
noncomputable def spD (s:Sp):D:=.tup [.int s.1,.int s.2]
theorem aCL {s t:Rat}(h:(0<=s/\s<t)∨(s<t/\t<0)):iB s<iB t:=by
 refine pE.mpr (.inl ⟨?_,by grind⟩);rcases h with h|h
 ·exact⟨λz=>by grind,λz=>by grind⟩
 ·exact⟨λz=>by grind,λz=>by grind⟩
noncomputable def q17 (t:Int):Option Rat:=some ((t:Rat)/((17:Int):Rat))
theorem zF {t:Int}(h1:-300<=t)(h2:t<=300):aBQ (q17 t):=.make (n:=9) (by decide) (by unfold Bd;omega) (by unfold Bd;decide)
theorem aEu {s t:Int}(h:s<t):((s:Rat)/((17:Int):Rat))<((t:Rat)/((17:Int):Rat)):=by
 have l:(s:Rat)<(t:Rat):=by exact_mod_cast h
 have e:((17:Int):Rat)=17:=rfl;rw[e];grind
theorem aDM {t:Int}(h:0<=t):0<=((t:Rat)/((17:Int):Rat)):=by
 have l:(0:Rat)<=(t:Rat):=by exact_mod_cast h
 have e:((17:Int):Rat)=17:=rfl;rw[e];grind
theorem aEz {t:Int}(h:t<0):((t:Rat)/((17:Int):Rat))<0:=by
 have l:(t:Rat)<(0:Rat):=by exact_mod_cast h
 have e:((17:Int):Rat)=17:=rfl;rw[e];grind
noncomputable def q0:Option Rat:=some 0
structure StL (L:List (Option Rat))(v:Rat):Prop where
 ne:L≠[]
 pw:L.Pairwise λa b=>aAR a<aAR b
 lt:∀θ∈L,aAR θ<=v
 bi:∀θ∈L,aBQ θ
theorem StL.add {L:List (Option Rat)}{v:Rat}(h:StL L v){θ:Option Rat}(l:v<aAR θ)(b:aBQ θ):StL (L++[θ]) (aAR θ):=by
 refine⟨by simp,List.pairwise_append.mpr ⟨h.pw,pairwise_singleton _ _,λx hx y hy=>?_⟩,λx hx=>?_,λx hx=>?_⟩
 ·rw[List.mem_singleton.mp hy];have:=h.lt x hx;grind
 ·rcases List.mem_append.mp hx with z|z
  ·have:=h.lt x z;grind
  ·rw[List.mem_singleton.mp z];grind
 ·rcases List.mem_append.mp hx with z|z
  ·exact h.bi x z
  ·rw[List.mem_singleton.mp z];exact b
theorem StL.up {L:List (Option Rat)}{v v':Rat}(h:StL L v)(l:v<=v'):StL L v':=⟨h.ne,h.pw,λθ hθ=>by have:=h.lt θ hθ;grind,h.bi⟩
theorem aDV (c x:Rat):zs (-1) (zs 1 c c) (c+x)=c + -x:=by rw[aFk,aEY];grind
def sB:DSp:=λds M Q=>∃a n cx cy x y,ds=[.ref a,PQ cx cy,PQ (cx+x) (cy+y)]/\FdN M a n/\n<=20000/\BQ 24 cx/\BQ 24 cy/\BQ 24 x/\BQ 24 y/\¬(x=0/\y=0) /\
 ∀(p:Addr)(M':DM) (L:List (Option Rat)) v,(∀b:AK,b ≠ .l a->∀o,M b=some o->M' b=some o)->M (.l p)=none->M' (.l p)=some (L.map (ptO cx cy x y))->StL L v->L.length<=12->Q (.ref p) M'
noncomputable abbrev nR:Stmt:=top 67
theorem dE:aS ["_law_from","_law_c","_law_a","_law_found","_law_top","_law_many","_law_k"] ["_law_from","_law_c","_law_a"] (aI nR):=by ac_rfl
theorem wR (hF:cM K mg "_law_stops" nR ["_law_from","_law_c","_law_a"])(gY:Has P w K mg base 104 "_law_at_share" ["_law_c","_law_a","_law_t"] iT)(bJ:Has P w K mg base 101 "_law_draw" ["_law_from","_law_many"] kI)(dR:Has P w K mg base 103 "_law_both" ["_law_p","_law_q","_law_by"] kF)(bF:Has P w K mg base 101 "_law_lowest" ["_law_top","_law_bottom"] eE)(kA:mg "range" = none):Has P w K mg base 105 "_law_stops" ["_law_from","_law_c","_law_a"] sB:=by
 refine Has.mkZ hF dE (λds M Q ⟨_,_,_,_,_,_,e,_⟩=>by rw[e];rfl) λf cdv A outer s H ds M Q E hr h=>?_;obtain⟨a,n,cx,cy,x,y,rfl,fd,hn,b1,b2,b3,b4,h0,q⟩:=h;refine⟨_,(aF (aM (i:=3) dE.nd (fK (aB (aA 2) aD)))
  (aF (aM (i:=4) dE.nd aC)
  (aF (aM (i:=5) dE.nd (aE bJ hr (by decide) (aB (aA 0) (aB aC aD))))
  (aF (rJ PassesOwn.never rfl kA (aB (aA 5) aD) (aR (i:=6) dE.nd) (aF (aM (i:=4) dE.nd (aK cY (aK cY (aA 4) aC) (aE bJ hr (by decide) (aB (aA 0) (aB aC aD)))))
  (aG (fQ (dJ (aA 3) (aE gY hr (by decide) (aB (aA 1) (aB (aA 2) (aB (aE bF hr (by decide) (aB (aA 4) (aB aC aD))) aD)))))))))
  (jP (bV (aY (eP hr) (aE bJ hr (by decide) (aB (aA 0) (aB aC aD))) aC) (aG (fQ (dJ (aA 3) (aE dR hr (by decide) (aB (aE dR hr (by decide) (aB (aA 1) (aB (aA 1) (aB aC aD)))) (aB (aA 2) (aB (eG aC) aD))))))) aZ)
  (aF (aM (i:=4) dE.nd (eG aC))
  (aF (rJ PassesOwn.never rfl kA (aB (aE bJ hr (by decide) (aB (aA 0) (aB aC aD))) aD) (aR (i:=6) dE.nd) (aF (aM (i:=4) dE.nd (aK cY (aK cY (aA 4) aC) (aE bJ hr (by decide) (aB (aA 0) (aB aC aD)))))
  (aG (fQ (dJ (aA 3) (aE gY hr (by decide) (aB (aA 1) (aB (aA 2) (aB (aE bF hr (by decide) (aB (aA 4) (aB aC aD))) aD)))))))))
  (aG (aO (aA 3)))))))))),?_⟩
 ac_nf;have aN:∀{N:DM},(∀b:AK,b ≠ .l a->∀o,M b=some o->N b=some o)->∀{N'},Adv N N' a->∀b:AK,b ≠ .l a->∀o,M b=some o->N' b=some o:=λh N' v b nb o e=>by rw[v.ak nb];exact h b nb o e
 have z0:ptO cx cy x y (some 0)=PQ (cx+x) (cy+y):=by have:=(qA (t:=0) h0).mpr rfl;show PQ (cx+bR 0 x y) (cy+bT 0 x y)=_;rw[this.1,this.2]
 have bb:∀{n:Nat}{z:Rat},n<=200->BQ n z->BQ 200 z:=λl h=>h.mono l;have shr:∀{t:Int}{N:DM} {Q:DQ},-300<=t->t<=300->Q (ptO cx cy x y (q17 t)) N->iT [PQ cx cy,PQ (cx+x) (cy+y),FQ ((t:Rat)/((17:Int):Rat))] N Q:=λ{t N Q} h1 h2 q=>by refine⟨_,_,_,_,_,rfl,bb (by decide) b1,bb (by decide) b2,bb (by decide) (b1.add b3),bb (by decide) (b2.add b4),BQ.mono (zF h1 h2) (by decide),?_⟩;rw[jW,jW];exact q
 have low:∀{t:Int}{N:DM} {Q:DQ},Q (FQ ((t:Rat)/((17:Int):Rat))) N->eE [.int t,.int 17] N Q:=λq=>⟨_,_,rfl,by decide,Bd.mono (m:=8) (by unfold Bd;decide) (by decide),q⟩;have p0:iB 0=0:=by unfold iB;rw[if_neg (by grind)];grind
 refine⟨by decide,λp hp=>?_⟩;have hap:a≠p:=by obtain⟨_,_,_,e,_⟩:=fd;exact bM e hp
 have pN:∀{N:DM},(∀b:AK,b ≠ .l a->∀o,M b=some o->N b=some o)->∀ds,∀b:AK,b ≠ .l a->∀o,M b=some o->aX N p ds b=some o:=λh ds b nb o e=>by rw[eU (bB e hp)];exact h b nb o e
 have fP:∀{N:DM}{k:Nat} {ds:List D},FdN N a k->FdN (aX N p ds) a k:=λ{N k ds} ⟨c,j,f,e,r⟩=>⟨c,j,f,by rw[cK hap];exact e,r⟩;have k0:∀b:AK,b ≠ .l a->∀o,M b=some o->aX M p [PQ (cx+x) (cy+y)] b=some o:=pN (λb _ o e=>e) _;have f0:=fP (ds:=[PQ (cx+x) (cy+y)]) fd;have h0p:aX M p [PQ (cx+x) (cy+y)] (.l p)=some (([some 0]:List (Option Rat)).map (ptO cx cy x y)):=by rw[aJ,map_cons,z0];rfl
 generalize aX M p [PQ (cx+x) (cy+y)]=M0 at k0 f0 h0p ⊢;refine⟨a,6,n,rfl,f0,by omega,by decide,bdk (by decide),λmany M1 w0 w1 f1 av1=>?_⟩;have k1:=aN k0 av1;have h1p:=(av1 p (Ne.symm hap)).trans h0p;ac_nf;refine⟨⟨by omega,by omega⟩,λi ρ N=>∃(top:Int)(L:List (Option Rat)),(∀b:AK,b ≠ .l a->∀o,M b=some o->N b=some o)/\N (.l p)=some (L.map (ptO cx cy x y))/\StL L (iB ((top:Rat)/((17:Int):Rat)))/\(0<=top/\top<=40*(i:Int))/\L.length=1+i/\FdN N a (n+1+i)/\∃o,ρ=[some (.ref a),some (PQ cx cy),some (PQ (cx+x) (cy+y)),some (.ref p),some (.int top),some (.int many),o],⟨0,[some 0],k1,h1p,⟨by simp,pairwise_singleton _ _,λθ hθ=>?_,λθ hθ=>?_⟩,⟨by decide,by omega⟩,rfl,f1,none,rfl⟩,?_,?_⟩
 ·rw[List.mem_singleton.mp hθ];show iB 0<=iB (((0:Int):Rat)/((17:Int):Rat));rw[show((0:Int):Rat)/((17:Int):Rat)=0 by decide +kernel];grind
 ·rw[List.mem_singleton.mp hθ];exact(show BQ 9 (0:Rat) from .int (by unfold Bd;decide) (by decide))
 ·rintro i ρ N hi ⟨top,L,kN,hL,st,⟨t0,t1⟩,lL,fN,o,rfl⟩;have hi5:i<5:=by omega
  ac_nf;refine⟨a,40,_,rfl,fN,by omega,by decide,bdk (by decide),λr N2 r0 r1 f2 av2=>?_⟩;have k2:=aN kN av2;have h2p:=(av2 p (Ne.symm hap)).trans hL;ac_nf;refine⟨⟨_,h2p⟩,low ?_⟩;refine shr (by omega) (by omega) ⟨_,_,rfl,h2p,by rw[length_map];omega,top+1+r,L++[q17 (top+1+r)],pN k2 _,by rw[aJ,map_append];rfl,st.add (aCL (.inl ⟨aDM t0,aEu (by omega)⟩)) (zF (by omega) (by omega)),⟨by omega,?_⟩,by rw[length_append,lL];rfl,fP f2,_,rfl⟩;rw[Int.natCast_add];omega
 ·rintro ρ N ⟨top,L,kN,hL,st,⟨t0,t1⟩,lL,fN,o,rfl⟩;have m5:many.toNat<=5:=by omega
  ac_nf;refine⟨λρ N=>∃(L:List (Option Rat)),(∀b:AK,b ≠ .l a->∀o,M b=some o->N b=some o)/\N (.l p)=some (L.map (ptO cx cy x y))/\StL L 1/\L.length<=7/\FdN N a (n+20)/\∃o4 o5 o6,ρ=[some (.ref a),some (PQ cx cy),some (PQ (cx+x) (cy+y)),some (.ref p),o4,o5,o6],⟨a,2,_,rfl,fN,by omega,by decide,bdk (by decide),λr N2 r0 r1 f2 av2=>?_⟩,?_⟩
  ·have k2:=aN kN av2;have h2p:=(av2 p (Ne.symm hap)).trans hL;have v1:iB ((top:Rat)/((17:Int):Rat))<1:=(lA (aDM t0)).2.2;ac_nf;rw[eR];by_cases c:r=0
   ·refine ifT (decide_eq_true c) ⟨⟨_,h2p⟩,_,_,_,_,_,_,_,rfl,.inl rfl,b1,b2,b1,b2,by decide,?_⟩;ac_nf;refine⟨_,_,_,_,_,_,_,rfl,.inr rfl,aCu (z:=1) b1 b1,aCu (z:=1) b2 b2,b1.add b3,b2.add b4,by decide,?_⟩;ac_nf;refine⟨_,_,rfl,h2p,by rw[length_map];omega,L++[none],pN k2 _,?_,st.add v1 trivial,by rw[length_append];show _+1<=_;omega,(fP f2).mono (by omega),_,_,_,rfl⟩;rw[aJ,map_append,aDV,aDV];rfl
   ·exact ifF (decide_eq_false c) ⟨L,k2,h2p,st.up (by grind),by omega,f2.mono (by omega),_,_,_,rfl⟩
  rintro _ N ⟨L,kN,hL,st,lL,fN,o4,o5,o6,rfl⟩;ac_nf;refine⟨a,6,_,rfl,fN,by omega,by decide,bdk (by decide),λmany2 N2 w20 w21 f2 av2=>?_⟩;have k2:=aN kN av2;have h2p:=(av2 p (Ne.symm hap)).trans hL;ac_nf;refine⟨⟨by omega,by omega⟩,λi ρ N=>∃(top:Int)(L:List (Option Rat)) (v:Rat),(∀b:AK,b ≠ .l a->∀o,M b=some o->N b=some o)/\N (.l p)=some (L.map (ptO cx cy x y))/\StL L v/\(∀t,top<t->t<0->v<iB ((t:Rat)/((17:Int):Rat)))/\(-200<=top/\top<=-200+38*(i:Int))/\L.length<=7+i/\FdN N a (n+21+i)/\∃o5 o6,ρ=[some (.ref a),some (PQ cx cy),some (PQ (cx+x) (cy+y)),some (.ref p),some (.int top),o5,o6],⟨-200,L,1,k2,h2p,st,λt _ t0=>?_,⟨by decide,by omega⟩,lL,f2,_,_,rfl⟩,?_,?_⟩
  ·have:=(kY (aEz t0)).2.1;grind
  ·rintro i ρ N hi ⟨top,L,v,kN,hL,st,vt,⟨t0,t1⟩,lL,fN,o5,o6,rfl⟩;have hi5:i<5:=by omega
   ac_nf;refine⟨a,38,_,rfl,fN,by omega,by decide,bdk (by decide),λr N2 r0 r1 f2 av2=>?_⟩;have k2:=aN kN av2;have h2p:=(av2 p (Ne.symm hap)).trans hL;ac_nf;refine⟨⟨_,h2p⟩,low ?_⟩;refine shr (by omega) (by omega) ⟨_,_,rfl,h2p,by rw[length_map];omega,top+1+r,L++[q17 (top+1+r)],_,pN k2 _,by rw[aJ,map_append];rfl,st.add (vt _ (by omega) (by omega)) (zF (by omega) (by omega)),λt h1 h2=>aCL (.inr ⟨aEu h1,aEz h2⟩),⟨by omega,?_⟩,by rw[length_append];show _+1<=_;omega,fP f2,_,_,rfl⟩;rw[Int.natCast_add];omega
  ·rintro ρ N ⟨top,L,v,kN,hL,st,vt,_,lL,fN,o5,o6,rfl⟩;ac_nf;exact lC (q p N L v kN hp hL st (by omega))
theorem kU.none {N M:DM}{p a:Addr}{W:List D}(h:kU N M p)(hp:M (.l p)=some W)(ha:M (.l a)=none):N (.l a)=none:=by
 cases e:N (.l a) with
 |none=>rfl
 |some o =>
  by_cases z:a=p
  ·rw[z,hp] at ha;cases ha
  ·rw[h.l z e] at ha;cases ha
theorem kU.adv {N M M':DM}{p a:Addr}(h:kU N M p)(v:Adv M M' a)(n:N (.l a)=Option.none):kU N M' p:=λb nb o e=>by rw[v.ak (bB e n)];exact h b nb o e
def rT:DSp:=λds M Q=>∃(ns:List Int)(m:Int),ds=[.fz (ns.map D.int),.int m]/\0<m/\m<=12 /\
 ∀(p:Addr)(M':DM) (S:List Sp),bD M M'->M (.l p)=none->M' (.l p)=some (S.map spD)->(∀s∈S,(0<=s.1/\s.1<m)/\0<=s.2/\s.2<=m)->S.length<=10->Q (.ref p) M'
noncomputable abbrev oV:Stmt:=top 68
theorem dI:aS ["_law_script","_law_many","_law_found","_law_cell","_law_from","_law_at","_law_way","_law_long"] ["_law_script","_law_many"] (aI oV):=by ac_rfl
theorem wU (hF:cM K mg "_law_spans" oV ["_law_script","_law_many"])(iA:Has P w K mg base 101 "_law_feed" ["_law_cell"] oQ)(bJ:Has P w K mg base 101 "_law_draw" ["_law_from","_law_many"] kI)(eK:mg "len" = none)(xW:mg "int" = none)(aEg:mg "min" = none):Has P w K mg base 103 "_law_spans" ["_law_script","_law_many"] rT:=by
 refine Has.mkZ hF dI (λds M Q ⟨_,_,e,_⟩=>by rw[e];rfl) λf cdv A outer s H ds M Q E hr h=>?_;obtain⟨ns,m,rfl,m0,m1,q⟩:=h;refine⟨_,(aF (aM (i:=2) dI.nd (fK aD))
  (aF (lD PassesOwn.never rfl (aK cY (lP (aA 0) (gG aC) (gG aC)) (aK aAk (fK (aB aC aD)) (jF aEp xW (aB (gI pU (bX jH eK (aB (aA 0) aD)) aC) aD)))) (aR (i:=3) dI.nd) (aF (aM (i:=4) dI.nd (aE iA hr (by decide) (aB (aA 3) aD)))
  (aF (aM (i:=5) dI.nd (aE bJ hr (by decide) (aB (aA 4) (aB (aA 1) aD))))
  (aF (aM (i:=6) dI.nd (aE bJ hr (by decide) (aB (aA 4) (aB aC aD))))
  (aF (aM (i:=7) dI.nd (aK cY aC (aE bJ hr (by decide) (aB (aA 4) (aB (aA 1) aD)))))
  (jP (bV (aY xY (aA 6) aC) (aG (aM (i:=7) dI.nd (aK cY aC (aK fJ (aK bE (aA 7) (aE bJ hr (by decide) (aB (aA 4) (aB aC aD)))) aC)))) aZ)
  (jP (bV (aY (eP hr) (aA 6) aC) (aG (aM (i:=7) dI.nd aC)) aZ)
  (aG (fQ (dJ (aA 2) (bC (aB (aA 5) (aB (bX (aIj rfl) aEg (aB (aA 7) (aB (aA 1) aD))) aD)))))))))))))
  (aG (aO (aA 2))))),?_⟩
 ac_nf;refine⟨by decide,λp hp p1 hp1=>⟨by decide,λp2 hp2=>⟨_,aJ,by simp,by split<;>decide,by split<;>decide,by split<;>decide,λp3 hp3=>?_⟩⟩⟩;have l1:(Dd.cutD (ns.map D.int) (some 1) (some 9)).length<=8:=by unfold Dd.cutD;rw[show(1:Int)=((1:Nat):Int) from rfl,show(9:Int)=((9:Nat):Int) from rfl,HT.sIx_nat,HT.sIx_nat,length_take];omega
 have i1:∀d∈Dd.cutD (ns.map D.int) (some 1) (some 9),∃c:Int,d=.int c:=λd hd=>by obtain⟨c,_,e⟩:=List.mem_map.mp (aGl hd);exact⟨c,e.symm⟩
 have i2:∀m:Nat,∀d∈(replicate m [D.int 0]).flatten,∃c:Int,d=.int c:=λm d hd=>by obtain⟨l,hl,hd⟩:=List.mem_flatten.mp hd;rw[List.eq_of_mem_replicate hl,mem_singleton] at hd;exact⟨0,hd⟩
 have l2:((replicate (if decide ((((ns.map D.int).length:Nat):Int)<2)=true then (1:Int) else 0).toNat [D.int 0]).flatten).length<=1:=by split<;>exact Nat.le_of_ble_eq_true rfl
 generalize (if decide ((((ns.map D.int).length:Nat):Int)<2)=true then (1:Int) else 0).toNat=mm at l2 ⊢;have i2:=i2 mm;generalize (replicate mm [D.int 0]).flatten=R at l2 i2 ⊢;generalize Dd.cutD (ns.map D.int) (some 1) (some 9)=C at l1 i1 hp2 hp3 ⊢;ac_nf;have e1:aX (aX (aX (aX M p []) p1 C) p2 [D.int 0]) p3 R (.l p1)=some C:=by rw[cK (bM (by rw[cK (bM aJ hp2)];exact aJ) hp3),cK (bM aJ hp2)];exact aJ
 have s3:bD (aX M p []) (aX (aX (aX (aX M p []) p1 C) p2 [D.int 0]) p3 R):=((bD.new hp1 _).trans (bD.new hp2 _)).trans (bD.new hp3 _);refine⟨C,R,e1,aJ,by omega,λp4 hp4=>⟨_,aJ,?_⟩⟩;have s4:=s3.trans (bD.new hp4 (C++R));have e4:aX (aX (aX (aX (aX M p []) p1 C) p2 [D.int 0]) p3 R) p4 (C++R) (.l p4)=some (C++R):=aJ;have np:p4≠p:=λz=>by rw[z,s3 _ _ aJ] at hp4;cases hp4
 generalize aX (aX (aX (aX (aX M p []) p1 C) p2 [D.int 0]) p3 R) p4 (C++R)=N0 at s4 e4 ⊢;have ic:∀d∈C++R,∃c:Int,d=.int c:=λd hd=>(List.mem_append.mp hd).elim (i1 d) (i2 d);have lc:(C++R).length<=9:=by rw[length_append];omega
 generalize C++R=CS at ic lc e4 ⊢;have pN:N0 (.l p)=some (([]:List Sp).map spD):=s4 _ _ aJ;have bm:Bd 8999 m:=Bd.mono (m:=8) (by unfold Bd;omega) (by decide);refine⟨λi ρ M'=>kU N0 M' p/\(∃S:List Sp,M' (.l p)=some (S.map spD)/\S.length=i/\∀s∈S,(0<=s.1/\s.1<m)/\0<=s.2/\s.2<=m)/\∃o3 o4 o5 o6 o7,ρ=[some (.fz (ns.map D.int)),some (.int m),some (.ref p),o3,o4,o5,o6,o7],⟨.of (.refl _) p,⟨[],pN,rfl,λs h=>by cases h⟩,_,_,_,_,_,rfl⟩,?_,?_,?_⟩
 ·rintro i ρ M' _ ⟨a1,_⟩ a e;cases e;exact a1.l np e4
 ·rintro i d ρ M' hd ⟨a1,⟨S,hS,lS,bS⟩,o3,o4,o5,o6,o7,rfl⟩;have hi:=(List.getElem?_eq_some_iff.mp hd).1;obtain⟨c,rfl⟩:=ic d (mem_of_getElem? hd);ac_nf;refine⟨c,rfl,λpg Mg hpg fdg avg=>?_⟩;have npg:p≠pg:=bM hS hpg;have ng:=a1.none hS hpg;have a2:=a1.adv avg ng;have hS2:=(avg p npg).trans hS;clear a1 hS avg hpg;ac_nf;refine⟨pg,m,0,rfl,fdg,by decide,m0,bm,λat' M5 t0 t1 fd5 av5=>?_⟩;have a5:=a2.adv av5 ng;have hS5:=(av5 p npg).trans hS2;clear a2 hS2 fdg av5;ac_nf;refine⟨pg,12,_,rfl,fd5,by decide,by decide,bdk (by decide),λway M6 w0 w1 fd6 av6=>?_⟩;have a6:=a5.adv av6 ng;have hS6:=(av6 p npg).trans hS5;clear a5 hS5 fd5 av6;ac_nf;refine⟨pg,m,_,rfl,fd6,by decide,m0,bm,λlo M7 l0 l1 fd7 av7=>?_⟩;have a7:=a6.adv av7 ng;have hS7:=(av7 p npg).trans hS6;clear a6 hS6 fd6 av7;ac_nf;refine⟨λρ' N=>∃t:Int,0<=t/\kU N0 N p/\N (.l p)=some (S.map spD)/\ρ'=[some (.fz (ns.map D.int)),some (.int m),some (.ref p),some (.int c),some (.ref pg),some (.int at'),some (.int way),some (.int t)],?_,?_⟩
  ·refine dif (λ_=>?_) (λ_=>⟨1+lo,by omega,a7,hS7,rfl⟩);refine⟨pg,3,_,rfl,fd7,by decide,by decide,bdk (by decide),λr M8 r0 r1 fd8 av8=>?_⟩;ac_nf;have e:(1+lo)*r=0∨(1+lo)*r=1+lo∨(1+lo)*r=(1+lo)*2:=by rcases (show r=0∨r=1∨r=2 by omega) with z|z|z<;>subst z<;>simp
   refine⟨cG (m:=8) (n:=8) (by unfold Bd;omega) (by unfold Bd;omega),⟨by decide,by decide +kernel⟩,1+((1+lo)*r).fdiv 4,?_,a7.adv av8 ng,(av8 p npg).trans hS7,rfl⟩;have:0<=((1+lo)*r).fdiv 4:=Int.fdiv_nonneg (by omega) (by decide);omega
  rintro _ M8 ⟨t,t0',a8,hS8,rfl⟩;ac_nf;refine⟨λρ' N=>∃t:Int,0<=t/\kU N0 N p/\N (.l p)=some (S.map spD)/\ρ'=[some (.fz (ns.map D.int)),some (.int m),some (.ref p),some (.int c),some (.ref pg),some (.int at'),some (.int way),some (.int t)],?_,?_⟩
  ·rw[eR];exact dif (λ_=>⟨0,by decide,a8,hS8,rfl⟩) (λ_=>⟨t,t0',a8,hS8,rfl⟩)
  rintro _ M9 ⟨t,t0',a9,hS9,rfl⟩;ac_nf;refine⟨⟨_,hS9⟩,by decide,_,_,rfl,hS9,by rw[length_map];omega,a9.trans .put,⟨S++[(at',if m<t then m else t)],by rw[aJ,map_append];rfl,by rw[length_append,lS];rfl,λs hs=>?_⟩,_,_,_,_,_,rfl⟩;rcases List.mem_append.mp hs with h|h
  ·exact bS s h
  ·rw[List.mem_singleton.mp h];refine⟨⟨t0,t1⟩,?_,?_⟩
   ·show 0<=if m<t then m else t
    split<;>omega
   ·show(if m<t then m else t)<=m;split<;>omega
 ·rintro ρ M' ⟨a1,⟨S,hS,lS,bS⟩,o3,o4,o5,o6,o7,rfl⟩;ac_nf;exact lC (q p M' S (λb o e=>a1 b (bB e hp) o (s4 _ _ ((bD.new hp _) _ _ e))) hp hS bS (by omega))
theorem vF {m i k:Int}(hi:0<=i/\i<m)(hk:0<=k/\k<m):(i+k).fmod m=stp m i k:=by
 rw[Int.fmod_eq_emod_of_nonneg _ (by omega)];unfold stp;split
 ·exact Int.emod_eq_of_lt (by omega) (by omega)
 ·rw[<- Int.sub_emod_right,Int.emod_eq_of_lt (by omega) (by omega)]
def mW:DSp:=λds M Q=>∃(l:Addr)(cx cy x y:Rat) (L:List (Option Rat)) (i k:Int),ds=[PQ cx cy,.ref l,.int i,.int k]/\M (.l l)=some (L.map (ptO cx cy x y))/\L.length<=100/\(gM cx cy x y L).it0 (i,k)/\Q ((gM cx cy x y L).pc (i,k)) M
noncomputable abbrev nJ:Stmt:=top 69
theorem sG:aS ["_law_c","_law_stops_here","_law_at","_law_long","_law_p"] ["_law_c","_law_stops_here","_law_at","_law_long"] (aI nJ):=by ac_rfl
theorem wV (hF:cM K mg "_law_piece" nJ ["_law_c","_law_stops_here","_law_at","_law_long"])(eK:mg "len" = none):Has P w K mg base 101 "_law_piece" ["_law_c","_law_stops_here","_law_at","_law_long"] mW:=by
 refine Has.mkZ hF sG (λds M Q ⟨_,_,_,_,_,_,_,_,e,_⟩=>by rw[e];rfl) λf cdv A outer s H ds M Q E hr h=>?_;obtain⟨l,cx,cy,x,y,L,i,k,rfl,hl,ln,⟨hi,k0,k1⟩,q⟩:=h;refine⟨_,(aF (aM (i:=4) sG.nd (aH (aA 1) (aA 2)))
  (aF (bV (aY (eP hr) (aA 3) aC) (aG (aO (bC (aB dW (aB (aA 4) aD))))) aZ)
  (aF (bV (aY (eP hr) (aA 3) (bX jH eK (aB (aA 1) aD))) (aG (aO (bC (aB dW (aB (aA 0) (aB (aA 4) aD)))))) aZ)
  (aG (aO (bC (aB dW (aB (aA 0) (aB (aA 4) (aB (aH (aA 1) (aK kX (aK cY (aA 2) (aA 3)) (bX jH eK (aB (aA 1) aD)))) aD)))))))))),?_⟩
 ac_nf;have hi':=hi;have ml:(gM cx cy x y L).m=(L.length:Int):=rfl;refine⟨_,_,hl,uN (L:=L) (i:=i) hi,?_⟩;ac_nf;rw[eR];unfold Rd.pc at q;dsimp only at q;by_cases c0:k=0
 ·rw[if_pos c0] at q;exact ifT (decide_eq_true c0) ⟨by decide,M,.refl _,q⟩
 rw[if_neg c0] at q;refine ifF (decide_eq_false c0) ?_;ac_nf;refine⟨_,hl,?_⟩;have eL:(((L.map (ptO cx cy x y)).length:Nat):Int)=(gM cx cy x y L).m:=by rw[length_map];rfl
 rw[eL,eR];by_cases c1:k=(gM cx cy x y L).m
 ·rw[if_pos c1] at q;exact ifT (decide_eq_true c1) ⟨by decide,M,.refl _,q⟩
 rw[if_neg c1] at q;have j:=cQ hi ⟨k0,show k<(gM cx cy x y L).m from Int.lt_iff_le_and_ne.mpr ⟨k1,c1⟩⟩;refine ifF (decide_eq_false c1) ⟨_,hl,?_⟩;rw[eL,vF hi ⟨k0,show k<(gM cx cy x y L).m from Int.lt_iff_le_and_ne.mpr ⟨k1,c1⟩⟩];exact⟨by have:=hi.1;have:=hi.2;omega,_,_,hl,uN (L:=L) j,by decide,M,.refl _,q⟩
noncomputable def fl (m:Nat)(f:Int->Prop):List D:=(range m).map λg:Nat=>.bl (@decide (f (g:Int)) (Classical.propDecidable _))
theorem tH (m:Nat)(f:Int->Prop):(fl m f).length=m:=by unfold fl;rw[length_map,List.length_range]
theorem lR {m:Nat}{f f':Int->Prop}(h:∀g,0<=g->g<(m:Int)->(f g↔f' g)):fl m f=fl m f':=by unfold fl;refine List.map_congr_left λg hg=>?_;have:=List.mem_range.mp hg;have e:f (g:Int)=f' (g:Int):=propext (h g (by omega) (by omega));congr 1;exact @decide_eq_decide _ _ (Classical.propDecidable _) (Classical.propDecidable _) |>.mpr (by rw[e])
theorem yK {m:Nat}{f:Int->Prop}{i:Nat}(h:i<m):(fl m f)[i]?=some (.bl (@decide (f (i:Int)) (Classical.propDecidable _))):=by unfold fl;rw[getElem?_map,List.getElem?_range h];rfl
theorem aCt {m:Nat}{f:Int->Prop}{i:Int}(h0:0<=i)(h:i<(m:Int)):∃b:Bool,atI (fl m f) i=some (.bl b)/\(b=true↔f i):=by
 have e:i=(i.toNat:Int):=by omega
 refine⟨@decide (f i) (Classical.propDecidable _),?_,@decide_eq_true_iff _ (Classical.propDecidable _)⟩;rw[e];exact iJ (yK (by omega))
theorem aLn {m:Nat}{f:Int->Prop}{i:Int}(h0:0<=i)(h:i<(m:Int)):∃b:Bool,atI (fl m f) (i-1)=some (.bl b)/\(b=true↔f (pg m i)):=by
 unfold pg;by_cases e:i=0
 ·rw[if_pos e,e];refine⟨@decide (f ((m:Int)-1)) (Classical.propDecidable _),?_,@decide_eq_true_iff _ (Classical.propDecidable _)⟩;have:atI (fl m f) (-1)=(fl m f)[m-1]?:=by unfold atI ixN;rw[if_neg (by decide),if_pos (by rw[tH];omega),tH];show(fl m f)[(-1+(m:Int)).toNat]?=_;rw[show(-1+(m:Int)).toNat=m-1 by omega]
  rw[show(0:Int)-1 = -1 from rfl,this,yK (by omega),show((m-1:Nat):Int)=(m:Int)-1 by omega]
 ·rw[if_neg e];exact aCt (by omega) (by omega)
theorem aDX {m:Nat}{f:Int->Prop}{i:Int}(h0:0<=i)(h:i<(m:Int)):∃j,ixN (fl m f).length i=some j/\(fl m f).set j (.bl true)=fl m λg=>f g∨g=i:=by
 refine⟨i.toNat,?_,?_⟩
 ·unfold ixN;rw[if_pos h0,tH,if_pos (by omega)]
 ·refine List.ext_getElem? λk=>?_;by_cases k1:k<m
  ·rw[yK k1,getElem?_set];by_cases e:i.toNat=k
   ·rw[if_pos e,if_pos (by rw[tH];omega)];congr 2;exact(@decide_eq_true _ (Classical.propDecidable _) (.inr (by omega))).symm
   ·rw[if_neg e,yK k1];congr 2;exact @decide_eq_decide _ _ (Classical.propDecidable _) (Classical.propDecidable _) |>.mpr ⟨.inl,λz=>z.elim id λz=>by omega⟩
  ·rw[getElem?_eq_none (by rw[length_set,tH];omega),getElem?_eq_none (by rw[tH];omega)]
theorem aLN (m:Nat)(f:Int->Prop):∃bs:List Bool,fl m f=bs.map D.bl/\(bs.all id=true ↔ ∀g,0<=g->g<(m:Int)->f g):=by
 refine⟨(range m).map λg:Nat=>@decide (f (g:Int)) (Classical.propDecidable _),by unfold fl;rw[map_map];rfl,?_⟩;rw[List.all_eq_true];constructor
 ·intro h g g0 gm;have:=h _ (List.mem_map.mpr ⟨g.toNat,List.mem_range.mpr (by omega),rfl⟩);have e:((g.toNat:Nat):Int)=g:=by omega
  rw[e] at this;exact @of_decide_eq_true _ (Classical.propDecidable _) this
 ·intro h b hb;obtain⟨g,hg,rfl⟩:=List.mem_map.mp hb;have:=List.mem_range.mp hg;exact @decide_eq_true _ (Classical.propDecidable _) (h g (by omega) (by omega))
theorem aJl (m:Nat):(replicate m [D.bl false]).flatten=fl m λ_=>False:=by
 unfold fl;refine List.ext_getElem? λk=>?_;rw[List.flatten_replicate_singleton,List.getElem?_replicate,getElem?_map];by_cases h:k<m
 ·rw[if_pos h,List.getElem?_range h];show some (D.bl false)=some (D.bl _);congr 2;exact(@decide_eq_false _ (Classical.propDecidable _) id).symm
 ·rw[if_neg h,getElem?_eq_none (by rw[List.length_range];omega)];rfl
theorem aKx {m:Int}{S:List Sp}(hS:∀x∈S,(0<=x.1/\x.1<m)/\0<=x.2/\x.2<=m){g:Int}(hg:0<=g/\g<m):Cov m (S.filter tl) g↔Cov m S g:=by
 constructor
 ·rintro⟨x,hx,z⟩;exact⟨x,(List.mem_filter.mp hx).1,z⟩
 ·rintro⟨x,hx,z⟩;have:=dB (hS x hx).1 hg;exact⟨x,List.mem_filter.mpr ⟨hx,by unfold tl;simp;omega⟩,z⟩
def Itm (m:Int)(S:List Sp)(x:Sp):Prop:=MRi m (Cov m S) x∨(x.2=0/\x∈S/\¬Cov m S x.1/\¬Cov m S (pg m x.1))
theorem aDG {m:Int}{C C':Int->Prop}(m0:0<m)(h:∀g,0<=g->g<m->(C g↔C' g))(x:Sp):MRi m C x↔MRi m C' x:=by
 have pg':∀a,0<=a/\a<m->0<=pg m a/\pg m a<m:=λa ha=>by unfold pg;split<;>omega
 have go:∀{C C':Int->Prop},(∀g,0<=g->g<m->(C g↔C' g))->MRi m C x->MRi m C' x:=λh ⟨a,b,c,d,e⟩=>by have i1:=cQ a ⟨Int.le_of_lt b.1,b.2⟩;exact⟨a,b,λk k0 kl=>(h _ (cQ a ⟨k0,by omega⟩).1 (cQ a ⟨k0,by omega⟩).2).mp (c k k0 kl),λz=>d ((h _ (pg' _ a).1 (pg' _ a).2).mpr z),λz=>e ((h _ i1.1 i1.2).mpr z)⟩
 exact⟨go h,go λg a b=>(h g a b).symm⟩
theorem aGz {m:Int}{C:Int->Prop}{i l:Int}(q:MRi m C (i,l)){x:Sp}(h:MRi m C x)(e:x.1=i):x=(i,l):=by
 obtain⟨a,b,c,d,f⟩:=q;obtain⟨a',b',c',d',f'⟩:=h;rw[e] at c' f';dsimp only at b c f;refine Prod.ext e ?_;rcases Int.lt_trichotomy x.2 l with t|t|t
 ·exact absurd (c x.2 (by omega) t) f'
 ·exact t
 ·exact absurd (c' l (by omega) t) f
def wF:DSp:=λds M Q=>∃(l ls:Addr)(cx cy x y:Rat) (L:List (Option Rat)) (S:List Sp),ds=[PQ cx cy,.ref l,.ref ls]/\(gM cx cy x y L).Ok/\M (.l l)=some (L.map (ptO cx cy x y))/\M (.l ls)=some (S.map spD)/\(∀s∈S,(gM cx cy x y L).it0 s)/\S.length<=10 /\
 ∀(p:Addr)(M':DM) (F:List Sp),bD M M'->M (.l p)=none->M' (.l p)=some (F.map (gM cx cy x y L).pc)->vR (gM cx cy x y L).m S F->(F.map (gM cx cy x y L).pc).Pairwise (λa b=>ltD b a=false)->Q (.ref p) M'
noncomputable abbrev pA:Stmt:=top 70
theorem cW:aS ["_law_c","_law_stops_here","_law_spans_here","_law_many","_law_gaps","_law_dots","_law_at","_law_long","_law_k","_law_first","_law_found"] ["_law_c","_law_stops_here","_law_spans_here"] (aI pA):=by ac_rfl
theorem aAt (hF:cM K mg "_law_due" pA ["_law_c","_law_stops_here","_law_spans_here"])(gO:Has P w K mg base 101 "_law_piece" ["_law_c","_law_stops_here","_law_at","_law_long"] mW)(eK:mg "len" = none)(kA:mg "range" = none)(aFm:mg "all" = none)(kZ:mg "sorted" = none):Has P w K mg base 103 "_law_due" ["_law_c","_law_stops_here","_law_spans_here"] wF:=by
 refine Has.mkZ hF cW (λds M Q ⟨_,_,_,_,_,_,_,_,e,_⟩=>by rw[e];rfl) λf cdv A outer s H ds M Q E hr h=>?_;obtain⟨l,ls,cx,cy,x,y,L,S,rfl,ok,hl,hs,iS,lS,q⟩:=h;refine⟨_,(aF (aM (i:=3) cW.nd (bX jH eK (aB (aA 1) aD)))
  (aF (aM (i:=4) cW.nd (aK aAk (fK (aB qR aD)) (aA 3)))
  (aF (aM (i:=5) cW.nd (aK aAk (fK (aB qR aD)) (aA 3)))
  (aF (lD PassesOwn.never rfl (aA 2) (eH (n:=2) rfl (aV (aR (i:=6) cW.nd) (aV (aR (i:=7) cW.nd) cZ))) (aF (cU qR (pK (aA 5) (aA 6)))
  (aG (rJ PassesOwn.never rfl kA (aB (aA 7) aD) (aR (i:=8) cW.nd) (aG (cU qR (pK (aA 4) (aK kX (aK cY (aA 6) (aA 8)) (aA 3)))))))))
  (aF (bV (eD (bX (aKt rfl) aFm (aB (aA 4) aD))) (aF (aM (i:=9) cW.nd (aH (aFy (⟨rfl,by decide +kernel,by decide +kernel,by decide +kernel,rfl,by decide +kernel⟩:rB ["_law_c","_law_stops_here","_law_spans_here","_law_many","_law_gaps","_law_dots","_law_at","_law_long","_law_k","_law_first","_law_found"] (aI pA) ["_law_at","_law_long"] [none,none] _) rfl (aA 2) (λ_ _ _ _ _=>(eH (n:=2) rfl (aV (aR (i:=0) (show Nodup (["_law_at","_law_long"]:List Str) by decide +kernel)) (aV (aR (i:=1) (show Nodup (["_law_at","_law_long"]:List Str) by decide +kernel)) cZ)))) (λ_ _ _ _ _=>(aY xY (aA 1) aC)) (λ_ _ _ _ _=>(aA 0))) aC))
  (aG (aO (fK (aB (bC (aB dW (aB (aA 0) (aB (aH (aA 1) (aA 9)) aD)))) aD))))) aZ)
  (aF (aM (i:=10) cW.nd (fK aD))
  (aF (rJ PassesOwn.never rfl kA (aB (aA 3) aD) (aR (i:=6) cW.nd) (jP (bV (pT (iX (eD (aH (aA 4) (aA 6))) (jO (kH (eD (aH (aA 4) (aK gW (aA 6) aC))))))) (aF (aM (i:=7) cW.nd aC)
  (aF (lK PassesOwn.never (eD (aH (aA 4) (aK kX (aK cY (aA 6) (aA 7)) (aA 3)))) (aG (aM (i:=7) cW.nd (aK cY (aA 7) aC))))
  (aG (fQ (dJ (aA 10) (aE gO hr (by decide) (aB (aA 0) (aB (aA 1) (aB (aA 6) (aB (aA 7) aD)))))))))) aZ)
  (aG (bV (pT (iX (eD (aH (aA 5) (aA 6))) (iX (kH (eD (aH (aA 4) (aA 6)))) (jO (kH (eD (aH (aA 4) (aK gW (aA 6) aC)))))))) (aG (fQ (dJ (aA 10) (bC (aB dW (aB (aH (aA 1) (aA 6)) aD)))))) aZ))))
  (aG (aO (bX (xT hr) kZ (aB (aA 10) aD))))))))))),?_⟩
 ac_nf;have m0:=ok.m0;have m1:=ok.m1;generalize hc:gM cx cy x y L=c at ok iS q m0 m1;have cm:c.m=(L.length:Int):=by rw[<- hc];rfl
 have eL:(((L.map (ptO cx cy x y)).length:Nat):Int)=c.m:=by rw[length_map,cm]
 refine⟨_,hl,by decide,λpa hpa=>?_⟩;rw[eL];have fr:∀{N:DM}{p:Addr} {Q:DQ},N (.l p)=some [D.bl false]->(∀p2,N (.l p2)=none->Q (.ref p2) (aX N p2 (fl L.length λ_=>False)))->aHF (.ref p) (.int c.m) N Q:=λ{N p Q} h1 h2=>by refine⟨_,h1,by simp,by omega,by omega,by show 1*_<=1000;omega,λp2 hp2=>?_⟩;rw[aJl,show c.m.toNat=L.length by omega];exact h2 p2 hp2
 refine fr aJ λpg' hpg=>⟨by decide,λpb hpb=>?_⟩;have sA:=(bD.new hpa [D.bl false]).trans ((bD.new hpg (fl L.length λ_=>False)).trans (bD.new hpb [D.bl false]));refine fr aJ λpd hpd=>?_;have g0:aX (aX (aX M pa [D.bl false]) pg' (fl L.length λ_=>False)) pb [D.bl false] (.l pg')=some (fl L.length λ_=>False):=by rw[cK (bM aJ hpb)];exact aJ
 have nM:M (.l pg')=none:=cR (bD.new hpa _) hpg;have ndg:pg'≠pd:=bM g0 hpd;have dM:M (.l pd)=none:=cR sA hpd;have g1:aX (aX (aX (aX M pa [D.bl false]) pg' (fl L.length λ_=>False)) pb [D.bl false]) pd (fl L.length λ_=>False) (.l pg')=some (fl L.length λ_=>False):=by rw[cK ndg];exact g0
 have d1:aX (aX (aX (aX M pa [D.bl false]) pg' (fl L.length λ_=>False)) pb [D.bl false]) pd (fl L.length λ_=>False) (.l pd)=some (fl L.length λ_=>False):=aJ;have s1:bD M (aX (aX (aX (aX M pa [D.bl false]) pg' (fl L.length λ_=>False)) pb [D.bl false]) pd (fl L.length λ_=>False)):=sA.trans (bD.new hpd _);generalize aX (aX (aX (aX M pa [D.bl false]) pg' (fl L.length λ_=>False)) pb [D.bl false]) pd (fl L.length λ_=>False)=M1 at g1 d1 s1 ⊢;clear hpa hpg hpb hpd sA g0 fr;have lsg:ls≠pg':=bM hs nM;have lsd:ls≠pd:=bM hs dM;refine⟨_,s1 _ _ hs,λi ρ N=>bD M N/\N (.l pg')=some (fl L.length (Cov c.m (S.take i)))/\N (.l pd)=some (fl L.length λg=>∃s∈S.take i,s.1=g)/\∃o6 o7 o8,ρ=[some (PQ cx cy),some (.ref l),some (.ref ls),some (.int c.m),some (.ref pg'),some (.ref pd),o6,o7,o8,none,none],⟨s1,by rw[g1];congr 1;exact lR λg _ _=>⟨False.elim,λ⟨x,hx,_⟩=>(by cases hx)⟩,by rw[d1];congr 1;exact lR λg _ _=>⟨False.elim,λ⟨x,hx,_⟩=>(by cases hx)⟩,_,_,_,rfl⟩,?_,?_,?_⟩
 ·rintro i ρ N _ ⟨sN,_⟩ a e;cases e;exact sN _ _ hs
 ·rintro i d ρ N hd ⟨sN,hg,hdd,o6,o7,o8,rfl⟩;rw[getElem?_map] at hd;obtain⟨s,hsi,rfl⟩:=Option.map_eq_some_iff.mp hd;have is:=iS s (mem_of_getElem? hsi);have is1:=is.1.1;have is2:=is.1.2;have is3:=is.2.1;have is4:=is.2.2;dsimp only[spD];ac_nf;obtain⟨j,j1,j2⟩:=aDX (m:=L.length) (f:=λg=>∃s∈S.take i,s.1=g) (i:=s.1) is1 (by omega);refine⟨rfl,_,j,hdd,j1,?_⟩;rw[j2];have sN2:bD M (aX N pd (fl L.length λg=>(∃s∈S.take i,s.1=g)∨g=s.1)):=λb o e=>by rw[eU (bB e dM)];exact sN _ _ e
  have hg2:aX N pd (fl L.length λg=>(∃s∈S.take i,s.1=g)∨g=s.1) (.l pg')=some (fl L.length (Cov c.m (S.take i))):=by rw[cK ndg];exact hg
  have hd2:aX N pd (fl L.length λg=>(∃s∈S.take i,s.1=g)∨g=s.1) (.l pd)=some (fl L.length λg=>(∃s∈S.take i,s.1=g)∨g=s.1):=aJ;generalize aX N pd (fl L.length λg=>(∃s∈S.take i,s.1=g)∨g=s.1)=N2 at sN2 hg2 hd2 ⊢;refine⟨⟨by omega,by omega⟩,λk ρ N=>bD M N/\N (.l pg')=some (fl L.length λg=>Cov c.m (S.take i) g∨rel c.m s.1 g<(k:Int))/\N (.l pd)=some (fl L.length λg=>(∃s∈S.take i,s.1=g)∨g=s.1)/\∃o8,ρ=[some (PQ cx cy),some (.ref l),some (.ref ls),some (.int c.m),some (.ref pg'),some (.ref pd),some (.int s.1),some (.int s.2),o8,none,none],⟨sN2,by rw[hg2];congr 1;exact lR λg h0 h1=>⟨.inl,λz=>z.elim id λz=>by have:=dB (m:=c.m) (r:=s.1) (k:=g) ⟨is1,is2⟩ ⟨h0,by omega⟩;omega⟩,hd2,_,rfl⟩,?_,?_⟩
  ·rintro k ρ N hk ⟨sN,hg,hdd,o8,rfl⟩;have kl:(k:Int)<s.2:=by omega
   ac_nf;obtain⟨j,j1,j2⟩:=aDX (m:=L.length) (f:=λg=>Cov c.m (S.take i) g∨rel c.m s.1 g<(k:Int)) (i:=stp c.m s.1 k) (cQ (m:=c.m) ⟨is1,is2⟩ ⟨by omega,by omega⟩).1 (by have:=(cQ (m:=c.m) (r:=s.1) (k:=(k:Int)) ⟨is1,is2⟩ ⟨by omega,by omega⟩).2;omega);refine⟨by omega,_,j,hg,?_,?_⟩
   ·rw[show(0:Int)+(k:Int)=k by omega,vF ⟨is1,is2⟩ ⟨by omega,by omega⟩];exact j1
   rw[j2];refine⟨λb o e=>by rw[eU (bB e nM)];exact sN _ _ e,?_,by rw[cK (Ne.symm ndg)];exact hdd,_,rfl⟩;rw[aJ];congr 1;refine lR λg h0 h1=>?_;have r1:=iZ (m:=c.m) (r:=s.1) (k:=g) ⟨is1,is2⟩ ⟨h0,by omega⟩;have r2:=mR (m:=c.m) (r:=s.1) (k:=(k:Int)) ⟨is1,is2⟩ ⟨by omega,by omega⟩;constructor
   ·rintro((z|z)|z)
    ·exact .inl z
    ·exact .inr (by omega)
    ·exact .inr (by rw[z,r2];omega)
   ·rintro(z|z)
    ·exact .inl (.inl z)
    ·by_cases e:rel c.m s.1 g=(k:Int)
     ·exact .inr (by rw[<- r1,e])
     ·exact .inl (.inr (by omega))
  ·rintro ρ N ⟨sN,hg,hdd,o8,rfl⟩;refine⟨sN,?_,?_,_,_,_,rfl⟩
   ·rw[hg];congr 1;refine lR λg h0 h1=>?_;rw[fY hsi];constructor
    ·rintro(⟨x,hx,z⟩|z)
     ·exact⟨x,mem_append_left _ hx,z⟩
     ·exact⟨s,mem_append_right _ mem_cons_self,by omega⟩
    ·rintro⟨x,hx,z⟩;rcases List.mem_append.mp hx with y|y
     ·exact .inl ⟨x,y,z⟩
     ·rw[List.mem_singleton.mp y] at z;exact .inr (by omega)
   ·rw[hdd];congr 1;refine lR λg h0 h1=>?_;rw[fY hsi];constructor
    ·rintro(⟨x,hx,z⟩|z)
     ·exact⟨x,mem_append_left _ hx,z⟩
     ·exact⟨s,mem_append_right _ mem_cons_self,z.symm⟩
    ·rintro⟨x,hx,z⟩;rcases List.mem_append.mp hx with y|y
     ·exact .inl ⟨x,y,z⟩
     ·rw[List.mem_singleton.mp y] at z;exact .inr z.symm
 ·rintro ρ N ⟨sN,hg,hdd,o6,o7,o8,rfl⟩;rw[length_map,take_length] at hg hdd;ac_nf;obtain⟨bs,eb,ab⟩:=aLN L.length (Cov c.m S);refine⟨bs,by rw[hg,eb],?_⟩;have tlc:∀g,0<=g->g<c.m->(Cov c.m (S.filter tl) g↔Cov c.m S g):=λg a b=>aKx iS ⟨a,b⟩;by_cases al:bs.all id=true
  ·have full:∀g,0<=g->g<c.m->Cov c.m (S.filter tl) g:=λg a b=>(tlc g a b).mpr (ab.mp al g a (by omega));obtain⟨x0,T',eT⟩:∃x0 T',S.filter tl=x0::T':=by obtain⟨x,hx,_⟩:=full 0 (Int.le_refl _) m0;exact List.exists_cons_of_ne_nil λz=>by rw[z] at hx;cases hx
   have ix0:=iS x0 (List.mem_filter.mp (show x0∈S.filter tl by rw[eT];exact mem_cons_self)).1;refine ifT al ⟨_,sN _ _ hs,by rw[length_map];omega,λi ys N'=>N'=N/\ys=((S.take i).filter tl).map λs=>D.int s.1,⟨rfl,rfl⟩,?_,?_,?_⟩
   ·rintro i ys N' _ ⟨rfl,_⟩ a e;cases e;exact sN _ _ hs
   ·rintro i d ys N' hd ⟨rfl,rfl⟩;rw[getElem?_map] at hd;obtain⟨s,hsi,rfl⟩:=Option.map_eq_some_iff.mp hd;dsimp only[spD];ac_nf;refine⟨rfl,dif (λz=>⟨rfl,?_⟩) (λz=>⟨rfl,?_⟩)⟩
    ·rw[fY hsi,filter_append,List.filter_cons_of_pos (by unfold tl;simpa using z),filter_nil,map_append];rfl
    ·rw[fY hsi,filter_append,List.filter_cons_of_neg (by unfold tl;simpa using z),filter_nil,append_nil]
   rintro ys N' - ⟨e0,rfl⟩ p1 hp1;rw[e0] at hp1 ⊢;clear e0 N';rw[length_map,take_length,eT];ac_nf;have s2:=sN.trans (bD.new hp1 ((x0::T').map λs=>D.int s.1));refine⟨_,_,aJ,iJ (j:=0) rfl,?_⟩;ac_nf;have gp:atI (L.map (ptO cx cy x y)) x0.1=some (c.pt x0.1):=by rw[<- hc];exact uN (by rw[hc];exact ix0.1)
   refine⟨_,_,s2 _ _ hl,gp,by decide,by decide,λp2 hp2=>lC (q p2 _ [(x0.1,c.m)] (s2.trans (bD.new hp2 _)) (cR s2 hp2) ?_ ⟨by simp,λ_=>⟨x0.1,by rw[eT];rfl,rfl⟩,λ⟨g,a,b,n⟩=>absurd (full g a b) n⟩ (pairwise_singleton _ _))⟩;rw[aJ,map_cons,map_nil,Rd.pc_ring m0,<- hc];rfl
  obtain⟨u,u0,um,nu⟩:∃g,0<=g/\g<c.m/\¬Cov c.m S g:=Classical.byContradiction λn=>al (ab.mpr λg a b=>Classical.byContradiction λz=>n ⟨g,a,by omega,z⟩);refine ifF (by simpa using al) ⟨by decide,λpf hpf=>?_⟩;have nfg:pg'≠pf:=bM hg hpf;have nfd:pd≠pf:=bM hdd hpf;have fM:=cR sN hpf;have sN2:=sN.trans (bD.new hpf []);have hg2:=(bD.new hpf []) _ _ hg;have hd2:=(bD.new hpf []) _ _ hdd;refine⟨⟨by omega,by omega⟩,λi ρ N=>bD M N/\N (.l pg')=some (fl L.length (Cov c.m S))/\N (.l pd)=some (fl L.length λg=>∃s∈S,s.1=g)/\(∃F:List Sp,N (.l pf)=some (F.map c.pc)/\(∀x,x∈F↔x.1<(i:Int)/\Itm c.m S x)/\F.Nodup/\F.length<=2*i)/\∃o6 o7 o8 o9,ρ=[some (PQ cx cy),some (.ref l),some (.ref ls),some (.int c.m),some (.ref pg'),some (.ref pd),o6,o7,o8,o9,some (.ref pf)],⟨sN2,hg2,hd2,⟨[],aJ,λx=>⟨λh=>(by cases h),λ⟨a,b⟩=>?_⟩,nodup_nil,Nat.zero_le _⟩,_,_,_,_,rfl⟩,?_,?_⟩
  ·rcases b with b|b
   ·have:=b.1.1;omega
   ·have:=(iS x b.2.1).1.1;omega
  ·rintro i ρ N hi ⟨sN,hg,hdd,⟨F,hF,mF,nF,lF⟩,o6,o7,o8,o9,rfl⟩;have im:(i:Int)<c.m:=by omega
   have ii:0<=(i:Int)/\(i:Int)<c.m:=⟨by omega,im⟩;rw[show(0:Int)+(i:Int)=(i:Int) by omega];obtain⟨b1,at1,t1⟩:=aCt (m:=L.length) (f:=Cov c.m S) (i:=(i:Int)) (by omega) (by omega);obtain⟨b2,at2,t2⟩:=aLn (m:=L.length) (f:=Cov c.m S) (i:=(i:Int)) (by omega) (by omega);rw[<- cm] at t2;obtain⟨b3,at3,t3⟩:=aCt (m:=L.length) (f:=λg=>∃s∈S,s.1=g) (i:=(i:Int)) (by omega) (by omega);ac_nf;refine⟨λρ' N'=>bD M N'/\N' (.l pg')=some (fl L.length (Cov c.m S))/\N' (.l pd)=some (fl L.length λg=>∃s∈S,s.1=g)/\(∃F:List Sp,N' (.l pf)=some (F.map c.pc)/\(∀x,x∈F↔(x.1<(i:Int)/\Itm c.m S x)∨(x.1=(i:Int)/\MRi c.m (Cov c.m S) x))/\F.Nodup/\F.length<=2*i+1)/\∃o7 o8 o9,ρ'=[some (PQ cx cy),some (.ref l),some (.ref ls),some (.int c.m),some (.ref pg'),some (.ref pd),some (.int i),o7,o8,o9,some (.ref pf)],⟨_,_,hg,at1,?_⟩,?_⟩
   ·have none':(∀x,x.1=(i:Int)->¬MRi c.m (Cov c.m S) x)->bD M N/\N (.l pg')=some (fl L.length (Cov c.m S))/\N (.l pd)=some (fl L.length λg=>∃s∈S,s.1=g)/\(∃F:List Sp,N (.l pf)=some (F.map c.pc)/\(∀x,x∈F↔(x.1<(i:Int)/\Itm c.m S x)∨(x.1=(i:Int)/\MRi c.m (Cov c.m S) x))/\F.Nodup/\F.length<=2*i+1)/\∃o7' o8' o9',[some (PQ cx cy),some (.ref l),some (.ref ls),some (.int c.m),some (.ref pg'),some (.ref pd),some (.int i),o7,o8,o9,some (.ref pf)]=[some (PQ cx cy),some (.ref l),some (.ref ls),some (.int c.m),some (.ref pg'),some (.ref pd),some (.int i),o7',o8',o9',some (.ref pf)]:=λno =>
     ⟨sN,hg,hdd,⟨F,hF,λx=>(mF x).trans ⟨.inl,λz=>z.elim id λz=>absurd z.2 (no x z.1)⟩,nF,by omega⟩,_,_,_,rfl⟩
    ac_nf;have mr0:∀x:Sp,x.1=(i:Int)->MRi c.m (Cov c.m S) x->Cov c.m S i/\¬Cov c.m S (pg c.m i):=λx e ⟨_,b,cc,d,_⟩=>by
     rw[e] at cc d;have:=cc 0 (Int.le_refl _) b.1;have e0:stp c.m i 0=i:=by unfold stp;rw[if_pos (by omega)];omega
     rw[e0] at this;exact⟨this,d⟩
    refine vK (λh1=>⟨_,_,hg,at2,?_⟩) (λh1=>none' λx e z=>absurd (t1.mpr (mr0 x e z).1) (by rw[h1];decide));ac_nf;cases h2:b2 with
    |true=>exact ifF rfl (none' λx e z=>(mr0 x e z).2 (t2.mp h2))
    |false =>
     refine ifT rfl ?_;have c1:=t1.mp h1;have c2:¬Cov c.m S (pg c.m i):=λz=>by have:=t2.mpr z;rw[h2] at this;cases this
     have ru:=dB (m:=c.m) (r:=(i:Int)) (k:=u) ii ⟨u0,um⟩;have su:=iZ (m:=c.m) (r:=(i:Int)) (k:=u) ii ⟨u0,um⟩;have r1:1<=rel c.m i u:=by
      refine Classical.byContradiction λz=>nu ?_;have e0:rel c.m i u=0:=by omega
      rw[<- su,e0];have:stp c.m i 0=i:=by unfold stp;rw[if_pos (by omega)];omega
      rw[this];exact c1
     refine pH (λn ρ' N'=>N'=N/\∃lg:Int,n=(rel c.m i u-lg).toNat/\1<=lg/\lg<=rel c.m i u/\(∀k,0<=k->k<lg->Cov c.m S (stp c.m i k))/\ρ'=[some (PQ cx cy),some (.ref l),some (.ref ls),some (.int c.m),some (.ref pg'),some (.ref pd),some (.int i),some (.int lg),o8,o9,some (.ref pf)]) _ ⟨rfl,1,rfl,Int.le_refl _,r1,λk k0 k1=>?_,rfl⟩ ?_
     ·have e0:stp c.m i k=i:=by rw[show k=0 by omega];unfold stp;rw[if_pos (by omega)];omega
      rw[e0];exact c1
     rintro n ρ' N' ⟨rfl,lg,rfl,l1,l2,alg,rfl⟩;obtain⟨b4,at4,t4⟩:=aCt (m:=L.length) (f:=Cov c.m S) (i:=stp c.m i lg) (cQ ii ⟨by omega,by omega⟩).1 (by have:=(cQ (m:=c.m) (r:=(i:Int)) (k:=lg) ii ⟨by omega,by omega⟩).2;omega);ac_nf;refine⟨by omega,_,_,hg,by rw[vF ii ⟨by omega,by omega⟩];exact at4,?_⟩;ac_nf;refine vK (λh4=>?_) (λh4=>?_)
     ·have c4:=t4.mp h4;have:lg≠rel c.m i u:=λz=>by rw[z,su] at c4;exact nu c4
      refine⟨(rel c.m i u-(lg+1)).toNat,by omega,rfl,lg+1,rfl,by omega,by omega,λk k0 kl=>?_,rfl⟩;by_cases e:k=lg
      ·rw[e];exact c4
      ·exact alg k k0 (by omega)
     ·have c4:¬Cov c.m S (stp c.m i lg):=λz=>by have:=t4.mpr z;rw[h4] at this;cases this
      have it:(gM cx cy x y L).it0 ((i:Int),lg):=by rw[hc];exact⟨ii,by show 0<=lg;omega,by show lg<=c.m;omega⟩
      refine⟨⟨_,hF⟩,l,cx,cy,x,y,L,i,lg,rfl,sN _ _ hl,by omega,it,?_⟩;rw[hc];ac_nf;have q0:MRi c.m (Cov c.m S) ((i:Int),lg):=⟨ii,⟨by show 0<lg;omega,by show lg<c.m;omega⟩,alg,c2,c4⟩;refine⟨_,_,rfl,hF,by rw[length_map];omega,λb o e=>by rw[eU (bB e fM)];exact sN _ _ e,by rw[cK nfg];exact hg,by rw[cK nfd];exact hdd,⟨F++[((i:Int),lg)],by rw[aJ,map_append];rfl,λx=>?_,?_,by rw[length_append];show _+1<=_;omega⟩,_,_,_,rfl⟩
      ·rw[mem_append,mem_singleton,mF x];refine or_congr Iff.rfl ⟨λe=>by rw[e];exact⟨rfl,q0⟩,λ⟨e,z⟩=>aGz q0 z e⟩
      ·rw[nodup_append];refine⟨nF,by simp,λa ha b hb e=>?_⟩;rw[mem_singleton] at hb;rw[e,hb] at ha;have:=((mF _).mp ha).1;dsimp only at this;omega
   rintro _ N' ⟨sN,hg,hdd,⟨F,hF,mF,nF,lF⟩,o7,o8,o9,rfl⟩;ac_nf;refine⟨_,_,hdd,at3,?_⟩;ac_nf;have up:∀x:Sp,((x.1<(i:Int)/\Itm c.m S x)∨(x.1=(i:Int)/\Itm c.m S x))↔(x.1<((i+1:Nat):Int)/\Itm c.m S x):=λx=>by
    constructor
    ·rintro(⟨a,b⟩|⟨a,b⟩)
     ·exact⟨by omega,b⟩
     ·exact⟨by omega,b⟩
    ·rintro⟨a,b⟩;by_cases e:x.1=(i:Int)
     ·exact .inr ⟨e,b⟩
     ·exact .inl ⟨by omega,b⟩
   have keep:¬((∃s∈S,s.1=(i:Int))/\¬Cov c.m S i/\¬Cov c.m S (pg c.m i))->∀x,x∈F↔x.1<((i+1:Nat):Int)/\Itm c.m S x:=λno x=>by rw[mF x,<- up x];refine or_congr Iff.rfl (and_congr_right λe=>⟨.inl,λz=>z.elim id λ⟨a,b,d,f⟩=>absurd ⟨⟨x,b,e⟩,by rw[<- e];exact d,by rw[<- e];exact f⟩ no⟩)
   refine vK (λh3=>⟨_,_,hg,at1,?_⟩) (λh3=>⟨sN,hg,hdd,⟨F,hF,keep (λz=>by have:=t3.mpr z.1;rw[h3] at this;cases this),nF,by omega⟩,_,_,_,_,rfl⟩);ac_nf;cases h1:b1 with
   |true=>exact ifF rfl ⟨sN,hg,hdd,⟨F,hF,keep λz=>z.2.1 (t1.mp h1),nF,by omega⟩,_,_,_,_,rfl⟩
   |false =>
    refine ifT rfl ⟨_,_,hg,at2,?_⟩;ac_nf;cases h2:b2 with
    |true=>exact ifF rfl ⟨sN,hg,hdd,⟨F,hF,keep λz=>z.2.2 (t2.mp h2),nF,by omega⟩,_,_,_,_,rfl⟩
    |false =>
     have c1:¬Cov c.m S i:=λz=>by have:=t1.mpr z;rw[h1] at this;cases this
     have c2:¬Cov c.m S (pg c.m i):=λz=>by have:=t2.mpr z;rw[h2] at this;cases this
     have dS:((i:Int),(0:Int))∈S:=by obtain⟨s,h,e⟩:=t3.mp h3;have i3:=(iS s h).2.1;have:s.2=0:=Classical.byContradiction λn=>c1 ⟨s,h,by rw[e];unfold rel;rw[if_pos (Int.le_refl _)];omega⟩;rw[show((i:Int),(0:Int))=s from Prod.ext e.symm this.symm];exact h
     have gp:atI (L.map (ptO cx cy x y)) (i:Int)=some (c.pt i):=by rw[<- hc];exact uN (by rw[hc];exact ii)
     refine ifT rfl ⟨⟨_,hF⟩,_,_,sN _ _ hl,gp,by decide,_,_,rfl,hF,by rw[length_map];omega,λb o e=>by rw[eU (bB e fM)];exact sN _ _ e,by rw[cK nfg];exact hg,by rw[cK nfd];exact hdd,⟨F++[((i:Int),(0:Int))],by rw[aJ,map_append];rfl,λx=>?_,?_,by rw[length_append];show _+1<=_;omega⟩,_,_,_,_,rfl⟩
     ·rw[mem_append,mem_singleton,mF x,<- up x];constructor
      ·rintro((z|⟨a,b⟩)|z)
       ·exact .inl z
       ·exact .inr ⟨a,.inl b⟩
       ·rw[z];exact .inr ⟨rfl,.inr ⟨rfl,dS,c1,c2⟩⟩
      ·rintro(z|⟨a,b|⟨e,_⟩⟩)
       ·exact .inl (.inl z)
       ·exact .inl (.inr ⟨a,b⟩)
       ·exact .inr (Prod.ext a e)
     ·rw[nodup_append];refine⟨nF,by simp,λa ha b hb e=>?_⟩;rw[mem_singleton] at hb;rw[e,hb] at ha;rcases (mF _).mp ha with z|⟨_,z⟩
      ·have:=z.1;dsimp only at this;omega
      ·have:=z.2.1.1;dsimp only at this;omega
  rintro ρ N ⟨sN,hg,hdd,⟨F,hF,mF,nF,lF⟩,o6,o7,o8,o9,rfl⟩;have lc:c.m.toNat<=30:=by omega
  ac_nf;refine⟨_,.s,[ptS,ptS,ptS],hF,λd hd=>?_,?_,by rw[length_map];omega,λp2 zs hp2 pz so=>?_⟩
  ·obtain⟨x,_,rfl⟩:=List.mem_map.mp hd;exact c.pc_sh x
  ·exact List.all_eq_true.mpr λd hd=>by obtain⟨x,_,rfl⟩:=List.mem_map.mp hd;exact c.pc_key x
  obtain⟨G,rfl,pG⟩:=jY pz.symm _ rfl;have pg':∀a,0<=a/\a<c.m->0<=pg c.m a/\pg c.m a<c.m:=λa ha=>by unfold pg;split<;>omega
  refine lC (q p2 _ G (sN.trans (bD.new hp2 _)) (cR sN hp2) aJ ⟨pG.nodup_iff.mp nF,λh=>absurd ((tlc u u0 um).mp (h u u0 um)) nu,λ_ x=>?_⟩ so);rw[<- pG.mem_iff,mF x,aDG m0 tlc x];unfold Itm;constructor
  ·rintro⟨_,z|⟨a,b,e,f⟩⟩
   ·exact .inl z
   ·have ix:=(iS x b).1;exact .inr ⟨a,b,λz=>e ((tlc _ ix.1 ix.2).mp z),λz=>f ((tlc _ (pg' _ ix).1 (pg' _ ix).2).mp z)⟩
  ·rintro(z|⟨a,b,e,f⟩)
   ·exact⟨by have:=z.1.2;omega,.inl z⟩
   ·have ix:=(iS x b).1;exact⟨by omega,.inr ⟨a,b,λz=>e ((tlc _ ix.1 ix.2).mpr z),λz=>f ((tlc _ (pg' _ ix).1 (pg' _ ix).2).mpr z)⟩⟩
def sp_law (pt:Addr):DSp:=λds M Q=>∃ns:List Int,ds = [.fz (ns.map D.int)]/\ns.length<=63/\M (.x pt) = some [.str "joined_spans.<locals>.<lambda>"]/\∀M',Q (.bl true) M'
theorem Rd.due_eq (c:Rd){S F G:List Sp}(h:vR c.m S F)(h':vR c.m S G)(s1:(F.map c.pc).Pairwise λa b=>ltD b a=false)(s2:(G.map c.pc).Pairwise λa b=>ltD b a=false):F.map c.pc=G.map c.pc :=
 xX (λd hd=>by obtain⟨x,_,rfl⟩:=List.mem_map.mp hd;exact(c.pc_sh x).1) ((h.perm h').map c.pc) s1 s2
noncomputable abbrev pS:Stmt:=top 71
theorem kQ:aS ["_law_script","_law_from","_law_c","_law_a","_law_stops_here","_law_spans_here","_law_handed","_law_kept","_law_due_here","_law_found"] ["_law_script"] (aI pS):=by ac_rfl
theorem aGv {pt f0:Addr}{fd0:FuncData}(hF:L2.Fun K "law" "law" pS f0 fd0)(iA:Has P w K mg base 101 "_law_feed" ["_law_cell"] oQ)(kR:Has P w K mg base 101 "_law_cell_at" ["_law_script","_law_k"] nQ)(hV:Has P w K mg base 104 "_law_start_here" ["_law_from"] kC)(oH:Has P w K mg base 105 "_law_stops" ["_law_from","_law_c","_law_a"] sB)(oU:Has P w K mg base 103 "_law_spans" ["_law_script","_law_many"] rT)(gO:Has P w K mg base 101 "_law_piece" ["_law_c","_law_stops_here","_law_at","_law_long"] mW)(tG:Has P w K mg base 103 "_law_due" ["_law_c","_law_stops_here","_law_spans_here"] wF)(oA:Has P w K mg base 124 "joined" ["pieces"] (xA pt))(kO:mg "list" = none)(eK:mg "len" = none)(lX:mg "isinstance"=none) :
  mX P w K mg base CX0 151 f0 fd0 ["_law_script"] (rM K (sp_law pt)):=by
 refine Fun.okZ hF kQ (λds M Q ⟨ns,e,_⟩=>by rw[e];rfl) λcdv A outer s H ds M Q E hr h=>?_;obtain⟨ns,rfl,lns,hP,fin⟩:=h;refine⟨_,(aF (aM (i:=1) kQ.nd (aE iA hr (by decide) (aB (aE kR hr (by decide) (aB (aA 0) (aB aC aD))) aD)))
  (aF (cU (aE hV hr (by decide) (aB (aA 1) aD)) (eH (n:=2) rfl (aV (aR (i:=2) kQ.nd) (aV (aR (i:=3) kQ.nd) cZ))))
  (aF (aM (i:=4) kQ.nd (aE oH hr (by decide) (aB (aA 1) (aB (aA 2) (aB (aA 3) aD)))))
  (aF (aM (i:=5) kQ.nd (aE oU hr (by decide) (aB (aA 0) (aB (bX jH eK (aB (aA 4) aD)) aD))))
  (aF (aBw (i:=6) (⟨rfl,by decide +kernel,by decide +kernel,by decide +kernel,rfl,by decide +kernel⟩:rB ["_law_script","_law_from","_law_c","_law_a","_law_stops_here","_law_spans_here","_law_handed","_law_kept","_law_due_here","_law_found"] (aI pS) ["_law_at","_law_long","_law_c","_law_stops_here"] [none,none,some 2,some 4] _) rfl kQ.nd (aA 5) (λ_ _ _ _ _=>(eH (n:=2) rfl (aV (aR (i:=0) (show Nodup (["_law_at","_law_long","_law_c","_law_stops_here"]:List Str) by decide +kernel)) (aV (aR (i:=1) (show Nodup (["_law_at","_law_long","_law_c","_law_stops_here"]:List Str) by decide +kernel)) cZ)))) (λ_ _ _ _ _=>(aE gO hr (by decide) (aB (aA 2) (aB (aA 3) (aB (aA 0) (aB (aA 1) aD)))))))
  (aF (aM (i:=7) kQ.nd (jF aCl kO (aB (aA 6) aD)))
  (aF (aM (i:=8) kQ.nd (aE tG hr (by decide) (aB (aA 2) (aB (aA 4) (aB (aA 5) aD)))))
  (aF (aM (i:=9) kQ.nd (aE oA hr (by decide) (aB (aA 6) aD)))
  (aF (bV (pT (yR (kH (eD (aEh (aA 9) lX kO))) (yR (aY (aER hr) (aA 9) (aA 8)) (yO (aY (aER hr) (aA 6) (aA 7)))))) (aG (aO qR)) aZ)
  (aF (fQ (dJ (aA 9) rY))
  (aG (aO (zQ (gI (aBv hr) (aE oA hr (by decide) (aB (aA 6) aD)) (aA 8)) (zJ (gI (aBv hr) (aE oA hr (by decide) (aB (aA 8) aD)) (aA 8)))))))))))))))),?_⟩
 ac_nf;refine⟨ns,0,rfl,λc0=>⟨c0,rfl,λpf Mf hpf fdf avf=>?_⟩⟩;ac_nf;refine⟨pf,0,rfl,fdf,by decide,λd M1 ⟨cx,cy,x,y,e1,b1,b2,b3,b4,h0⟩ fd1 av1=>?_⟩;subst e1;have hP1:M1 (.x pt) = some [.str "joined_spans.<locals>.<lambda>"]:=by rw[av1.x,avf.x];exact hP
 ac_nf;refine⟨rfl,pf,_,cx,cy,x,y,rfl,fd1,by decide,b1,b2,b3,b4,h0,λp2 M2 L v k2 n2 h2 st lL=>?_⟩;have hP2:=k2 (.x pt) (by intro z;cases z) _ hP1;clear avf av1 fd1 fdf hpf k2 n2;have ok:(gM cx cy x y L).Ok:=aGI st.ne (by omega) b1 b2 b3 b4 h0 st.pw st.bi;ac_nf;refine⟨_,h2,?_⟩;have eL:(((L.map (ptO cx cy x y)).length:Nat):Int)=(gM cx cy x y L).m:=by rw[length_map];rfl
 rw[eL];have m1:(gM cx cy x y L).m<=12:=by show(L.length:Int)<=12;omega
 refine⟨ns,_,rfl,ok.m0,m1,λp3 M3 S s3 n3 h3 iS lS=>?_⟩;have h23:=s3 _ _ h2;have hP3:=s3 _ _ hP2;clear s3 n3 h2 hP2 M2 hP1 M1;ac_nf;refine⟨_,h3,by rw[length_map];omega,λi ys N=>N=M3/\ys=(S.take i).map (gM cx cy x y L).pc,⟨rfl,rfl⟩,?_,?_,?_⟩
 ·rintro i ys N _ ⟨rfl,_⟩ a e;cases e;exact h3
 ·rintro i d ys N hd ⟨rfl,rfl⟩;rw[getElem?_map] at hd;obtain⟨s,hs,rfl⟩:=Option.map_eq_some_iff.mp hd;dsimp only[spD];ac_nf;refine⟨rfl,p2,cx,cy,x,y,L,s.1,s.2,rfl,h23,by omega,iS s (mem_of_getElem? hs),?_⟩;exact⟨rfl,by rw[fY hs,map_append];rfl⟩
 rintro ys N - ⟨e0,rfl⟩ p6 hp6;rw[e0] at hp6 ⊢;clear e0 N;rw[length_map,take_length];have s6:=bD.new hp6 (S.map (gM cx cy x y L).pc);have h6:aX M3 p6 (S.map (gM cx cy x y L).pc) (.l p6)=some (S.map (gM cx cy x y L).pc):=aJ;have h26:=s6 _ _ h23;have h36:=s6 _ _ h3;have hP6:=s6 _ _ hP3;generalize aX M3 p6 (S.map (gM cx cy x y L).pc)=M6 at h6 h26 h36 hP6 ⊢;ac_nf;refine⟨_,h6,λp7 hp7=>?_⟩;have n67:p6≠p7:=bM h6 hp7;have s7:=bD.new hp7 (S.map (gM cx cy x y L).pc);have h7:aX M6 p7 (S.map (gM cx cy x y L).pc) (.l p7)=some (S.map (gM cx cy x y L).pc):=aJ;have h67:=s7 _ _ h6;have h27:=s7 _ _ h26;have h37:=s7 _ _ h36;have hP7:=s7 _ _ hP6;generalize aX M6 p7 (S.map (gM cx cy x y L).pc)=M7 at h7 h67 h27 h37 hP7 ⊢;clear s6 s7 hp6 hp7 h6 h26 h36 hP6 h23 h3 hP3;refine⟨p2,p3,cx,cy,x,y,L,S,rfl,ok,h27,h37,iS,lS,λp8 M8 G s8 n8 h8 dG so=>?_⟩;have h68:=s8 _ _ h67;have h78:=s8 _ _ h7;have hP8:=s8 _ _ hP7;clear s8 h67 h7 hP7 h27 h37;ac_nf;generalize gM cx cy x y L=c at ok m1 iS h68 h78 h8 dG so;have iS:∀s∈S,c.it0 s:=iS;refine⟨p6,c,S,rfl,ok,h68,iS,by omega,hP8,λp9 M9 F1 s9 n9 h9 d1 v1 i1 l1 so1=>?_⟩;have eq1:=c.due_eq d1 dG so1 so;have pG:=d1.perm dG;have vG:∀g,0<=g->g<c.m->Cov c.m (S.filter tl) g->∃x∈G,rel c.m x.1 g<x.2:=λg a b z=>by obtain⟨x,hx,z⟩:=v1 g a b z;exact⟨x,pG.mem_iff.mp hx,z⟩
 have iG:∀x∈G,c.it0 x:=λx hx=>i1 x (pG.mem_iff.mpr hx);have dGG:=dG.self ok.m0 iG vG;rw[eq1] at h9;have pu:∀{T:List Sp},∀d∈T.map c.pc,bN 19 d=true:=λd hd=>by
  obtain⟨x,_,rfl⟩:=List.mem_map.mp hd;unfold Rd.pc;split
  ·rfl
  ·split<;>rfl
 have n98:p9≠p8:=λz=>by rw[z,h8] at n9;cases n9
 have h69:=s9 _ _ h68;have h79:=s9 _ _ h78;have h89:=s9 _ _ h8;have hP9:=s9 _ _ hP8;have n96:p9≠p6:=λz=>by rw[z,h68] at n9;cases n9
 have sh:∀{a b:Addr},((∃xs,D.ref a=.tup xs)/\∃ys,D.ref b=.tup ys)∨((∃a',D.ref a=.ref a')/\∃b',D.ref b=.ref b'):=.inr ⟨⟨_,rfl⟩,_,rfl⟩;clear s9 n9 h68 h78 h8 hP8;ac_nf;refine aGR h9 rfl (ifF rfl ⟨sh,true,oE (n:=19) h9 h89 n98 pu,ifF rfl ⟨sh,true,oE (n:=19) h69 h79 n67 pu,ifF rfl ?_⟩⟩);have lG:G.length<=31:=by have:=pG.length_eq;omega
 refine⟨⟨_,h9⟩,_,_,rfl,h9,by rw[length_map];omega,?_⟩;have h6a:aX M9 p9 (G.map c.pc++[.non]) (.l p6)=some (S.map c.pc):=by rw[cK (Ne.symm n96)];exact h69
 have h8a:aX M9 p9 (G.map c.pc++[.non]) (.l p8)=some (G.map c.pc):=by rw[cK (Ne.symm n98)];exact h89
 have hPa:aX M9 p9 (G.map c.pc++[.non]) (.x pt) = some [.str "joined_spans.<locals>.<lambda>"]:=by rw[qE];exact hP9
 generalize aX M9 p9 (G.map c.pc++[.non])=Ma at h6a h8a hPa ⊢;refine⟨p6,c,S,rfl,ok,h6a,iS,by omega,hPa,λp12 M12 F2 s12 n12 h12 d2 v2 i2 l2 so2=>?_⟩;rw[c.due_eq d2 dG so2 so] at h12;have nb:p12≠p8:=λz=>by rw[z,h8a] at n12;cases n12
 have h8b:=s12 _ _ h8a;have hPb:=s12 _ _ hPa;refine⟨sh,true,oE (n:=19) h12 h8b nb pu,ifT rfl ?_⟩;refine⟨p8,c,G,rfl,ok,h8b,iG,lG,hPb,λp13 M13 F3 s13 n13 h13 d3 v3 i3 l3 so3=>?_⟩;rw[c.due_eq d3 dGG so3 so] at h13;have nc:p13≠p8:=λz=>by rw[z,h8b] at n13;cases n13
 exact⟨sh,true,oE (n:=19) h13 (s13 _ _ h8b) nc pu,_,.refl _,fin _⟩
noncomputable abbrev tabsL:List (Addr×Addr×Str):=[((275:Addr),(271:Addr),("joined_spans.<locals>.<lambda>":Str))]
theorem law_here (ns:List Int)(hl:ns.length<=63)(M:DM)(h:∀t∈tabsL,M (.x t.2.1)=some [.str t.2.2]):sp_law 271 [.fz (ns.map D.int)] M λd _=>d=.bl true:=⟨ns,rfl,hl,h _ mem_cons_self,λ_=>rfl⟩
end
local macro_rules | `(tactic|subst_eqs) => `(tactic|(intro _ _ _ _ _ _ us hl;first |(obtain ⟨_,h⟩ := us1 hl;subst h;rfl) |(obtain ⟨_,_,h⟩ := us2 hl;subst h;rfl) |(obtain ⟨_,_,_,h⟩ := us3 hl;subst h;rfl) |(obtain ⟨_,_,_,_,h⟩ := us4 hl;subst h;rfl)))
theorem all_mk {l:PySem.W.OpenLaw}{w:World}{K:Frag}{h:Heap}{mg:Str->Option Value}{fa f0 f1 f2 f3 f4 f5 f6 f7 f8 f9 f10 f11 f12 f13 f14 f15 f16 f17 f18 f19 f20 f21 f22 f23 f24 f25 f26 f27 f28 f29 f30 f31 f32 f33 f34 f35 f36 f37 f38 f39 f40 f41 f42 f43 f44 f45 f46 f47 f48 f49 f50 f51:Addr}(X:K.In h)(G:h.Ns mainGlobals mg)(hfa:mg "law"=some (.ref fa)){od51 an51:Option Addr}{sl51:Array (Option Value)}{oc51 kV51 dc51 pm51 cd51 ct51:Value}(b0:FK K "merged" f0 vA)(b1:FK K "in_order" f1 qK)(b2:FK K "joined_spans" f2 jL)(b3:FK K "greatest_divisor" f3 gL)(b4:FK K "plus" f4 aBX)(b5:FK K "minus" f5 aAa)(b6:FK K "times" f6 zZ)(b7:FK K "over" f7 aBH)(b8:FK K "below" f8 zH)(b9:FK K "off" f9 aEZ)(b10:FK K "together" f10 qM)(b11:FK K "dot_product" f11 kM)(b12:FK K "cross_product" f12 iQ)(b13:FK K "_law_feed" f13 qT)(b14:FK K "_law_draw" f14 qB)(b15:FK K "_law_lowest" f15 mU)(b16:FK K "_law_small" f16 nU)(b17:FK K "_law_spot" f17 qO)(b18:FK K "_law_sum" f18 tF)(b19:FK K "_law_both" f19 qV)(b20:FK K "_law_product" f20 kW)(b21:FK K "_law_cell_at" f21 kT)(b22:FK K "share_of" f22 qP)(b23:FK K "at_share" f23 qC)(b24:FK K "place_of" f24 qJ)(b25:FK K "sooner" f25 vP)(b26:FK K "laps_on" f26 tP)(b27:FK K "point_of" f27 qS)(b28:FK K "arc_span" f28 qH)(b29:FK K "joined_arcs" f29 eZ)(b30:FK K "on_one_bottom" f30 iV)(b31:FK K "sign" f31 aBN)(b32:FK K "scaled_far" f32 lY)(b33:FK K "farther" f33 sY)(b34:FK K "far" f34 aFY)(b35:FK K "side" f35 aBu)(b36:FK K "before" f36 wH)(b37:FK K "on_straight" f37 kK)(b38:FK K "ahead" f38 aAe)(b39:FK K "on" f39 aIK)(b40:FK K "line" f40 aB1)(b41:FK K "carrier" f41 tI)(b42:FK K "lone_dots" f42 jV)(b43:FK K "joined_stretches" f43 gJ)(b44:FK K "joined" f44 vY)(b45:FK K "_law_at_share" f45 jG)(b46:FK K "_law_start_here" f46 iF)(b47:FK K "_law_stops" f47 nR)(b48:FK K "_law_spans" f48 oV)(b49:FK K "_law_piece" f49 nJ)(b50:FK K "_law_due" f50 pA)(a51:nsIn K mainGlobals "law" = some (some (.ref f51)))(l51:K.lookup f51 = some ⟨oc51,od51,.func (fnOf "law" "law" (lZ pS) (fZ pS) (aI pS) .none kV51 dc51 pm51 an51 cd51 ct51),sl51⟩)(c51:codeIn K cd51 "law"=true)(k51:keepIn K (.ref f51)=true)(z_abs:nsIn K mainGlobals "abs"=some none)(z_all:nsIn K mainGlobals "all"=some none)(z_any:nsIn K mainGlobals "any"=some none)(z_int:nsIn K mainGlobals "int"=some none)(z_isinstance:nsIn K mainGlobals "isinstance"=some none)(z_len:nsIn K mainGlobals "len"=some none)(z_list:nsIn K mainGlobals "list"=some none)(z_min:nsIn K mainGlobals "min"=some none)(z_range:nsIn K mainGlobals "range"=some none)(z_sorted:nsIn K mainGlobals "sorted"=some none){GONE:Addr}{odGONE:Option Addr}{nGONE:Nat}{slGONE:Array (Option Value)}{tGONE_0:Tok}{tGONE_1:Tok}(ag_ONE:nsIn K mainGlobals "ONE"=some (some (.ref GONE)))(lGONE:K.lookup GONE = some ⟨.type "tuple",odGONE,.seq #[.int 1 tGONE_0,.int 1 tGONE_1] nGONE,slGONE⟩)(tk_joined_spans:∃oc od fd osl,K.lookup f2=some ⟨oc,od,.func fd,osl⟩/\fd.code=.ref 275):∃fd:FuncData,(∀(s:Shared)(v:Value),BindsTo s fd ⟨[v],[]⟩ [("_law_script",v)])/\∀base:Heap,K.In base->base.Ns mainGlobals mg->(∀t∈tabsL,CodeHd base t.1 t.2.1/\base.BuiltinsAt mg t.2.1)->mX l.prog w K mg base CX0 151 fa fd ["_law_script"] (rM K (sp_law 271)):=by
 have e:=hfa.symm.trans (mg_of X G a51);cases e;have H0:=b0.has X G (ps:=["ones","others","earlier"]) (by subst_eqs)
 have H1:=b1.has X G (ps:=["things","earlier"]) (by subst_eqs)
 have H2:=b2.has X G (ps:=["spans","earlier"]) (by subst_eqs)
 have H3:=b3.has X G (ps:=["one","other"]) (by subst_eqs)
 have H4:=b4.has X G (ps:=["one","other"]) (by subst_eqs)
 have H5:=b5.has X G (ps:=["one","other"]) (by subst_eqs)
 have H6:=b6.has X G (ps:=["one","other"]) (by subst_eqs)
 have H7:=b7.has X G (ps:=["one","other"]) (by subst_eqs)
 have H8:=b8.has X G (ps:=["one","other"]) (by subst_eqs)
 have H9:=b9.has X G (ps:=["p","q"]) (by subst_eqs)
 have H10:=b10.has X G (ps:=["p","q"]) (by subst_eqs)
 have H11:=b11.has X G (ps:=["p","q"]) (by subst_eqs)
 have H12:=b12.has X G (ps:=["p","q"]) (by subst_eqs)
 have H13:=b13.has X G (ps:=["_law_cell"]) (by subst_eqs)
 have H14:=b14.has X G (ps:=["_law_from","_law_many"]) (by subst_eqs)
 have H15:=b15.has X G (ps:=["_law_top","_law_bottom"]) (by subst_eqs)
 have H16:=b16.has X G (ps:=["_law_from"]) (by subst_eqs)
 have H17:=b17.has X G (ps:=["_law_from"]) (by subst_eqs)
 have H18:=b18.has X G (ps:=["_law_one","_law_other","_law_by"]) (by subst_eqs)
 have H19:=b19.has X G (ps:=["_law_p","_law_q","_law_by"]) (by subst_eqs)
 have H20:=b20.has X G (ps:=["_law_one","_law_other"]) (by subst_eqs)
 have H21:=b21.has X G (ps:=["_law_script","_law_k"]) (by subst_eqs)
 have H22:=b22.has X G (ps:=["c","a","p"]) (by subst_eqs)
 have H23:=b23.has X G (ps:=["c","a","t"]) (by subst_eqs)
 have H24:=b24.has X G (ps:=["c","a","p"]) (by subst_eqs)
 have H25:=b25.has X G (ps:=["one","other"]) (by subst_eqs)
 have H26:=b26.has X G (ps:=["place","laps"]) (by subst_eqs)
 have H27:=b27.has X G (ps:=["c","a","place"]) (by subst_eqs)
 have H28:=b28.has X G (ps:=["a","piece","number"]) (by subst_eqs)
 have H29:=b29.has X G (ps:=["pieces"]) (by subst_eqs)
 have H30:=b30.has X G (ps:=["p"]) (by subst_eqs)
 have H31:=b31.has X G (ps:=["number"]) (by subst_eqs)
 have H32:=b32.has X G (ps:=["c","p"]) (by subst_eqs)
 have H33:=b33.has X G (ps:=["c","p","q"]) (by subst_eqs)
 have H34:=b34.has X G (ps:=["p","q"]) (by subst_eqs)
 have H35:=b35.has X G (ps:=["a","b","p"]) (by subst_eqs)
 have H36:=b36.has X G (ps:=["p","q"]) (by subst_eqs)
 have H37:=b37.has X G (ps:=["piece","p"]) (by subst_eqs)
 have H38:=b38.has X G (ps:=["c","a","p","q"]) (by subst_eqs)
 have H39:=b39.has X G (ps:=["piece","p"]) (by subst_eqs)
 have H40:=b40.has X G (ps:=["p","q"]) (by subst_eqs)
 have H41:=b41.has X G (ps:=["piece"]) (by subst_eqs)
 have H42:=b42.has X G (ps:=["pieces","others"]) (by subst_eqs)
 have H43:=b43.has X G (ps:=["stretches"]) (by subst_eqs)
 have H44:=b44.has X G (ps:=["pieces"]) (by subst_eqs)
 have H45:=b45.has X G (ps:=["_law_c","_law_a","_law_t"]) (by subst_eqs)
 have H46:=b46.has X G (ps:=["_law_from"]) (by subst_eqs)
 have H47:=b47.has X G (ps:=["_law_from","_law_c","_law_a"]) (by subst_eqs)
 have H48:=b48.has X G (ps:=["_law_script","_law_many"]) (by subst_eqs)
 have H49:=b49.has X G (ps:=["_law_c","_law_stops_here","_law_at","_law_long"]) (by subst_eqs)
 have H50:=b50.has X G (ps:=["_law_c","_law_stops_here","_law_spans_here"]) (by subst_eqs)
 have F51:=fun_mk (st:=pS) l51 c51 k51;have wK:=mg_none_of X G z_abs;have aFm:=mg_none_of X G z_all;have xM:=mg_none_of X G z_any;have xW:=mg_none_of X G z_int;have lX:=mg_none_of X G z_isinstance;have eK:=mg_none_of X G z_len;have kO:=mg_none_of X G z_list;have aEg:=mg_none_of X G z_min;have kA:=mg_none_of X G z_range;have kZ:=mg_none_of X G z_sorted;have aCP:aDQ K mg "ONE" aKQ:=⟨_,.ref GONE,mg_of X G ag_ONE,rfl,λH=>(mI (xs:=[.int (1),.int (1)]) (.inr ⟨_,_,_,lGONE,rfl,rfl,by show(2:Nat)<=sizeLine;decide,(.cons ⟨_,rfl⟩ (.cons ⟨_,rfl⟩ .nil))⟩) (cC cS (cC cS cN)))⟩;refine⟨fnOf "law" "law" (lZ pS) (fZ pS) (aI pS) .none kV51 dc51 pm51 an51 cd51 ct51,λs v=>.of_eq rfl,λbase _ _ hTb=>?_⟩;have tb_joined_spans:aEL K mg base "joined_spans" 271:=λf oc od fd osl hm lk=>by obtain⟨oc2,od2,fd2,osl2,lk2,hc2⟩:=tk_joined_spans;have e:=hm.symm.trans (mg_of X G b2.1);cases e;rw[lk2] at lk;cases lk;exact⟨275,hc2,(hTb _ mem_cons_self).1,(hTb _ mem_cons_self).2⟩
 have vD:=aBs (P:=l.prog) (w:=w) (base:=base) H0 eK;have iD:=zI H1 eK kO vD;have jK:=sX H2 tb_joined_spans iD;have bZ:=nO (P:=l.prog) (w:=w) (base:=base) H3 wK;have fE:=aEP H4 bZ;have gX:=aDi H5 fE;have dD:=aDC H6 bZ;have qN:=aFC H7 dD;have mN:=aDE (P:=l.prog) (w:=w) (base:=base) H8;have lH:=aGy H9 gX;have iC:=aAb H10 fE;have eF:=uK H11 fE dD;have iN:=rX H12 gX dD;have iA:=yG (P:=l.prog) (w:=w) (base:=base) H13 xW;have bJ:=zY (P:=l.prog) (w:=w) (base:=base) H14;have bF:=wM (P:=l.prog) (w:=w) (base:=base) H15 wK;have jX:=wW H16 bJ bF;have mK:=aAh H17 jX;have gP:=aAE H18 bF;have dR:=yF H19 gP;have eY:=uF H20 bF;have kR:=uJ (P:=l.prog) (w:=w) (base:=base) H21 eK;have qF:=zN H22 fE qN lH eF iN;have qU:=aAn H23 aCP fE gX dD qN lH iC;have mV:=zV H24 qF;have eV:=aBm H25 mN;have jC:=aAA (P:=l.prog) (w:=w) (base:=base) H26;have mB:=zR H27 iC lH qU;have qW:=zK H28 mV eV jC;have kL:=uM H29 qW eV jC mB jK xM eK;have cE:=sH (P:=l.prog) (w:=w) (base:=base) H30;have sZ:=aFB (P:=l.prog) (w:=w) (base:=base) H31;have iY:=vU H32 cE;have tK:=aBe H33 iY sZ;have aFv:=aGe H34 lH eF;have sV:=aFw H35 cE sZ;have rK:=aBA H36 mN;have kJ:=uE H37 sV rK;have aAf:=aC1 H38 sV;have aIB:=aIU H39 kJ tK aAf;have aBT:=aFE (P:=l.prog) (w:=w) (base:=base) H40;have tD:=aAS H41 aBT aFv;have nC:=wT H42 aIB xM kO;have gK:=oW (P:=l.prog) (w:=w) (base:=base) H43;have oA:=aBj H44 tD gK kL nC kZ;have gY:=sS H45 bF gP eY dR;have hV:=qY H46 mK dR;have oH:=wR H47 gY bJ dR bF kA;have oU:=wU H48 iA bJ eK xW aEg;have gO:=wV (P:=l.prog) (w:=w) (base:=base) H49 eK;have tG:=aAt H50 gO eK kA aFm kZ;exact aGv (P:=l.prog) (w:=w) (base:=base) F51 iA kR hV oH oU gO tG oA kO eK lX
end Lw
namespace PySem.W.Fast
local macro_rules|`(#check $s:str)=>do
 let mut n:=0;let mut k:=0;let mut o:=#[]
 for c in s.getString.toList do
  n:=n*85+(if c.toNat<91 then c.toNat-35 else c.toNat-37);k:=k+1
  if k=10 then
   let i:=Lean.mkIdent (.mkSimple s!"tw{n}")
   o:=o.push (←`(command|noncomputable def $i:ident:Unit:=()));n:=0;k:=0
 return Lean.mkNullNode (o.map (·.raw))
#check "-Hx-f3GG<1:Xjg4eA+K?PQ8_49'P%ojYT+^g?+3qKAWo-/=Zo#lB,Z-AuJxg/n^MaE@Ml$H)JUr6@MG&8>-(%^3lMFJ*x:86Odtv5r8v.%DTf,P3WT=L];kmd>J=cq=TA%ngpbef1H#o0)vSkLRY^wOj#h&F9aC`QXyXwjGi(+f/f<RD*UR%kY>Q,#wqvQ*ny77WtCo^btoW&&xPMGXFr4ERf@dksl*NN_;8&45IjOB-cF-.YRKgPt]1A52icntuAEsvQD>BcFn`:A0m_7q2-cDJ/IAv@oUl*2$/R*$2fU-f6r&c/sjF59R7uMtEYT>$lon1WgL7Uo8RCj?f^/--sNb7TL8:/:/*;Ku&jm?Pjj<.`bg_/5ce'+`yImW6Ph?I(ZT8uQ]NR0SmewtT`#Twi]0$66%x?cl.)73?b^Lr5ivnn)_h`9kj5._T_9R:y8L+bL?iT=vDqF@$]v4ahwP(?q5I,=Cuv1%MS1PxLf;1=DFw329qY:s;=(+&_yZ1SaZS9bjTov_5k@y$oteGfw<wEqE%C>A@_t'CbUhZ2VOh_/1tc2/`jI-*96*ecJ):Oqfhd?^.imkU6'77gdbE>tq>(?e]GSSCt'ZOIcl^q&p5V9u7)4rDEqc>Y0MP]Cw=$5<B4gB:wmJ9vj7a0f%ur@=w.SK8FgnXcf/jql&(0ejJL_XU,NUOZZX,Xi.KKbJEt*)B3g$l7cdk0h@geT2r>r2^oevO6T>soW0:+Pra14`2d6F-0:tSRl#DNKK+:HH6Tw@u$f3,_0(I9ngQm>cWQ>)5/("
end PySem.W.Fast
open PySem PySem.W PyProof.Rows
set_option maxRecDepth 100000 in
set_option maxHeartbeats 0 in
theorem PySem.Challenge.cw_arcmill_k42_joined_on_a_circle_holds : PySem.Challenge.rw_arcmill_k42_joined_on_a_circle.Holds := by
 w_on;o_law;k_head;(case hw=>w_witness2)
 k_fill
 refine Dd.walk_ofL (l:=PySem.Challenge.rw_arcmill_k42_joined_on_a_circle) (n:=63) (k:=151) (x:="_law_script") (sp:=Lw.sp_law 271) (tabs:=Lw.tabsL) rfl (by decide) rfl ⟨rfl,by decide,by decide⟩ (λw h Y=>PySem.W.km_in_of Y) (by intro w;kernel_rfl) (by decide) (λw h Y=>List.forall_mem_cons.mpr ⟨⟨PySem.W.codeHd_of_K (PySem.W.km_in_of Y) (by kernel_rfl),PySem.W.km_tabs_of Y 271 (by k_mem)⟩,λ_ h=>nomatch h⟩) ?F Lw.law_here
 case F =>
  intro w mg fa h KX G hmg
  refine' Lw.all_mk KX G hmg ?b0 ?b1 ?b2 ?b3 ?b4 ?b5 ?b6 ?b7 ?b8 ?b9 ?b10 ?b11 ?b12 ?b13 ?b14 ?b15 ?b16 ?b17 ?b18 ?b19 ?b20 ?b21 ?b22 ?b23 ?b24 ?b25 ?b26 ?b27 ?b28 ?b29 ?b30 ?b31 ?b32 ?b33 ?b34 ?b35 ?b36 ?b37 ?b38 ?b39 ?b40 ?b41 ?b42 ?b43 ?b44 ?b45 ?b46 ?b47 ?b48 ?b49 ?b50 ?a51 ?l51 ?c51 ?k51 ?z_abs ?z_all ?z_any ?z_int ?z_isinstance ?z_len ?z_list ?z_min ?z_range ?z_sorted ?ag_ONE ?lGONE ?tk_joined_spans
  (case b0|b1|b2|b3|b4|b5|b6|b7|b8|b9|b10|b11|b12|b13|b14|b15|b16|b17|b18|b19|b20|b21|b22|b23|b24|b25|b26|b27|b28|b29|b30|b31|b32|b33|b34|b35|b36|b37|b38|b39|b40|b41|b42|b43|b44|b45|b46|b47|b48|b49|b50 =>exact⟨by k_is,_,L2.fun_mk (by k_is) (by k_is) (by k_is)⟩)
  (case a51|l51|c51|k51|z_abs|z_all|z_any|z_int|z_isinstance|z_len|z_list|z_min|z_range|z_sorted|ag_ONE|lGONE =>k_is)
  (case tk_joined_spans=>exact⟨_,_,_,_,by k_is,rfl⟩)
