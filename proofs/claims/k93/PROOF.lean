import PyProof.Rows.All
import Wide.All
import OpenK.AllK
import Wide.FinOn
import Lean
import PyProof.EqAt
import PyProof.EqKinds
import PyProof.TupleCall
import PyProof.NeKinds
import PyProof.IsRules
import PyProof.CompFree
import KE.LcSums
import PyProof.FactsAll.range_1
import PyProof.SeqRoads2
import KE.KRevSl
import PyProof.ZipIter
import PyProof.TupleIter
import PyProof.FitsBits
import PyProof.NoPylong
import KE.IntBitsLaws
import PyProof.CompMap
import PyProof.AutoSeq1
import PyProof.SeqInW
import KE.KDictList
import PyProof.Rows.TupDisplay
import KE.KSortTup
import PyProof.ListMulRoad
import PyProof.Rows.SumAny
import PyProof.StrLawsOcc
import PyProof.FitsReplace
import PyProof.CollectIter
import PyProof.Rows.CountFlat
import PyProof.Draws
import PyProof.EnumMake
import PySem.Challenge.RW_arcmill_k93_programs_changed
set_option Elab.async false
set_option linter.all false
set_option bootstrap.genMatcherCode false
set_option maxRecDepth 100000
open List (range mem_cons_self mem_cons_of_mem mem_append_left mem_append_right append_nil replicate length length_take getElem?_append_right getElem?_append_left getElem?_map mem_of_getElem? length_append length_map length_replicate size_toArray length_drop length_singleton replicate_succ flatten_cons map_nil map_cons length_cons take_zero length_set getElem?_set all_cons all_map take_of_length_le lookup_cons cons_append nil_append foldl_cons append_assoc take_length foldl length_nil mem_cons not_mem_nil map map_append all_eq_true take_append_drop map_replicate replicate_zero sum_append nodup_append Nodup append_inj' any_map any_nil any_cons dropLast_concat drop_left nodup_cons foldl_nil)
open PySem.W (instObj methodObj Frag lookIn findIn mroIn kitOne kia_one kitx_list keepIn callWith_K fnOf codeIn excIn exmOne KeysLit nsIn mapOf_K find_K mg_of typeIn clsIn mg_none_of)
namespace L2
open PySem PySem.Spec PyProof.Rows
noncomputable abbrev Key:=Sum Int Str
noncomputable def aKV:Key->Value->Bool
 |.inl k,v=>Value.isInt k v
 |.inr x,v=>Value.isStrOf x v
noncomputable def aQT (w:World):Key->Int
 |.inl k=>hashInt k
 |.inr x=>hashStr w x
theorem fK:∀{k:Key}{v:Value},aKV k v=true->(∃i t,k=Sum.inl i/\v=Value.int i t)∨(∃x t,k=Sum.inr x/\v=Value.str x t)
 |.inl i,v,h=>by obtain⟨t,e⟩:=Value.isInt_shape (k:=i) (v:=v) h;exact .inl ⟨i,t,rfl,e⟩
 |.inr x,v,h=>by obtain⟨t,e⟩:=Value.isStrOf_shape (x:=x) (v:=v) h;exact .inr ⟨x,t,rfl,e⟩
theorem aLO (a b:Int):decide ((Sum.inl a:Key)=Sum.inl b)=(a==b):=by
 by_cases e:a=b
 ·subst e;simp
 ·have h:¬(Sum.inl a:Key)=Sum.inl b:=λq=>e (Sum.inl.inj q);rw[decide_eq_false h];exact(beq_eq_false_iff_ne.mpr e).symm
theorem aMk (a b:Str):decide ((Sum.inr a:Key)=Sum.inr b)=decide (a=b):=by
 by_cases e:a=b
 ·subst e;simp
 ·have h:¬(Sum.inr a:Key)=Sum.inr b:=λq=>e (Sum.inr.inj q);rw[decide_eq_false h,decide_eq_false e]
theorem aLu (a:Int)(b:Str):decide ((Sum.inl a:Key)=Sum.inr b)=false:=decide_eq_false (λq=>nomatch q)
theorem aLU (a:Str)(b:Int):decide ((Sum.inr a:Key)=Sum.inl b)=false:=decide_eq_false (λq=>nomatch q)
noncomputable def aFn (prog:Program)(w:World):PySem.KeyKind prog w Key where
 is:=aKV
 hash:=aQT w
 inj:=λv a b ha hb=>by
  rcases fK ha with⟨i,t,rfl,rfl⟩|⟨x,t,rfl,rfl⟩
  ·rcases fK hb with⟨j,u,rfl,e⟩|⟨y,u,rfl,e⟩
   ·injection e with e1 _;rw[e1]
   ·exact nomatch e
  ·rcases fK hb with⟨j,u,rfl,e⟩|⟨y,u,rfl,e⟩
   ·exact nomatch e
   ·injection e with e1 _;rw[e1]
 byValue:=λk v h=>by rcases fK h with⟨i,t,rfl,rfl⟩|⟨x,t,rfl,rfl⟩<;>rfl
 pyHash:=λhv h=>by
  rcases fK hv with⟨i,t,rfl,rfl⟩|⟨x,t,rfl,rfl⟩
  ·exact wpAny_pyHash_int h
  ·exact wpAny_pyHash_str h
 eqBool:=λhu hv h=>by
  rcases fK hu with⟨i,t,rfl,rfl⟩|⟨x,t,rfl,rfl⟩
  ·rcases fK hv with⟨j,u,rfl,rfl⟩|⟨y,u,rfl,rfl⟩
   ·rw[aLO] at h;exact wpAny_eqBool_int h
   ·rw[aLu] at h;exact SeqAt.EqAt.int_str i t y u _ _ _ _ h
  ·rcases fK hv with⟨j,u,rfl,rfl⟩|⟨y,u,rfl,rfl⟩
   ·rw[aLU] at h;exact SeqAt.EqAt.str_int x t j u _ _ _ _ h
   ·rw[aMk] at h;exact wpAny_eqBool_str h
 «strs»:=λk x t v h=>by
  rcases fK h with⟨i,u,rfl,e⟩|⟨y,u,rfl,e⟩
  ·exact nomatch e
  ·injection e with e1 _
   subst e1;cases v<;>rfl
inductive V where
 |non|bl (b:Bool)|int (i:Int)|str (x:Str)|byt (b:Array UInt8)|flt (b:UInt64)|ref (a:Addr)|ty (n:String)
 deriving DecidableEq
def cT:V->Value->Prop
 |.non,u=>u=Value.none
 |.bl b,u=>u=Value.bool b
 |.int i,u=>∃t,u=Value.int i t
 |.str x,u=>∃t,u=Value.str x t
 |.byt b,u=>∃t,u=Value.bytes b t
 |.flt b,u=>∃t,u=Value.float b t
 |.ref a,u=>u=Value.ref a
 |.ty n,u=>u=Value.type n
abbrev cG:List V->List Value->Prop:=Paired cT
theorem cG.length {xs:List V}{us:List Value}(r:cG xs us):xs.length=us.length:=Paired.length r
theorem cG.get:∀{xs:List V}{us:List Value} {i:Nat} {x:V},cG xs us->xs[i]?=some x->∃u,us[i]?=some u/\cT x u
 |_,_,_,_,.nil,e=>by simp at e
 |_,_,0,_,.cons r _,e=>by simp at e;subst e;exact⟨_,rfl,r⟩
 |_,_,i+1,x,.cons _ t,e=>by obtain⟨u,h1,h2⟩:=cG.get (i:=i) (x:=x) t (by simpa using e);exact⟨u,by simpa using h1,h2⟩
theorem cG.append:∀{xs ys:List V}{us ws:List Value},cG xs us->cG ys ws->cG (xs++ys) (us++ws)
 |_,_,_,_,.nil,s=>s
 |_,_,_,_,.cons r t,s=>.cons r (cG.append t s)
theorem cG.take:∀{xs:List V}{us:List Value} (n:Nat),cG xs us->cG (xs.take n) (us.take n)
 |_,_,0,_=>.nil
 |_,_,_+1,.nil=>.nil
 |_,_,n+1,.cons r t=>.cons r (cG.take n t)
theorem cG.drop:∀{xs:List V}{us:List Value} (n:Nat),cG xs us->cG (xs.drop n) (us.drop n)
 |_,_,0,r=>r
 |_,_,_+1,.nil=>.nil
 |_,_,n+1,.cons _ t=>cG.drop n t
def aIY:Option V->Option Value->Prop
 |some v,some u=>cT v u
 |none,none=>True
 |_,_=>False
def KV {κ:Type}:List (κ×V)->List (κ×Value)->Prop:=Paired λ(p:κ×V)(q:κ×Value)=>p.1=q.1/\cT p.2 q.2
noncomputable def kV:Key->V
 |.inl i=>.int i
 |.inr x=>.str x
inductive HO where
  |lst (xs:List V)
  |tup (xs:List V)
  |dK (kvs:List (Key×V))|dT (kvs:List (List Key×V))
  |set (S:Int->Bool) (n:Nat)
  |ins (C dx:Addr) (fs:List (Str×V))
  |own (x:Addr)
  |xd (fs:List (Str×V))
  |met (f x:Addr)
  |rng (lo hi:Int)
  |frz (o:Obj) (u:HO)
  |tbl (ps:Array Value)
  |ext (φ:Heap->Prop)
noncomputable abbrev Hp:=Addr->Option HO
noncomputable def upd (H:Hp)(a:Addr)(o:HO):Hp:=λb=>if b=a then some o else H b
theorem dN {H:Hp}{a:Addr}{o:HO}:upd H a o a=some o:=by unfold upd;rw[if_pos rfl]
theorem bS {H:Hp}{a b:Addr}{o:HO}(h:b≠a):upd H a o b=H b:=by unfold upd;rw[if_neg h]
theorem aAw {H:Hp}{a b:Addr}{o u:HO}(h:H a=some o)(h':H b=some u)(d:o≠u):a≠b:=by intro e;subst e;rw[h] at h';exact d (Option.some.inj h')
theorem bW {H:Hp}{a b:Addr}{o:HO}(h:H a=some o)(h':H b=none):a≠b:=by intro e;subst e;rw[h] at h';cases h'
section
variable (P:Program)(w:World)
def gJ (H:Hp)(h:Heap)(a:Addr):HO->Prop
 |.lst xs=>xs.length<=sizeLine/\∃(its:List Value)(n:Nat),cG xs its/\h.get? a = some { cls:=.type "list",data:=.seq its.toArray n }
 |.tup xs=>xs.length<=sizeLine/\∃its:List Value,cG xs its/\IsTup h a its.toArray
 |.dK kvs=>kvs.length<=sizeLine/\(a==sysModules)=false/\∃vs,KV kvs vs/\h.DictOf (aFn P w) a vs
 |.dT kvs=>kvs.length<=sizeLine/\(a==sysModules)=false/\∃xs:List (List Key×Addr×Value),
   Paired (λ(p:List Key×V)(q:List Key×Addr×Value)=>p.1=q.1/\H q.2.1=some (.tup (p.1.map kV))/\cT p.2 q.2.2) kvs xs /\
   ∃o es ep,h.get? a=some o/\o.ExactDict/\o.data=.dict es ep/\es.toList=xs.map (entryOfKey (tupleKind (aFn P w)))/\(xs.map (·.1)).Nodup
 |.set S n=>h.SetOf (intKind P w) a S n
 |.ins C dx fs=>H dx=some (.own a)/\fs.length<=1000/\dx≠a/\h.get? a=some (instObj C dx) /\
   ∃mA,h.Ns1 dx mA/\(∀f,aIY (fs.lookup f) (mA f))/\PySem.Within mA (fs.map (·.1))
 |.own _=>∃o,h.get? a=some o
 |.xd fs=>∃mA,h.Ns1 a mA/\∀f,aIY (fs.lookup f) (mA f)
 |.rng lo hi=>∃t u v,h.get? a = some { cls:=.type "range",data:=.fields #[.int lo t,.int hi u,.int 1 v] }
 |.frz o u=>h.get? a=some o/\gJ H h a u
 |.tbl ps=>h.get? a=some { cls:=.none,data:=.fields ps }
 |.met f x=>h.get? a=some (methodObj (.ref f) (.ref x))
 |.ext φ=>φ h/\(∃o,h.get? a=some o)/\∀h1 h2:Heap,φ h1->(∀o,h1.get? a=some o->h2.get? a=some o)->φ h2
def HOk (H:Hp)(h:Heap):Prop:=∀a o,H a=some o->gJ P w H h a o
end
section
variable {P:Program}{w:World}{H H':Hp}{h h':Heap}{a:Addr}{o:HO}
theorem gJ.lt (x:gJ P w H h a o):a<h.objs.size:=by
 cases o with
 |lst xs=>obtain⟨_,_,_,_,e⟩:=x;exact Heap.lt_size e
 |tup xs=>obtain⟨_,_,_,p⟩:=x;exact p.lt
 |dK kvs=>obtain⟨_,_,_,_,o,_,_,e,_⟩:=x;exact Heap.lt_size e
 |dT kvs=>obtain⟨_,_,_,_,o,_,_,e,_⟩:=x;exact Heap.lt_size e
 |set S n=>obtain⟨o,_,_,_,e,_⟩:=x;exact Heap.lt_size e
 |ins C dx fs=>obtain⟨_,_,_,e,_⟩:=x;exact Heap.lt_size e
 |own y=>obtain⟨_,e⟩:=x;exact Heap.lt_size e
 |xd fs=>obtain⟨_,⟨_,_,_,e,_⟩,_⟩:=x;exact Heap.lt_size e
 |rng lo hi=>obtain⟨_,_,_,e⟩:=x;exact Heap.lt_size e
 |frz ob u=>obtain⟨e,_⟩:=x;exact Heap.lt_size e
 |tbl ps=>exact Heap.lt_size (show h.get? a=some _ from x)
 |met f y=>exact Heap.lt_size (show h.get? a=some _ from x)
 |ext φ=>obtain⟨_,⟨_,e⟩,_⟩:=x;exact Heap.lt_size e
theorem Paired.mapP {α β:Type}{F G:α->β->Prop}:∀{l₁:List α}{l₂:List β},Paired F l₁ l₂->(∀a b,F a b->G a b)->Paired G l₁ l₂
 |_,_,.nil,_=>.nil
 |_,_,.cons r t,f=>.cons (f _ _ r) (Paired.mapP t f)
theorem gJ.stay (x:gJ P w H h a o)(k:∀b u,(b=a∨H b=some (.own a))->h.get? b=some u->h'.get? b=some u)(ho:∀b,H b=some (.own a)->H' b=some (.own a))(ht:∀b xs,H b=some (.tup xs)->H' b=some (.tup xs)):gJ P w H' h' a o:=by
 induction o with
 |lst xs=>obtain⟨z,its,n,r,e⟩:=x;exact⟨z,its,n,r,k _ _ (.inl rfl) e⟩
 |tup xs=>obtain⟨z,its,r,ob,e,c⟩:=x;exact⟨z,its,r,ob,k _ _ (.inl rfl) e,c⟩
 |dK kvs=>obtain⟨z,y,vs,r,ob,es,ep,e,c⟩:=x;exact⟨z,y,vs,r,ob,es,ep,k _ _ (.inl rfl) e,c⟩
 |dT kvs =>
  obtain⟨z,y,xs,r,ob,es,ep,e,c⟩:=x;exact⟨z,y,xs,Paired.mapP r λp q z=>⟨z.1,ht _ _ z.2.1,z.2.2⟩,ob,es,ep,k _ _ (.inl rfl) e,c⟩
 |set S n=>obtain⟨ob,es,ep,t,e,c⟩:=x;exact⟨ob,es,ep,t,k _ _ (.inl rfl) e,c⟩
 |ins C dx fs =>
  obtain⟨d,z,ne,e,mA,⟨od,es,ep,e2,c⟩,r⟩:=x;exact⟨ho _ d,z,ne,k _ _ (.inl rfl) e,mA,⟨od,es,ep,k _ _ (.inr d) e2,c⟩,r⟩
 |own y=>obtain⟨ob,e⟩:=x;exact⟨ob,k _ _ (.inl rfl) e⟩
 |xd fs=>obtain⟨mA,⟨od,es,ep,e,c⟩,r⟩:=x;exact⟨mA,⟨od,es,ep,k _ _ (.inl rfl) e,c⟩,r⟩
 |rng lo hi=>obtain⟨t,u,v,e⟩:=x;exact⟨t,u,v,k _ _ (.inl rfl) e⟩
 |frz ob u ih=>obtain⟨e,q⟩:=x;exact⟨k _ _ (.inl rfl) e,ih q⟩
 |tbl ps =>
  have e:h.get? a=some { cls:=.none,data:=.fields ps }:=x;show h'.get? a=some { cls:=.none,data:=.fields ps };exact k a _ (.inl rfl) e
 |met f y =>
  have e:h.get? a=some (methodObj (.ref f) (.ref y)):=x;show h'.get? a=some (methodObj (.ref f) (.ref y));exact k a _ (.inl rfl) e
 |ext φ=>obtain⟨p,⟨o,e⟩,st⟩:=x;exact⟨st _ _ p λo q=>k _ _ (.inl rfl) q,⟨o,k _ _ (.inl rfl) e⟩,st⟩
theorem HOk.lt (x:HOk P w H h)(e:H a=some o):a<h.objs.size:=(x a o e).lt
theorem HOk.fresh (x:HOk P w H h)(e:h.objs.size<=a):H a=none:=by
 cases q:H a with
 |none=>rfl
 |some u=>exact absurd (Nat.lt_of_lt_of_le (x.lt q) e) (Nat.lt_irrefl _)
theorem HOk.kept (x:HOk P w H h)(k:∀b u,h.get? b=some u->h'.get? b=some u):HOk P w H h':=λa o e =>
 (x a o e).stay (λb u _ q=>k b u q) (λ_ q=>q) λ_ _ q=>q
theorem HOk.laid (x:HOk P w H h)(k:∀b u,h.get? b=some u->h'.get? b=some u)(hp:h.objs.size<=a)(new:gJ P w (upd H a o) h' a o):HOk P w (upd H a o) h':=λb u e=>by
 have hn:=x.fresh hp;by_cases hb:b=a
 ·subst hb;rw[dN] at e;cases e;exact new
 ·rw[bS hb] at e;exact(x b u e).stay (λc v _ q=>k c v q) (λc q=>by rw[bS (bW q hn)];exact q) λc xs q=>by rw[bS (bW q hn)];exact q
end
def Rd (H:Hp)(a:Addr)(u:HO):Prop:=H a=some u ∨ ∃o,H a=some (.frz o u)
theorem Rd.ok {P:Program}{w:World}{H:Hp}{h:Heap}{a:Addr}{u:HO}(r:Rd H a u)(x:HOk P w H h):gJ P w H h a u:=by
 rcases r with r|⟨o,r⟩
 ·exact x a u r
 ·obtain⟨_,q⟩:=x a _ r;exact q
def Mut:Option HO->Prop
 |some (.lst _)=>True
 |some (.dK _)=>True
 |some (.dT _)=>True
 |some (.set _ _)=>True
 |some (.ins _ _ _)=>True
 |some (.ext _)=>True
 |_=>False
section
variable {P:Program}{w:World}{H:Hp}{h h':Heap}{x e:Addr}{o':HO}
theorem HOk.write (ok:HOk P w H h)(mu:Mut (H x))(he:e=x∨H e=some (.own x))(k:∀b u,b≠e->h.get? b=some u->h'.get? b=some u)(heo:∃u,h'.get? e=some u)(new:gJ P w (upd H x o') h' x o'):HOk P w (upd H x o') h':=λb u q=>by
 have nown:∀c y,H c=some (.own y)->c≠x:=λc y r z=>by subst z;rw[r] at mu;exact mu
 have ntup:∀c xs,H c=some (.tup xs)->c≠x:=λc xs r z=>by subst z;rw[r] at mu;exact mu
 by_cases hb:b=x
 ·subst hb;rw[dN] at q;cases q;exact new
 ·rw[bS hb] at q;by_cases hbe:b=e
  ·have q':H b=some (.own x):=by
    rcases he with z|z
    ·exact absurd (hbe.trans z) hb
    ·rw[hbe];exact z
   rw[q] at q';cases q';obtain⟨v,hv⟩:=heo;exact⟨v,by rw[hbe];exact hv⟩
  ·refine(ok b u q).stay (λc v hc r=>k c v ?_ r) (λc r=>by rw[bS (nown c b r)];exact r) λc xs r=>by rw[bS (ntup c xs r)];exact r
   rcases hc with rfl|hc
   ·exact hbe
   ·rintro rfl;rcases he with z|z
    ·exact nown c b hc z
    ·rw[hc] at z;cases z;exact hb rfl
end
structure Un (fs ex:List Addr)(H H':Hp)(h h':Heap):Prop where
 keep:∀b o,h.get? b=some o->H b=none->b∉fs->b∉ex->h'.get? b=some o
 slot:∀b o,h.get? b=some o->H b=none->b∈fs->b∉ex->∃sl,h'.get? b=some { o with slots:=sl }
 free:∀b o,h.get? b=some o->H b=none->b∉ex->H' b=none
 there:∀b o,h.get? b=some o->b∉ex->∃o',h'.get? b=some o'
 tups:∀b xs,H b=some (.tup xs)->H' b=some (.tup xs)
 frzs:∀b o u,H b=some (.frz o u)->H' b=some (.frz o u)
 tbls:∀b ps,H b=some (.tbl ps)->∃more,H' b=some (.tbl (ps++more))
section
variable {fs fs' ex ex':List Addr}{H H1 H2:Hp}{h h1 h2 h':Heap}{a x e:Addr}{o:HO}
theorem Un.any (u:Un fs ex H H1 h h1){b:Addr}{ob:Obj}(q:h.get? b=some ob)(n:H b=none)(hx:b∉ex):∃sl,h1.get? b=some { ob with slots:=sl }:=by
 by_cases hb:b∈fs
 ·exact u.slot b ob q n hb hx
 ·exact⟨ob.slots,u.keep b ob q n hb hx⟩
theorem Un.trans (a:Un fs ex H H1 h h1)(b:Un fs ex H1 H2 h1 h2):Un fs ex H H2 h h2 where
 keep:=λc ob q n hc hx=>b.keep c ob (a.keep c ob q n hc hx) (a.free c ob q n hx) hc hx
 slot:=λc ob q n hc hx=>by obtain⟨sl,e1⟩:=a.slot c ob q n hc hx;obtain⟨sl',e2⟩:=b.slot c _ e1 (a.free c ob q n hx) hc hx;exact⟨sl',e2⟩
 free:=λc ob q n hx=>by obtain⟨o',e1⟩:=a.there c ob q hx;exact b.free c o' e1 (a.free c ob q n hx) hx
 there:=λc ob q hx=>by obtain⟨o',e1⟩:=a.there c ob q hx;exact b.there c o' e1 hx
 tups:=λc xs q=>b.tups c xs (a.tups c xs q)
 frzs:=λc ob xs q=>b.frzs c ob xs (a.frzs c ob xs q)
 tbls:=λc ps q=>by obtain⟨m1,e1⟩:=a.tbls c ps q;obtain⟨m2,e2⟩:=b.tbls c _ e1;exact⟨m1++m2,by rw[e2,Array.append_assoc]⟩
theorem Un.kept (k:∀b u,h.get? b=some u->h'.get? b=some u):Un fs ex H H h h' :=
 ⟨λb ob q _ _ _=>k b ob q,λb ob q _ _ _=>⟨ob.slots,k b ob q⟩,λ_ _ _ n _=>n,λb ob q _=>⟨ob,k b ob q⟩,λ_ _ q=>q,λ_ _ _ q=>q,λ_ ps q=>⟨#[],by rw[q];simp⟩⟩
theorem Un.refl:Un fs ex H H h h:=Un.kept λ_ _ q=>q
theorem Un.laid (k:∀b u,h.get? b=some u->h'.get? b=some u)(hp:h.objs.size<=a)(hn:H a=none):Un fs ex H (upd H a o) h h' where
 keep:=λb u q _ _ _=>k b u q
 slot:=λb u q _ _ _=>⟨u.slots,k b u q⟩
 free:=λb u q n _=>by rw[bS (Nat.ne_of_lt (Nat.lt_of_lt_of_le (Heap.lt_size q) hp))];exact n
 there:=λb u q _=>⟨u,k b u q⟩
 tups:=λb xs q=>by rw[bS (bW q hn)];exact q
 frzs:=λb u xs q=>by rw[bS (bW q hn)];exact q
 tbls:=λb ps q=>⟨#[],by rw[bS (bW q hn),q];simp⟩
theorem Un.write (mu:Mut (H x))(he:e=x∨H e=some (.own x))(k:∀b u,b≠e->h.get? b=some u->h'.get? b=some u)(heo:∃u,h'.get? e=some u):Un fs ex H (upd H x o) h h':=by
 have hx:∀b,H b=none->b≠x:=λb n z=>by subst z;rw[n] at mu;exact mu
 have hb:∀b,H b=none->b≠e:=λb n z=>by
  subst z;rcases he with r|r
  ·exact hx b n r
  ·rw[n] at r;cases r
 have hm:∀b u,H b=some u->¬Mut (some u)->b≠x:=λb u q nm z=>by subst z;rw[q] at mu;exact nm mu
 refine⟨λb u q n _ _=>k b u (hb b n) q,λb u q n _ _=>⟨u.slots,k b u (hb b n) q⟩,λb u q n _=>by rw[bS (hx b n)];exact n,λb u q _=>?_,
  λb xs q=>by rw[bS (hm b _ q λz=>z)];exact q,λb u xs q=>by rw[bS (hm b _ q λz=>z)];exact q,λb ps q=>⟨#[],by rw[bS (hm b _ q λz=>z),q];simp⟩⟩
 by_cases hbe:b=e
 ·subst hbe;exact heo
 ·exact⟨u,k b u hbe q⟩
end
noncomputable def trk (h:Heap)(H:Hp):List Addr:=(range h.objs.size).filter λa=>(H a).isSome
noncomputable def aCd (h:Heap)(H:Hp):Heap:=PySem.W.hideAll h (trk h H)
theorem aGj (h:Heap)(H:Hp):(aCd h H).objs.size=h.objs.size:=PySem.W.hideAll_size _ _
theorem aHs {h:Heap}{H:Hp}{b:Addr}{o:Obj}(e:h.get? b=some o)(n:H b=none):(aCd h H).get? b=some o :=
 PySem.W.hideAll_get _ e λhm=>by have q:(H b).isSome=true:=(List.mem_filter.mp hm).2;rw[n] at q;simp at q
theorem aKC {h:Heap}{H:Hp}{b:Addr}{o:Obj}(e:(aCd h H).get? b=some o):h.get? b=some o/\H b=none:=by
 have e':h.get? b=some o:=PySem.W.of_hideAll (trk h H) e;refine⟨e',?_⟩;cases q:H b with
 |none=>rfl
 |some x =>
  have hm:b∈trk h H:=List.mem_filter.mpr ⟨List.mem_range.mpr (Heap.lt_size e'),by simp[q]⟩;have z:(aCd h H).get? b=none:=PySem.W.hideAll_none (trk h H) hm;rw[z] at e;cases e
noncomputable def aJW (g h:Heap)(L:Addr):List (Addr×Obj):=(range h.objs.size).filterMap λa=>if a=L∨(g.get? a).isSome=true then none else (h.get? a).map λo=>(a,o)
noncomputable def cP (g h:Heap)(L d:Addr):List (Addr×Obj):=(aJW g h L).filter λp=>decide (p.1≠d)
structure Mod (K:Frag)(mg:Str->Option Value)(base:Heap):Prop where
 kin:K.In base
 glob:base.Ns mainGlobals mg
 blt:∃mb,base.Ns builtinsNs mb/\∀x:Str,x ≠ "__name__"->mb x=bootBuiltins x
 nolimit:base.NoLimit
structure Cx where
 prog:Program
 w:World
 K:Frag
 mg:Str->Option Value
 base:Heap
 A:Around
 N:List Str
 s₀:Shared
 H₀:Hp
 env:Env
 outer:List Env
 stack:List Env
 ex:List Addr
 fn:Str->Bool
 calm:Bool
 pn:List (Addr×Obj)
 xe:Value->Shared->Prop
noncomputable def frs (l:List Env):List Addr:=l.filterMap (·.frame)
noncomputable abbrev Cx.fs (X:Cx):List Addr:=frs X.outer
def Vis (sc:Scope)(x:Str):Prop:=sc.names.lookup x=some .local∨sc.names.lookup x=some .cell∨sc.names.lookup x=some .free
def Loc (sc:Scope)(x:Str):Prop:=sc.names.lookup x=some .local∨sc.names.lookup x=some .cell
def aOZ (env:Env)(h:Heap)(m:Str->Option Value)(x:Str)(u:Value):Prop :=
 (env.kindOf x=some .local/\m x=some u)∨((env.kindOf x=some .cell∨env.kindOf x=some .free)/\∃c,env.cells.lookup x=some c/\h.IsCell c (some u))
structure Cx.Ok (X:Cx):Prop where
 mod:Mod X.K X.mg X.base
 kind:X.env.scope.kind=.function
 glob:X.env.globals=mainGlobals
 blt:X.env.builtins=builtinsNs
 above:X.s₀.heap.objs.size<=X.env.locals
 inj:∀x y c,X.env.cells.lookup x=some c->X.env.cells.lookup y=some c->x=y
 has:∀x,(X.env.kindOf x=some .cell∨X.env.kindOf x=some .free)->∃c,X.env.cells.lookup x=some c
 cab:∀x c,X.fn x=true->X.env.cells.lookup x=some c->X.s₀.heap.objs.size<=c
 hd:X.calm=true->X.A.handled=none
 frames:X.A.frames=some X.stack
 stk:X.stack=X.outer∨(X.stack=X.env::X.outer/\X.env.frame=some X.env.locals)
 exf:∀b∈X.ex,b≠X.env.locals/\∀x c,X.env.cells.lookup x=some c->c≠b
 bs:∀b o,X.base.get? b=some o->X.s₀.heap.get? b=some o/\X.H₀ b=none
 bsz:X.base.objs.size<=X.s₀.heap.objs.size
 noex:∀b o,X.base.get? b=some o->b∉X.ex
 exfs:∀b∈X.ex,b∉X.fs
 funs:X.s₀.heap.FunFrames X.base X.outer
 frf:∀b∈X.fs,X.H₀ b=none
structure Inv (X:Cx)(pins:List (Addr×Obj))(σ:List (Option V))(H:Hp)(s:Shared):Prop where
 ok:X.Ok
 os:s.os=X.s₀.os
 bare:AllBare s.gens
 base:Un X.fs X.ex X.H₀ H X.s₀.heap s.heap
 loc:∃m,s.heap.Ns X.env.locals m/\∀(i:Nat)(x:Str) (v:V),X.N[i]?=some x->σ[i]?=some (some v)->Vis X.env.scope x->∃u,cT v u/\aOZ X.env s.heap m x u
 cell:∀x c,X.env.cells.lookup x=some c->∃v,s.heap.IsCell c v
 free:H X.env.locals=none
 freeC:∀x c,X.env.cells.lookup x=some c->H c=none
 pin:∀p∈X.pn++pins,s.heap.get? p.1=some p.2/\H p.1=none/\p.1≠X.env.locals/\p.1∉X.fs/\∀v,p.2.data ≠ .cell v
 hok:HOk X.prog X.w H s.heap
 len:σ.length=X.N.length
section
variable {X:Cx}{pins:List (Addr×Obj)}{σ:List (Option V)}{H H':Hp}{s:Shared}{h':Heap}
theorem Cx.Ok.nofr (ok:X.Ok){b:Addr}{o:Obj}(e:X.base.get? b=some o):b∉X.fs:=λhb=>by have:=(ok.funs.mem hb).1;rw[e] at this;cases this
theorem Inv.bs (I:Inv X pins σ H s):∀b o,X.base.get? b=some o->s.heap.get? b=some o/\H b=none:=λb o e =>
 ⟨I.base.keep b o (I.ok.bs b o e).1 (I.ok.bs b o e).2 (I.ok.nofr e) (I.ok.noex b o e),I.base.free b o (I.ok.bs b o e).1 (I.ok.bs b o e).2 (I.ok.noex b o e)⟩
theorem Inv.bk (I:Inv X pins σ H s):∀b o,X.base.get? b=some o->s.heap.get? b=some o:=λb o e=>(I.bs b o e).1
theorem Inv.mod (I:Inv X pins σ H s):Mod X.K X.mg X.base:=I.ok.mod
theorem Inv.kIn (I:Inv X pins σ H s):X.K.In s.heap:=I.ok.mod.kin.keeps I.bk
theorem Inv.lt (I:Inv X pins σ H s):X.env.locals<s.heap.objs.size:=let ⟨_,hn,_⟩:=I.loc;hn.lt
theorem Inv.sz (I:Inv X pins σ H s):X.s₀.heap.objs.size<=s.heap.objs.size:=Nat.le_trans I.ok.above (Nat.le_of_lt I.lt)
theorem Inv.nofs (I:Inv X pins σ H s){a:Addr}(h:s.heap.objs.size<=a):a∉X.fs:=λhb=>by obtain⟨_,o,ho,_⟩:=I.ok.funs.mem hb;exact absurd (Nat.lt_of_lt_of_le (Heap.lt_size ho) (Nat.le_trans I.sz h)) (Nat.lt_irrefl _)
theorem Inv.cne (I:Inv X pins σ H s):∀x c,X.env.cells.lookup x=some c->c≠X.env.locals:=λx c e z=>by obtain⟨v,o,ho,hd⟩:=I.cell x c e;obtain⟨m,⟨o',es,ep,ho',hd',_⟩,_⟩:=I.loc;rw[z,ho'] at ho;cases ho;rw[hd'] at hd;cases hd
theorem Inv.funs (I:Inv X pins σ H s):s.heap.FunFrames X.base X.outer:=by
 have all:∀(l:List Env),(∀b∈frs l,b∈X.fs)->X.s₀.heap.FunFrames X.base l->s.heap.FunFrames X.base l:=by
  intro l
  induction l with
  |nil=>intro _ _;trivial
  |cons env r ih =>
   intro hs hl;obtain⟨hk,⟨L,o,hf,hn,ho,hd⟩,hr⟩:=hl;have hL:L∈X.fs:=hs L (by unfold frs;rw[List.filterMap_cons,hf];exact mem_cons_self);obtain⟨sl,e⟩:=I.base.slot L o ho (I.ok.frf L hL) hL λz=>I.ok.exfs L z hL;exact⟨hk,⟨L,_,hf,hn,e,hd⟩,ih (λb hb=>hs b (by unfold frs;rw[List.filterMap_cons,hf];exact mem_cons_of_mem _ hb)) hr⟩
 exact all X.outer (λ_ hb=>hb) I.ok.funs
theorem Inv.stack (I:Inv X pins σ H s):s.heap.FunFrames X.base X.stack:=by
 rcases I.ok.stk with e|⟨e,hf⟩
 ·rw[e];exact I.funs
 ·rw[e];obtain⟨m,hn,_⟩:=I.loc;refine .cons (by rw[I.ok.kind];decide) hf hn ?_ I.funs;exact Heap.get?_none_of_le (Nat.le_trans I.ok.bsz I.ok.above)
theorem Inv.stkSub (I:Inv X pins σ H s):∀b∈frs X.stack,b∈X.env.locals::X.fs:=λb hb=>by
 rcases I.ok.stk with e|⟨e,hf⟩
 ·rw[e] at hb;exact mem_cons_of_mem _ hb
 ·rw[e] at hb;unfold frs at hb;rw[List.filterMap_cons,hf] at hb;exact hb
theorem Inv.stkFree (I:Inv X pins σ H s):∀b∈frs X.stack,H b=none:=λb hb=>by
 rcases List.mem_cons.mp (I.stkSub b hb) with e|hb
 ·rw[e];exact I.free
 ·obtain⟨_,o,ho,_⟩:=I.ok.funs.mem hb;exact I.base.free b o ho (I.ok.frf b hb) λz=>I.ok.exfs b z hb
theorem Inv.step {g':Array GenState}{t':Nat}{d':Drawn}{ch:List Addr}(I:Inv X pins σ H s)(hch:∀b∈ch,(b∈X.ex∨X.s₀.heap.objs.size<=b)/\b≠X.env.locals/\(∀x c,X.env.cells.lookup x=some c->c≠b)/\∀p∈X.pn++pins,p.1≠b)(keep:∀b o,b≠X.env.locals->b∉X.fs->b∉ch->s.heap.get? b=some o->H b=none->h'.get? b=some o)(slot:∀b o,b≠X.env.locals->b∈X.fs->b∉ch->s.heap.get? b=some o->H b=none->∃sl,h'.get? b=some { o with slots:=sl })(free:∀b o,b∉ch->s.heap.get? b=some o->H b=none->H' b=none)(there:∀b o,b∉ch->s.heap.get? b=some o->∃o',h'.get? b=some o')(tups:∀b xs,H b=some (.tup xs)->H' b=some (.tup xs))(frzs:∀b o u,H b=some (.frz o u)->H' b=some (.frz o u))(tbls:∀b ps,H b=some (.tbl ps)->∃more,H' b=some (.tbl (ps++more)))(ns:∀m,s.heap.Ns X.env.locals m->h'.Ns X.env.locals m)(hok:HOk X.prog X.w H' h')(hg:AllBare g') :
  Inv X pins σ H' { s with heap:=h',gens:=g',drawn:=d',toks:=t' }:=by
 have neL:∀b o,X.s₀.heap.get? b=some o->b≠X.env.locals:=λb o e=>Nat.ne_of_lt (Nat.lt_of_lt_of_le (Heap.lt_size e) I.ok.above);have neC:∀b o,X.s₀.heap.get? b=some o->b∉X.ex->b∉ch:=λb o e hx hb=>by
  rcases (hch b hb).1 with z|z
  ·exact hx z
  ·exact absurd (Nat.lt_of_lt_of_le (Heap.lt_size e) z) (Nat.lt_irrefl _)
 have cellK:∀x c,X.env.cells.lookup x=some c->∀v,s.heap.IsCell c v->h'.IsCell c v:=λx c e v ⟨o,ho,hd⟩=>by
  have nch:c∉ch:=λz=>(hch c z).2.2.1 x c e rfl;by_cases hc:c∈X.fs
  ·obtain⟨sl,q⟩:=slot c o (I.cne x c e) hc nch ho (I.freeC x c e);exact⟨_,q,hd⟩
  ·exact⟨o,keep c o (I.cne x c e) hc nch ho (I.freeC x c e),hd⟩
 refine⟨I.ok,I.os,hg,⟨λb o e n hb hx=>?_,λb o e n hb hx=>?_,λb o e n hx=>?_,λb o e hx=>?_,λb xs e=>tups b xs (I.base.tups b xs e),λb o xs e=>frzs b o xs (I.base.frzs b o xs e),λb ps e=>?_⟩,?_,λx c e=>?_,?_,λx c e=>?_,λp hp=>?_,hok,I.len⟩
 ·exact keep b o (neL b o e) hb (neC b o e hx) (I.base.keep b o e n hb hx) (I.base.free b o e n hx)
 ·obtain⟨sl,e1⟩:=I.base.slot b o e n hb hx;obtain⟨sl',e2⟩:=slot b _ (neL b o e) hb (neC b o e hx) e1 (I.base.free b o e n hx);exact⟨sl',e2⟩
 ·obtain⟨o',e1⟩:=I.base.there b o e hx;exact free b o' (neC b o e hx) e1 (I.base.free b o e n hx)
 ·obtain⟨o',e1⟩:=I.base.there b o e hx;exact there b o' (neC b o e hx) e1
 ·obtain⟨m1,e1⟩:=I.base.tbls b ps e;obtain⟨m2,e2⟩:=tbls b _ e1;exact⟨m1++m2,by rw[e2,Array.append_assoc]⟩
 ·obtain⟨m,hn,hl⟩:=I.loc;refine⟨m,ns m hn,λi x v e1 e2 e3=>?_⟩;obtain⟨u,r,l⟩:=hl i x v e1 e2 e3;refine⟨u,r,?_⟩;rcases l with l|⟨k,c,e,z⟩
  ·exact .inl l
  ·exact .inr ⟨k,c,e,cellK x c e _ z⟩
 ·obtain⟨v,z⟩:=I.cell x c e;exact⟨v,cellK x c e v z⟩
 ·obtain⟨m,⟨o,_,_,ho,_⟩,_⟩:=I.loc;exact free _ o (λz=>(hch _ z).2.1 rfl) ho I.free
 ·obtain⟨v,o,ho,hd⟩:=I.cell x c e;exact free c o (λz=>(hch c z).2.2.1 x c e rfl) ho (I.freeC x c e)
 ·obtain⟨e,n,ne,nf,d⟩:=I.pin p hp;have nch:p.1∉ch:=λz=>(hch p.1 z).2.2.2 p hp rfl;exact⟨keep p.1 p.2 ne nf nch e n,free p.1 p.2 nch e n,ne,nf,d⟩
theorem Inv.un {t':Nat}(I:Inv X pins σ H s)(u:Un X.fs [] H H' s.heap h')(hok:HOk X.prog X.w H' h'):Inv X pins σ H' { s with heap:=h',toks:=t' }:=by
 obtain⟨m,⟨o,es,ep,ho,r⟩,_⟩:=id I.loc;obtain⟨sl,hL⟩:=u.any ho I.free (by simp);exact I.step (g':=s.gens) (d':=s.drawn) (ch:=[]) (λ_ z=>nomatch z) (λb o _ hb _ e n=>u.keep b o e n hb (by simp)) (λb o _ hb _ e n=>u.slot b o e n hb (by simp)) (λb o _ e n=>u.free b o e n (by simp)) (λb o _ e=>u.there b o e (by simp)) u.tups u.frzs u.tbls (λm' hm=>by obtain⟨o',es',ep',ho',r'⟩:=hm;rw[ho] at ho';cases ho';exact⟨_,es',ep',hL,r'⟩) hok I.bare
theorem Inv.call {g':Array GenState}{t':Nat}{d':Drawn}{ch:List Addr}(I:Inv X pins σ H s)(u:Un (frs X.stack) ch H H' s.heap h')(hok:HOk X.prog X.w H' h')(hg:AllBare g')(hch:∀b∈ch,(b∈X.ex∨X.s₀.heap.objs.size<=b)/\b≠X.env.locals/\(∀x c,X.env.cells.lookup x=some c->c≠b)/\∀p∈X.pn++pins,p.1≠b) :
  Inv X pins σ H' { s with heap:=h',gens:=g',drawn:=d',toks:=t' }:=by
 obtain⟨m,⟨o,es,ep,ho,r⟩,_⟩:=id I.loc;obtain⟨sl,hL⟩:=u.any ho I.free λz=>(hch _ z).2.1 rfl;exact I.step (ch:=ch) hch (λb o hL hb hc e n=>u.keep b o e n (λz=>(List.mem_cons.mp (I.stkSub b z)).elim hL hb) hc) (λb o _ _ hc e n=>u.any e n hc) (λb o hc e n=>u.free b o e n hc) (λb o hc e=>u.there b o e hc) u.tups u.frzs u.tbls (λm' hm=>by obtain⟨o',es',ep',ho',r'⟩:=hm;rw[ho] at ho';cases ho';exact⟨_,es',ep',hL,r'⟩) hok hg
theorem Inv.turned {t':Nat}{it:Addr}(I:Inv X pins σ H s)(k:∀b o,b≠it->s.heap.get? b=some o->h'.get? b=some o)(hn:H it=none)(hL:it≠X.env.locals)(h1:it∈X.ex∨X.s₀.heap.objs.size<=it)(h2:∀x c,X.env.cells.lookup x=some c->c≠it)(h3:∀p∈X.pn++pins,p.1≠it):Inv X pins σ H { s with heap:=h',toks:=t' }:=by
 have nit:∀b u,H b=some u->b≠it:=λb u e z=>by rw[z,hn] at e;cases e
 refine I.step (g':=s.gens) (d':=s.drawn) (ch:=[it]) (λb hb=>?_) (λb o _ _ hc e _=>k b o (λz=>hc (by simp[z])) e) (λb o _ _ hc e _=>⟨o.slots,k b o (λz=>hc (by simp[z])) e⟩) (λ_ _ _ _ n=>n)
  (λb o hc e=>⟨o,k b o (λz=>hc (by simp[z])) e⟩) (λ_ _ e=>e) (λ_ _ _ e=>e) (λb ps e=>⟨#[],by rw[e];simp⟩) (λm hm=>?_) (λb u e=>?_) I.bare
 ·have e:b=it:=by simpa using hb
  subst e;exact⟨h1,hL,h2,h3⟩
 ·obtain⟨o,es,ep,ho,r⟩:=hm;exact⟨o,es,ep,k _ o (Ne.symm hL) ho,r⟩
 ·refine(I.hok b u e).stay (λc v hc q=>k c v ?_ q) (λ_ q=>q) λ_ _ q=>q;rcases hc with z|z
  ·rw[z];exact nit b u e
  ·exact nit c _ z
theorem Inv.tok (I:Inv X pins σ H s)(t:Nat):Inv X pins σ H { s with toks:=t }:=I.un (h':=s.heap) (t':=t) Un.refl I.hok
theorem Inv.kept {t':Nat}(I:Inv X pins σ H s)(k:∀b u,s.heap.get? b=some u->h'.get? b=some u):Inv X pins σ H { s with heap:=h',toks:=t' }:=I.un (Un.kept k) (I.hok.kept k)
theorem Inv.laid {a:Addr}{o:HO}{t':Nat}(I:Inv X pins σ H s)(k:∀b u,s.heap.get? b=some u->h'.get? b=some u)(hp:s.heap.objs.size<=a)(new:gJ X.prog X.w (upd H a o) h' a o) :
  Inv X pins σ (upd H a o) { s with heap:=h',toks:=t' }:=I.un (Un.laid k hp (I.hok.fresh hp)) (I.hok.laid k hp new)
theorem Inv.write {x e:Addr}{o:HO}{t':Nat}(I:Inv X pins σ H s)(mu:Mut (H x))(he:e=x∨H e=some (.own x))(k:∀b u,b≠e->s.heap.get? b=some u->h'.get? b=some u)(heo:∃u,h'.get? e=some u)(new:gJ X.prog X.w (upd H x o) h' x o):Inv X pins σ (upd H x o) { s with heap:=h',toks:=t' }:=I.un (Un.write mu he k heo) (I.hok.write mu he k heo new)
theorem Inv.pins_of {pins':List (Addr×Obj)}(I:Inv X pins σ H s)(h:∀p∈pins',s.heap.get? p.1=some p.2/\H p.1=none/\p.1≠X.env.locals/\p.1∉X.fs/\∀v,p.2.data ≠ .cell v):Inv X pins' σ H s :=
 ⟨I.ok,I.os,I.bare,I.base,I.loc,I.cell,I.free,I.freeC,λp hp=>(List.mem_append.mp hp).elim (λz=>I.pin p (mem_append_left _ z)) (h p),I.hok,I.len⟩
theorem aAL {N:List Str}(hN:N.Nodup){i j:Nat}{x:Str}(a:N[i]?=some x)(b:N[j]?=some x):i=j:=by obtain⟨h1,e1⟩:=List.getElem?_eq_some_iff.mp a;obtain⟨h2,e2⟩:=List.getElem?_eq_some_iff.mp b;exact(List.getElem_inj hN).mp (e1.trans e2.symm)
theorem xF {M:Model}{A:Around}{E:Value->Shared->Prop}{i:Nat}{x:Str}{v:V}{u:Value}{Q:Unit->Shared->Prop}(I:Inv X pins σ H s)(hN:X.N.Nodup)(hi:X.N[i]?=some x)(hx:Loc X.env.scope x)(r:cT v u)(h:∀s',Inv X pins (σ.set i (some v)) H s'->(∃a,Heap.SameBut a s.heap s'.heap/\(a=X.env.locals∨X.env.cells.lookup x=some a))->Q () s')(hf:X.fn x=true∨X.env.scope.names.lookup x=some .local:=by first|exact .inl rfl|exact .inr rfl|assumption):wpAny M A (storeName X.env x u) Q E s:=by
 obtain⟨m,hn,hl⟩:=id I.loc;have hcls:(X.env.scope.kind == .class||(X.env.scope.kind == .module&&X.env.locals != X.env.globals))=false:=by rw[I.ok.kind];rfl
 have hiσ:i<σ.length:=by rw[I.len];exact(List.getElem?_eq_some_iff.mp hi).1
 have cne:=I.cne;have tracked:∀{a:Addr}{h':Heap},(∃o,s.heap.get? a=some o/\H a=none)->Heap.SameBut a s.heap h'->HOk X.prog X.w H h':=λ{a h'} ha hs b ob e=>by
  obtain⟨_,_,hfree⟩:=ha;refine(I.hok b ob e).stay (λc w' hc q=>(hs.2 c ?_).trans q) (λ_ q=>q) λ_ _ q=>q;rintro rfl;rcases hc with rfl|hc
  ·rw[hfree] at e;cases e
  ·rw[hfree] at hc;cases hc
 rcases hx with hk|hk
 ·refine wpAny_storeName_local hk hn (λh' hn' hs=>?_) hcls;obtain⟨oL,_,_,hoL,_⟩:=id hn;refine h _ ⟨I.ok,I.os,I.bare,⟨λb o e n hb hx=>?_,λb o e n hb hx=>?_,I.base.free,λb o e hx=>?_,I.base.tups,I.base.frzs,I.base.tbls⟩,⟨_,hn',λj y v' e1 e2 e3=>?_⟩,λy c e=>?_,I.free,I.freeC,λp hp=>?_,tracked ⟨oL,hoL,I.free⟩ hs,by simpa using I.len⟩ ⟨_,hs,.inl rfl⟩
  ·exact(hs.2 b (Nat.ne_of_lt (Nat.lt_of_lt_of_le (Heap.lt_size e) I.ok.above))).trans (I.base.keep b o e n hb hx)
  ·obtain⟨sl,e1⟩:=I.base.slot b o e n hb hx;exact⟨sl,(hs.2 b (Nat.ne_of_lt (Nat.lt_of_lt_of_le (Heap.lt_size e) I.ok.above))).trans e1⟩
  ·obtain⟨o',e1⟩:=I.base.there b o e hx;exact⟨o',(hs.2 b (Nat.ne_of_lt (Nat.lt_of_lt_of_le (Heap.lt_size e) I.ok.above))).trans e1⟩
  ·by_cases hj:j=i
   ·subst hj;rw[hi] at e1;cases e1;rw[List.getElem?_set_self hiσ] at e2;cases e2;exact⟨u,r,.inl ⟨hk,by simp⟩⟩
   ·rw[List.getElem?_set_ne (Ne.symm hj)] at e2;obtain⟨u',r',q⟩:=hl j y v' e1 e2 e3;refine⟨u',r',?_⟩;rcases q with⟨k,e⟩|⟨k,c,e,z⟩
    ·refine .inl ⟨k,?_⟩;have:y≠x:=λe=>hj (aAL hN e1 (e ▸ hi));simp[this,e]
    ·exact .inr ⟨k,c,e,z.sameBut hs (cne y c e)⟩
  ·obtain⟨w',z⟩:=I.cell y c e;exact⟨w',z.sameBut hs (cne y c e)⟩
  ·obtain⟨e,n,ne,nf,d⟩:=I.pin p hp;exact⟨(hs.2 p.1 ne).trans e,n,ne,nf,d⟩
 ·have hfn:X.fn x=true:=by
   rcases hf with z|z
   ·exact z
   ·rw[z] at hk;cases hk
  obtain⟨c,hc⟩:=I.ok.has x (.inl hk);obtain⟨w',z⟩:=I.cell x c hc;refine wpAny_storeName_cell I.ok.kind hk hc z (λh' hc' hs=>?_);obtain⟨oc,hoc,hocd⟩:=id z;refine h { s with heap:=h' } ⟨I.ok,I.os,I.bare,⟨λb o e n hb hx=>?_,λb o e n hb hx=>?_,I.base.free,λb o e hx=>?_,I.base.tups,I.base.frzs,I.base.tbls⟩,⟨m,hn.sameBut hs (Ne.symm (cne x c hc)),λj y v' e1 e2 e3=>?_⟩,λy c' e=>?_,I.free,I.freeC,λp hp=>?_,tracked ⟨oc,hoc,I.freeC x c hc⟩ hs,by simpa using I.len⟩ ⟨c,hs,.inr hc⟩
  ·exact(hs.2 b (Nat.ne_of_lt (Nat.lt_of_lt_of_le (Heap.lt_size e) (I.ok.cab x c hfn hc)))).trans (I.base.keep b o e n hb hx)
  ·obtain⟨sl,e1⟩:=I.base.slot b o e n hb hx;exact⟨sl,(hs.2 b (Nat.ne_of_lt (Nat.lt_of_lt_of_le (Heap.lt_size e) (I.ok.cab x c hfn hc)))).trans e1⟩
  ·obtain⟨o',e1⟩:=I.base.there b o e hx;exact⟨o',(hs.2 b (Nat.ne_of_lt (Nat.lt_of_lt_of_le (Heap.lt_size e) (I.ok.cab x c hfn hc)))).trans e1⟩
  ·by_cases hj:j=i
   ·subst hj;rw[hi] at e1;cases e1;rw[List.getElem?_set_self hiσ] at e2;cases e2;exact⟨u,r,.inr ⟨.inl hk,c,hc,hc'⟩⟩
   ·rw[List.getElem?_set_ne (Ne.symm hj)] at e2;obtain⟨u',r',q⟩:=hl j y v' e1 e2 e3;refine⟨u',r',?_⟩;rcases q with q|⟨k,c',e,z'⟩
    ·exact .inl q
    ·refine .inr ⟨k,c',e,z'.sameBut hs ?_⟩;rintro rfl;exact hj (aAL hN e1 (I.ok.inj _ _ _ e hc ▸ hi))
  ·by_cases hcc:c'=c
   ·subst hcc;exact⟨_,hc'⟩
   ·obtain⟨w2,z2⟩:=I.cell y c' e;exact⟨w2,z2.sameBut hs hcc⟩
  ·obtain⟨e,n,ne,nf,d⟩:=I.pin p hp;refine⟨(hs.2 p.1 ?_).trans e,n,ne,nf,d⟩;intro q;rw[q,hoc] at e;have q':oc=p.2:=Option.some.inj e;exact d w' (by rw[<- q'];exact hocd)
theorem rM {M:Model}{A:Around}{E:Value->Shared->Prop}{i:Nat}{x:Str}{v:V}{u:Value}{Q:Unit->Shared->Prop}(I:Inv X pins σ H s)(hN:X.N.Nodup)(hi:X.N[i]?=some x)(hx:Loc X.env.scope x)(r:cT v u)(h:∀s',Inv X pins (σ.set i (some v)) H s'->Q () s')(hf:X.fn x=true∨X.env.scope.names.lookup x=some .local:=by first|exact .inl rfl|exact .inr rfl|assumption):wpAny M A (storeName X.env x u) Q E s :=
 xF I hN hi hx r (λs' I' _=>h s' I') hf
theorem Inv.call' {s':Shared}{ch:List Addr}(I:Inv X pins σ H s)(ho:s'.os=s.os)(u:Un (frs X.stack) ch H H' s.heap s'.heap)(hok:HOk X.prog X.w H' s'.heap)(hg:AllBare s'.gens)(hch:∀b∈ch,(b∈X.ex∨X.s₀.heap.objs.size<=b)/\b≠X.env.locals/\(∀x c,X.env.cells.lookup x=some c->c≠b)/\∀p∈X.pn++pins,p.1≠b):Inv X pins σ H' s':=by obtain⟨h',g',d',t',o'⟩:=s';have e:o'=s.os:=ho;subst e;exact I.call (g':=g') (t':=t') (d':=d') u hok hg hch
end
abbrev XK:=Value->Option Addr->Hp->Prop
noncomputable abbrev St:=List (Option V)
abbrev VK:=V->Hp->Prop
abbrev TE:=St->Hp->VK->Prop
abbrev TT:=St->Hp->(Bool->Hp->Prop)->Prop
abbrev TA:=St->Hp->(List V->Hp->Prop)->Prop
structure sT where
 nx:St->Hp->Prop
 rt:VK
 bk:St->Hp->Prop:=λ_ _=>False
 ct:St->Hp->Prop:=λ_ _=>False
abbrev TS:=sT->St->Hp->Prop
def EP (X:Cx)(pins:List (Addr×Obj))(σ:St)(Q:VK)(u:Value)(s':Shared):Prop:=∃v H',Inv X pins σ H' s'/\cT v u/\Q v H'
def TP (X:Cx)(pins:List (Addr×Obj))(σ:St)(Q:Bool->Hp->Prop)(b:Bool)(s':Shared):Prop:=∃H',Inv X pins σ H' s'/\Q b H'
def AP (X:Cx)(pins:List (Addr×Obj))(σ:St)(Q:List V->Hp->Prop)(us:List Value)(s':Shared):Prop:=∃vs H',Inv X pins σ H' s'/\cG vs us/\Q vs H'
def SP (X:Cx)(pins:List (Addr×Obj))(D:sT)(f:Flow)(s':Shared):Prop :=
 match f with
 |.next=>∃σ' H',Inv X pins σ' H' s'/\D.nx σ' H'
 |.brk=>∃σ' H',Inv X pins σ' H' s'/\D.bk σ' H'
 |.cont=>∃σ' H',Inv X pins σ' H' s'/\D.ct σ' H'
 |.ret u=>∃v σ' H',Inv X pins σ' H' s'/\cT v u/\D.rt v H'
def PE (X:Cx)(e:Expr)(t:TE):Prop :=
 ∀(pins:List (Addr×Obj)) (s:Shared) (σ:St) (H:Hp) (Q:VK),Inv X pins σ H s->t σ H Q->wpAny (model X.prog X.w) X.A (eval e X.env) (EP X pins σ Q) X.xe s
def PT (X:Cx)(e:Expr)(t:TT):Prop :=
 ∀(pins:List (Addr×Obj)) (s:Shared) (σ:St) (H:Hp) (Q:Bool->Hp->Prop),Inv X pins σ H s->t σ H Q->wpAny (model X.prog X.w) X.A (isTrue e X.env (eval e X.env)) (TP X pins σ Q) X.xe s
def PW (X:Cx)(e:Expr)(t:TT):Prop :=
 ∀(whole:Sem Value)(pins:List (Addr×Obj)) (s:Shared) (σ:St) (H:Hp) (Q:Bool->Hp->Prop),Inv X pins σ H s->t σ H Q->wpAny (model X.prog X.w) X.A (isTrue e X.env whole) (TP X pins σ Q) X.xe s
theorem PW.pt {X:Cx}{e:Expr}{t:TT}(h:PW X e t):PT X e t:=h _
def PA (X:Cx)(es:List Expr)(t:TA):Prop :=
 ∀(pos:Pos)(pins:List (Addr×Obj)) (s:Shared) (σ:St) (H:Hp) (Q:List V->Hp->Prop),Inv X pins σ H s->t σ H Q->wpAny (model X.prog X.w) X.A (spliced (backTo pos (starEach es X.env))) (AP X pins σ Q) X.xe s
def PS (X:Cx)(st:Stmt)(t:TS):Prop :=
 ∀(pins:List (Addr×Obj)) (s:Shared) (σ:St) (H:Hp) (D:sT),Inv X pins σ H s->t D σ H->wpAny (model X.prog X.w) X.A (exec st X.env) (SP X pins D) X.xe s
def PSs (X:Cx)(st:List Stmt)(t:TS):Prop :=
 ∀(pins:List (Addr×Obj)) (s:Shared) (σ:St) (H:Hp) (D:sT),Inv X pins σ H s->t D σ H->wpAny (model X.prog X.w) X.A (execs st X.env) (SP X pins D) X.xe s
theorem thn {α:Type}{t:Sem α}{Q Q':α->Shared->Prop}{M:Model}{A:Around}{E:Value->Shared->Prop}{s:Shared}(h:wpAny M A t Q E s)(hQ:∀a s,Q a s->Q' a s):wpAny M A t Q' E s:=wpAny_mono h hQ λ_ _ x=>x
section
variable {X:Cx}
def aOE (i:Nat):TE:=λσ H Q=>∃v,σ[i]?=some (some v)/\Q v H
def tC (v:V):TE:=λ_ H Q=>Q v H
theorem tO {i:Nat}{x:Str}{pos:Pos}(hN:X.N[i]?=some x)(hv:Vis X.env.scope x)(hd:(x==("__debug__":Str))=false:=by decide)(hcd:(x==("__classdict__":Str))=false:=by decide):PE X (.Name x pos) (aOE i):=by
 intro pins s σ H Q I h;obtain⟨v,e,h⟩:=h;obtain⟨m,hn,hl⟩:=I.loc;obtain⟨u,r,l⟩:=hl i x v hN e hv;have fin:EP X pins σ Q u s:=⟨v,H,I,r,h⟩;rcases l with⟨hk,hm⟩|⟨hk,c,hc,hcell⟩
 ·exact wpAny_Name (wpAny_loadName_local I.ok.kind hk hn hm fin) hd
 ·rcases hk with hk|hk
  ·exact wpAny_Name (wpAny_loadName_cell I.ok.kind hk hc hcell fin) hd
  ·exact wpAny_Name (wpAny_loadName_free I.ok.kind hk hc hcell fin hcd) hd
theorem aLn {i j pos}:PE X (.Constant (.int i) j pos) (tC (.int i)):=λ_ _ _ H _ I h=>wpAny_Constant_int ⟨.int i,H,I.tok _,⟨_,rfl⟩,h⟩
theorem aP0 {b j pos}:PE X (.Constant (.bool b) j pos) (tC (.bl b)):=λ_ _ _ H _ I h=>Constant_bool ⟨.bl b,H,I,rfl,h⟩
theorem aNi {j pos}:PE X (.Constant .none j pos) (tC .non):=λ_ _ _ H _ I h=>Constant_none ⟨.non,H,I,rfl,h⟩
theorem aNG {x j pos}:PE X (.Constant (.str x) j pos) (tC (.str x)):=λ_ _ _ H _ I h=>Calls.Constant_str ⟨.str x,H,I.tok _,⟨_,rfl⟩,h⟩
def Gl (X:Cx)(x:Str):Prop:=X.env.kindOf x=some .globalImplicit
theorem iW {E:Value->Shared->Prop}{pins:List (Addr×Obj)}{s:Shared}{σ:St}{H:Hp}{x:Str}{u:Value}{pos:Pos}{Q:Value->Shared->Prop}(I:Inv X pins σ H s)(hg:Gl X x)(hm:X.mg x=some u)(h:Q u s)(hd:(x==("__debug__":Str))=false:=by decide):wpAny (model X.prog X.w) X.A (eval (.Name x pos) X.env) Q E s :=
 Calls.Name_function_global I.ok.kind hg (Calls.loadGlobal_global (by rw[I.ok.glob];exact I.mod.glob.keeps I.bk) hm h) hd
theorem xL {E:Value->Shared->Prop}{pins:List (Addr×Obj)}{s:Shared}{σ:St}{H:Hp}{x:Str}{u:Value}{pos:Pos}{Q:Value->Shared->Prop}(I:Inv X pins σ H s)(hg:Gl X x)(hm:X.mg x=none)(hv:bootBuiltins x=some u)(h:Q u s)(hn:x ≠ "__name__":=by decide)(hd:(x==("__debug__":Str))=false:=by decide):wpAny (model X.prog X.w) X.A (eval (.Name x pos) X.env) Q E s:=by obtain⟨mb,h1,h2⟩:=I.mod.blt;exact Calls.Name_function_global I.ok.kind hg (Calls.loadGlobal_builtin (by rw[I.ok.glob];exact I.mod.glob.keeps I.bk) hm (by rw[I.ok.blt];exact h1.keeps I.bk) ((h2 x hn).trans hv) h) hd
theorem aDd {x:Str}{v:V}{u:Value}{pos:Pos}(hg:Gl X x)(hm:X.mg x=some u)(r:cT v u)(hd:(x==("__debug__":Str))=false:=by decide):PE X (.Name x pos) (tC v) :=
 λ_ _ _ H _ I h=>iW I hg hm ⟨v,H,I,r,h⟩ hd
theorem aJK {x:Str}{v:V}{u:Value}{pos:Pos}(hg:Gl X x)(hm:X.mg x = none)(hv:bootBuiltins x = some u)(r:cT v u)(hn:x ≠ "__name__":=by decide)(hd:(x==("__debug__":Str))=false:=by decide):PE X (.Name x pos) (tC v) :=
 λ_ _ _ H _ I h=>xL I hg hm hv ⟨v,H,I,r,h⟩ hn hd
variable {a b:Expr}{ta tb:TE}{pos:Pos}
def tB (t:TE):TT:=λσ H Q=>t σ H λx H1=>∃c,x=.bl c/\Q c H1
theorem aNg {e:Expr}{t:TE}(h:PE X e t)(he:∀whole,isTrue e X.env whole=(do let v <- whole;standAt e.pos;holding [v] (truthy v)):=by intro _;rfl):PT X e (tB t):=by intro pins s σ H Q I hw;refine isTrue_plain (thn (h pins s σ H _ I hw) λv s1 ⟨x,H1,I1,r1,q1⟩=>?_) (he _);obtain⟨d,rfl,q⟩:=q1;cases r1;exact wpAny_truthy_bool ⟨H1,I1,q⟩
variable {tA tB':TT}{cP:List Expr}
def aP7 (t u:TT):TT:=λσ H Q=>t σ H λc H1=>if c=true then u σ H1 Q else Q false H1
def tOr (t u:TT):TT:=λσ H Q=>t σ H λc H1=>if c=true then Q true H1 else u σ H1 Q
def aQf (t:TT):TT:=λσ H Q=>t σ H λc H1=>Q (!c) H1
theorem aKh (ha:PT X a tA):PW X (.BoolOp .And [a] pos) tA:=by
 intro wh pins s σ H Q I h;refine isTrue_and (thn (ha pins s σ H Q I h) λc s1 e=>?_);cases c with
 |true=>exact isTrue_and_nil e
 |false=>exact e
theorem aMF (ha:PT X a tA):PW X (.BoolOp .Or [a] pos) tA:=by
 intro wh pins s σ H Q I h;refine isTrue_or (thn (ha pins s σ H Q I h) λc s1 e=>?_);cases c with
 |false=>exact isTrue_or_nil e
 |true=>exact e
theorem aMe (ha:PT X a tA)(hb:PW X (.BoolOp .And (b::cP) pos) tB'):PW X (.BoolOp .And (a::b::cP) pos) (aP7 tA tB'):=by
 intro wh pins s σ H Q I h;refine isTrue_and (thn (ha pins s σ H _ I h) λc s1 ⟨H1,I1,q1⟩=>?_);cases c with
 |true=>exact hb wh pins s1 σ H1 Q I1 q1
 |false=>exact⟨H1,I1,q1⟩
theorem aOL (ha:PT X a tA)(hb:PW X (.BoolOp .Or (b::cP) pos) tB'):PW X (.BoolOp .Or (a::b::cP) pos) (tOr tA tB'):=by
 intro wh pins s σ H Q I h;refine isTrue_or (thn (ha pins s σ H _ I h) λc s1 ⟨H1,I1,q1⟩=>?_);cases c with
 |true=>exact⟨H1,I1,q1⟩
 |false=>exact hb wh pins s1 σ H1 Q I1 q1
theorem aNq (ha:PT X a tA):PT X (.UnaryOp .Not a pos) (aQf tA):=by intro pins s σ H Q I h;exact isTrue_not (ha pins s σ H (λc H1=>Q (!c) H1) I h)
def aPV (ta tb:TE):TE:=λσ H Q=>ta σ H λx H1=>∃c,x=.bl c/\if c=true then tb σ H1 Q else Q (.bl false) H1
def aQg (ta tb:TE):TE:=λσ H Q=>ta σ H λx H1=>∃c,x=.bl c/\if c=true then Q (.bl true) H1 else tb σ H1 Q
def aPy (ta:TE):TE:=λσ H Q=>ta σ H λx H1=>∃c,x=.bl c/\Q (.bl (!c)) H1
theorem aLo {op}{t:TE}(h:PE X a t):PE X (.BoolOp op [a] pos) t:=λpins s σ H Q I hw=>BoolOp_one (h pins s σ H Q I hw)
theorem aMQ (ha:PE X a ta)(hb:PE X (.BoolOp .And (b::cP) pos) tb):PE X (.BoolOp .And (a::b::cP) pos) (aPV ta tb):=by
 intro pins s σ H Q I h;refine BoolOp_and (thn (ha pins s σ H _ I h) λv s1 ⟨x,H1,I1,r1,q1⟩=>?_);obtain⟨c,rfl,q1⟩:=q1;cases r1;refine wpAny_truthy_bool ?_;cases c with
 |true=>exact hb pins s1 σ H1 Q I1 q1
 |false=>exact⟨.bl false,H1,I1,rfl,q1⟩
theorem aOJ (ha:PE X a ta)(hb:PE X (.BoolOp .Or (b::cP) pos) tb):PE X (.BoolOp .Or (a::b::cP) pos) (aQg ta tb):=by
 intro pins s σ H Q I h;refine BoolOp_or (thn (ha pins s σ H _ I h) λv s1 ⟨x,H1,I1,r1,q1⟩=>?_);obtain⟨c,rfl,q1⟩:=q1;cases r1;refine wpAny_truthy_bool ?_;cases c with
 |false=>exact hb pins s1 σ H1 Q I1 q1
 |true=>exact⟨.bl true,H1,I1,rfl,q1⟩
theorem aLG (ha:PE X a ta):PE X (.UnaryOp .Not a pos) (aPy ta):=by intro pins s σ H Q I h;refine UnaryOp_ (thn (ha pins s σ H _ I h) λv s1 ⟨x,H1,I1,r1,q1⟩=>?_);obtain⟨c,rfl,q1⟩:=q1;cases r1;exact not_of (wpAny_truthy_bool ⟨.bl (!c),H1,I1,rfl,q1⟩)
def tIf (t:TT)(ta tb:TE):TE:=λσ H Q=>t σ H λc H1=>if c=true then ta σ H1 Q else tb σ H1 Q
theorem aIu {c:Expr}(hc:PT X c tA)(ha:PE X a ta)(hb:PE X b tb):PE X (.IfExp c a b pos) (tIf tA ta tb):=by
 intro pins s σ H Q I h;refine wpAny_IfExp (thn (hc pins s σ H _ I h) λd s1 ⟨H1,I1,q1⟩=>?_);cases d with
 |true=>exact ha pins s1 σ H1 Q I1 q1
 |false=>exact hb pins s1 σ H1 Q I1 q1
end
def SqL (K:Frag)(H:Hp)(a:Addr)(xs:List V):Prop :=
 Rd H a (.lst xs) ∨
  ∃(o:Obj)(its:Array Value) (n:Nat),K.lookup a = some o/\o.cls = .type "list"/\o.dict=none/\o.data=.seq its n/\its.size<=sizeLine/\cG xs its.toList
def SqT (K:Frag)(H:Hp)(a:Addr)(xs:List V):Prop :=
 Rd H a (.tup xs) ∨
  ∃(o:Obj)(its:Array Value) (n:Nat),K.lookup a = some o/\o.cls = .type "tuple"/\o.data=.seq its n/\its.size<=sizeLine/\cG xs its.toList
noncomputable def aQd:Value->Option V
 |.none=>some .non
 |.bool b=>some (.bl b)
 |.int i _=>some (.int i)
 |.str x _=>some (.str x)
 |.bytes b _=>some (.byt b)
 |.float b _=>some (.flt b)
 |.ref a=>some (.ref a)
 |.type n=>some (.ty n)
 |_=>none
theorem cT.abs {x:V}{u:Value}(r:cT x u):aQd u=some x:=by
 cases x with
 |non=>cases r;rfl
 |bl _=>cases r;rfl
 |int _=>obtain⟨t,rfl⟩:=r;rfl
 |str _=>obtain⟨t,rfl⟩:=r;rfl
 |byt _=>obtain⟨t,rfl⟩:=r;rfl
 |flt _=>obtain⟨t,rfl⟩:=r;rfl
 |ref _=>cases r;rfl
 |ty _=>cases r;rfl
theorem cT.inj {x y:V}{u:Value}(r:cT x u)(q:cT y u):x=y:=Option.some.inj (r.abs.symm.trans q.abs)
theorem cG.inj:∀{xs ys:List V}{us:List Value},cG xs us->cG ys us->xs=ys
 |_,_,_,.nil,.nil=>rfl
 |_,_,_,.cons r t,.cons r' t'=>by rw[r.inj r',cG.inj t t']
section
variable {X:Cx}{pins:List (Addr×Obj)}{σ:St}{H:Hp}{s:Shared}{a:Addr}{xs ys:List V}
theorem SqL.of {K:Frag}(h:H a=some (.lst xs)):SqL K H a xs:=.inl (.inl h)
theorem SqT.of {K:Frag}(h:H a=some (.tup xs)):SqT K H a xs:=.inl (.inl h)
theorem Inv.list (I:Inv X pins σ H s)(h:SqL X.K H a xs):∃its:List Value,cG xs its/\PlainL s.heap a its.toArray/\xs.length<=sizeLine:=by
 rcases h with h|⟨o,its,n,hk,hc,hd,hs,hz,r⟩
 ·obtain⟨z,its,n,r,e⟩:=h.ok I.hok;exact⟨its,r,⟨_,n,e,rfl,rfl,rfl⟩,z⟩
 ·refine⟨its.toList,r,⟨o,n,I.kIn a o hk,hc,hd,by simpa using hs⟩,?_⟩;have e:=r.length;simp only[Array.length_toList] at e;omega
theorem Inv.tuple (I:Inv X pins σ H s)(h:SqT X.K H a xs):∃its:List Value,cG xs its/\IsTup s.heap a its.toArray/\xs.length<=sizeLine:=by
 rcases h with h|⟨o,its,n,hk,hc,hs,hz,r⟩
 ·obtain⟨z,its,r,p⟩:=h.ok I.hok;exact⟨its,r,p,z⟩
 ·refine⟨its.toList,r,⟨o,I.kIn a o hk,hc,n,by simpa using hs⟩,?_⟩;have e:=r.length;simp only[Array.length_toList] at e;omega
theorem Inv.list_inj (I:Inv X pins σ H s)(h:SqL X.K H a xs)(h':SqL X.K H a ys):xs=ys:=by
 obtain⟨its,r,⟨o,n,e,_,_,d⟩,_⟩:=I.list h;obtain⟨its',r',⟨o',n',e',_,_,d'⟩,_⟩:=I.list h';rw[e] at e';cases e';rw[d] at d';injection d' with d1 _
 have:its=its':=by simpa using congrArg Array.toList d1
 subst this;exact r.inj r'
theorem Inv.tuple_inj (I:Inv X pins σ H s)(h:SqT X.K H a xs)(h':SqT X.K H a ys):xs=ys:=by
 obtain⟨its,r,⟨o,e,_,n,d⟩,_⟩:=I.tuple h;obtain⟨its',r',⟨o',e',_,n',d'⟩,_⟩:=I.tuple h';rw[e] at e';cases e';rw[d] at d';injection d' with d1 _
 have:its=its':=by simpa using congrArg Array.toList d1
 subst this;exact r.inj r'
end
noncomputable abbrev Cx.wish (X:Cx)(E:Value->Shared->Prop):Cx:={ X with xe:=E }
noncomputable abbrev Cx.nox (X:Cx):Cx:=X.wish λ_ _=>False
theorem Cx.Ok.wish {X:Cx}(ok:X.Ok)(E:Value->Shared->Prop):(X.wish E).Ok :=
 ⟨ok.mod,ok.kind,ok.glob,ok.blt,ok.above,ok.inj,ok.has,ok.cab,ok.hd,ok.frames,ok.stk,ok.exf,ok.bs,ok.bsz,ok.noex,ok.exfs,ok.funs,ok.frf⟩
theorem Cx.Ok.unwish {X:Cx}{E:Value->Shared->Prop}(ok:(X.wish E).Ok):X.Ok :=
 ⟨ok.mod,ok.kind,ok.glob,ok.blt,ok.above,ok.inj,ok.has,ok.cab,ok.hd,ok.frames,ok.stk,ok.exf,ok.bs,ok.bsz,ok.noex,ok.exfs,ok.funs,ok.frf⟩
section
variable {X:Cx}{pins:List (Addr×Obj)}{σ:St}{H:Hp}{s:Shared}{E:Value->Shared->Prop}
theorem Inv.wish (I:Inv X pins σ H s)(E:Value->Shared->Prop):Inv (X.wish E) pins σ H s:=⟨I.ok.wish E,I.os,I.bare,I.base,I.loc,I.cell,I.free,I.freeC,I.pin,I.hok,I.len⟩
theorem Inv.unwish (I:Inv (X.wish E) pins σ H s):Inv X pins σ H s:=⟨I.ok.unwish,I.os,I.bare,I.base,I.loc,I.cell,I.free,I.freeC,I.pin,I.hok,I.len⟩
theorem SP.unwish {D:sT}{f:Flow}{s':Shared}(h:SP (X.wish E) pins D f s'):SP X pins D f s':=by
 cases f with
 |next=>obtain⟨σ',H',I,q⟩:=h;exact⟨σ',H',I.unwish,q⟩
 |brk=>obtain⟨σ',H',I,q⟩:=h;exact⟨σ',H',I.unwish,q⟩
 |cont=>obtain⟨σ',H',I,q⟩:=h;exact⟨σ',H',I.unwish,q⟩
 |ret u=>obtain⟨v,σ',H',I,r,q⟩:=h;exact⟨v,σ',H',I.unwish,r,q⟩
theorem PSs.nox {st:List Stmt}{t:TS}(h:PSs X.nox st t):PSs X st t:=λpins s σ H D I hw =>
 wpAny_mono (h pins s σ H D (I.wish _) hw) (λ_ _ q=>q.unwish) λ_ _ z=>False.elim z
end
section
variable {X:Cx}{st:Stmt}{cP:List Stmt}{t u:TS}{e:Expr}{te:TE}{pos:Pos}
def aOK:TS:=λD σ H=>D.nx σ H
def aQC (t u:TS):TS:=λD σ H=>t { D with nx:=u D } σ H
theorem aJ1:PSs X [] aOK:=λ_ _ σ H _ I h=>wpAny_execs_nil ⟨σ,H,I,h⟩
theorem aDA (h1:PS X st t)(h2:PSs X cP u):PSs X (st::cP) (aQC t u):=by
 intro pins s σ H D I h;refine wpAny_execs_cons (thn (h1 pins s σ H { D with nx:=u D } I h) λf s1 q=>?_);cases f with
 |next =>
  obtain⟨σ',H',I',q⟩:=q;exact h2 pins s1 σ' H' D I' q
 |ret v=>exact q
 |brk=>exact q
 |cont=>exact q
theorem aFN (h1:PS X st t):PSs X [st] t:=by
 intro pins s σ H D I h;refine wpAny_execs_cons (thn (h1 pins s σ H D I h) λf s1 q=>?_);cases f with
 |next=>exact wpAny_execs_nil q
 |ret v=>exact q
 |brk=>exact q
 |cont=>exact q
theorem Inv.quiet {pins:List (Addr×Obj)}{σ:St}{H:Hp}{s:Shared}(I:Inv X pins σ H s):interactive X.env=false:=by simp[interactive,I.ok.kind]
def aPQ (te:TE):TS:=λD σ H=>te σ H λ_ H1=>D.nx σ H1
theorem aKb (he:PE X e te)(hs:swapsWith e none pos.line X.env=pure false:=by rfl):PS X (.Expr e pos) (aPQ te):=by intro pins s σ H D I h;exact wpAny_Expr_any (thn (he pins s σ H _ I h) λv s1 ⟨x,H1,I1,r1,q1⟩=>⟨σ,H1,I1,q1⟩) I.quiet hs
def aQD (te:TE):TS:=λD σ H=>te σ H D.rt
theorem aLW (he:PE X e te):PS X (.Return (some e) pos) (aQD te):=by intro pins s σ H D I h;exact wpAny_Return_some (thn (he pins s σ H _ I h) λv s1 ⟨x,H1,I1,r1,q1⟩=>⟨x,σ,H1,I1,r1,q1⟩)
def aQU (c:TT)(t u:TS):TS:=λD σ H=>c σ H λb H1=>if b=true then t D σ H1 else u D σ H1
theorem aOw {c:Expr}{a b:List Stmt}{tc:TT}(hc:PT X c tc)(ha:PSs X a t)(hb:PSs X b u):PS X (.If c a b pos) (aQU tc t u):=by
 intro pins s σ H D I h;refine wpAny_If (thn (hc pins s σ H _ I h) λd s1 ⟨H1,I1,q1⟩=>?_);cases d with
 |true=>exact ha pins s1 σ H1 D I1 q1
 |false=>exact hb pins s1 σ H1 D I1 q1
end
abbrev TG:=V->St->Hp->(St->Hp->Prop)->Prop
abbrev TGs:=List V->St->Hp->(St->Hp->Prop)->Prop
def PG (X:Cx)(target:Expr)(t:TG):Prop :=
 ∀(pins:List (Addr×Obj)) (s:Shared) (σ:St) (H:Hp) (v:V) (u:Value) (Q:St->Hp->Prop),Inv X pins σ H s->cT v u->t v σ H Q ->
  wpAny (model X.prog X.w) X.A (assign target X.env u) (λ_ s'=>∃σ' H',Inv X pins σ' H' s'/\Q σ' H') X.xe s
def PGs (X:Cx)(ts:List Expr)(t:TGs):Prop :=
 ∀(pins:List (Addr×Obj)) (s:Shared) (σ:St) (H:Hp) (vs:List V) (us:List Value) (Q:St->Hp->Prop),Inv X pins σ H s->cG vs us->t vs σ H Q ->
  wpAny (model X.prog X.w) X.A (assignInOrder ((assignEach ts X.env).map (·.2)) us) (λ_ s'=>∃σ' H',Inv X pins σ' H' s'/\Q σ' H') X.xe s
abbrev TIp:=V->V->Hp->VK->Prop
def PIp (X:Cx)(op:Operator)(t:TIp):Prop :=
 ∀(pins:List (Addr×Obj)) (s:Shared) (σ:St) (H:Hp) (x y:V) (v u:Value) (Q:VK),Inv X pins σ H s->cT x v->cT y u->t x y H Q ->
  wpAny (model X.prog X.w) X.A (inplaceOp op v u) (EP X pins σ Q) X.xe s
section
variable {X:Cx}{pos:Pos}
def aKT (i:Nat):TG:=λv σ H Q=>Q (σ.set i (some v)) H
theorem aKz {i:Nat}{x:Str}(hN:X.N.Nodup)(hi:X.N[i]?=some x)(hx:Loc X.env.scope x)(hf:X.fn x=true∨X.env.scope.names.lookup x=some .local:=by first|exact .inl rfl|exact .inr rfl|assumption):PG X (.Name x pos) (aKT i):=by intro pins s σ H v u Q I r h;exact wpAny_assign_Name (rM I hN hi hx r (λs' I'=>⟨_,H,I',h⟩) hf)
def aP9:TGs:=λvs σ H Q=>vs=[]/\Q σ H
def aOX (t:TG)(u:TGs):TGs:=λvs σ H Q=>∃v r,vs=v::r/\t v σ H λσ' H'=>u r σ' H' Q
theorem aKv:PGs X [] aP9:=by intro pins s σ H vs us Q I r h;obtain⟨e,h⟩:=h;subst e;cases r;exact assignInOrder_nil ⟨σ,H,I,h⟩
theorem aH0 {e:Expr}{es:List Expr}{t:TG}{u:TGs}(h1:PG X e t)(h2:PGs X es u)(hs:(assignEach (e::es) X.env).map (·.2)=assign e X.env::(assignEach es X.env).map (·.2):=by rfl):PGs X (e::es) (aOX t u):=by
 intro pins s σ H vs us Q I r h;obtain⟨v,vr,e1,h⟩:=h;subst e1;cases r with
 |cons r rr =>
  rw[hs];refine assignInOrder_cons (thn (h1 pins s σ H _ _ _ I r h) λ_ s1 ⟨σ1,H1,I1,q1⟩=>?_);exact h2 pins s1 σ1 H1 _ _ Q I1 rr q1
def aQy (K:Frag)(n:Nat)(t:TGs):TG:=λv σ H Q=>∃a xs,v=.ref a/\SqT K H a xs/\xs.length=n/\t xs σ H Q
theorem aNu {es:List Expr}{k:Nat}{t:TGs}{n:Nat}(hc:X.calm=true)(h:PGs X es t)(hn:(assignEach es X.env).length=n:=by rfl)(hst:(assignEach es X.env).findIdx? (·.1)=none:=by rfl):PG X (.Tuple es k pos) (aQy X.K n t):=by intro pins s σ H v u Q I r hw;obtain⟨a,xs,e1,hq,hl,hw⟩:=hw;subst e1;cases r;obtain⟨its,rv,ht,hz⟩:=I.tuple hq;refine assign_Tuple_tuple (I.ok.hd hc) ht (by simp[hn,<- hl,rv.length]) hst λh' hx=>?_;have I1:Inv X pins σ H { s with heap:=h' }:=I.kept (t':=s.toks) λb o e=>hx b o (Nat.ne_of_lt (Heap.lt_size e)) e;exact h pins _ σ H xs _ Q I1 (by simpa using rv) hw
def aOn (te:TE)(g:TG):TS:=λD σ H=>te σ H λx H1=>g x σ H1 D.nx
theorem aLr {tg e:Expr}{te:TE}{g:TG}(he:PE X e te)(hg:PG X tg g)(hs:swapsWithSole [tg] e pos.line X.env=pure false:=by rfl)(hw:swappedStores [tg] e X.env=pure none:=by rfl)(h1:(assignEach [tg] X.env).map (·.2)=[assign tg X.env]:=by rfl):PS X (.Assign [tg] e pos) (aOn te g):=by intro pins s σ H D I h;refine wpAny_Assign_stores (thn (he pins s σ H _ I h) λv s1 ⟨x,H1,I1,r1,q1⟩=>?_) hs hw;rw[h1];exact thn (hg pins s1 σ H1 x v _ I1 r1 q1) λ_ s2 q=>q
theorem aL6 {i:Nat}{x:Str}{e:Expr}{te:TE}{pos':Pos}(hN:X.N.Nodup)(hi:X.N[i]?=some x)(hx:Loc X.env.scope x)(he:PE X e te)(hs:swapsWith e (some (.Name x pos')) pos.line X.env=pure false:=by rfl)(hf:X.fn x=true∨X.env.scope.names.lookup x=some .local:=by first|exact .inl rfl|exact .inr rfl|assumption) :
  PS X (.Assign [.Name x pos'] e pos) (aOn te (aKT i)):=by
 intro pins s σ H D I h;refine wpAny_Assign_Name (thn (he pins s σ H _ I h) λv s1 ⟨y,H1,I1,r1,q1⟩=>?_) hs;exact rM I1 hN hi hx r1 (λs2 I2=>⟨_,H1,I2,q1⟩) hf
def aQn (i j:Nat)(ta:TA):TS:=λD σ H=>ta σ H λvs H1=>∃v w,vs=[v,w]/\D.nx ((σ.set i (some v)).set j (some w)) H1
theorem aNT {i j:Nat}{x y:Str}{a b:Expr}{ta:TA}{px py pt:Pos}{kt k2 pt2}(hc:X.calm=true)(hN:X.N.Nodup)(hi:X.N[i]?=some x)(hj:X.N[j]?=some y)(hij:i≠j)(hx:X.env.scope.names.lookup x=some .local)(hy:X.env.scope.names.lookup y=some .local)(ha:PA X [a,b] ta)(hw:swappedStores [.Tuple [.Name x px,.Name y py] kt pt] (.Tuple [a,b] k2 pt2) X.env=pure (some [x,y]))(hs:swapsWithSole [.Tuple [.Name x px,.Name y py] kt pt] (.Tuple [a,b] k2 pt2) pos.line X.env=pure false:=by rfl) :
  PS X (.Assign [.Tuple [.Name x px,.Name y py] kt pt] (.Tuple [a,b] k2 pt2) pos) (aQn i j ta):=by
 intro pins s σ H D I h;rw[exec_Assign_arm];refine wpAny_bind (wpAny_standAt ?_);rw[hs];refine wpAny_bind (wpAny_pure ?_);rw[if_neg (by decide)];refine wpAny_bind (Tuple_ (thn (ha _ pins s σ H _ I h) λus s1 ⟨vs,H1,I1,r1,q1⟩=>?_));obtain⟨v,w,e1,q1⟩:=q1;subst e1;obtain⟨u1,u2,rfl,rv,rw'⟩:∃u1 u2,us=[u1,u2]/\cT v u1/\cT w u2:=by
  cases r1 with
  |cons p q =>
   cases q with
   |cons p' q' =>
    cases q';exact⟨_,_,rfl,p,p'⟩
 refine wpAny_newObj_type ?_ (by show 2<=sizeLine;decide);have I2:Inv X pins σ H1 { s1 with heap:=s1.heap.push { cls:=.type "tuple",data:=.seq [u1,u2].toArray } }:=I1.kept (t':=s1.toks) λb o e=>Heap.get?_push_of_some _ e;rw[hw];refine wpAny_bind (wpAny_pure ?_);show wpAny (model X.prog X.w) X.A (do rule "assign.swapped-stores";let items <- unpackItems (.ref s1.heap.objs.size) 2 none;assignInOrder [λv=>bindName X.env y v,λv=>bindName X.env x v] items.reverse;pure Flow.next) _ _ _;refine wpAny_bind (wpAny_rule (wpAny_bind (unpackItems_tuple (items:=#[u1,u2]) (I.ok.hd hc) (IsTup.new s1.heap _) λh' hx'=>?_)));have I3:=I2.kept (h':=h') (t':=s1.toks) λb o e=>hx' b o (Nat.ne_of_lt (Heap.lt_size e)) e;show wpAny _ _ (assignInOrder [λv=>bindName X.env y v,λv=>bindName X.env x v] [u2,u1] >>= λ_=>pure Flow.next) _ _ _;refine wpAny_bind (assignInOrder_cons (wpAny_bindName (rM I3 hN hj (.inl hy) rw' (λs2 I4=>?_) (.inr hy))));refine assignInOrder_cons (wpAny_bindName (rM I4 hN hi (.inl hx) rv (λs3 I5=>assignInOrder_nil (wpAny_pure ?_)) (.inr hx)));rw[List.set_comm _ _ (Ne.symm hij)] at I5;exact⟨_,H1,I5,q1⟩
def aQp (i:Nat)(te:TE)(ti:TIp):TS:=λD σ H=>∃x,σ[i]?=some (some x)/\te σ H λy H1=>ti x y H1 λz H2=>D.nx (σ.set i (some z)) H2
theorem aMC {i:Nat}{x:Str}{e:Expr}{te:TE}{op:Operator}{ti:TIp}{pos':Pos}(hN:X.N.Nodup)(hi:X.N[i]?=some x)(hx:Loc X.env.scope x)(he:PE X e te)(ho:PIp X op ti)(hf:X.fn x=true∨X.env.scope.names.lookup x=some .local:=by first|exact .inl rfl|exact .inr rfl|assumption) :
  PS X (.AugAssign (.Name x pos') op e pos) (aQp i te ti):=by
 intro pins s σ H D I h;obtain⟨v,e1,h⟩:=h;obtain⟨m,hn,hl⟩:=I.loc;have vis:Vis X.env.scope x:=by rcases hx with k|k;exact .inl k;exact .inr (.inl k)
 obtain⟨u,r,l⟩:=hl i x v hi e1 vis;refine wpAny_AugAssign_Name ?_;have go:wpAny (model X.prog X.w) X.A (eval e X.env) (λw s₂=>wpAny (model X.prog X.w) X.A (inplaceOp op u w) (λr s₃=>wpAny (model X.prog X.w) X.A (storeName X.env x r) (λ_=>SP X pins D .next) X.xe s₃) X.xe s₂) X.xe s:=by refine thn (he pins s σ H _ I h) λw s1 ⟨y,H1,I1,r1,q1⟩=>?_;refine thn (ho pins s1 σ H1 v y u w _ I1 r r1 q1) λz s2 ⟨zv,H2,I2,r2,q2⟩=>?_;exact rM I2 hN hi hx r2 (λs3 I3=>⟨_,H2,I3,q2⟩) hf
 rcases l with⟨hk,hm⟩|⟨hk,c,hc,hcell⟩
 ·exact wpAny_loadName_local I.ok.kind hk hn hm go
 ·rcases hk with hk|hk
  ·exact wpAny_loadName_cell I.ok.kind hk hc hcell go
  ·rcases hx with k|k
   ·have:X.env.scope.names.lookup x=some .free:=hk;rw[k] at this;cases this
   ·have:X.env.scope.names.lookup x=some .free:=hk;rw[k] at this;cases this
noncomputable def ipI (f:Int->Int->Int):TIp:=λx y H Q=>∃i j,x=.int i/\y=.int j/\Q (.int (f i j)) H
theorem aAE:PIp X .Add (ipI λi j=>i+j):=by intro pins s σ H x y v u Q I r1 r2 h;obtain⟨i,j,e1,e2,q⟩:=h;subst e1;subst e2;obtain⟨t,rfl⟩:=r1;obtain⟨t',rfl⟩:=r2;exact iadd_int ⟨.int _,H,I.tok _,⟨_,rfl⟩,q⟩
theorem aLI:PIp X .Sub (ipI λi j=>i-j):=by intro pins s σ H x y v u Q I r1 r2 h;obtain⟨i,j,e1,e2,q⟩:=h;subst e1;subst e2;obtain⟨t,rfl⟩:=r1;obtain⟨t',rfl⟩:=r2;exact isub_int ⟨.int _,H,I.tok _,⟨_,rfl⟩,q⟩
end
section
variable {X:Cx}{pos:Pos}
def aMT (c:TT)(tb:TS):TS:=λD σ H=>∃W:Nat->St->Hp->Prop,(∃m,W m σ H)/\∀m σ H,W m σ H ->
 c σ H λb H1=>if b=true then ∃N:St->Hp->Prop,(∀σ' H',N σ' H'->∃m',m'<m/\W m' σ' H')/\tb { D with nx:=N,ct:=N,bk:=D.nx } σ H1 else D.nx σ H1
theorem aIj {c:Expr}{body:List Stmt}{tc:TT}{tb:TS}(hp:PassesOwn (model X.prog X.w) X.A X.env X.xe)(hc:PT X c tc)(hb:PSs X body tb):PS X (.While c body [] pos) (aMT tc tb):=by
 intro pins s σ H D I h;obtain⟨W,⟨m0,w0⟩,turn⟩:=h;refine wpAny_While (codeAny_whileLoop (λn s'=>∃σ' H',Inv X pins σ' H' s'/\W n σ' H') ?_ m0 ⟨σ,H,I,w0⟩);rintro n s1 ⟨σ1,H1,I1,w1⟩;refine wpAny_passesOwn hp (thn (hc pins s1 σ1 H1 _ I1 (turn n σ1 H1 w1)) λb s2 ⟨H2,I2,q2⟩=>?_);cases b with
 |true =>
  obtain⟨N,hN,q2⟩:=q2;rw[if_pos rfl];refine wpAny_passesOwn hp (thn (hb pins s2 σ1 H2 _ I2 q2) λf s3 q3=>?_);cases f with
  |next =>
   obtain⟨σ3,H3,I3,n3⟩:=q3;obtain⟨m',hm,w3⟩:=hN σ3 H3 n3;exact⟨m',hm,σ3,H3,I3,w3⟩
  |cont =>
   obtain⟨σ3,H3,I3,n3⟩:=q3;obtain⟨m',hm,w3⟩:=hN σ3 H3 n3;exact⟨m',hm,σ3,H3,I3,w3⟩
  |brk=>exact q3
  |ret v=>exact q3
 |false =>
  rw[if_neg Bool.false_ne_true];exact wpAny_execs_nil ⟨σ1,H2,I2,q2⟩
end
structure It where
 go:Nat->Hp->Prop
 yld:Nat->Hp->V->Hp->Prop
 stop:Nat->Hp->Prop
def aBA (X:Cx)(pins:List (Addr×Obj))(H:Hp)(b:Addr):Prop :=
 H b=none/\b≠X.env.locals/\b∉X.fs/\(b∈X.ex∨X.s₀.heap.objs.size<=b)/\(∀x c,X.env.cells.lookup x=some c->c≠b)/\∀p∈X.pn++pins,p.1≠b
theorem Inv.fpOk {X:Cx}{pins:List (Addr×Obj)}{σ:St}{H H':Hp}{s:Shared}{b:Addr}(I:Inv X pins σ H s)(hb:s.heap.objs.size<=b)(hn:H' b=none):aBA X pins H' b:=by
 refine⟨hn,Nat.ne_of_gt (Nat.lt_of_lt_of_le I.lt hb),I.nofs hb,.inr (Nat.le_trans I.sz hb),λx c e z=>?_,λp hp z=>?_⟩
 ·obtain⟨v,q⟩:=I.cell x c e;exact absurd (Nat.lt_of_lt_of_le q.lt (by rw[z];exact hb)) (Nat.lt_irrefl _)
 ·exact absurd (Nat.lt_of_lt_of_le (Heap.lt_size (I.pin p hp).1) (by rw[z];exact hb)) (Nat.lt_irrefl _)
structure aGG (P:Program)(w:World)(K:Frag)(tg:Expr)(J:It)(fp:List Addr)(it:Addr)(tn:Nat->Heap->Prop):Prop where
 mem:it∈fp
 obj:∀i h,tn i h->∀b∈fp,∃o,h.get? b=some o/\∀v,o.data ≠ .cell v
 keep:∀i h h',tn i h->(∀b∈fp,∀o,h.get? b=some o->h'.get? b=some o)->tn i h'
 item:∀(X:Cx),X.prog=P->X.w=w->X.K=K->X.calm=true->∀(i:Nat)(pins:List (Addr×Obj)) (s:Shared) (σ:St) (H:Hp) (E:Value->Shared->Prop),Inv X pins σ H s->(∀b∈fp,aBA X pins H b)->tn i s.heap->J.go i H ->
  wpAny (model P w) X.A (pyNext (.ref it)) (λr s1=>∃u,r=some u /\
   wpAny (model P w) X.A (letOwnedTupleGo tg (.ref it) u) (λ_ s2=>∃x H',Inv X pins σ H' s2/\cT x u/\J.yld i H x H'/\tn (i+1) s2.heap/\∀b∈fp,H' b=none) E s1) E s
 done:∀(X:Cx),X.prog=P->X.w=w->X.K=K->X.calm=true->∀(i:Nat)(pins:List (Addr×Obj)) (s:Shared) (σ:St) (H:Hp) (E:Value->Shared->Prop),Inv X pins σ H s->(∀b∈fp,aBA X pins H b)->tn i s.heap->J.stop i H ->
  wpAny (model P w) X.A (pyNext (.ref it)) (λr s1=>r=none/\Inv X pins σ H s1) E s
 self:∀(A:Around)(i:Nat) (s:Shared) (Q:Value->Shared->Prop) (E:Value->Shared->Prop),tn i s.heap->Q (.ref it) s->wpAny (model P w) A (pyIter (.ref it)) Q E s
abbrev TI:=St->Hp->(It->Hp->Prop)->Prop
def PIE (X:Cx)(pins:List (Addr×Obj))(σ:St)(tg:Expr)(R:It->Hp->Prop)(itv:Value)(s2:Shared):Prop :=
 ∃(it:Addr)(fp:List Addr) (tn:Nat->Heap->Prop) (J:It) (H':Hp),itv=.ref it/\Inv X pins σ H' s2/\aGG X.prog X.w X.K tg J fp it tn/\tn 0 s2.heap/\(∀b∈fp,aBA X pins H' b)/\R J H'
def PI (X:Cx)(tg iter:Expr)(wi:TI):Prop :=
 ∀(pins:List (Addr×Obj)) (s:Shared) (σ:St) (H:Hp) (R:It->Hp->Prop),Inv X pins σ H s->wi σ H R ->
  wpAny (model X.prog X.w) X.A (eval iter X.env) (λv s1=>wpAny (model X.prog X.w) X.A (pyIter v) (PIE X pins σ tg R) X.xe s1) X.xe s
theorem aHl {M:Model}{A:Around}{E:Value->Shared->Prop}{s:Shared}{tg:Expr}{it:Addr}{u:Value}{o:Obj}{n:String}{vs:Array Value}{Q:Unit->Shared->Prop}(ho:s.heap.get? it=some o)(hc:o.cls=.type n)(hd:o.data=.fields vs)(hn:["enumerate","zip","dict_itemiterator","dict_reverseitemiterator","odict_iterator","itertools.zip_longest","itertools.pairwise"].contains n=false)(hQ:Q () s):wpAny M A (letOwnedTupleGo tg (.ref it) u) Q E s:=by
 unfold letOwnedTupleGo;cases tg<;>first
  |exact wpAny_pure hQ
  |(cases u<;>first
    |exact wpAny_pure hQ
    |(
      refine wpAny_bind (wpAny_load ho ?_);rw[hc,hd];show wpAny M A (if (["enumerate","zip","dict_itemiterator","dict_reverseitemiterator","odict_iterator","itertools.zip_longest","itertools.pairwise"].contains n&&vs[0]?==some (rawInt _))=true then _ else _) Q E s;rw[if_neg (by intro h;rw[hn,Bool.false_and] at h;cases h)];exact wpAny_pure hQ))
noncomputable def Itl (K:Frag)(a:Addr):It :=
 ⟨λi H=>∃xs x,SqL K H a xs/\xs[i]?=some x,λi H x H'=>H'=H/\∀xs,SqL K H a xs->xs[i]?=some x,λi H=>∃xs,SqL K H a xs/\xs.length<=i⟩
noncomputable def Itt (K:Frag)(a:Addr):It :=
 ⟨λi H=>∃xs x,SqT K H a xs/\xs[i]?=some x,λi H x H'=>H'=H/\∀xs,SqT K H a xs->xs[i]?=some x,λi H=>∃xs,SqT K H a xs/\xs.length<=i⟩
noncomputable def Itr (lo:Int)(n:Nat):It:=⟨λi _=>i<n,λi H x H'=>H'=H/\x=.int (lo+i),λi _=>n<=i⟩
theorem aFX {P:Program}{w:World}{K:Frag}{tg:Expr}(a it:Addr):aGG P w K tg (Itl K a) [it] it (λi h=>h.IsListIter it a i) where
 mem:=by simp
 obj:=λi h st b hb=>by
  have e:b=it:=by simpa using hb
  subst e;obtain⟨o,e,c,d⟩:=st;exact⟨o,e,λv z=>by rw[d] at z;cases z⟩
 keep:=λi h h' st k=>st.at λo e=>k it (by simp) o e
 item:=by intro X hP hw hK hc i pins s σ H E I hf st hg;subst hP hw hK;obtain⟨xs,x,hq,hx⟩:=hg;obtain⟨its,rv,p,hz⟩:=I.list hq;obtain⟨u,hu,ru⟩:=rv.get hx;obtain⟨f0,f1,f2,f3,f4,f5⟩:=hf it (by simp);refine wpAny_pyNext_list_item st p.isList (x:=u) (by simpa using hu) λh' st' sb=>?_;have I1:Inv X pins σ H { s with heap:=h' }:=I.turned (t':=s.toks) (λb o hb e=>(sb.2 b hb).trans e) f0 f1 f3 f4 f5;obtain⟨o,e,c,d⟩:=id st';exact⟨u,rfl,aHl (s:={ s with heap:=h' }) e c d (by decide) ⟨x,H,I1,ru,⟨rfl,λys hy=>by rw[I.list_inj hy hq];exact hx⟩,st',λb hb=>(hf b hb).1⟩⟩
 done:=by intro X hP hw hK hc i pins s σ H E I hf st hg;subst hP hw hK;obtain⟨xs,hq,hx⟩:=hg;obtain⟨its,rv,p,hz⟩:=I.list hq;obtain⟨f0,f1,f2,f3,f4,f5⟩:=hf it (by simp);have hl:=rv.length;exact wpAny_pyNext_list_end (I.ok.hd hc) st p.isList (by simp;omega) λh' eb=>⟨rfl,I.turned (t':=s.toks) (λb o hb e=>eb b o hb e) f0 f1 f3 f4 f5⟩
 self:=λ_ _ _ _ _ st h=>wpAny_pyIter_listiter st h
theorem aE7 {P:Program}{w:World}{K:Frag}{tg:Expr}(a it:Addr):aGG P w K tg (Itt K a) [it] it (λi h=>h.IsTupleIter it a i) where
 mem:=by simp
 obj:=λi h st b hb=>by
  have e:b=it:=by simpa using hb
  subst e;obtain⟨o,e,c,d⟩:=st;exact⟨o,e,λv z=>by rw[d] at z;cases z⟩
 keep:=λi h h' st k=>st.at λo e=>k it (by simp) o e
 item:=by intro X hP hw hK hc i pins s σ H E I hf st hg;subst hP hw hK;obtain⟨xs,x,hq,hx⟩:=hg;obtain⟨its,rv,p,hz⟩:=I.tuple hq;obtain⟨u,hu,ru⟩:=rv.get hx;obtain⟨f0,f1,f2,f3,f4,f5⟩:=hf it (by simp);refine wpAny_pyNext_tuple_item st (show s.heap.IsTuple a its.toArray from p) (x:=u) (by simpa using hu) λh' st' sb=>?_;have I1:Inv X pins σ H { s with heap:=h' }:=I.turned (t':=s.toks) (λb o hb e=>(sb.2 b hb).trans e) f0 f1 f3 f4 f5;obtain⟨o,e,c,d⟩:=id st';exact⟨u,rfl,aHl (s:={ s with heap:=h' }) e c d (by decide) ⟨x,H,I1,ru,⟨rfl,λys hy=>by rw[I.tuple_inj hy hq];exact hx⟩,st',λb hb=>(hf b hb).1⟩⟩
 done:=by intro X hP hw hK hc i pins s σ H E I hf st hg;subst hP hw hK;obtain⟨xs,hq,hx⟩:=hg;obtain⟨its,rv,p,hz⟩:=I.tuple hq;obtain⟨f0,f1,f2,f3,f4,f5⟩:=hf it (by simp);have hl:=rv.length;exact wpAny_pyNext_tuple_end (I.ok.hd hc) st (show s.heap.IsTuple a its.toArray from p) (by simp;omega) λh' eb=>⟨rfl,I.turned (t':=s.toks) (λb o hb e=>eb b o hb e) f0 f1 f3 f4 f5⟩
 self:=λ_ _ _ _ _ st h=>wpAny_pyIter_tupleiter st h
theorem aEu {P:Program}{w:World}{K:Frag}{tg:Expr}(it:Addr)(lo:Int)(n:Nat):aGG P w K tg (Itr lo n) [it] it (λi h=>IsRangeIter h it (lo+(i:Nat)*1) ((n:Int)-(i:Nat)) 1) where
 mem:=by simp
 obj:=λi h st b hb=>by
  have e:b=it:=by simpa using hb
  subst e;exact⟨_,st,λv z=>by have z':Data.fields _=Data.cell v:=z;cases z'⟩
 keep:=λi h h' st k=>k it (by simp) _ st
 item:=by intro X hP hw hK hc i pins s σ H E I hf st hg;subst hP hw hK;obtain⟨f0,f1,f2,f3,f4,f5⟩:=hf it (by simp);have W:=Walks.range (prog:=X.prog) (w:=X.w) (I.ok.hd hc) it lo 1 n;refine W.item i s _ _ hg st λv h' tk hv st' kk=>?_;obtain⟨t,rfl⟩:=hv;have I1:Inv X pins σ H { s with heap:=h',toks:=tk }:=I.turned (λb o hb e=>kk b o (by simpa using hb) e) f0 f1 f3 f4 f5;refine⟨_,rfl,aHl (s:={ s with heap:=h',toks:=tk }) (n:="range_iterator") st' rfl rfl (by decide) ⟨.int (lo+i),H,I1,⟨t,?_⟩,⟨rfl,rfl⟩,st',λb hb=>(hf b hb).1⟩⟩;rw[Int.mul_one]
 done:=by intro X hP hw hK hc i pins s σ H E I hf st hg;subst hP hw hK;obtain⟨f0,f1,f2,f3,f4,f5⟩:=hf it (by simp);exact wpAny_pyNext_range_end (I.ok.hd hc) st (by have:n<=i:=hg;omega) λh' eb=>⟨rfl,I.turned (t':=s.toks) (λb o hb e=>eb b o hb e) f0 f1 f3 f4 f5⟩
 self:=λ_ _ _ _ _ st h=>wpAny_pyIter_rangeiter st h
section
variable {X:Cx}{tg:Expr}
noncomputable def aPB (K:Frag)(tl:TE):TI:=λσ H R=>tl σ H λx H1=>∃a,x=.ref a/\(∃xs,SqL K H1 a xs)/\R (Itl K a) H1
noncomputable def aQI (K:Frag)(tl:TE):TI:=λσ H R=>tl σ H λx H1=>∃a,x=.ref a/\(∃xs,SqT K H1 a xs)/\R (Itt K a) H1
theorem aE9 {l:Expr}{tl:TE}(hl:PE X l tl):PI X tg l (aPB X.K tl):=by
 intro pins s σ H R I h;refine thn (hl pins s σ H _ I h) λv s1 ⟨x,H1,I1,r1,q1⟩=>?_;obtain⟨a,e,⟨xs,hq⟩,q⟩:=q1;subst e;cases r1;obtain⟨its,rv,p,hz⟩:=I1.list hq;refine wpAny_pyIter_list p.isList ?_;refine⟨s1.heap.objs.size,[s1.heap.objs.size],_,_,H1,rfl,I1.kept (t':=s1.toks) λb o e=>Heap.get?_push_of_some _ e,aFX a _,⟨_,Heap.get?_push_size _ rfl,rfl,rfl⟩,λb hb=>?_,q⟩;have e:b=s1.heap.objs.size:=by simpa using hb
 subst e;exact I1.fpOk (Nat.le_refl _) (I1.hok.fresh (Nat.le_refl _))
theorem aG0 {l:Expr}{tl:TE}(hl:PE X l tl):PI X tg l (aQI X.K tl):=by
 intro pins s σ H R I h;refine thn (hl pins s σ H _ I h) λv s1 ⟨x,H1,I1,r1,q1⟩=>?_;obtain⟨a,e,⟨xs,hq⟩,q⟩:=q1;subst e;cases r1;obtain⟨its,rv,p,hz⟩:=I1.tuple hq;refine wpAny_pyIter_tuple (show s1.heap.IsTuple a its.toArray from p) ?_;refine⟨s1.heap.objs.size,[s1.heap.objs.size],_,_,H1,rfl,I1.kept (t':=s1.toks) λb o e=>Heap.get?_push_of_some _ e,aE7 a _,⟨_,Heap.get?_push_size _ rfl,rfl,rfl⟩,λb hb=>?_,q⟩;have e:b=s1.heap.objs.size:=by simpa using hb
 subst e;exact I1.fpOk (Nat.le_refl _) (I1.hok.fresh (Nat.le_refl _))
theorem aDN {pins:List (Addr×Obj)}{σ:St}{H:Hp}{s:Shared}{R:It->Hp->Prop}{E:Value->Shared->Prop}{lo hi:Int}{t u v:Tok}{tk:Nat}(I:Inv X pins σ H s)(h1:-(2^62)<=lo)(h2:lo<2^62)(h3:-(2^62)<=hi)(h4:hi<2^62)(q:R (Itr lo (hi-lo).toNat) H):wpAny (model X.prog X.w) X.A (pyIter (.ref s.heap.objs.size)) (PIE X pins σ tg R) E { s with heap:=s.heap.push { cls:=.type "range",data:=.fields #[.int lo t,.int hi u,.int 1 v] },toks:=tk }:=by
 refine wpAny_pyIter_range (IsRange.new ..) (small_one h1 h2 h3 h4) ?_;have I1:Inv X pins σ H { s with heap:=s.heap.push { cls:=.type "range",data:=.fields #[.int lo t,.int hi u,.int 1 v] },toks:=tk }:=I.kept λb o e=>Heap.get?_push_of_some _ e;refine⟨(s.heap.push { cls:=.type "range",data:=.fields #[.int lo t,.int hi u,.int 1 v] }).objs.size,[(s.heap.push { cls:=.type "range",data:=.fields #[.int lo t,.int hi u,.int 1 v] }).objs.size],_,_,H,rfl,
  I1.kept (t':=tk) λb o e=>Heap.get?_push_of_some _ e,aEu _ lo (hi-lo).toNat,?_,λb hb=>?_,q⟩
 ·have e1:lo+((0:Nat):Int)*1=lo:=by simp
  have e2:(((hi-lo).toNat:Nat):Int)-((0:Nat):Int)=Builtin.Range.rangeSize lo hi 1:=by rw[rangeSize_one];split<;>omega
  show IsRangeIter _ _ (lo+((0:Nat):Int)*1) ((((hi-lo).toNat:Nat):Int)-((0:Nat):Int)) 1;rw[e1,e2];exact Heap.get?_push_size _ rfl
 ·have e:b = (s.heap.push { cls:=.type "range",data:=.fields #[.int lo t,.int hi u,.int 1 v] }).objs.size:=by simpa using hb
  subst e;exact I1.fpOk (Nat.le_refl _) (I1.hok.fresh (Nat.le_refl _))
noncomputable def aPP (ta:TA):TI:=λσ H R=>ta σ H λvs H1=>∃j:Int,vs=[.int j]/\-(2^62)<=j/\j<2^62/\R (Itr 0 j.toNat) H1
noncomputable def aPU (ta:TA):TI:=λσ H R=>ta σ H λvs H1=>∃i j:Int,vs=[.int i,.int j]/\(-(2^62)<=i/\i<2^62/\-(2^62)<=j/\j<2^62)/\R (Itr i (j-i).toNat) H1
theorem aFY {a:Expr}{ta:TA}{p pos:Pos}(hg:Gl X "range")(hm:X.mg "range" = none)(ha:PA X [a] ta)(hs:starEach [a] X.env = [(false,eval a X.env)]:=by rfl):PI X tg (.Call (.Name "range" p) [a] [] pos) (aPP ta):=by
 intro pins s σ H R I h;refine Call_ (xL I hg hm boot_range (PyProof.Rows.callWith_type1 (thn (ha pos pins s σ H _ I h) λus s1 ⟨vs,H1,I1,r1,q1⟩=>?_) hs rfl));obtain⟨j,e,q1,q2,q⟩:=q1;subst e;cases r1 with
 |cons r rr =>
  cases rr;obtain⟨t,rfl⟩:=r;exact call_range_1 (aDN I1 (by omega) (by omega) q1 q2 (by simpa using q))
theorem aGl {a b:Expr}{ta:TA}{p pos:Pos}(hg:Gl X "range")(hm:X.mg "range"=none)(ha:PA X [a,b] ta)(hs:starEach [a,b] X.env=[(false,eval a X.env),(false,eval b X.env)]:=by rfl)(hs2:starEach [b] X.env=[(false,eval b X.env)]:=by rfl) :
  PI X tg (.Call (.Name "range" p) [a,b] [] pos) (aPU ta):=by
 intro pins s σ H R I h;refine Call_ (xL I hg hm boot_range (PyProof.Rows.callWith_type1 (thn (ha pos pins s σ H _ I h) λus s1 ⟨vs,H1,I1,r1,q1⟩=>?_) (by rw[hs,hs2]) (by rw[hs2];rfl)));obtain⟨i,j,e,⟨q1,q2,q3,q4⟩,q⟩:=q1;subst e;cases r1 with
 |cons r rr =>
  cases rr with
  |cons r' rr =>
   cases rr;obtain⟨t,rfl⟩:=r;obtain⟨t',rfl⟩:=r';exact call_range_2 (aDN I1 q1 q2 q3 q4 q)
def aP8 (wi:TI)(g:TG)(tb:TS):TS:=λD σ H=>wi σ H λJ H1=>∃W:Nat->Nat->St->Hp->Prop,(∃m,W 0 m σ H1)/\∀i m σ H,W i m σ H ->
 (J.stop i H/\D.nx σ H)∨(J.go i H/\∃N:St->Hp->Prop,(∀σ' H',N σ' H'->∃m',m'<m/\W (i+1) m' σ' H')/\∀x H',J.yld i H x H'->g x σ H' λσ2 H2=>tb { D with nx:=N,ct:=N,bk:=D.nx } σ2 H2)
noncomputable def aCj (fp:List Addr)(h:Heap):List (Addr×Obj):=fp.filterMap λb=>(h.get? b).map λo=>(b,o)
theorem pL {fp:List Addr}{h:Heap}{b:Addr}{o:Obj}(hb:b∈fp)(e:h.get? b=some o):(b,o)∈aCj fp h:=List.mem_filterMap.mpr ⟨b,hb,by rw[e];rfl⟩
theorem aGu {fp:List Addr}{h:Heap}{p:Addr×Obj}(hp:p∈aCj fp h):p.1∈fp/\h.get? p.1=some p.2:=by
 obtain⟨b,hb,e⟩:=List.mem_filterMap.mp hp;cases q:h.get? b with
 |none=>rw[q] at e;cases e
 |some o =>
  rw[q] at e;have e':(b,o)=p:=Option.some.inj e;subst e';exact⟨hb,q⟩
theorem Inv.pinned {pins:List (Addr×Obj)}{σ:St}{H:Hp}{s:Shared}{fp:List Addr}(I:Inv X pins σ H s)(hf:∀b∈fp,aBA X pins H b)(ho:∀b∈fp,∃o,s.heap.get? b=some o/\∀v,o.data ≠ .cell v):Inv X (pins++aCj fp s.heap) σ H s :=
 I.pins_of λp hp=>(List.mem_append.mp hp).elim (λz=>I.pin p (mem_append_right _ z)) λz=>by obtain⟨hb,e⟩:=aGu z;obtain⟨f0,f1,f2,_⟩:=hf p.1 hb;obtain⟨o,e',d⟩:=ho p.1 hb;rw[e] at e';cases e';exact⟨e,f0,f1,f2,d⟩
theorem Inv.unpinned {pins pl:List (Addr×Obj)}{σ:St}{H:Hp}{s:Shared}(I:Inv X (pins++pl) σ H s):Inv X pins σ H s:=I.pins_of λp hp=>I.pin p (mem_append_right _ (mem_append_left _ hp))
theorem aAy {iter:Expr}{body:List Stmt}{wi:TI}{g:TG}{tb:TS}{pos:Pos}(hp:PassesOwn (model X.prog X.w) X.A X.env X.xe)(hc:X.calm=true)(hi:PI X tg iter wi)(hg:PG X tg g)(hb:PSs X body tb)(hs:∀x,foldedSetIterable iter X.env x=pure x:=by intro _;rfl):PS X (.For tg iter body [] pos) (aP8 wi g tb):=by
 intro pins s σ H D I h;refine wpAny_For (thn (hi pins s σ H _ I h) λv s1 h1=>thn h1 λitv s2 h2=>?_) hs;obtain⟨it,fp,tn,J,H2,e,I2,T,st2,f2,W,⟨m0,w0⟩,turn⟩:=h2;subst e;have stat:∀{H':Hp},(∀b∈fp,H' b=none)->∀b∈fp,aBA X pins H' b:=λhn b hb=>⟨hn b hb,(f2 b hb).2⟩;refine codeAny_forLoop_any (λn s'=>∃i σ' H',Inv X pins σ' H' s'/\tn i s'.heap/\(∀b∈fp,H' b=none)/\W i n σ' H') ?_ m0 ⟨0,σ,H2,I2,st2,λb hb=>(f2 b hb).1,w0⟩;rintro n s3 ⟨i,σ3,H3,I3,st3,fr3,w3⟩;rcases turn i n σ3 H3 w3 with⟨stop,qn⟩|⟨go,N,hN,step⟩
 ·refine wpAny_passesOwn hp (thn (T.done X rfl rfl rfl hc i pins s3 σ3 H3 X.xe I3 (stat fr3) st3 stop) λr s4 ⟨hr,I4⟩=>?_);subst hr;exact wpAny_execs_nil ⟨σ3,H3,I4,qn⟩
 ·refine wpAny_passesOwn hp (thn (T.item X rfl rfl rfl hc i pins s3 σ3 H3 X.xe I3 (stat fr3) st3 go) λr s4 ⟨u,hr,h4⟩=>?_);subst hr;refine wpAny_passesOwn hp (thn h4 λ_ s5 ⟨x,H5,I5,r5,y5,st5,fr5⟩=>?_);have I5':=I5.pinned (stat fr5) (T.obj _ _ st5);refine wpAny_passesOwn hp (thn (hg _ s5 σ3 H5 x u _ I5' r5 (step x H5 y5)) λ_ s6 ⟨σ6,H6,I6,q6⟩=>?_);refine wpAny_passesOwn hp (thn (hb _ s6 σ6 H6 _ I6 q6) λf s7 q7=>?_);have again:∀{σ7:St}{H7:Hp},Inv X (pins++aCj fp s5.heap) σ7 H7 s7->N σ7 H7->∃m,m<n/\∃i σ' H',Inv X pins σ' H' s7/\tn i s7.heap/\(∀b∈fp,H' b=none)/\W i m σ' H':=λ{σ7 H7} I7 n7=>by obtain⟨m',hm,w7⟩:=hN σ7 H7 n7;refine⟨m',hm,i+1,σ7,H7,I7.unpinned,T.keep _ _ _ st5 λb hb o e=>(I7.pin (b,o) (mem_append_right _ (mem_append_right _ (pL hb e)))).1,λb hb=>?_,w7⟩;obtain⟨o,e,d⟩:=T.obj _ _ st5 b hb;exact(I7.pin (b,o) (mem_append_right _ (mem_append_right _ (pL hb e)))).2.1
  cases f with
  |next=>obtain⟨σ7,H7,I7,n7⟩:=q7;exact again I7 n7
  |cont=>obtain⟨σ7,H7,I7,n7⟩:=q7;exact again I7 n7
  |brk=>obtain⟨σ7,H7,I7,q7⟩:=q7;exact⟨σ7,H7,I7.unpinned,q7⟩
  |ret v=>obtain⟨x7,σ7,H7,I7,r7,q7⟩:=q7;exact⟨x7,σ7,H7,I7.unpinned,r7,q7⟩
end
abbrev R2:=V->V->Hp->VK->Prop
def OpR (X:Cx)(f:Value->Value->Sem Value)(r:R2):Prop :=
 ∀(pins:List (Addr×Obj)) (s:Shared) (σ:St) (H:Hp) (x y:V) (v u:Value) (Q:VK),Inv X pins σ H s->cT x v->cT y u->r x y H Q ->
  wpAny (model X.prog X.w) X.A (f v u) (EP X pins σ Q) X.xe s
def UnR (X:Cx)(f:Value->Sem Value)(r:V->Hp->VK->Prop):Prop :=
 ∀(pins:List (Addr×Obj)) (s:Shared) (σ:St) (H:Hp) (x:V) (v:Value) (Q:VK),Inv X pins σ H s->cT x v->r x H Q ->
  wpAny (model X.prog X.w) X.A (f v) (EP X pins σ Q) X.xe s
def mV (X:Cx)(f:Value)(r:List V->Hp->VK->Prop):Prop :=
 ∀(pins:List (Addr×Obj)) (s:Shared) (σ:St) (H:Hp) (xs:List V) (us:List Value) (Q:VK),Inv X pins σ H s->cG xs us->r xs H Q ->
  wpAny (model X.prog X.w) X.A (call f us) (EP X pins σ Q) X.xe s
def tOp (r:R2)(ta tb:TE):TE:=λσ H Q=>ta σ H λx H1=>tb σ H1 λy H2=>r x y H2 Q
def tUn (r:V->Hp->VK->Prop)(ta:TE):TE:=λσ H Q=>ta σ H λx H1=>r x H1 Q
def rI (C:Int->Int->Prop)(g:Int->Int->V):R2:=λx y H Q=>∃i j,x=.int i/\y=.int j/\C i j/\Q (g i j) H
def rI0 (g:Int->Int->V):R2:=λx y H Q=>∃i j,x=.int i/\y=.int j/\Q (g i j) H
def rU (g:Int->V):V->Hp->VK->Prop:=λx H Q=>∃i,x=.int i/\Q (g i) H
section
variable {X:Cx}{a b c:Expr}{ta tb tc:TE}{pos:Pos}
theorem aNR (ha:PE X a ta)(hb:PE X b tb){pins:List (Addr×Obj)}{s:Shared}{σ:St}{H:Hp}{R:V->V->Hp->Prop}(I:Inv X pins σ H s)(h:ta σ H λx H1=>tb σ H1 λy H2=>R x y H2){Q:Value->Shared->Prop}{f:Value->Value->Sem Value}(hf:∀v u s2 x y H2,Inv X pins σ H2 s2->cT x v->cT y u->R x y H2->wpAny (model X.prog X.w) X.A (f v u) Q X.xe s2) :
  wpAny (model X.prog X.w) X.A (eval a X.env) (λv s₁=>wpAny (model X.prog X.w) X.A (eval b X.env) (λu s₂=>wpAny (model X.prog X.w) X.A (f v u) Q X.xe s₂) X.xe s₁) X.xe s:=by
 refine thn (ha pins s σ H _ I h) λv s1 ⟨x,H1,I1,r1,q1⟩=>?_;refine thn (hb pins s1 σ H1 _ I1 q1) λu s2 ⟨y,H2,I2,r2,q2⟩=>?_;exact hf v u s2 x y H2 I2 r1 r2 q2
theorem aPN {op:Operator}{r:R2}(ho:OpR X (binaryOp op) r)(ha:PE X a ta)(hb:PE X b tb):PE X (.BinOp a op b pos) (tOp r ta tb):=by intro pins s σ H Q I h;exact wpAny_BinOp (aNR ha hb I h λv u s2 x y H2 I2 rx ry q=>ho pins s2 σ H2 x y v u Q I2 rx ry q)
theorem aPZ {op:UnaryOp}{r:V->Hp->VK->Prop}(ho:UnR X (unaryOp op) r)(ha:PE X a ta):PE X (.UnaryOp op a pos) (tUn r ta):=by intro pins s σ H Q I h;exact UnaryOp_ (thn (ha pins s σ H _ I h) λv s1 ⟨x,H1,I1,r1,q1⟩=>ho pins s1 σ H1 x v Q I1 r1 q1)
theorem opI {f:Value->Value->Sem Value}{C:Int->Int->Prop}{g:Int->Int->Int}(rule:∀(i j:Int)(t u:Tok) (s:Shared) (Q:Value->Shared->Prop) (E:Value->Shared->Prop),C i j->Q (.int (g i j) s.toks) { s with toks:=s.toks+1 }->wpAny (model X.prog X.w) X.A (f (.int i t) (.int j u)) Q E s) :
  OpR X f (rI C λi j=>.int (g i j)):=by
 intro pins s σ H x y v u Q I rx ry h;obtain⟨i,j,rfl,rfl,hc,q⟩:=h;obtain⟨t,rfl⟩:=rx;obtain⟨t',rfl⟩:=ry;exact rule i j t t' s _ _ hc ⟨.int (g i j),H,I.tok _,⟨_,rfl⟩,q⟩
theorem aOe {f:Value->Value->Sem Value}{g:Int->Int->Int}(rule:∀(i j:Int)(t u:Tok) (s:Shared) (Q:Value->Shared->Prop) (E:Value->Shared->Prop),Q (.int (g i j) s.toks) { s with toks:=s.toks+1 }->wpAny (model X.prog X.w) X.A (f (.int i t) (.int j u)) Q E s) :
  OpR X f (rI0 λi j=>.int (g i j)):=by
 intro pins s σ H x y v u Q I rx ry h;obtain⟨i,j,rfl,rfl,q⟩:=h;obtain⟨t,rfl⟩:=rx;obtain⟨t',rfl⟩:=ry;exact rule i j t t' s _ _ ⟨.int (g i j),H,I.tok _,⟨_,rfl⟩,q⟩
theorem aJ7 {f:Value->Value->Sem Value}{g:Int->Int->Bool}(rule:∀(i j:Int)(t u:Tok) (s:Shared) (Q:Value->Shared->Prop) (E:Value->Shared->Prop),Q (.bool (g i j)) s->wpAny (model X.prog X.w) X.A (f (.int i t) (.int j u)) Q E s) :
  OpR X f (rI0 λi j=>.bl (g i j)):=by
 intro pins s σ H x y v u Q I rx ry h;obtain⟨i,j,rfl,rfl,q⟩:=h;obtain⟨t,rfl⟩:=rx;obtain⟨t',rfl⟩:=ry;exact rule i j t t' s _ _ ⟨.bl (g i j),H,I,rfl,q⟩
def aO8 (i j:Int):Prop:=0<=j/\j<=1000000/\i.natAbs<2^64
theorem aM7:OpR X (binaryOp .Add) (rI0 λi j=>.int (i+j)):=aOe λ_ _ _ _ _ _ _ q=>add_int q
theorem aMt:OpR X (binaryOp .Sub) (rI0 λi j=>.int (i-j)):=aOe λ_ _ _ _ _ _ _ q=>sub_int q
theorem aJ4:OpR X (binaryOp .Mod) (rI (λ_ j=>j≠0) λi j=>.int (i.fmod j)):=opI λ_ _ _ _ _ _ _ hc q=>mod_int' hc q
theorem aNF:OpR X (binaryOp .Pow) (rI aO8 λi j=>.int (i^j.toNat)):=opI λ_ _ _ _ _ _ _ hc q=>pow_int_small hc.1 hc.2.1 hc.2.2 q
theorem unI {f:Value->Sem Value}{g:Int->Int}(rule:∀(i:Int)(t:Tok) (s:Shared) (Q:Value->Shared->Prop) (E:Value->Shared->Prop),Q (.int (g i) s.toks) { s with toks:=s.toks+1 }->wpAny (model X.prog X.w) X.A (f (.int i t)) Q E s) :
  UnR X f (rU λi=>.int (g i)):=by
 intro pins s σ H x v Q I rx h;obtain⟨i,rfl,q⟩:=h;obtain⟨t,rfl⟩:=rx;exact rule i t s _ _ ⟨.int (g i),H,I.tok _,⟨_,rfl⟩,q⟩
theorem aNJ:UnR X (unaryOp .USub) (rU λi=>.int (-i)):=unI λ_ _ _ _ _ q=>neg_int q
end
section
variable {X:Cx}{a b c:Expr}{ta tb tc:TE}{pos:Pos}
theorem aOa:OpR X (compareOp .Lt) (rI0 λi j=>.bl (decide (i<j))):=aJ7 λ_ _ _ _ _ _ _ q=>lt_int q
theorem aOG:OpR X (compareOp .LtE) (rI0 λi j=>.bl (decide (i<=j))):=aJ7 λ_ _ _ _ _ _ _ q=>le_int q
theorem aPj:OpR X (compareOp .Gt) (rI0 λi j=>.bl (decide (j<i))):=aJ7 λ_ _ _ _ _ _ _ q=>gt_int q
theorem aPH:OpR X (compareOp .GtE) (rI0 λi j=>.bl (decide (j<=i))):=aJ7 λ_ _ _ _ _ _ _ q=>ge_int q
theorem aCo (b:Expr){op:CmpOp}(h:op ≠ .In:=by decide)(h2:op ≠ .NotIn:=by decide):behindInMarks op b=false:=by
 have e1:(op==CmpOp.In)=false:=by cases op<;>first|rfl|exact absurd rfl h
 have e2:(op==CmpOp.NotIn)=false:=by cases op<;>first|rfl|exact absurd rfl h2
 cases b<;>simp[behindInMarks,e1,e2]
theorem aKs {op:CmpOp}{r:R2}(ho:OpR X (compareOp op) r)(ha:PE X a ta)(hb:PE X b tb)(hm:behindInMarks op b=false):PE X (.Compare a [op] [b] pos) (tOp r ta tb):=by intro pins s σ H Q I h;exact wpAny_Compare1 (aNR ha hb I h λv u s2 x y H2 I2 rx ry q=>ho pins s2 σ H2 x y v u Q I2 rx ry q) hm
def aKE (t:TE):TT:=λσ H Q=>t σ H λx H'=>∃k,x=.bl k/\Q k H'
theorem aJ9 {op:CmpOp}{r:R2}(ho:OpR X (compareOp op) r)(ha:PE X a ta)(hb:PE X b tb)(hm:behindInMarks op b=false):PT X (.Compare a [op] [b] pos) (aKE (tOp r ta tb)):=by
 intro pins s σ H Q I h;refine wpAny_isTrue_Compare1 (thn (ha pins s σ H _ I h) λv s1 ⟨x,H1,I1,r1,q1⟩=>thn (hb pins s1 σ H1 _ I1 q1) λu s2 ⟨y,H2,I2,r2,q2⟩ =>
  thn (ho pins s2 σ H2 x y v u _ I2 r1 r2 q2) λc s3 ⟨z,H3,I3,r3,k,e,q3⟩=>?_) hm
 subst e;cases r3;exact wpAny_truthy_bool ⟨H3,I3,q3⟩
def aEX (r r':R2)(ta tb tc:TE):TE:=λσ H Q=>ta σ H λx H1=>tb σ H1 λy H2=>r x y H2 λz H3=>∃k,z=.bl k /\
 (if k=true then tc σ H3 λw' H4=>r' y w' H4 Q else Q (.bl false) H3)
theorem aIh {op op':CmpOp}{r r':R2}(ho:OpR X (compareOp op) r)(ho':OpR X (compareOp op') r')(ha:PE X a ta)(hb:PE X b tb)(hc:PE X c tc)(hm:lastMarks [op,op'] [b,c]=false:=by with_unfolding_all rfl):PE X (.Compare a [op,op'] [b,c] pos) (aEX r r' ta tb tc):=by
 intro pins s σ H Q I h;refine Compare_chain (thn (ha pins s σ H _ I h) λv s1 ⟨x,H1,I1,r1,q1⟩=>chain_link (thn (hb pins s1 σ H1 _ I1 q1) λu s2 ⟨y,H2,I2,r2,q2⟩ =>
  thn (ho pins s2 σ H2 x y v u _ I2 r1 r2 q2) λd s3 ⟨z,H3,I3,r3,k,e,q3⟩=>?_)) hm
 subst e;cases r3;refine wpAny_truthy_bool ?_;cases k with
 |false=>exact ite_ff ⟨.bl false,H3,I3,rfl,q3⟩
 |true=>exact ite_tt (chain_last (thn (hc pins s3 σ H3 _ I3 q3) λw' s4 ⟨z',H4,I4,r4,q4⟩=>ho' pins s4 σ H4 y z' u w' Q I4 r2 r4 q4))
theorem aH7 {op op':CmpOp}{r r':R2}(ho:OpR X (compareOp op) r)(ho':OpR X (compareOp op') r')(ha:PE X a ta)(hb:PE X b tb)(hc:PE X c tc)(hm:lastMarks [op,op'] [b,c]=false:=by with_unfolding_all rfl):PT X (.Compare a [op,op'] [b,c] pos) (aKE (aEX r r' ta tb tc)):=by
 intro pins s σ H Q I h;refine isTrue_chain (thn (ha pins s σ H _ I h) λv s1 ⟨x,H1,I1,r1,q1⟩=>test_link (thn (hb pins s1 σ H1 _ I1 q1) λu s2 ⟨y,H2,I2,r2,q2⟩ =>
  thn (ho pins s2 σ H2 x y v u _ I2 r1 r2 q2) λd s3 ⟨z,H3,I3,r3,k,e,q3⟩=>?_)) hm
 subst e;cases r3;refine wpAny_truthy_bool ?_;cases k with
 |false =>
  obtain⟨k',e',q'⟩:=q3;cases e';exact ite_ff ⟨H3,I3,q'⟩
 |true =>
  refine ite_tt (test_last (thn (hc pins s3 σ H3 _ I3 q3) λw' s4 ⟨z',H4,I4,r4,q4⟩=>thn (ho' pins s4 σ H4 y z' u w' _ I4 r2 r4 q4) λd' s5 ⟨z2,H5,I5,r5,k2,e2,q5⟩=>?_));subst e2;cases r5;exact wpAny_truthy_bool ⟨H5,I5,q5⟩
theorem aE0:(sizeLine:Nat)<2^63:=by rw[sizeLine_eq];decide
theorem yA {x:V}{us:List Value}(r:cG [x] us):∃u,us=[u]/\cT x u:=by
 cases r with
 |cons r1 r2=>cases r2;exact⟨_,rfl,r1⟩
theorem aKM {x y:V}{us:List Value}(r:cG [x,y] us):∃u w',us=[u,w']/\cT x u/\cT y w':=by
 cases r with
 |cons r1 r2 =>
  cases r2 with
  |cons r3 r4=>cases r4;exact⟨_,_,rfl,r1,r3⟩
theorem aIp:mV X (.builtin "abs") (λxs H Q=>∃i,xs=[.int i]/\Q (.int (if i<0 then -i else i)) H):=by intro pins s σ H xs us Q I r h;obtain⟨i,rfl,q⟩:=h;obtain⟨u,rfl,t,rfl⟩:=yA r;exact call_abs_int λu tk=>⟨.int (if i<0 then -i else i),H,I.tok _,⟨_,rfl⟩,q⟩
theorem aGc (hc:X.calm = true):mV X (.builtin "min") (λxs H Q=>∃i j,xs=[.int i,.int j]/\Q (.int (if j<i then j else i)) H):=by
 intro pins s σ H xs us Q I r h;obtain⟨i,j,rfl,q⟩:=h;obtain⟨u,w',rfl,⟨t,rfl⟩,⟨t',rfl⟩⟩:=aKM r;refine min_two_ints (I.ok.hd hc) λh' tk k=>⟨_,H,I.kept k,?_,q⟩;by_cases hj:j<i
 ·rw[if_pos hj,if_pos hj];exact⟨_,rfl⟩
 ·rw[if_neg hj,if_neg hj];exact⟨_,rfl⟩
theorem aGr:mV X (.type "int") (λxs H Q=>(∃i,xs=[.int i]/\Q (.int i) H) ∨ ∃k,xs=[.bl k]/\Q (.int (if k then 1 else 0)) H):=by
 intro pins s σ H xs us Q I r h;rcases h with⟨i,rfl,q⟩|⟨k,rfl,q⟩
 ·obtain⟨u,rfl,t,rfl⟩:=yA r;exact call_int_int ⟨.int i,H,I,⟨_,rfl⟩,q⟩
 ·obtain⟨u,rfl,r1⟩:=yA r;cases r1;exact call_int_bool ⟨.int (if k then 1 else 0),H,I.tok _,⟨_,rfl⟩,q⟩
end
structure aM3 (h:Heap)(x dx C:Addr)(mA:Str->Option Value):Prop where
 obj:h.get? x=some (instObj C dx)
 ns:h.Ns1 dx mA
 ne:dx≠x
theorem aB1 {h:Heap}{dx:Addr}{mA:Str->Option Value}(n:h.Ns1 dx mA):∃od,h.get? dx=some od/\∀name,lookIn name od=some (mA name):=by
 obtain⟨o,es,ep,ho,hd,hk,_,hm⟩:=n;refine⟨o,ho,λname=>?_⟩;have e:=hm name;unfold nsFind findBy at e;rw[<- Array.find?_toList] at e;unfold lookIn;rw[hd];dsimp only;split
 ·rename_i y q;rw[q] at e;exact congrArg some e
 ·rename_i q;rw[q] at e;have a:es.toList.any (·.refKey)=false:=by rw[List.any_eq_false];intro y hy;obtain⟨z,t,hkey⟩:=hk y (Array.mem_toList_iff.mp hy);simp[DictEntry.refKey,hkey]
  have a':¬es.toList.any (·.refKey)=true:=by rw[a];exact Bool.false_ne_true
  rw[if_neg a'];exact congrArg some e
theorem aM3.look {h:Heap}{x dx C:Addr}{mA:Str->Option Value}(I:aM3 h x dx C mA):∃od,PySem.W.InstAt h x (instObj C dx) C (some od)/\∀name,lookIn name od=some (mA name) :=
 let ⟨od,ho,hl⟩:=aB1 I.ns
 ⟨od,⟨I.obj,rfl,rfl,ho⟩,hl⟩
section
variable {prog:Program}{w:World}{A:Around}{E:Value->Shared->Prop}{s:Shared}{K:Frag}{x dx C f:Addr}{mA:Str->Option Value}{name:Str}{v:Value}
end
section
variable {P:Program}{w:World}{H H':Hp}{h h':Heap}{a C dx:Addr}{fs fs':List (Str×V)}
theorem aJG (hok:HOk P w H h)(e:H a=some (.ins C dx fs)):∃mA,aM3 h a dx C mA/\(∀f,aIY (fs.lookup f) (mA f))/\PySem.Within mA (fs.map (·.1))/\fs.length<=1000/\H dx=some (.own a):=by obtain⟨d,z,ne,ob,mA,n,r,q⟩:=(show gJ P w H h a (.ins C dx fs) from hok a _ e);exact⟨mA,⟨ob,n,ne⟩,r,q,z,d⟩
end
structure Cls (K:Frag)(C:Addr):Prop where
 pg:PySem.W.plainGet K C Str.empty=true
 hd:PySem.W.hasDictIn K C=true
 po:PySem.W.plainOver K C=true
 sa:findIn K (.ref C) "__setattr__" = some (some (.builtin "object.__setattr__"))
theorem Cls.get {K:Frag}{C:Addr}(c:Cls K C)(f:Str):PySem.W.plainGet K C f=true:=c.pg
section
variable {X:Cx}{pins:List (Addr×Obj)}{σ:St}{H:Hp}{s:Shared}{a C dx:Addr}{fs:List (Str×V)}{f:Str}{v:V}{A:Around}{E:Value->Shared->Prop}
theorem aJM {prog:Program}{w:World}{env:Env}{e:Expr}{f:Str}{pos:Pos}{s:Shared}{Q:Value->Shared->Prop}(hb:attributeBase e f env (eval e env)=eval e env)(h:wpAny (model prog w) A (eval e env) (λo s₁=>wpAny (model prog w) A (getAttr o f true) Q E s₁) E s):wpAny (model prog w) A (eval (.Attribute e f pos) env) Q E s :=
 Attribute_any_ h (by rw[arm_eval_Attribute,hb])
end
section
variable {X:Cx}{o e value:Expr}{f:Str}{pos pos' tpos:Pos}{ta tv:TE}
end
section
variable {X:Cx}{pins:List (Addr×Obj)}{σ:St}{H:Hp}{s:Shared}{A:Around}{E:Value->Shared->Prop}{Q:Value->Shared->Prop}{c:Value}{b:Bool}
inductive zA (K:Frag) (H:Hp):V->Value->Prop where
 |non:zA K H .non (.type "NoneType")
 |bl (x:Bool):zA K H (.bl x) (.type "bool")
 |int (i:Int):zA K H (.int i) (.type "int")
 |str (x:Str):zA K H (.str x) (.type "str")
 |flt (x:UInt64):zA K H (.flt x) (.type "float")
 |lst {a:Addr} {xs:List V} (e:H a = some (.lst xs)):zA K H (.ref a) (.type "list")
 |frz {a:Addr} {o:Obj} {xs:List V} (e:H a = some (.frz o (.lst xs))):zA K H (.ref a) (.type "list")
 |tup {a:Addr} {xs:List V} (e:H a = some (.tup xs)):zA K H (.ref a) (.type "tuple")
 |dK {a:Addr} {kvs:List (Key×V)} (e:H a = some (.dK kvs)):zA K H (.ref a) (.type "dict")
 |dT {a:Addr} {kvs:List (List Key×V)} (e:H a = some (.dT kvs)):zA K H (.ref a) (.type "dict")
 |ins {a C dx:Addr} {fs:List (Str×V)} (e:H a = some (.ins C dx fs)) (cl:Cls K C) (ha:findIn K (.ref C) "__class__" = some (some (.builtin "object.__class__")))
   (hn:PySem.W.specialIn K (.builtin "object.__class__") "__get__" = some (some (.builtin "getset_descriptor.__get__"))) (htk:PySem.W.takesIn K (.builtin "object.__class__")=some true)
   (hm:mroIn K C (.type "object")=some true):zA K H (.ref a) (.ref C)
theorem nY {x:V}{u t:Value}(I:Inv X pins σ H s)(rx:cT x u)(ty:zA X.K H x t)(e:kitOne X.K t c=some b)(h:∀tk,Q (.bool b) { s with toks:=tk }) :
  wpAny (model X.prog X.w) A (call (.builtin "isinstance") [u,c]) Q E s:=by
 cases ty with
 |non=>cases (show u=Value.none from rx);exact kia_one PySem.W.kitx_none I.kIn True.intro e (λz=>nomatch z) h
 |bl y=>cases (show u=Value.bool y from rx);exact kia_one PySem.W.kitx_bool I.kIn True.intro e (λz=>nomatch z) h
 |int i=>obtain⟨t,q⟩:=(show ∃t,u=Value.int i t from rx);cases q;exact kia_one PySem.W.kitx_int I.kIn True.intro e (λz=>nomatch z) h
 |str y=>obtain⟨t,q⟩:=(show ∃t,u=Value.str y t from rx);cases q;exact kia_one PySem.W.kitx_str I.kIn True.intro e (λz=>nomatch z) h
 |flt y=>obtain⟨t,q⟩:=(show ∃t,u=Value.float y t from rx);cases q;exact kia_one PySem.W.kitx_float I.kIn True.intro e (λz=>nomatch z) h
 |@lst a xs ea =>
  cases (show u=Value.ref a from rx);obtain⟨_,_,n,_,h1⟩:=(show gJ X.prog X.w H s.heap a (.lst xs) from I.hok a _ ea);exact kia_one kitx_list I.kIn ⟨_,h1,rfl⟩ e (λz=>nomatch z) h
 |@frz a ob xs ea =>
  cases (show u=Value.ref a from rx);obtain⟨_,_,_,n,_,h1⟩:=(show gJ X.prog X.w H s.heap a (.frz ob (.lst xs)) from I.hok a _ ea);exact kia_one kitx_list I.kIn ⟨_,h1,rfl⟩ e (λz=>nomatch z) h
 |@tup a xs ea =>
  cases (show u=Value.ref a from rx);obtain⟨_,_,_,p⟩:=(show gJ X.prog X.w H s.heap a (.tup xs) from I.hok a _ ea);obtain⟨o,h1,h2,_⟩:=p;exact kia_one PySem.W.kitx_tuple I.kIn ⟨o,h1,h2⟩ e (λz=>nomatch z) h
 |@dK a kvs ea =>
  cases (show u=Value.ref a from rx);obtain⟨_,_,vs,_,p⟩:=(show gJ X.prog X.w H s.heap a (.dK kvs) from I.hok a _ ea);obtain⟨o,es,ep,h1,h2,_⟩:=p;exact kia_one PySem.W.kitx_dict I.kIn ⟨o,h1,h2.1⟩ e (λz=>nomatch z) h
 |@dT a kvs ea =>
  cases (show u=Value.ref a from rx);obtain⟨_,_,xs,_,o,es,ep,h1,h2,_⟩:=(show gJ X.prog X.w H s.heap a (.dT kvs) from I.hok a _ ea);exact kia_one PySem.W.kitx_dict I.kIn ⟨o,h1,h2.1⟩ e (λz=>nomatch z) h
 |@ins a C dx fs ea cl ha hn htk hm =>
  cases (show u=Value.ref a from rx);obtain⟨mA,O,_⟩:=aJG I.hok ea;obtain⟨od,J,_⟩:=O.look;exact kia_one (PySem.W.kitx_own (cl.get _) cl.hd ha hn htk hm) I.kIn J e (λz=>nomatch z) h
end
structure eB (k:Nat)(A:Around):Prop where
 hd:A.handled=none
 dp:A.depth+3*k+5<recursionLimit
 un:A.units+16*k+200<cLine
theorem eB.mono {j k:Nat}{A:Around}(r:eB k A)(h:j<=k):eB j A:=⟨r.hd,by have:=r.dp;omega,by have:=r.un;omega⟩
theorem eB.deeper {k:Nat}{A:Around}(r:eB (k+1) A)(env:Env):eB k (A.deeper env) :=
 ⟨r.hd,by have:=r.dp;show A.depth+1+3*k+5<_;omega,by have:=r.un;show A.units+3+16*k+200<_;omega⟩
theorem aEt {A:Around}{C:Addr}{us:List Value}{kw:List (Str×Value)}:(A.under (.builtin "type.__call__" ⟨.ref C::us,kw⟩)).depth=A.depth+1:=by first|rfl|simp[Around.under,Code.weight,Code.isCreation,Code.isGuard,Code.isCaller,Code.frames,Code.isFrame,guardIds]
theorem aEq {A:Around}{C:Addr}{us:List Value}{kw:List (Str×Value)}:(A.under (.builtin "type.__call__" ⟨.ref C::us,kw⟩)).units=A.units+1:=by first|rfl|simp[Around.under,Code.cUnits,Code.frames,Code.isFrame]
theorem eB.make {k:Nat}{A:Around}(r:eB (k+1) A)(C:Addr)(us:List Value)(kw:List (Str×Value)):eB k (A.under (.builtin "type.__call__" ⟨.ref C::us,kw⟩)) :=
 ⟨r.hd,by have:=r.dp;rw[aEt];omega,by have:=r.un;rw[aEq];omega⟩
theorem eB.depth {k:Nat}{A:Around}(r:eB k A):A.depth<recursionLimit:=by have:=r.dp;omega
def aOz:TA:=λ_ H Q=>Q [] H
def aPM (ta:TE)(tr:TA):TA:=λσ H Q=>ta σ H λx H1=>tr σ H1 λxs H2=>Q (x::xs) H2
section
variable {X:Cx}{e:Expr}{es:List Expr}{te:TE}{t:TA}{pos:Pos}
theorem aC0:PA X [] aOz:=λ_ _ _ _ H Q I h=>Calls.spliced_nil ⟨[],H,I,.nil,h⟩
theorem pE (ha:PE X e te)(hr:PA X es t)(hs:starEach (e::es) X.env=(false,eval e X.env)::starEach es X.env:=by rfl):PA X (e::es) (aPM te t):=by intro pos pins s σ H Q I h;rw[hs];show wpAny _ _ (spliced ((false,eval e X.env)::backTo pos (starEach es X.env))) _ _ s;refine Calls.spliced_cons (thn (ha pins s σ H _ I h) λu s1 ⟨x,H1,I1,r1,q1⟩=>?_);exact thn (hr pos pins s1 σ H1 _ I1 q1) λus s2 ⟨xs,H2,I2,r2,q2⟩=>⟨x::xs,H2,I2,.cons r1 r2,q2⟩
def aQA (t:TA):TE:=λσ H Q=>t σ H λxs H1=>xs.length<=sizeLine/\∀p,H1 p=none->Q (.ref p) (upd H1 p (.tup xs))
def aP6 (t:TA):TE:=λσ H Q=>t σ H λxs H1=>xs.length<=sizeLine/\∀p,H1 p=none->Q (.ref p) (upd H1 p (.lst xs))
theorem aNK {x1}(h:PA X es t):PE X (.Tuple es x1 pos) (aQA t):=by intro pins s σ H Q I hq;refine wpAny_Tuple_spliced (thn (h pos pins s σ H _ I hq) λus s1 ⟨xs,H1,I1,r,z,q⟩=>⟨by rw[<- r.length];exact z,?_⟩);have hf:H1 s1.heap.objs.size=none:=I1.hok.fresh (Nat.le_refl _);refine⟨.ref s1.heap.objs.size,upd H1 s1.heap.objs.size (.tup xs),I1.laid (t':=s1.toks) (λb u e=>Heap.get?_push_of_some _ e) (Nat.le_refl _) ?_,rfl,q _ hf⟩;exact⟨z,us,r,⟨_,Heap.get?_push_size _ rfl,rfl,_,rfl⟩⟩
theorem aL5 (h:PA X es t):PE X (.List es pos) (aP6 t):=by intro pins s σ H Q I hq;refine wpAny_List_spliced (thn (h pos pins s σ H _ I hq) λus s1 ⟨xs,H1,I1,r,z,q⟩=>⟨by rw[<- r.length];exact z,?_⟩);have hf:H1 s1.heap.objs.size=none:=I1.hok.fresh (Nat.le_refl _);refine⟨.ref s1.heap.objs.size,upd H1 s1.heap.objs.size (.lst xs),I1.laid (t':=s1.toks) (λb u e=>Heap.get?_push_of_some _ e) (Nat.le_refl _) ?_,rfl,q _ hf⟩;exact⟨z,us,0,r,Heap.get?_push_size _ rfl⟩
end
abbrev Sp:=List V->Hp->VK->XK->Prop
abbrev CXT:=List Env->Hp->Shared->XK->Value->Shared->Prop
structure aE2 (P:Program)(w:World)(K:Frag)(mg:Str->Option Value)(base:Heap)(A:Around)(outer:List Env)(s:Shared)(H:Hp):Prop where
 frames:A.frames=some outer
 mod:Mod K mg base
 bs:∀b o,base.get? b=some o->s.heap.get? b=some o/\H b=none
 bsz:base.objs.size<=s.heap.objs.size
 funs:s.heap.FunFrames base outer
 frf:∀b∈frs outer,H b=none
 hok:HOk P w H s.heap
 bare:AllBare s.gens
def CE (outer:List Env)(P:Program)(w:World)(H:Hp)(s:Shared)(Q:VK)(u:Value)(s':Shared):Prop :=
 ∃v H',s'.os=s.os/\AllBare s'.gens/\Un (frs outer) [] H H' s.heap s'.heap/\HOk P w H' s'.heap/\cT v u/\Q v H'
def CR (CX:CXT)(outer:List Env)(P:Program)(w:World)(H:Hp)(s:Shared)(Q:VK)(E:XK)(r:Result)(s':Shared):Prop :=
 match r with
 |.ok (.ret u)=>CE outer P w H s Q u s'
 |.ok _=>False
 |.error e=>CX outer H s E e s'
structure lP (P:Program)(w:World)(K:Frag)(mg:Str->Option Value)(base:Heap)(CX:CXT)(k:Nat)(f:Addr)(fd:FuncData)(ps:List Str)(sp:Sp):Prop where
 len:∀vs H Q E,sp vs H Q E->vs.length=ps.length
 run:∀(A:Around)(outer:List Env) (s:Shared) (H:Hp) (args:Args) (us:List Value) (vs:List V) (Q:VK) (E:XK),eB k A->aE2 P w K mg base A outer s H->BindsTo s fd args (ps.zip us)->cG vs us->sp vs H Q E ->
  codeAny (model P w) A (.call (.ref f) args) (CR CX outer P w H s Q E) s
theorem lP.mono {P:Program}{w:World}{K:Frag}{mg:Str->Option Value}{base:Heap}{CX:CXT}{j k:Nat}{f:Addr}{fd:FuncData}{ps:List Str}{sp:Sp}(F:lP P w K mg base CX j f fd ps sp)(h:j<=k) :
  lP P w K mg base CX k f fd ps sp:=⟨F.len,λA outer s H args us vs Q E hr=>F.run A outer s H args us vs Q E (hr.mono h)⟩
theorem lP.imp {P:Program}{w:World}{K:Frag}{mg:Str->Option Value}{base:Heap}{CX:CXT}{k:Nat}{f:Addr}{fd:FuncData}{ps:List Str}{sp sp':Sp}(F:lP P w K mg base CX k f fd ps sp)(h:∀vs H Q E,sp' vs H Q E->sp vs H Q E):lP P w K mg base CX k f fd ps sp' :=
 ⟨λvs H Q E q=>F.len vs H Q E (h _ _ _ _ q),λA outer s H args us vs Q E hr he hb hv hs=>F.run A outer s H args us vs Q E hr he hb hv (h _ _ _ _ hs)⟩
theorem aE2.make {P:Program}{w:World}{K:Frag}{mg:Str->Option Value}{base:Heap}{A:Around}{outer:List Env}{s:Shared}{H:Hp}(e:aE2 P w K mg base A outer s H)(C:Addr)(us:List Value)(kw:List (Str×Value)) :
  aE2 P w K mg base (A.under (.builtin "type.__call__" ⟨.ref C::us,kw⟩)) outer s H:=⟨by first|exact e.frames|(simpa[Around.under,Code.envs,Code.isFrame,pushEnvs] using e.frames),e.mod,e.bs,e.bsz,e.funs,e.frf,e.hok,e.bare⟩
section
variable {X:Cx}{pins:List (Addr×Obj)}{σ:St}{H:Hp}{s s':Shared}
theorem Inv.env0 (I:Inv X pins σ H s):aE2 X.prog X.w X.K X.mg X.base X.A X.stack s H :=
 ⟨I.ok.frames,I.ok.mod,I.bs,Nat.le_trans I.ok.bsz I.sz,I.stack,I.stkFree,I.hok,I.bare⟩
theorem Inv.after {Q:VK}{u:Value}(I:Inv X pins σ H s)(h:CE X.stack X.prog X.w H s Q u s'):EP X pins σ Q u s':=by obtain⟨v,H',os,bare,un,hok,r,q⟩:=h;obtain⟨hh,g,d,t,os'⟩:=s';obtain rfl:os'=s.os:=os;exact⟨v,H',I.call (h':=hh) (g':=g) (d':=d) (t':=t) (ch:=[]) un hok bare (λb z=>absurd z (by simp)),r,q⟩
end
def aKN (sp:Sp)(dvs:List V)(E:XK)(t:TA):TE:=λσ H Q=>t σ H λvs H1=>sp (vs++dvs) H1 Q E
def nW (K:Frag)(fd:FuncData)(ps:List Str)(ds:List Value):Prop :=
 ∀(s:Shared)(us:List Value),K.In s.heap->(us++ds).length=ps.length->BindsTo s fd ⟨us,[]⟩ (ps.zip (us++ds))
theorem nW.all {K:Frag}{fd:FuncData}{ps:List Str}(h:∀us:List Value,us.length=ps.length->bindArgs fd ⟨us,[]⟩=pure (ps.zip us)):nW K fd ps []:=λs us _ hl=>by rw[append_nil] at hl ⊢;exact .of_eq (h us hl)
def wK (CX:CXT)(X:Cx)(E:XK):Prop:=∀(pins:List (Addr×Obj)) (σ:St) (H:Hp) (s:Shared) (e:Value) (s':Shared),Inv X pins σ H s->CX X.stack H s E e s'->X.xe e s'
section
variable {X:Cx}{CX:CXT}{k:Nat}{f C:Addr}{fd:FuncData}{ps:List Str}{sp:Sp}{dvs:List V}{ds:List Value}{E:XK}{x m:Str}{p pos apos:Pos}{e o:Expr}{es:List Expr}{ta:TE}{t:TA}
theorem aEE {pins:List (Addr×Obj)}{σ:St}{H:Hp}{s:Shared}{Q:VK}{us:List Value}{vs:List V}(F:lP X.prog X.w X.K X.mg X.base CX k f fd ps sp)(hr:eB k X.A)(hb:nW X.K fd ps ds)(hd:cG dvs ds)(hx:wK CX X E)(I:Inv X pins σ H s)(r:cG vs us)(h:sp (vs++dvs) H Q E):wpAny (model X.prog X.w) X.A (call (.ref f) us) (EP X pins σ Q) X.xe s:=by
 have r2:cG (vs++dvs) (us++ds):=r.append hd;have hl:(us++ds).length=ps.length:=by rw[<- r2.length];exact F.len _ _ _ _ h
 refine wpAny_call (codeAny_mono (F.run X.A X.stack s H ⟨us,[]⟩ (us++ds) (vs++dvs) Q E hr I.env0 (hb s us I.kIn hl) r2 h) λr s' hq=>?_);cases r with
 |error e=>exact hx pins σ H s e s' I hq
 |ok fl =>
  cases fl with
  |ret u=>exact I.after hq
  |next=>exact False.elim hq
  |brk=>exact False.elim hq
  |cont=>exact False.elim hq
theorem aKq (F:lP X.prog X.w X.K X.mg X.base CX k f fd ps sp)(hr:eB k X.A)(hg:Gl X x)(hm:X.mg x=some (.ref f))(hk:keepIn X.K (.ref f)=true)(hb:nW X.K fd ps ds)(hd:cG dvs ds)(hx:wK CX X E)(ha:PA X (e::es) t)(hdb:(x==("__debug__":Str))=false:=by decide)(he:starEach (e::es) X.env=(false,eval e X.env)::starEach es X.env:=by rfl)(hpl:(backTo pos (starEach es X.env)).any (·.1)=false:=by rfl) :
  PE X (.Call (.Name x p) (e::es) [] pos) (aKN sp dvs E t):=by
 intro pins s σ H Q I h;refine wpAny_Call_Name_kw (iW I hg hm ?_ hdb);refine callWith_K (h₀:=X.base) I.ok.mod.kin hk (thn (ha pos pins s σ H _ I h) λus s1 ⟨vs,H1,I1,r,q⟩=>⟨I1.kIn,?_⟩) he hpl;exact aEE F hr hb hd hx I1 r q
theorem aIC (F:lP X.prog X.w X.K X.mg X.base CX k f fd ps sp)(hr:eB k X.A)(hg:Gl X x)(hm:X.mg x=some (.ref f))(hk:keepIn X.K (.ref f)=true)(hb:nW X.K fd ps ds)(hd:cG dvs ds)(hx:wK CX X E)(hdb:(x==("__debug__":Str))=false:=by decide):PE X (.Call (.Name x p) [] [] pos) (aKN sp dvs E aOz):=by intro pins s σ H Q I h;refine wpAny_Call_Name_kw (iW I hg hm ?_ hdb);exact PySem.W.callWith_K0 I.kIn hk (aEE (us:=[]) F hr hb hd hx I .nil h)
end
section
variable {X:Cx}{CX:CXT}{k:Nat}{f C:Addr}{fd:FuncData}{ps ks:List Str}{sp:Sp}{E:XK}{x m:Str}{p pos apos kpos:Pos}{e o:Expr}{es:List Expr}{kws:List Keyword}{te ta:TE}{t tk:TA}{nm:Option Str}
variable {g:List Value->List Value->List Value}{gV:List V->List V->List V}
end
structure aR (N P:List Str)(sc:Scope):Prop where
 kind:sc.kind=.function
 co:sc.isCoroutine=false
 gen:sc.isGenerator=false
 nd:N.Nodup
 pre:N.take P.length=P
 par:∀x∈P,sc.names.lookup x=some .local∨sc.names.lookup x=some .cell
 nofree:∀y∈sc.names,y.2 ≠ .free
theorem aBO {kindOf:Str->Option NameKind}{x:Str}:∀{binds:List (Str×Value)}{m:Str->Option Value},(∀v,(x,v)∉binds)->bindL kindOf binds m x=m x
 |[],_,_=>rfl
 |(n,v)::r,m,h=>by
  unfold bindL;rw[aBO λw hw=>h w (mem_cons_of_mem _ hw)];split
  ·have:x≠n:=by rintro rfl;exact h v mem_cons_self
   simp[this]
  ·rfl
theorem aBM {kindOf:Str->Option NameKind}{x:Str}:∀{binds:List (Str×Value)}{m:Str->Option Value},(∀v,(x,v)∉binds)->bindC kindOf binds m x=m x
 |[],_,_=>rfl
 |(n,v)::r,m,h=>by
  unfold bindC;rw[aBM λw hw=>h w (mem_cons_of_mem _ hw)];split
  ·rfl
  ·have:x≠n:=by rintro rfl;exact h v mem_cons_self
   simp[this]
theorem aBH {kindOf:Str->Option NameKind}{x:Str}{v:Value}:∀{P:List Str}{vs:List Value} {i:Nat} {m:Str->Option Value},P.Nodup->P[i]?=some x->vs[i]?=some v->kindOf x=some .local ->
  bindL kindOf (P.zip vs) m x=some v
 |[],_,_,_,_,h,_,_=>by simp at h
 |_::_,[],_,_,_,_,h,_=>by simp at h
 |p::P,w::vs,0,m,nd,h1,h2,hk=>by simp at h1 h2;subst h1;subst h2;show bindL kindOf ((p,w)::P.zip vs) m p=_;unfold bindL;rw[aBO λv hv=>(List.nodup_cons.mp nd).1 (List.of_mem_zip hv).1,if_pos hk];simp
 |p::P,w::vs,i+1,m,nd,h1,h2,hk=>by show bindL kindOf ((p,w)::P.zip vs) m x=_;unfold bindL;exact aBH (i:=i) (List.nodup_cons.mp nd).2 (by simpa using h1) (by simpa using h2) hk
theorem aB2 {kindOf:Str->Option NameKind}{x:Str}{v:Value}:∀{P:List Str}{vs:List Value} {i:Nat} {m:Str->Option Value},P.Nodup->P[i]?=some x->vs[i]?=some v->kindOf x≠some .local ->
  bindC kindOf (P.zip vs) m x=some v
 |[],_,_,_,_,h,_,_=>by simp at h
 |_::_,[],_,_,_,_,h,_=>by simp at h
 |p::P,w::vs,0,m,nd,h1,h2,hk=>by simp at h1 h2;subst h1;subst h2;show bindC kindOf ((p,w)::P.zip vs) m p=_;unfold bindC;rw[aBM λv hv=>(List.nodup_cons.mp nd).1 (List.of_mem_zip hv).1,if_neg hk];simp
 |p::P,w::vs,i+1,m,nd,h1,h2,hk=>by show bindC kindOf ((p,w)::P.zip vs) m x=_;unfold bindC;exact aB2 (i:=i) (List.nodup_cons.mp nd).2 (by simpa using h1) (by simpa using h2) hk
noncomputable def start (N:List Str)(vs:List V):St:=vs.map some++replicate (N.length-vs.length) none
noncomputable def kE (CX:CXT)(P:Program)(w:World)(K:Frag)(mg:Str->Option Value)(base:Heap)(N:List Str)(qual:Str)(scope:Scope)(f:Addr)(cd:Value)(A:Around)(outer:List Env)(s:Shared)(H:Hp)(E:XK):Cx where
 prog:=P
 w:=w
 K:=K
 mg:=mg
 base:=base
 A:=A.deeper (envOfC qual scope s.heap.objs.size f cd)
 N:=N
 s₀:=s
 H₀:=H
 env:=envOfC qual scope s.heap.objs.size f cd
 outer:=outer
 stack:=envOfC qual scope s.heap.objs.size f cd::outer
 ex:=[]
 calm:=true
 fn:=λ_=>true
 pn:=[]
 xe:=λe s'=>wpAny (model P w) (A.deeper (envOfC qual scope s.heap.objs.size f cd)) (leaving (envOfC qual scope s.heap.objs.size f cd) e) (λ_ s''=>CX outer H s E e s'') (λe' s''=>CX outer H s E e' s'') s'
theorem aDE {sc:Scope}{n:Nat}{x:Str}(h:sc.names.lookup x=some .cell):∃c,(cellsFrom n sc.names []).lookup x=some c:=by have q:=PySem.W.cellsFrom_some sc.names n [] (.inl h);exact Option.isSome_iff_exists.mp q
theorem aGs {CX:CXT}{P:Program}{w:World}{K:Frag}{mg:Str->Option Value}{base:Heap}{N ps:List Str}{qual:Str}{scope:Scope}{f:Addr}{cd:Value}{A:Around}{outer:List Env}{s s1:Shared}{H:Hp}{E:XK}{us:List Value}{vs:List V}(S:aR N ps scope)(hd:A.handled=none)(e0:aE2 P w K mg base A outer s H)(hl:vs.length=ps.length)(r:cG vs us)(x:InCallC s s.heap.objs.size (bindL (envOfC qual scope s.heap.objs.size f cd).kindOf (ps.zip us) λ_=>none) (cellsFrom (s.heap.objs.size+1) scope.names []) (bindC (envOfC qual scope s.heap.objs.size f cd).kindOf (ps.zip us) λ_=>none) s1) :
  Inv (kE CX P w K mg base N qual scope f cd A outer s H E) [] (start N vs) H s1:=by
 have hpl:ps.length<=N.length:=by have:=congrArg length S.pre;rw[length_take] at this;omega
 obtain⟨h1,tk,rfl,hk⟩:=x.done;have noA:∀b:Addr,b∉(kE CX P w K mg base N qual scope f cd A outer s H E).ex:=λb z=>absurd (show b∈([]:List Addr) from z) (by simp);refine⟨⟨e0.mod,S.kind,rfl,rfl,Nat.le_refl _,λy z c h1 h2=>?_,λy hy=>?_,λy c _ h=>?_,λ_=>hd,Around.frames_deeper e0.frames,.inr ⟨rfl,rfl⟩,λb z=>absurd z (noA b),e0.bs,e0.bsz,λb _ _=>noA b,λb z=>absurd z (noA b),e0.funs,e0.frf⟩,
  rfl,e0.bare,Un.kept hk,⟨_,x.toInCall.ns,λi y v h1 h2 h3=>?_⟩,λy c h=>⟨_,x.cell y c h⟩,e0.hok.fresh (Nat.le_refl _),λy c h=>?_,λp hp=>absurd (show p∈([]:List (Addr×Obj)) from hp) (by simp),e0.hok.kept hk,?_⟩
 ·exact name_of_addr x.apart (PySem.mem_of_lookup h1) (PySem.mem_of_lookup h2)
 ·have hy:scope.names.lookup y=some .cell∨scope.names.lookup y=some .free:=hy;rcases hy with hy|hy
  ·exact aDE hy
  ·exact absurd rfl (S.nofree _ (PySem.mem_of_lookup hy))
 ·exact Nat.le_of_lt (x.above y c (PySem.mem_of_lookup h))
 ·have hi:i<vs.length:=by
   unfold start at h2;by_cases hi:i<vs.length
   ·exact hi
   ·rw[getElem?_append_right (by simpa using hi)] at h2;rw[List.getElem?_replicate] at h2;split at h2<;>cases h2
  have ha:vs[i]?=some v:=by
   unfold start at h2;rw[getElem?_append_left (by simpa using hi),getElem?_map] at h2;cases e:vs[i]? with
   |none=>rw[e] at h2;cases h2
   |some a=>rw[e] at h2;cases h2;rfl
  obtain⟨u,hu,rv⟩:=r.get ha;have hp:ps[i]?=some y:=by rw[<- S.pre,List.getElem?_take_of_lt (by omega)];exact h1
  have ndP:ps.Nodup:=by rw[<- S.pre];exact S.nd.sublist (List.take_sublist _ _)
  refine⟨u,rv,?_⟩;rcases S.par y (mem_of_getElem? hp) with k|k
  ·exact .inl ⟨k,aBH ndP hp hu k⟩
  ·obtain⟨c,e⟩:=aDE (n:=s.heap.objs.size+1) k;refine .inr ⟨.inl k,c,e,?_⟩;have q:=x.cell y c e;rw[aB2 ndP hp hu (by show scope.names.lookup y≠_;rw[k];decide)] at q;exact q
 ·exact e0.hok.fresh (Nat.le_of_lt (x.above y c (PySem.mem_of_lookup h)))
 ·unfold start;show _=N.length;rw[length_append,length_map,length_replicate];omega
theorem aFd {CX:CXT}{P:Program}{w:World}{K:Frag}{mg:Str->Option Value}{base:Heap}{k:Nat}{f:Addr}{name qual:Str}{params:Arguments}{body:List Stmt}{scope:Scope}{dV kV doc pm cdv ct oc:Value}{an od:Option Addr}{osl:Array (Option Value)}{N ps:List Str}{sp:Sp}(lk:K.lookup f=some ⟨oc,od,.func (fnOf name qual params body scope dV kV doc pm an cdv ct),osl⟩)(hcd:codeIn K cdv qual=true)(S:aR N ps scope)(len:∀vs H Q E,sp vs H Q E->vs.length=ps.length)(hbody:∀(A:Around)(outer:List Env) (s:Shared) (H:Hp) (vs:List V) (Q:VK) (E:XK),eB k (A.deeper (envOfC qual scope s.heap.objs.size f cdv))->sp vs H Q E ->
   ∃t,PSs (kE CX P w K mg base N qual scope f cdv A outer s H E) body t/\t { nx:=λ_ H'=>Q .non H',rt:=Q } (start N vs) H) :
  lP P w K mg base CX (k+1) f (fnOf name qual params body scope dV kV doc pm an cdv ct) ps sp:=by
 refine⟨len,λA outer s H args us vs Q E hr e0 hb r hsp=>?_⟩;have hl:=len _ _ _ _ hsp;have KX:K.In s.heap:=e0.mod.kin.keeps λb o e=>(e0.bs b o e).1;have lim:s.heap.NoLimit:=e0.mod.nolimit.keeps λb o e=>(e0.bs b o e).1;have hkind:∀y∈ps.zip us,scope.names.lookup y.1=some .local∨(scope.names.lookup y.1=some .cell/\((cellsFrom (s.heap.objs.size+1) scope.names []).lookup y.1).isSome=true):=λ⟨n,v⟩ hy=>by
  rcases S.par n (List.of_mem_zip hy).1 with q|q
  ·exact .inl q
  ·exact .inr ⟨q,PySem.W.cellsFrom_some _ _ _ (.inl q)⟩
 refine codeAny_call_function hr.depth (KX _ _ lk) rfl S.co S.gen rfl (PySem.W.codeRec_of KX hcd) (hb _ _ _ _ ?_);refine wpAny_newFunctionEnv_cells S.kind hkind λenv he s1 x=>?_;subst he;refine⟨lim.keeps x.toInCall.keep,codeAny_func ?_⟩;obtain⟨t,ht,hq⟩:=hbody A outer s H vs Q E (hr.deeper _) hsp;have I:Inv (kE CX P w K mg base N qual scope f cdv A outer s H E) [] (start N vs) H s1:=aGs S hr.hd e0 hl r x;refine wpAny_mono (ht [] s1 (start N vs) H _ I hq) (λfl s' hs=>?_) λe s' hs=>hs;have fin:∀{σ':St}{H':Hp} {v:V} {u:Value},Inv (kE CX P w K mg base N qual scope f cdv A outer s H E) [] σ' H' s'->cT v u->Q v H'->CE outer P w H s Q u s' :=
  λ{σ' H' v u} J rv q=>⟨v,H',J.os,J.bare,J.base,J.hok,rv,q⟩
 cases fl with
 |ret u =>
  obtain⟨v,σ',H',J,rv,q⟩:=hs;exact fin J rv q
 |next =>
  obtain⟨σ',H',J,q⟩:=hs;exact fin (v:=V.non) (u:=Value.none) J rfl q
 |brk =>
  obtain⟨_,_,_,q⟩:=hs;exact False.elim q
 |cont =>
  obtain⟨_,_,_,q⟩:=hs;exact False.elim q
section
variable {X:Cx}{x:Str}{p pos:Pos}{e:Expr}{es:List Expr}{t:TA}{id T:String}{r:List V->Hp->VK->Prop}
def tCB (r:List V->Hp->VK->Prop)(t:TA):TE:=λσ H Q=>t σ H λvs H1=>r vs H1 Q
theorem uY (hc:mV X (.builtin id) r)(hg:Gl X x)(hm:X.mg x = none)(hv:bootBuiltins x = some (.builtin id))(ha:PA X (e :: es) t)(hn:x ≠ "__name__":=by decide)(hdb:(x==("__debug__":Str))=false:=by decide)(he:starEach (e::es) X.env=(false,eval e X.env)::starEach es X.env:=by rfl)(hpl:(backTo pos (starEach es X.env)).any (·.1)=false:=by rfl):PE X (.Call (.Name x p) (e::es) [] pos) (tCB r t):=by intro pins s σ H Q I h;refine wpAny_Call_Name_kw (xL I hg hm hv ?_ hn hdb);exact PyProof.Rows.callWith_builtin1 (thn (ha pos pins s σ H _ I h) λus s1 ⟨vs,H1,I1,r1,q1⟩=>hc pins s1 σ H1 vs us Q I1 r1 q1) he hpl
theorem aGB (hc:mV X (.type T) r)(hg:Gl X x)(hm:X.mg x = none)(hv:bootBuiltins x = some (.type T))(ha:PA X (e :: es) t)(hn:x ≠ "__name__":=by decide)(hdb:(x==("__debug__":Str))=false:=by decide)(he:starEach (e::es) X.env=(false,eval e X.env)::starEach es X.env:=by rfl)(hpl:(backTo pos (starEach es X.env)).any (·.1)=false:=by rfl):PE X (.Call (.Name x p) (e::es) [] pos) (tCB r t):=by intro pins s σ H Q I h;refine wpAny_Call_Name_kw (xL I hg hm hv ?_ hn hdb);exact PyProof.Rows.callWith_type1 (thn (ha pos pins s σ H _ I h) λus s1 ⟨vs,H1,I1,r1,q1⟩=>hc pins s1 σ H1 vs us Q I1 r1 q1) he hpl
end
end L2
namespace HT
open PySem PyProof.Rows
section
open PySem.SeqAt
open PySem.AutoSeq1 (wpAny_loadPart')
open PySem.MeetsSeq PySem.MeetsSeq2 PySem.MeetsSeq3
end
section
variable {prog:Program}{w:World}{A:Around}{E:Value->Shared->Prop}{s:Shared}
theorem cat_tup {t b:Addr}{vs ws:List Value}{Q:Value->Shared->Prop}(ht:IsTup s.heap t vs.toArray)(hb:IsTup s.heap b ws.toArray)(hv:vs≠[])(h1:ws = []->Q (.ref t) s)(h2:ws≠[]->Q (.ref s.heap.objs.size) { s with heap:=s.heap.push { cls:=.type "tuple",data:=.seq (vs++ws).toArray } })(hsz:vs.length+ws.length<=sizeLine):wpAny (model prog w) A (binaryOp .Add (.ref t) (.ref b)) Q E s:=by
 obtain⟨⟨cls,dd,data,sl⟩,ho,hc,n,hd⟩:=id ht;obtain⟨⟨cls2,dd2,data2,sl2⟩,ho2,hc2,n2,hd2⟩:=id hb;simp only at hc hd hc2 hd2;subst hc hd hc2 hd2;have e:vs.toArray++ws.toArray=(vs++ws).toArray:=by simp
 by_cases hw:ws=[]
 ·exact concat_meets ⟨_,ho,rfl⟩ ⟨_,ho2,rfl⟩ noFill_tuple_add seq_tuple_add PySem.F.slot_tuple_add PySem.F.entry_tuple_add (PySem.F.args_tuple_add_2 _ _)
   (tuple_addW1 t b vs.toArray ws.toArray n n2 dd dd2 sl sl2 (by simpa using hv) (by simp[hw])) ⟨ho,ho2,h1 hw⟩
 ·refine concat_meets ⟨_,ho,rfl⟩ ⟨_,ho2,rfl⟩ noFill_tuple_add seq_tuple_add PySem.F.slot_tuple_add PySem.F.entry_tuple_add (PySem.F.args_tuple_add_2 _ _)
   (tuple_addW2 t b vs.toArray ws.toArray n n2 dd dd2 sl sl2 (by simpa using hv) (by simpa using hw) (by rw[size_toArray,size_toArray];exact hsz)) ⟨ho,ho2,?_⟩
  rw[e];exact h2 hw
noncomputable def sIx (n d:Nat):Option Int->Nat
 |none=>d
 |some v=>if v<0 then (v+(n:Int)).toNat else min v.toNat n
theorem sIx_none (n d:Nat):sIx n d none=d:=rfl
theorem sIx_nat (n d k:Nat):sIx n d (some (k:Int))=min k n:=by show(if (k:Int)<0 then ((k:Int)+(n:Int)).toNat else min (k:Int).toNat n)=min k n;rw[if_neg (by omega),Int.toNat_natCast]
theorem aMH (n d:Nat)(hd:d<=n)(o:Option Int):sIx n d o<=n:=by
 cases o with
 |none=>exact hd
 |some v =>
  show(if v<0 then (v+(n:Int)).toNat else min v.toNat n)<=n;by_cases hv:v<0
  ·rw[if_pos hv];omega
  ·rw[if_neg hv];exact Nat.min_le_right _ _
theorem aFA (v:Int)(n d:Nat):(if v<0 then max (v+(n:Int)) 0 else min v (n:Int))=((sIx n d (some v):Nat):Int):=by
 show(if v<0 then max (v+(n:Int)) 0 else min v (n:Int))=(((if v<0 then (v+(n:Int)).toNat else min v.toNat n):Nat):Int);by_cases hv:v<0
 ·simp only[if_pos hv];omega
 ·simp only[if_neg hv];omega
theorem aEB (lo hi:Option Int)(n:Nat):Builtin.Slice.sliceAdjust lo hi 1 (n:Int)=(((sIx n 0 lo:Nat):Int),((sIx n n hi:Nat):Int)):=by
 have h1:¬((1:Int)<0):=by omega
 unfold Builtin.Slice.sliceAdjust;simp only[h1,if_false];refine Prod.ext ?_ ?_
 ·cases lo with
  |none=>rfl
  |some v=>exact aFA v n 0
 ·cases hi with
  |none=>rfl
  |some v=>exact aFA v n n
theorem aEo (i j:Nat):Builtin.Slice.slicePlaces (i:Int) (j:Int) 1=j-i:=by
 unfold Builtin.Slice.slicePlaces;have h1:(1:Int) > 0:=by omega
 simp only[h1,if_true,Int.ediv_one];split<;>omega
theorem aAB {v:Value}{o:Option Int}{Q:Option Int->Shared->Prop}(p:IsPart v o)(h:Q o s):wpAny (model prog w) A (Builtin.Slice.slicePartIndex v) Q E s:=by
 cases p with
 |none=>exact slicePart_none h
 |int i t=>exact slicePart_int h
theorem oE {sl:Addr}{vl vu:Value}{lo hi:Option Int}{n:Nat}{Q:Int×Int×Nat->Shared->Prop}(hs:s.heap.IsSliceOf sl vl vu .none)(pl:IsPart vl lo)(pu:IsPart vu hi)(h:Q (((sIx n 0 lo:Nat):Int),1,sIx n n hi-sIx n 0 lo) s):wpAny (model prog w) A (Builtin.Slice.sliceApplied (.ref sl) (pure (n:Int))) Q E s:=by obtain⟨os,hos,hcs,hds⟩:=id hs;unfold Builtin.Slice.sliceApplied Builtin.Slice.sliceFields;refine wpAny_bind (wpAny_bind (wpAny_field hos hds (x:=vl) rfl (wpAny_bind (wpAny_field hos hds (x:=vu) rfl (wpAny_bind (wpAny_field hos hds (x:=.none) rfl (wpAny_pure ?_)))))));refine wpAny_bind (slicePart_none ?_);show wpAny _ _ (if ((1:Int)==0)=true then _ else _) _ _ s;rw[if_neg (by decide)];refine wpAny_bind (aAB pl (wpAny_bind (aAB pu (wpAny_bind (wpAny_pure ?_)))));show wpAny _ _ (match Builtin.Slice.sliceAdjust lo hi 1 (n:Int) with|(lo,hi)=>pure (lo,(1:Int),Builtin.Slice.slicePlaces lo hi 1)) _ _ s;rw[aEB lo hi n];show wpAny _ _ (pure (((sIx n 0 lo:Nat):Int),(1:Int),Builtin.Slice.slicePlaces ((sIx n 0 lo:Nat):Int) ((sIx n n hi:Nat):Int) 1)) _ _ s;rw[aEo];exact wpAny_pure h
theorem aIb (xs:Array Value)(i k:Nat):((range k).filterMap λ(m:Nat)=>xs[((i:Int)+(m:Int)*1).toNat]?).toArray=((xs.toList.drop i).take k).toArray:=by
 have e:(λ(m:Nat)=>xs[((i:Int)+(m:Int)*1).toNat]?)=λm=>xs[i+m]?:=by
  funext m;have:((i:Int)+(m:Int)*1).toNat=i+m:=by omega
  rw[this]
 rw[e];have:=pick_run xs i k;rw[List.filterMap_map] at this;have e2:((λx=>xs[x]?) ∘ λx=>i+x)=λm=>xs[i+m]?:=rfl;rw[e2] at this;rw[this]
theorem getItem_tuple_cut {t sl:Addr}{items:Array Value}{vl vu:Value}{lo hi:Option Int}{Q:Value->Shared->Prop}(ht:IsTup s.heap t items)(hs:s.heap.IsSliceOf sl vl vu .none)(pl:IsPart vl lo)(pu:IsPart vu hi)(hw:¬(sIx items.size 0 lo=0/\sIx items.size items.size hi=items.size))(h:Q (.ref s.heap.objs.size) { s with heap:=s.heap.push { cls:=.type "tuple",data:=.seq ((items.toList.drop (sIx items.size 0 lo)).take (sIx items.size items.size hi-sIx items.size 0 lo)).toArray } })(hsz:items.size<=sizeLine):wpAny (model prog w) A (getItem (.ref t) (.ref sl)) Q E s:=by
 have htake:sizeOk (.seq ((items.toList.drop (sIx items.size 0 lo)).take (sIx items.size items.size hi-sIx items.size 0 lo)).toArray):=by show((items.toList.drop (sIx items.size 0 lo)).take (sIx items.size items.size hi-sIx items.size 0 lo)).toArray.size<=sizeLine;rw[size_toArray,length_take,length_drop,Array.length_toList];omega
 have hj:sIx items.size items.size hi<=items.size:=aMH _ _ (Nat.le_refl _) hi;obtain⟨os,hos,hcs,hds⟩:=id hs;have hTs:s.TypeIs (.ref sl) "slice":=⟨os,hos,hcs⟩;unfold getItem;try with_reducible refine wpAny_holding ?_
 first|refine wpAny_bind (wpAny_pure ?_)|skip
 refine wpAny_bind (wpAny_sequenceKey ht.typeIs (by decide) ?_);refine wpAny_bind (wpAny_callSpecial?_slot (name:=Str.ofString "__getitem__") ht.typeIs PyProof.Rows.slot_tuple_getitem
  (wpAny_call_entry PyProof.Rows.slot_tuple_getitem ht.typeIs entry_tuple_getitem ?_ (args_tuple_getitem _ _)))
 show wpAny _ _ (Builtin.Tuple.tupleItemsOf (.ref t) >>= _) _ _ s;refine wpAny_bind (tupleItemsOf_ ht ?_);refine wpAny_bind (wpAny_typeOf hTs ?_);rw[if_pos (by decide)];refine wpAny_bind (oE hs pl pu ?_);have hno:¬((((sIx items.size 0 lo:Nat):Int)==0&&(1:Int)==1&&(sIx items.size items.size hi-sIx items.size 0 lo)==items.size)=true):=by intro q;rw[Bool.and_eq_true,Bool.and_eq_true] at q;have q1:((sIx items.size 0 lo:Nat):Int)=0:=eq_of_beq q.1.1;have q2:sIx items.size items.size hi-sIx items.size 0 lo=items.size:=eq_of_beq q.2;exact hw ⟨by omega,by omega⟩
 show wpAny _ _ (if (((sIx items.size 0 lo:Nat):Int)==0&&(1:Int)==1&&(sIx items.size items.size hi-sIx items.size 0 lo)==items.size)=true then _ else _) _ _ s;rw[if_neg hno,aIb];first
  |exact wpAny_bind (m:=Builtin.Tuple.tupleExact _) (wpAny_newObj_type (wpAny_pure ⟨_,rfl,wpAny_pure h⟩) htake)
  |exact wpAny_bind (m:=Builtin.Tuple.tupleExact _) (wpAny_newObj_type (wpAny_bind (wpAny_pure (wpAny_pure ⟨_,rfl,wpAny_pure h⟩))) htake)
  |exact wpAny_bind (wpAny_bind (m:=Builtin.Tuple.tupleExact _) (wpAny_newObj_type (wpAny_pure (wpAny_pure ⟨_,rfl,wpAny_pure h⟩)) htake))
  |exact wpAny_bind (wpAny_bind (m:=Builtin.Tuple.tupleExact _) (wpAny_newObj_type (wpAny_pure ⟨_,rfl,wpAny_pure h⟩) htake))
end
end HT
namespace L2
open PySem PySem.Spec PyProof.Rows
abbrev TO:=St->Hp->(Option Int->Hp->Prop)->Prop
def PO (X:Cx)(e:Option Expr)(t:TO):Prop :=
 ∀(pins:List (Addr×Obj)) (s:Shared) (σ:St) (H:Hp) (Q:Option Int->Hp->Prop),Inv X pins σ H s->t σ H Q ->
  wpAny (model X.prog X.w) X.A (evalPart e X.env) (λu s'=>∃o H',Inv X pins σ H' s'/\IsPart u o/\Q o H') X.xe s
def aJ3:TO:=λ_ H Q=>Q none H
def aOj (t:TE):TO:=λσ H Q=>t σ H λx H1=>∃i,x=.int i/\Q (some i) H1
section
variable {X:Cx}{e:Expr}{te:TE}{lo hi:Option Expr}{tl th:TO}{pos p2:Pos}
theorem aKj:PO X none aJ3:=by intro pins s σ H Q I h;rw[evalPart_none];exact wpAny_pure ⟨none,H,I,.none,h⟩
theorem aKo (h:PE X e te):PO X (some e) (aOj te):=by intro pins s σ H Q I hw;rw[evalPart_some];refine thn (h pins s σ H _ I hw) λu s1 ⟨x,H1,I1,r1,q1⟩=>?_;obtain⟨i,rfl,q⟩:=q1;obtain⟨t,rfl⟩:=r1;exact⟨some i,H1,I1,.int i t,q⟩
def SlR (X:Cx)(r:V->Option Int->Option Int->Hp->VK->Prop):Prop :=
 ∀(pins:List (Addr×Obj)) (s:Shared) (σ:St) (H:Hp) (x:V) (v vl vu:Value) (lo hi:Option Int) (sl:Addr) (Q:VK),Inv X pins σ H s->cT x v->s.heap.IsSliceOf sl vl vu .none->IsPart vl lo->IsPart vu hi->r x lo hi H Q ->
  ∃T id,typeLookup (.type T) "__getitem__"=pure (some (.builtin id))/\s.TypeIs v T/\wpAny (model X.prog X.w) X.A (getItem v (.ref sl)) (EP X pins σ Q) X.xe s
theorem SlR.or {r r':V->Option Int->Option Int->Hp->VK->Prop}(h:SlR X r)(h':SlR X r'):SlR X (λx lo hi H Q=>r x lo hi H Q∨r' x lo hi H Q):=by
 intro pins s σ H x v vl vu lo hi sl Q I rx hs pl pu q;rcases q with q|q
 ·exact h pins s σ H x v vl vu lo hi sl Q I rx hs pl pu q
 ·exact h' pins s σ H x v vl vu lo hi sl Q I rx hs pl pu q
def tSl (r:V->Option Int->Option Int->Hp->VK->Prop)(te:TE)(tl th:TO):TE:=λσ H Q=>te σ H λx H1=>tl σ H1 λl H2=>th σ H2 λu H3=>r x l u H3 Q
theorem aAe {r:V->Option Int->Option Int->Hp->VK->Prop}(hr:SlR X r)(he:PE X e te)(hl:PO X lo tl)(hu:PO X hi th):PE X (.Subscript e (.Slice lo hi none p2) pos) (tSl r te tl th):=by intro pins s σ H Q I h;refine Subscript_ (thn (he pins s σ H _ I h) λv s1 ⟨x,H1,I1,r1,q1⟩=>?_);refine wpAny_Slice (thn (hl pins s1 σ H1 _ I1 q1) λvl s2 ⟨l,H2,I2,pl,q2⟩=>thn (hu pins s2 σ H2 _ I2 q2) λvu s3 ⟨u,H3,I3,pu,q3⟩=>?_);rw[evalPart_none];refine wpAny_pure ?_;have I4:Inv X pins σ H3 { s3 with heap:=s3.heap.push { cls:=.type "slice",data:=.fields #[vl,vu,.none] } }:=I3.kept (t':=s3.toks) λb ob q=>Heap.get?_push_of_some _ q;obtain⟨T,id,hT,ht,hg⟩:=hr pins { s3 with heap:=s3.heap.push { cls:=.type "slice",data:=.fields #[vl,vu,.none] } } σ H3 x v vl vu l u s3.heap.objs.size Q I4 r1 (Heap.IsSliceOf.new ..) pl pu q3;show wpAny (model X.prog X.w) X.A (subscriptTail e (.Slice lo hi none p2) v (.ref s3.heap.objs.size)) (EP X pins σ Q) X.xe { s3 with heap:=s3.heap.push { cls:=.type "slice",data:=.fields #[vl,vu,.none] } };exact tail_any (ops:=[.ref s3.heap.objs.size,v]) ht hT hg (by with_unfolding_all rfl)
noncomputable def aDY (xs:List V)(lo hi:Option Int):List V:=(xs.drop (HT.sIx xs.length 0 lo)).take (HT.sIx xs.length xs.length hi-HT.sIx xs.length 0 lo)
theorem yJ (xs:List V)(lo hi:Option Int):(aDY xs lo hi).length<=xs.length:=by unfold aDY;rw[length_take,length_drop];omega
def aQr (K:Frag):V->Option Int->Option Int->Hp->VK->Prop:=λx lo hi H Q=>∃a xs,x=.ref a/\SqT K H a xs /\
 ¬(HT.sIx xs.length 0 lo=0/\HT.sIx xs.length xs.length hi=xs.length)/\∀p,H p=none->Q (.ref p) (upd H p (.tup (aDY xs lo hi)))
theorem aIw:SlR X (aQr X.K):=by
 intro pins s σ H x v vl vu lo hi sl Q I rx hs pl pu h;obtain⟨a,xs,rfl,hx,hw,q⟩:=h;cases rx;obtain⟨its,r,ht,hz⟩:=I.tuple hx;have hlen:its.toArray.size=xs.length:=by rw[size_toArray];exact r.length.symm
 refine⟨"tuple",_,PyProof.Rows.slot_tuple_getitem.lookup,ht.typeIs,?_⟩;refine HT.getItem_tuple_cut ht hs pl pu (by rw[hlen];exact hw) ?_ (by rw[hlen];exact hz);rw[hlen];refine⟨.ref s.heap.objs.size,_,I.laid (t':=s.toks) (o:=.tup (aDY xs lo hi)) (λb ob q=>Heap.get?_push_of_some _ q) (Nat.le_refl _) ?_,rfl,q _ (I.hok.fresh (Nat.le_refl _))⟩;exact⟨Nat.le_trans (yJ xs lo hi) hz,_,(r.drop (HT.sIx xs.length 0 lo)).take (HT.sIx xs.length xs.length hi-HT.sIx xs.length 0 lo),IsTup.new _ _⟩
def aOB (K:Frag):R2:=λx y H Q=>∃a b xs ys,x=.ref a/\y=.ref b/\SqT K H a xs/\SqT K H b ys/\xs≠[]/\xs.length+ys.length<=sizeLine /\
 (ys=[]->Q (.ref a) H)/\(ys≠[]->∀p,H p=none->Q (.ref p) (upd H p (.tup (xs++ys))))
theorem cG.nil_iff {xs:List V}{us:List Value}(r:cG xs us):us=[]↔xs=[]:=by
 cases r with
 |nil=>simp
 |cons _ _=>simp
theorem aFD:OpR X (binaryOp .Add) (aOB X.K):=by intro pins s σ H x y v u Q I rx ry h;obtain⟨a,b,xs,ys,rfl,rfl,ha,hb,hx,hz,q1,q2⟩:=h;cases rx;cases ry;obtain⟨its,r1,p1,_⟩:=I.tuple ha;obtain⟨its2,r2,p2,_⟩:=I.tuple hb;refine HT.cat_tup p1 p2 (λz=>hx (r1.nil_iff.mp z)) (λz=>⟨.ref a,H,I,rfl,q1 (r2.nil_iff.mp z)⟩) (λz=>?_) (by rw[<- r1.length,<- r2.length];exact hz);refine⟨.ref s.heap.objs.size,_,I.laid (t':=s.toks) (o:=.tup (xs++ys)) (λb ob q=>Heap.get?_push_of_some _ q) (Nat.le_refl _) ?_,rfl,q2 (λw=>z (r2.nil_iff.mpr w)) _ (I.hok.fresh (Nat.le_refl _))⟩;exact⟨by rw[length_append];exact hz,_,r1.append r2,IsTup.new _ _⟩
end
noncomputable def ixN (n:Nat)(i:Int):Option Nat:=if 0<=i then (if i<n then some i.toNat else none) else if -(n:Int)<=i then some (i+n).toNat else none
noncomputable def atI {α:Type}(xs:List α)(i:Int):Option α:=(ixN xs.length i).bind λj=>xs[j]?
theorem aJ8 {n:Nat}{i:Int}{j:Nat}(h:ixN n i=some j):seqIndex? i n=some j/\j<n/\-(n:Int)<=i/\i<n:=by
 unfold ixN at h;by_cases h0:0<=i
 ·rw[if_pos h0] at h;by_cases h1:i<n
  ·rw[if_pos h1] at h;have e:i.toNat=j:=Option.some.inj h;exact⟨by rw[seqIndex_of h0 h1,e],by omega,by omega,h1⟩
  ·rw[if_neg h1] at h;cases h
 ·rw[if_neg h0] at h;by_cases h1:-(n:Int)<=i
  ·rw[if_pos h1] at h;have e:(i+n).toNat=j:=Option.some.inj h;exact⟨by rw[seqIndex_neg (by omega) h1,e],by omega,h1,by omega⟩
  ·rw[if_neg h1] at h;cases h
theorem aFy {α:Type}{xs:List α}{i:Int}{v:α}(h:atI xs i=some v):∃j,seqIndex? i xs.length=some j/\xs[j]?=some v/\j<xs.length/\-(xs.length:Int)<=i/\i<xs.length:=by
 unfold atI at h;cases e:ixN xs.length i with
 |none=>rw[e] at h;cases h
 |some j =>
  rw[e] at h;obtain⟨h1,h2,h3,h4⟩:=aJ8 e;exact⟨j,h1,h,h2,h3,h4⟩
theorem sF {α:Type}{xs:List α}{j:Nat}{v:α}(h:xs[j]?=some v):atI xs (j:Int)=some v:=by
 have hj:j<xs.length:=(List.getElem?_eq_some_iff.mp h).1;have e:ixN xs.length (j:Int)=some j:=by unfold ixN;rw[if_pos (by omega),if_pos (by omega)];simp
 unfold atI;rw[e];exact h
def uZ (b:Expr):Prop:=∀o i,subscripted b false o i=operate [o,i] (getItem o i)
def IxR (X:Cx)(r:R2):Prop :=
 ∀(value slice:Expr)(pins:List (Addr×Obj)) (s:Shared) (σ:St) (H:Hp) (x y:V) (v u:Value) (Q:VK),Inv X pins σ H s->cT x v->cT y u->r x y H Q ->
  subscripted slice false v u=operate [v,u] (getItem v u)->wpAny (model X.prog X.w) X.A (subscriptTail value slice v u) (EP X pins σ Q) X.xe s
def MtR (X:Cx)(id:String)(r:V->List V->Hp->VK->Prop):Prop :=
 ∀(pins:List (Addr×Obj)) (s:Shared) (σ:St) (H:Hp) (x:V) (xs:List V) (v:Value) (us:List Value) (Q:VK),Inv X pins σ H s->cT x v->cG xs us->r x xs H Q ->
  wpAny (model X.prog X.w) X.A (call (.builtin id) (v::us)) (EP X pins σ Q) X.xe s
section
variable {X:Cx}{a b:Expr}{ta tb:TE}{pos:Pos}
theorem aOW {r:R2}(hr:IxR X r)(ha:PE X a ta)(hb:PE X b tb)(hs:uZ b):PE X (.Subscript a b pos) (tOp r ta tb):=by intro pins s σ H Q I h;exact Subscript_ (aNR ha hb I h λv u s2 x y H2 I2 rx ry q=>hr a b pins s2 σ H2 x y v u Q I2 rx ry q (hs _ _))
def aQw (K:Frag):R2:=λx y H Q=>∃p xs i v,x=.ref p/\y=.int i/\SqL K H p xs/\atI xs i=some v/\Q v H
def aQo (K:Frag):R2:=λx y H Q=>∃p xs i v,x=.ref p/\y=.int i/\SqT K H p xs/\atI xs i=some v/\Q v H
theorem aFb:IxR X (aQw X.K):=by
 intro value slice pins s σ H x y v u Q I rx ry h hs;obtain⟨p,xs,i,z,rfl,rfl,hq,he,q⟩:=h;cases rx;obtain⟨t,rfl⟩:=ry;obtain⟨its,r,pl,hz⟩:=I.list hq;obtain⟨j,h1,h2,h3,h4,h5⟩:=aFy he;obtain⟨w,ew,rw'⟩:=r.get h2;have hl:=r.length;have hn:=aE0;have fin:EP X pins σ Q w s:=⟨z,H,I,rw',q⟩;by_cases h0:0<=i
 ·have hj:i.toNat=j:=by rw[seqIndex_of h0 h5] at h1;exact Option.some.inj h1
  exact item_listR pl.isList h0 (by omega) (by rw[hj];simpa using ew) fin hs
 ·have hj:(i+(its.toArray.size:Int)).toNat=j:=by rw[seqIndex_neg (by omega) h4] at h1;rw[size_toArray,<- hl];exact Option.some.inj h1
  exact subscriptTail_builtinR (x:=w) pl.isList.typeIs slot_list_getitem.lookup
   (wpAny_getItem_list_neg (Q:=λr s'=>r=w/\EP X pins σ Q r s') pl.isList (by omega) (by rw[size_toArray]<;>omega) (by omega) (by rw[hj];simpa using ew) ⟨rfl,fin⟩) hs
theorem aL8:IxR X (aQo X.K):=by
 intro value slice pins s σ H x y v u Q I rx ry h hs;obtain⟨p,xs,i,z,rfl,rfl,hq,he,q⟩:=h;cases rx;obtain⟨t,rfl⟩:=ry;obtain⟨its,r,pl,hz⟩:=I.tuple hq;obtain⟨j,h1,h2,h3,h4,h5⟩:=aFy he;obtain⟨w,ew,rw'⟩:=r.get h2;have hl:=r.length;have hn:=aE0;have fin:EP X pins σ Q w s:=⟨z,H,I,rw',q⟩;exact subscriptTail_builtinR (x:=w) pl.typeIs slot_tuple_getitem.lookup
  (getItem_tuple (j:=j) (Q:=λr s'=>r=w/\EP X pins σ Q r s') pl (by omega) (by omega) (by rw[size_toArray,<- hl];exact h1) (by simpa using ew) ⟨rfl,fin⟩) hs
theorem aB8 (lo hi:Option Int)(n:Nat):(sliceBounds lo hi none n).1=((HT.sIx n 0 lo:Nat):Int)/\(sliceBounds lo hi none n).2.1=((HT.sIx n n hi:Nat):Int)/\(sliceBounds lo hi none n).2.2=1:=by
 refine⟨?_,?_,rfl⟩
 ·cases lo with
  |none=>simp[sliceBounds,HT.sIx]
  |some i =>
   simp only[sliceBounds,HT.sIx,Option.getD_none,show(1:Int) > 0 by decide,if_true];by_cases h:i<0
   ·simp only[h,if_true]<;>omega
   ·simp only[h,if_false]<;>omega
 ·cases hi with
  |none=>simp[sliceBounds,HT.sIx]
  |some i =>
   simp only[sliceBounds,HT.sIx,Option.getD_none,show(1:Int) > 0 by decide,if_true];by_cases h:i<0
   ·simp only[h,if_true]<;>omega
   ·simp only[h,if_false]<;>omega
theorem aBB (its:List Value)(lo hi:Option Int):slicePick its.toArray lo hi none=((its.drop (HT.sIx its.length 0 lo)).take (HT.sIx its.length its.length hi-HT.sIx its.length 0 lo)).toArray:=by obtain⟨h1,h2,h3⟩:=aB8 lo hi its.toArray.size;unfold slicePick;rw[h1,h2,h3];simp only[sliceRange_one,pick_run,size_toArray]<;>rfl
def aQt (K:Frag):V->Option Int->Option Int->Hp->VK->Prop:=λx lo hi H Q=>∃a xs,x=.ref a/\SqL K H a xs/\∀p,H p=none->Q (.ref p) (upd H p (.lst (aDY xs lo hi)))
theorem aJS:SlR X (aQt X.K):=by intro pins s σ H x v vl vu lo hi sl Q I rx hs pl pu h;obtain⟨a,xs,rfl,hx,q⟩:=h;cases rx;obtain⟨its,r,ht,hz⟩:=I.list hx;have hlen:=r.length;refine⟨"list",_,slot_list_getitem.lookup,ht.isList.typeIs,?_⟩;refine wpAny_getItem_list_slice ht.isList hs pl pu .none (by simp) ?_ (by rw[size_toArray]<;>omega);rw[aBB,<- hlen];refine⟨.ref s.heap.objs.size,_,I.laid (t':=s.toks) (o:=.lst (aDY xs lo hi)) (λb ob q=>Heap.get?_push_of_some _ q) (Nat.le_refl _) ?_,rfl,q _ (I.hok.fresh (Nat.le_refl _))⟩;exact⟨Nat.le_trans (yJ xs lo hi) hz,_,0,(r.drop (HT.sIx xs.length 0 lo)).take (HT.sIx xs.length xs.length hi-HT.sIx xs.length 0 lo),Heap.get?_push_size _ rfl⟩
noncomputable def aIa:V->Bool
 |.non=>true
 |.bl _=>true
 |.int _=>true
 |.str _=>true
 |_=>false
noncomputable def eqV:V->V->Bool
 |.non,.non=>true
 |.bl a,.bl b=>a==b
 |.bl a,.int b=>(if a then 1 else 0)==b
 |.int a,.bl b=>a==(if b then 1 else 0)
 |.int a,.int b=>a==b
 |.str a,.str b=>a==b
 |_,_=>false
theorem aHM {A:Around}{s:Shared}{y x:V}{u v:Value}(ry:cT y u)(rx:cT x v)(fy:aIa y=true)(fx:aIa x=true):SeqAt.EqAt A s u v (eqV y x):=by
 cases y with
 |non =>
  cases ry;cases x with
  |non=>cases rx;exact SeqAt.EqAt.same _
  |bl b=>cases rx;exact SeqAt.EqAt.none_bool b
  |int b=>obtain⟨t,rfl⟩:=rx;exact SeqAt.EqAt.none_int b t
  |str b=>obtain⟨t,rfl⟩:=rx;exact SeqAt.EqAt.none_str b t
  |_=>exact absurd (show false=true from fx) Bool.false_ne_true
 |bl a =>
  cases ry;cases x with
  |non=>cases rx;exact SeqAt.EqAt.bool_none a
  |bl b=>cases rx;exact SeqAt.EqAt.bool_bool a b
  |int b=>obtain⟨t,rfl⟩:=rx;exact SeqAt.EqAt.bool_int a b t
  |str b=>obtain⟨t,rfl⟩:=rx;exact SeqAt.EqAt.bool_str a b t
  |_=>exact absurd (show false=true from fx) Bool.false_ne_true
 |int a =>
  obtain⟨t',rfl⟩:=ry;cases x with
  |non=>cases rx;exact SeqAt.EqAt.int_none a t'
  |bl b=>cases rx;exact SeqAt.EqAt.int_bool a t' b
  |int b=>obtain⟨t,rfl⟩:=rx;exact SeqAt.EqAt.int_int a t' b t
  |str b=>obtain⟨t,rfl⟩:=rx;exact SeqAt.EqAt.int_str a t' b t
  |_=>exact absurd (show false=true from fx) Bool.false_ne_true
 |str a =>
  obtain⟨t',rfl⟩:=ry;cases x with
  |non=>cases rx;exact SeqAt.EqAt.str_none a t'
  |bl b=>cases rx;exact SeqAt.EqAt.str_bool a t' b
  |int b=>obtain⟨t,rfl⟩:=rx;exact SeqAt.EqAt.str_int a t' b t
  |str b=>obtain⟨t,rfl⟩:=rx;exact SeqAt.EqAt.str_str a t' b t
  |_=>exact absurd (show false=true from fx) Bool.false_ne_true
 |_=>exact absurd (show false=true from fy) Bool.false_ne_true
theorem aCO:mV X (.builtin "len") (λxs H Q=>∃p ys,xs=[.ref p]/\(SqL X.K H p ys∨SqT X.K H p ys)/\Q (.int ys.length) H):=by
 intro pins s σ H xs us Q I r h;obtain⟨p,ys,rfl,hq,q⟩:=h;obtain⟨u,rfl,rx⟩:=yA r;cases rx;have hn:=aE0;rcases hq with hq|hq
 ·obtain⟨its,r',pl,hz⟩:=I.list hq;have hlen:=r'.length;exact Calls.call_len_list pl.isList (by simp only[size_toArray]<;>omega) ⟨.int ys.length,H,I.tok _,⟨s.toks+1,by rw[size_toArray,hlen]⟩,q⟩
 ·obtain⟨its,r',pl,hz⟩:=I.tuple hq;have hlen:=r'.length;exact len_tuple pl (by simp only[size_toArray]<;>omega) ⟨.int ys.length,H,I.tok _,⟨s.toks+1,by rw[size_toArray,hlen]⟩,q⟩
theorem aBm:mV X (.type "tuple") (λxs H Q=>∃p ys,xs=[.ref p]/\((SqL X.K H p ys/\∀l,H l=none->Q (.ref l) (upd H l (.tup ys)))∨(SqT X.K H p ys/\Q (.ref p) H))):=by
 intro pins s σ H xs us Q I r h;obtain⟨p,ys,rfl,h⟩:=h;obtain⟨u,rfl,rx⟩:=yA r;cases rx;rcases h with⟨hq,q⟩|⟨hq,q⟩
 ·obtain⟨its,r',pl,hz⟩:=I.list hq;have hlen:=r'.length;refine call_tuple_list pl.isList (λh' kp=>?_) (by simp only[size_toArray]<;>omega);have I1:Inv X pins σ H { s with heap:=h' }:=I.kept (t':=s.toks) kp;have I2:Inv X pins σ (upd H h'.objs.size (.tup ys)) { s with heap:=h'.push { cls:=.type "tuple",data:=.seq its.toArray } } :=
   I1.laid (t':=s.toks) (λb o e=>Heap.get?_push_of_some _ e) (Nat.le_refl _) (show gJ X.prog X.w _ _ _ (.tup ys) from⟨hz,its,r',IsTup.new _ _⟩)
  exact⟨.ref h'.objs.size,_,I2,rfl,q _ (I1.hok.fresh (Nat.le_refl _))⟩
 ·obtain⟨its,r',pl,hz⟩:=I.tuple hq;exact call_tuple_same pl ⟨.ref p,H,I,rfl,q⟩
def tyV (K:Frag)(T:String)(x:V)(H:Hp):Prop:=match x with
 |.str _=>T = "str"
 |.int _=>T = "int"
 |.ref p=>(T = "list"/\∃xs,SqL K H p xs)∨(T = "tuple"/\∃o,K.lookup p = some o/\o.cls = .type "tuple"/\o.dict=none) ∨
   (T = "dict"/\((∃kvs,H p = some (.dK kvs)) ∨ ∃kvs,H p = some (.dT kvs)))∨(T = "set"/\∃S n,H p=some (.set S n))
 |_=>False
theorem aG7 {pins:List (Addr×Obj)}{σ:St}{H:Hp}{s:Shared}{T:String}{x:V}{v:Value}(I:Inv X pins σ H s)(r:cT x v)(ty:tyV X.K T x H) :
  s.TypeIs v T/\∀a,v=.ref a->∃ob,s.heap.get? a=some ob/\ob.dict=none:=by
 cases x with
 |str z =>
  obtain⟨t,rfl⟩:=r;cases (show T = "str" from ty);exact⟨typeIs_str s z t,λ_ e=>nomatch e⟩
 |int i =>
  obtain⟨t,rfl⟩:=r;cases (show T = "int" from ty);exact⟨typeIs_int s i t,λ_ e=>nomatch e⟩
 |ref p =>
  cases r;rcases ty with⟨rfl,xs,hq⟩|⟨rfl,o,hk,hc,hd⟩|⟨rfl,hk⟩|⟨rfl,S,n,hk⟩
  ·obtain⟨its,_,pl,_⟩:=I.list hq;refine⟨pl.isList.typeIs,λa e=>?_⟩;cases e;obtain⟨o,n,e,c,hd,_⟩:=pl;exact⟨o,e,hd⟩
  ·refine⟨⟨o,I.kIn p o hk,hc⟩,λa e=>?_⟩;cases e;exact⟨o,I.kIn _ o hk,hd⟩
  ·have z:∃o,s.heap.get? p=some o/\o.ExactDict:=by
    rcases hk with⟨kvs,hk⟩|⟨kvs,hk⟩
    ·obtain⟨_,_,_,_,o,_,_,e,ex,_⟩:=I.hok p _ hk;exact⟨o,e,ex⟩
    ·obtain⟨_,_,_,_,o,_,_,e,ex,_⟩:=I.hok p _ hk;exact⟨o,e,ex⟩
   obtain⟨o,e,ex⟩:=z;refine⟨⟨o,e,ex.1⟩,λa e2=>?_⟩;cases e2;exact⟨o,e,ex.2.1⟩
  ·obtain⟨o,_,_,_,e,ex,_⟩:=I.hok p _ hk;refine⟨⟨o,e,ex.1⟩,λa e2=>?_⟩;cases e2;exact⟨o,e,ex.2.1⟩
 |_=>exact False.elim ty
def aQG (K:Frag)(T:String)(r:V->List V->Hp->VK->Prop)(to:TE):TE:=λσ H Q=>to σ H λx H1=>tyV K T x H1/\r x [] H1 Q
def tBM (K:Frag)(T:String)(r:V->List V->Hp->VK->Prop)(to:TE)(t:TA):TE:=λσ H Q=>to σ H λx H1=>tyV K T x H1/\t σ H1 λxs H2=>r x xs H2 Q
variable {o e:Expr}{es:List Expr}{to:TE}{t:TA}{name:Str}{apos cpos:Pos}{T id:String}{r:V->List V->Hp->VK->Prop}
theorem aNB (pa:PlainAttrs T)(slot:Slot T name id)(hty:typeOf (.builtin id) = pure (.type "method_descriptor"))(hm:MtR X id r)(ho:PE X o to)(hbase:attributeBase o name X.env (eval o X.env)=eval o X.env:=by rfl)(hline:(apos.endLine==cpos.line)=true:=by rfl):PE X (.Call (.Attribute o name apos) [] [] cpos) (aQG X.K T r to):=by intro pins s σ H Q I h;refine wpAny_Call_method0_late hbase hline (thn (ho pins s σ H _ I h) λv s1 ⟨x,H1,I1,r1,ty,q1⟩=>?_);obtain⟨h1,h2⟩:=aG7 I1 r1 ty;exact⟨T,id,pa,slot,hty,h1,h2,Calls.callWith_builtin rfl (PySem.evalArgs_none (hm pins s1 σ H1 x [] v [] Q I1 r1 .nil q1))⟩
theorem aOP (pa:PlainAttrs T)(slot:Slot T name id)(hty:typeOf (.builtin id) = pure (.type "method_descriptor"))(hm:MtR X id r)(ho:PE X o to)(ha:PA X (e::es) t)(hbase:attributeBase o name X.env (eval o X.env)=eval o X.env:=by rfl)(hfew:((backTo cpos (starEach (e::es) X.env)).all (λx=>!x.1)&&(backToKw cpos (keywordEach [] X.env)).all (λx=>x.1.isSome)
  &&decide ((e::es).length+([]:List Keyword).length+(if ([]:List Keyword).isEmpty then 0 else 1)<30))=true:=by rfl)(hline:(apos.endLine==cpos.line)=true:=by rfl)(hs:starEach (e::es) X.env=(false,eval e X.env)::starEach es X.env:=by rfl)(hplain:(backTo cpos (starEach es X.env)).any (·.1)=false:=by rfl) :
  PE X (.Call (.Attribute o name apos) (e::es) [] cpos) (tBM X.K T r to t):=by
 intro pins s σ H Q I h;refine wpAny_Call_method_late hbase hfew hline rfl (thn (ho pins s σ H _ I h) λv s1 ⟨x,H1,I1,r1,ty,q1⟩=>?_);obtain⟨h1,h2⟩:=aG7 I1 r1 ty;refine⟨T,id,pa,slot,hty,h1,h2,?_⟩;have hA:=ha cpos pins s1 σ H1 _ I1 q1;rw[hs] at hA ⊢;refine Calls.callWith_builtin (by show(false||(backTo cpos (starEach es X.env)).any (·.1))=false;rw[hplain]<;>rfl) (Calls.evalArgs_plain ?_);exact thn hA λus s2 ⟨vs,H2,I2,r2,q2⟩=>hm pins s2 σ H2 x vs v us Q I2 r1 r2 q2
end
def MtM (X:Cx)(id:String)(r:V->List V->Hp->VK->Prop):Prop :=
 ∀(pins:List (Addr×Obj)) (s:Shared) (σ:St) (H:Hp) (x:V) (xs:List V) (v:Value) (us:List Value) (Q:VK),Inv X pins σ H s->cT x v->cG xs us->r x xs H Q ->
  wpAny (model X.prog X.w) X.A (call (.builtin id) (v::us)) (EP X pins σ Q) X.xe s
theorem cG.one:∀{x:V}{us:List Value},cG [x] us->∃u,us=[u]/\cT x u
 |_,_,.cons r .nil=>⟨_,rfl,r⟩
theorem cG.two:∀{x y:V}{us:List Value},cG [x,y] us->∃u v,us=[u,v]/\cT x u/\cT y v
 |_,_,_,.cons r (.cons q .nil)=>⟨_,_,rfl,r,q⟩
theorem cG.zero:∀{us:List Value},cG [] us->us=[]
 |_,.nil=>rfl
theorem cG.dropLast {xs:List V}{us:List Value}(h:cG xs us):cG xs.dropLast us.dropLast:=by
 induction h with
 |nil=>exact .nil
 |cons r t ih =>
  cases t with
  |nil=>exact .nil
  |cons q t'=>exact .cons r ih
theorem aEZ {α:Type}(l:List α):l.eraseIdx (l.length-1)=l.dropLast:=by
 induction l with
 |nil=>rfl
 |cons a r ih =>
  cases r with
  |nil=>rfl
  |cons b r =>
   have e:(a::b::r).length-1=((b::r).length-1)+1:=by have h1:(a::b::r).length=r.length+2:=rfl;have h2:(b::r).length=r.length+1:=rfl;omega
   rw[e,List.eraseIdx_cons_succ,ih];all_goals rfl
section
variable {X:Cx}{pins:List (Addr×Obj)}{σ:St}{H:Hp}{s:Shared}{l b:Addr}{xs ys zs:List V}
theorem Inv.lset {its its':List Value}{n:Nat}{f:Array Value->Array Value}{t':Nat}(I:Inv X pins σ H s)(hH:H l=some (.lst xs))(e:s.heap.get? l = some { cls:=.type "list",data:=.seq its.toArray n })(hf:f its.toArray=its'.toArray)(hv:cG ys its')(hz:ys.length<=sizeLine) :
  Inv X pins σ (upd H l (.lst ys)) { s with heap:=s.heap.update l (Obj.mapSeq f),toks:=t' }:=by
 have q:=PySem.IsL.update e f;rw[hf] at q;refine I.write (x:=l) (e:=l) (by rw[hH];exact trivial) (.inl rfl) (λb' u hb hu=>(Heap.get?_update_other s.heap (Obj.mapSeq f) (Ne.symm hb)).trans hu) ⟨_,q⟩ ?_;exact⟨hz,its',_,hv,q⟩
theorem Inv.lnew {its:List Value}{t':Nat}(I:Inv X pins σ H s)(hv:cG ys its)(hz:ys.length<=sizeLine) :
  Inv X pins σ (upd H s.heap.objs.size (.lst ys)) { s with heap:=s.heap.push { cls:=.type "list",data:=.seq its.toArray },toks:=t' } :=
 I.laid (λ_ _ q=>Heap.get?_push_of_some _ q) (Nat.le_refl _) ⟨hz,its,0,hv,Heap.get?_push_size _ rfl⟩
theorem Inv.fresh (I:Inv X pins σ H s):H s.heap.objs.size=none:=I.hok.fresh (Nat.le_refl _)
theorem Inv.lstM (I:Inv X pins σ H s)(hH:H l = some (.lst xs)):xs.length<=sizeLine/\∃(its:List Value)(n:Nat),cG xs its/\xs.length = its.length/\s.heap.get? l = some { cls:=.type "list",data:=.seq its.toArray n }:=by obtain⟨z,its,n,r,e⟩:=I.hok l _ hH;exact⟨z,its,n,r,r.length,e⟩
end
section
variable {X:Cx}
def aKn:V->List V->Hp->VK->Prop:=λx vs H Q=>∃l xs y,x=.ref l/\vs=[y]/\H l=some (.lst xs)/\xs.length<sizeLine/\Q .non (upd H l (.lst (xs++[y])))
theorem aF8:MtM X "list.append" aKn:=by intro pins s σ H x vs v us Q I rx rv h;obtain⟨l,xs,y,rfl,rfl,hH,hz,q⟩:=h;cases rx;obtain⟨u,rfl,ru⟩:=rv.one;obtain⟨z,its,n,r,hl,e⟩:=I.lstM hH;refine call_meets F.slot_list_append ⟨_,e,rfl⟩ F.entry_list_append (F.args_list_append_2 _ _) (PySem.list_append l its.toArray n u (by rw[size_toArray];omega)) ⟨e,?_⟩;refine⟨.non,_,I.lset (its':=its++[u]) hH e (by simp) (r.append (.cons ru .nil)) ?_,rfl,q⟩;rw[length_append,length_singleton];omega
def aQk:V->List V->Hp->VK->Prop:=λx vs H Q=>∃l xs y,x=.ref l/\vs=[]/\H l=some (.lst xs)/\xs[xs.length-1]?=some y/\Q y (upd H l (.lst xs.dropLast))
theorem aLA:MtM X "list.pop" aQk:=by
 intro pins s σ H x vs v us Q I rx rv h;obtain⟨l,xs,y,rfl,rfl,hH,hy,q⟩:=h;cases rx;have hus:=rv.zero;subst hus;obtain⟨z,its,n,r,hl,e⟩:=I.lstM hH;obtain⟨u,hu,ru⟩:=r.get hy;have hy':its.toArray[its.toArray.size-1]?=some u:=by show its.toArray[its.length-1]?=some u;rw[<- Array.getElem?_toList,<- hl];exact hu
 refine call_meets F.slot_list_pop ⟨_,e,rfl⟩ F.entry_list_pop (F.args_list_pop_1 _) (MeetsSeq.list_pop_last l its.toArray n u hy' (by rw[size_toArray];omega)) ⟨e,?_⟩;refine⟨y,_,I.lset (its':=its.dropLast) hH e ?_ r.dropLast ?_,ru,q⟩
 ·show its.toArray.eraseIdxIfInBounds (its.toArray.size-1)=its.dropLast.toArray;rw[size_toArray,List.eraseIdxIfInBounds_toArray,aEZ]
 ·rw[List.length_dropLast];omega
def aQb:R2:=λx y H Q=>∃l b xs zs,x=.ref l/\y=.ref b/\H l=some (.lst xs)/\H b=some (.lst zs)/\xs.length+zs.length<=sizeLine/\∀p,H p=none->Q (.ref p) (upd H p (.lst (xs++zs)))
theorem aLw:OpR X (binaryOp .Add) aQb:=by
 intro pins s σ H x y v u Q I rx ry h;obtain⟨l,b,xs,zs,rfl,rfl,hH,hB,hz,q⟩:=h;cases rx;cases ry;obtain⟨z,its,n,r,hl,e⟩:=I.lstM hH;obtain⟨z2,its2,n2,r2,hl2,e2⟩:=I.lstM hB;refine PySem.P.add_list e e2 ?_ (by rw[size_toArray,size_toArray];omega);have ea:its.toArray++its2.toArray=(its++its2).toArray:=by simp
 rw[ea];exact⟨.ref _,_,I.lnew (t':=s.toks) (r.append r2) (by rw[length_append];omega),rfl,q _ I.fresh⟩
theorem len_rep {α:Type}(xs:List α)(k:Nat):(replicate k xs).flatten.length=k*xs.length:=by
 induction k with
 |zero=>simp
 |succ k ih=>rw[replicate_succ,flatten_cons,length_append,ih,Nat.succ_mul,Nat.add_comm]
end
section
variable {prog:Program}{w:World}{A:Around}{E:Value->Shared->Prop}{s:Shared}
end
section
variable {X:Cx}
end
end L2
namespace Att
open PySem PySem.W PySem.Calls PyProof.Rows
theorem yZ {P:Params}{h:Heap}:∀(ns:List Int)(vs:List Value),WellAll P h vs (ns.map WData.int)->IntsAre vs ns:=by
 intro ns
 induction ns with
 |nil =>
  intro vs w;rw[map_nil] at w;cases w;exact .nil
 |cons n ns ih =>
  intro vs w;rw[map_cons] at w;cases w with
  |cons a b =>
   cases a;exact .cons _ _ (ih _ b)
theorem aGe {l:OpenLaw}{n:Nat}(hn:l.most=some n){P:Params}{h:Heap}{args:List WData}{vals:List Value}(hpre:l.row.toRowW.claim.pre args=true)(hwl:WellAll P h vals args) :
  ∃a vs ns,vals = [Value.ref a]/\args = [WData.list (ns.map WData.int)]/\h.get? a = some { cls:=.type "list",data:=.seq vs.toArray }/\IntsAre vs ns/\ns.length<=n:=by
 have hsh:WShape.hasAll [] args [.list .int]=true:=(pre_splitW hpre).1;have hc:l.pre.holds [] { args:=args }=true:=(pre_splitW hpre).2;obtain⟨d,r,rfl,h1,h2⟩:=hasAllW_cons hsh;obtain rfl:=hasAllW_nil h2;obtain⟨xs,rfl,h3⟩:=hasW_list h1;obtain⟨ns,rfl⟩:=items_int h3;have hlen:ns.length<=n:=by
  unfold OpenLaw.pre at hc;have h4:(WTm.not (.lt (.lit (.int (n:Int))) (.len (.arg 0)))).holds [] { args:=[.list (ns.map .int)] }=true:=by have h4:=(holds_andW hc).1;rw[hn] at h4;exact h4
  have h5:=condW_of h4 (w_not (w_lt w_lit (w_len_list (w_arg rfl))));rw[length_map] at h5;refine Nat.le_of_not_lt λq=>?_;have q':(n:Int)<((ns.length:Nat):Int):=by omega
  first
   |(rw[decide_eq_true q'] at h5;exact absurd h5 (by decide))
   |(simp at h5;omega)
 cases hwl with
 |cons w1 w2 =>
  cases w2;cases w1 with
  |list ho hall=>exact⟨_,_,ns,rfl,rfl,ho,yZ ns _ hall,hlen⟩
theorem aFZ (l:OpenLaw)(args:List WData):l.row.toRowW.claim.post args (.bool true) args=true :=
 postW_of (r:=l.row.toRowW) (X:=(true==true))
  (show WShape.has [] (.bool true) .bool=true by first|rfl|decide|simp[WShape.has,WShape.arms,WShape.armsAll])
  (show(WTm.eq .res (.lit (.bool true))).value [] { args:=args,res:=some (.bool true),after:=args }=some (.bool (true==true)) from w_eq_bool (w_res rfl) w_lit) rfl
theorem attach_call {l:OpenLaw}{n:Nat}{q:Program}{loose:List Str}{XP:(Str->Option Value)->Heap->Prop}{YP:World->Heap->Prop}{d:DefRec}(hn:l.most=some n)(hdf:d.params.defaults=[])(call:∀(w:World)(s₀ s₁:Shared) (mg mb:Str->Option Value) (fa:Addr) (o:Obj) (pm cd doc:Value) (a:Addr) (vs:List Value) (ns:List Int),
   Ground q loose [] XP w s₀ mg mb s₁.heap->YP w s₁.heap ->
   s₁.heap.get? fa=some o->o.data=.func (docDef d.name d.params d.body d.scope pm cd doc)->s₁.heap.CodeRec cd d.name->mg d.name=some (.ref fa) ->
   s₁.heap.get? a = some { cls:=.type "list",data:=.seq vs.toArray }->IntsAre vs ns->ns.length<=n->s₁.gens=#[] ->
   codeAny (model l.prog w) callerA (.call (.ref fa) ⟨[.ref a],[]⟩) (λr s'=>r=.ok (.ret (.bool true))/\OldK s₁.heap s'.heap/\s'.os=s₁.os/\AllBare s'.gens) s₁) :
  WalkO q loose XP YP l.row.toRowW d [] (λf vs=>PySem.call f vs):=by
 intro w s₀ s₁ mg mb G Y fa o pm cd doc dV kV ho hd hcd hD hmg hg args vals as hpre hlay hrd hwl hlo;obtain rfl:dV=.none:=Dflts.none hD hdf;obtain rfl:kV=.none:=Dflts.noKw hD;obtain⟨a,vs,ns,rfl,rfl,hobj,hints,hlen⟩:=aGe hn hpre hwl;refine enter_call (codeAny_mono (call w s₀ s₁ mg mb fa o pm cd doc a vs ns G Y ho (fd_plain hd) hcd hmg hobj hints hlen hg) λr s' hq=>?_);obtain⟨rfl,h2,h3,h4⟩:=hq;exact⟨.inl ⟨.bool true,.bool true,[],rfl,λ_=>rfl,.bool true,aFZ l _,λ_=>⟨List.Pairwise.nil,λ_ hm=>(nomatch hm)⟩⟩,h2,h3,h4⟩
section
variable {prog:Program}{w:World}{A:Around}{E:Value->Shared->Prop}{s:Shared}{K:Frag}
end
end Att
namespace L2
open PySem PySem.Spec PyProof.Rows
theorem xC:∀{vs:List Value}{ns:List Int},IntsAre vs ns->cG (ns.map V.int) vs
 |_,_,.nil=>.nil
 |_,_,.cons n t h=>.cons ⟨t,rfl⟩ (xC h)
def aK8 (H:Hp):Prop:=∀b,H b=none ∨ ∃o xs,H b=some (.frz o (.lst xs))
theorem aGQ {P:Program}{w:World}{K:Frag}{mg mb:Str->Option Value}{CX:CXT}{k:Nat}{fa a:Addr}{fd:FuncData}{x:Str}{sp:Sp}{s₁:Shared}{vs:List Value}{ns:List Int}(KX:K.In s₁.heap)(hns:s₁.heap.Ns mainGlobals mg)(hb:s₁.heap.Ns builtinsNs mb)(hbb:∀x:Str,x ≠ "__name__"->mb x=bootBuiltins x)(hlim:s₁.heap.NoLimit)(hg:s₁.gens=#[])(ha:s₁.heap.get? a = some { cls:=.type "list",data:=.seq vs.toArray })(hi:IntsAre vs ns)(hl:ns.length<=sizeLine)(hr:eB k callerA)(F:∀base:Heap,K.In base->base.Ns mainGlobals mg->lP P w K mg base CX k fa fd [x] sp)(hbind:∀(s:Shared)(u:Value),BindsTo s fd ⟨[u],[]⟩ [(x,u)])(hsp:∀H:Hp,aK8 H->SqL K H a (ns.map V.int)->sp [.ref a] H (λv _=>v=.bl true) λ_ _ _=>False)(hCX:∀H e s',CX [] H s₁ (λ_ _ _=>False) e s'->False) :
  codeAny (model P w) callerA (.call (.ref fa) ⟨[.ref a],[]⟩) (λr s'=>r=.ok (.ret (.bool true))/\OldK s₁.heap s'.heap/\s'.os=s₁.os/\AllBare s'.gens) s₁:=by
 have rv:=xC hi;have lenV:=hi.length;have core:∀H:Hp,aK8 H->SqL K H a (ns.map V.int)->HOk P w H s₁.heap->(∀b,H b≠none->b=a)->(H a≠none->K.lookup a=none) ->
   codeAny (model P w) callerA (.call (.ref fa) ⟨[.ref a],[]⟩) (λr s'=>r=.ok (.ret (.bool true))/\OldK s₁.heap s'.heap/\s'.os=s₁.os/\AllBare s'.gens) s₁:=by
  intro H hO hS hok hA hK;have base_of:∀{b:Addr}{o:Obj},s₁.heap.get? b=some o->H b=none->(aCd s₁.heap H).get? b=some o:=λe n=>aHs e n;have noA:∀{b:Addr}{o:Obj} {es:Array DictEntry} {ep:Nat},s₁.heap.get? b=some o->o.data=.dict es ep->H b=none:=λ{b o es ep} e d=>by
   cases q:H b with
   |none=>rfl
   |some u =>
    have e':b=a:=hA b (by rw[q];simp);subst e';rw[ha] at e;cases e;have d':Data.seq vs.toArray _=Data.dict es ep:=d;cases d'
  have nsK:∀{b:Addr}{m:Str->Option Value},s₁.heap.Ns b m->(aCd s₁.heap H).Ns b m:=λ{b m} ⟨o,es,ep,e,d,r⟩=>⟨o,es,ep,base_of e (noA e d),d,r⟩;have hKb:K.In (aCd s₁.heap H):=λb o e=>base_of (KX b o e) (by
   cases q:H b with
   |none=>rfl
   |some u =>
    have e':b=a:=hA b (by rw[q];simp);subst e';rw[hK (by rw[q];simp)] at e;cases e)
  have hM:Mod K mg (aCd s₁.heap H):=⟨hKb,nsK hns,⟨mb,nsK hb,hbb⟩,let ⟨mc,h1,h2⟩:=hlim;⟨mc,nsK h1,h2⟩⟩;have e0:aE2 P w K mg (aCd s₁.heap H) callerA [] s₁ H:=⟨rfl,hM,λb o e=>aKC e,Nat.le_of_eq (aGj _ _),trivial,λb hb=>absurd (show b∈([]:List Addr) from hb) (by simp),hok,.of_eq hg⟩;refine codeAny_mono ((F _ hKb (nsK hns)).run callerA [] s₁ H ⟨[.ref a],[]⟩ [.ref a] [.ref a] _ _ hr e0 (hbind s₁ (.ref a)) (.cons rfl .nil) (hsp H hO hS)) λr s' h=>?_;cases r with
  |error e=>exact(hCX H e s' h).elim
  |ok fl =>
   cases fl with
   |next=>exact False.elim h
   |brk=>exact False.elim h
   |cont=>exact False.elim h
   |ret u =>
    obtain⟨v,H',os,bare,un,hok',r',q⟩:=h;have q':v=.bl true:=q;subst q';obtain rfl:u=Value.bool true:=r';refine⟨rfl,OldK.of_keep λb o e=>?_,os,bare⟩;cases q:H b with
    |none=>exact un.keep b o e q (by intro z;exact absurd (show b∈([]:List Addr) from z) (by simp)) (by simp)
    |some u =>
     rcases hO b with z|⟨ob,xs,z⟩
     ·rw[q] at z;cases z
     ·have z2:=un.frzs b ob _ z;obtain⟨e1,_⟩:=hok b _ z;obtain⟨e2,_⟩:=hok' b _ z2;rw[e] at e1;cases e1;exact e2
 cases hk:K.lookup a with
 |some o =>
  have e:=KX a o hk;rw[ha] at e;cases e;refine core (λ_=>none) (λ_=>.inl rfl) (.inr ⟨_,vs.toArray,_,hk,rfl,rfl,rfl,by rw[size_toArray,lenV];exact hl,by simpa using rv⟩) (λb u z=>by have z':(none:Option HO)=some u:=z;cases z') (λb z=>absurd rfl z) λz=>absurd rfl z
 |none =>
  refine core (λb=>if b = a then some (.frz { cls:=.type "list",data:=.seq vs.toArray } (.lst (ns.map V.int))) else none) (λb=>?_) (.inl (.inr ⟨{ cls:=.type "list",data:=.seq vs.toArray },if_pos rfl⟩)) (λb u z=>?_) (λb z=>?_) λ_=>hk
  ·by_cases hb:b=a
   ·exact .inr ⟨_,_,if_pos hb⟩
   ·exact .inl (if_neg hb)
  ·by_cases hb:b=a
   ·have z':=(if_pos hb).symm.trans z;cases z';subst hb;exact⟨ha,by rw[length_map];exact hl,vs,_,rv,ha⟩
   ·have z':=(if_neg hb).symm.trans z;cases z'
  ·by_cases hb:b=a
   ·exact hb
   ·exact absurd (if_neg hb) z
noncomputable def pR (s:Stmt):Arguments:=match s with
 |.FunctionDef _ a _ _ _ _ _ _ _ _=>a
 |_=>{ posonlyargs:=[],args:=[],vararg:=none,kwonlyargs:=[],kw_defaults:=[],kwarg:=none,defaults:=[] }
noncomputable def fC (s:Stmt):List Stmt:=match s with
 |.FunctionDef _ _ b _ _ _ _ _ _ _=>b
 |_=>[]
noncomputable def aJ (s:Stmt):Scope:=match s with
 |.FunctionDef _ _ _ _ _ _ sc _ _ _=>sc
 |_=>{ kind:=.function,names:=[],isGenerator:=false,isCoroutine:=false }
noncomputable abbrev CX0:CXT:=λ_ _ _ _ _ _=>False
noncomputable abbrev E0:XK:=λ_ _ _=>False
theorem aGJ {X:Cx}:wK CX0 X E0:=λ_ _ _ _ _ _ _ h=>h.elim
structure Fun (K:Frag)(x qual:Str)(st:Stmt)(f:Addr)(fd:FuncData):Prop where
 ex:∃(oc:Value)(od:Option Addr) (kV doc pm:Value) (an:Option Addr) (cdv ct:Value) (osl:Array (Option Value)),
  fd=fnOf x qual (pR st) (fC st) (aJ st) .none kV doc pm an cdv ct/\K.lookup f=some ⟨oc,od,.func fd,osl⟩/\codeIn K cdv qual=true
 kp:keepIn K (.ref f)=true
section
variable {P:Program}{w:World}{K:Frag}{mg:Str->Option Value}{base:Heap}
theorem Fun.ok {x qual:Str}{st:Stmt}{f:Addr}{fd:FuncData}{N ps:List Str}{k:Nat}{sp:Sp}(F:Fun K x qual st f fd)(S:aR N ps (aJ st))(len:∀vs H Q E,sp vs H Q E->vs.length=ps.length)(hbody:∀(cdv:Value)(A:Around) (outer:List Env) (s:Shared) (H:Hp) (vs:List V) (Q:VK) (E:XK),eB k (A.deeper (envOfC qual (aJ st) s.heap.objs.size f cdv))->sp vs H Q E ->
   ∃t,PSs (kE CX0 P w K mg base N qual (aJ st) f cdv A outer s H E).nox (fC st) t/\t { nx:=λ_ H'=>Q .non H',rt:=Q } (start N vs) H):lP P w K mg base CX0 (k+1) f fd ps sp:=by
 obtain⟨oc,od,kV,doc,pm,an,cdv,ct,osl,rfl,lk,hcd⟩:=F.ex;refine aFd lk hcd S len λA outer s H vs Q E hr hsp=>?_;obtain⟨t,h,q⟩:=hbody cdv A outer s H vs Q E hr hsp;exact⟨t,h.nox,q⟩
theorem Fun.binds {x qual:Str}{st:Stmt}{f:Addr}{fd:FuncData}{ps:List Str}(F:Fun K x qual st f fd)(h:∀(kV doc pm:Value)(an:Option Addr) (cdv ct:Value) (us:List Value),us.length=ps.length->bindArgs (fnOf x qual (pR st) (fC st) (aJ st) .none kV doc pm an cdv ct) ⟨us,[]⟩=pure (ps.zip us)):nW K fd ps []:=by obtain⟨oc,od,kV,doc,pm,an,cdv,ct,osl,rfl,lk,hcd⟩:=F.ex;exact .all (h kV doc pm an cdv ct)
theorem fun_mk {x qual:Str}{st:Stmt}{f:Addr}{oc:Value}{od an:Option Addr}{osl:Array (Option Value)}{kV doc pm cdv ct:Value}(l:K.lookup f=some ⟨oc,od,.func (fnOf x qual (pR st) (fC st) (aJ st) .none kV doc pm an cdv ct),osl⟩)(c:codeIn K cdv qual=true)(k:keepIn K (.ref f)=true):Fun K x qual st f (fnOf x qual (pR st) (fC st) (aJ st) .none kV doc pm an cdv ct):=⟨⟨oc,od,kV,doc,pm,an,cdv,ct,osl,rfl,l,c⟩,k⟩
end
theorem fZ {n:Nat}(h:n<=1000):n<sizeLine:=Nat.lt_of_le_of_lt h (by decide)
section
variable {X:Cx}
theorem pv (i:Nat){x:Str}{pos:Pos}(hN:X.N[i]?=some x:=by rfl)(hv:Vis X.env.scope x:=by first|exact Or.inl rfl|exact Or.inr (Or.inl rfl)|exact Or.inr (Or.inr rfl))(hd:(x==("__debug__":Str))=false:=by decide)(hcd:(x==("__classdict__":Str))=false:=by decide):PE X (.Name x pos) (aOE i):=tO hN hv hd hcd
end
def aGv (H H':Hp):Prop:=∀b o,H b=some o->H' b=some o
theorem aGv.trans {H H1 H2:Hp}(a:aGv H H1)(b:aGv H1 H2):aGv H H2:=λc o h=>b c o (a c o h)
theorem aGv.seq {K:Frag}{H H':Hp}{a:Addr}{xs:List V}(e:aGv H H')(h:SqL K H a xs):SqL K H' a xs:=by
 rcases h with(h|⟨o,h⟩)|h
 ·exact .inl (.inl (e _ _ h))
 ·exact .inl (.inr ⟨o,e _ _ h⟩)
 ·exact .inr h
end L2
set_option maxHeartbeats 4000000
namespace Dd
open PySem PySem.Spec PyProof.Rows L2
inductive D where
 |non|bl (b:Bool)|int (i:Int)|str (x:Str)|tup (xs:List D)|fz (xs:List D)|ref (a:Addr)
def SqX (K:Frag)(H:Hp)(a:Addr)(xs:List V):Prop :=
 (∃o,H a=some (.frz o (.lst xs))) ∨
 ∃(its:Array Value)(n:Nat),K.lookup a = some { cls:=.type "list",data:=.seq its n }/\its.size<=sizeLine/\cG xs its.toList
theorem SqX.sq {K:Frag}{H:Hp}{a:Addr}{xs:List V}(h:SqX K H a xs):SqL K H a xs:=by
 rcases h with⟨o,h⟩|⟨its,n,h,z,r⟩
 ·exact .inl (.inr ⟨o,h⟩)
 ·exact .inr ⟨_,its,n,h,rfl,rfl,rfl,z,r⟩
mutual
def Rep (K:Frag)(H:Hp):D->V->Prop
 |.non,v=>v=.non
 |.bl b,v=>v=.bl b
 |.int i,v=>v=.int i
 |.str x,v=>v=.str x
 |.ref a,v=>v=.ref a
 |.tup ds,v=>∃a xs,v=.ref a/\SqT K H a xs/\cA K H ds xs
 |.fz ds,v=>∃a xs,v=.ref a/\SqX K H a xs/\cA K H ds xs
def cA (K:Frag)(H:Hp):List D->List V->Prop
 |[],vs=>vs=[]
 |d::ds,vs=>∃v r,vs=v::r/\Rep K H d v/\cA K H ds r
end
structure Ext (H H':Hp):Prop where
 tup:∀a xs,H a=some (.tup xs)->H' a=some (.tup xs)
 frz:∀a o u,H a=some (.frz o u)->H' a=some (.frz o u)
theorem Ext.refl (H:Hp):Ext H H:=⟨λ_ _ h=>h,λ_ _ _ h=>h⟩
theorem Ext.trans {H H1 H2:Hp}(a:Ext H H1)(b:Ext H1 H2):Ext H H2:=⟨λc xs h=>b.tup c xs (a.tup c xs h),λc o u h=>b.frz c o u (a.frz c o u h)⟩
theorem Ext.new {H:Hp}{p:Addr}(h:H p=none)(o:HO):Ext H (upd H p o) :=
 ⟨λa xs e=>by rw[bS (bW e h)];exact e,λa ob u e=>by rw[bS (bW e h)];exact e⟩
theorem Ext.put {H:Hp}{p:Addr}{xs:List V}(h:H p=some (.lst xs))(o:HO):Ext H (upd H p o) :=
 ⟨λa ys e=>by rw[bS (aAw e h (by intro z;cases z))];exact e,λa ob u e=>by rw[bS (aAw e h (by intro z;cases z))];exact e⟩
section
variable {K:Frag}{H H':Hp}
theorem mX (e:Ext H H'){a:Addr}{xs:List V}(h:SqT K H a xs):SqT K H' a xs:=by
 rcases h with(h|⟨o,h⟩)|h
 ·exact .inl (.inl (e.tup _ _ h))
 ·exact .inl (.inr ⟨o,e.frz _ _ _ h⟩)
 ·exact .inr h
theorem oR (e:Ext H H'){a:Addr}{xs:List V}(h:SqX K H a xs):SqX K H' a xs:=by
 rcases h with⟨o,h⟩|h
 ·exact .inl ⟨o,e.frz _ _ _ h⟩
 ·exact .inr h
mutual
theorem Rep.ext (e:Ext H H'):∀{d:D}{v:V},Rep K H d v->Rep K H' d v
 |.non,_,h=>by unfold Rep at h ⊢;exact h
 |.bl _,_,h=>by unfold Rep at h ⊢;exact h
 |.int _,_,h=>by unfold Rep at h ⊢;exact h
 |.str _,_,h=>by unfold Rep at h ⊢;exact h
 |.ref _,_,h=>by unfold Rep at h ⊢;exact h
 |.tup ds,_,h=>by unfold Rep at h ⊢;obtain⟨a,xs,e1,sq,r⟩:=h;exact⟨a,xs,e1,mX e sq,cA.ext e r⟩
 |.fz ds,_,h=>by unfold Rep at h ⊢;obtain⟨a,xs,e1,sq,r⟩:=h;exact⟨a,xs,e1,oR e sq,cA.ext e r⟩
theorem cA.ext (e:Ext H H'):∀{ds:List D}{vs:List V},cA K H ds vs->cA K H' ds vs
 |[],_,h=>by unfold cA at h ⊢;exact h
 |d::ds,_,h=>by unfold cA at h ⊢;obtain⟨v,r,e1,hv,hr⟩:=h;exact⟨v,r,e1,Rep.ext e hv,cA.ext e hr⟩
end
theorem bU {i:Int}:Rep K H (.int i) (.int i):=by unfold Rep;rfl
theorem eW {b:Bool}:Rep K H (.bl b) (.bl b):=by unfold Rep;rfl
theorem aKk {x:Str}:Rep K H (.str x) (.str x):=by unfold Rep;rfl
theorem zB:Rep K H .non .non:=by unfold Rep;rfl
theorem kR {a:Addr}:Rep K H (.ref a) (.ref a):=by unfold Rep;rfl
theorem aV {i:Int}{v:V}(h:Rep K H (.int i) v):v=.int i:=by unfold Rep at h;exact h
theorem cR {b:Bool}{v:V}(h:Rep K H (.bl b) v):v=.bl b:=by unfold Rep at h;exact h
theorem cW {x:Str}{v:V}(h:Rep K H (.str x) v):v=.str x:=by unfold Rep at h;exact h
theorem eR {v:V}(h:Rep K H .non v):v=.non:=by unfold Rep at h;exact h
theorem bO {a:Addr}{v:V}(h:Rep K H (.ref a) v):v=.ref a:=by unfold Rep at h;exact h
theorem cJ {ds:List D}{v:V}(h:Rep K H (.tup ds) v):∃a xs,v=.ref a/\SqT K H a xs/\cA K H ds xs:=by unfold Rep at h;exact h
theorem rT {ds:List D}{v:V}(h:Rep K H (.fz ds) v):∃a xs,v=.ref a/\SqX K H a xs/\cA K H ds xs:=by unfold Rep at h;exact h
theorem cH {ds:List D}{a:Addr}{xs:List V}(sq:SqT K H a xs)(r:cA K H ds xs):Rep K H (.tup ds) (.ref a):=by unfold Rep;exact⟨a,xs,rfl,sq,r⟩
theorem dG:cA K H [] []:=by unfold cA;rfl
theorem bY {vs:List V}(h:cA K H [] vs):vs=[]:=by unfold cA at h;exact h
theorem cK {d:D}{ds:List D}{v:V}{vs:List V}(h:Rep K H d v)(r:cA K H ds vs):cA K H (d::ds) (v::vs):=by unfold cA;exact⟨v,vs,rfl,h,r⟩
theorem aZ {d:D}{ds:List D}{vs:List V}(h:cA K H (d::ds) vs):∃v r,vs=v::r/\Rep K H d v/\cA K H ds r:=by unfold cA at h;exact h
theorem cA.length:∀{ds:List D}{vs:List V},cA K H ds vs->ds.length=vs.length
 |[],_,h=>by rw[bY h];rfl
 |d::ds,_,h=>by obtain⟨v,r,rfl,_,hr⟩:=aZ h;rw[length_cons,length_cons,cA.length hr]
theorem cA.get:∀{ds:List D}{vs:List V} {i:Nat} {d:D},cA K H ds vs->ds[i]?=some d->∃v,vs[i]?=some v/\Rep K H d v
 |[],_,i,d,h,e=>by simp at e
 |d0::ds,_,0,d,h,e=>by obtain⟨v,r,rfl,hv,hr⟩:=aZ h;simp at e;subst e;exact⟨v,rfl,hv⟩
 |d0::ds,_,i+1,d,h,e=>by obtain⟨v,r,rfl,hv,hr⟩:=aZ h;exact cA.get (i:=i) hr (by simpa using e)
theorem cA.getV:∀{ds:List D}{vs:List V} {i:Nat} {v:V},cA K H ds vs->vs[i]?=some v->∃d,ds[i]?=some d/\Rep K H d v
 |[],_,i,v,h,e=>by rw[bY h] at e;simp at e
 |d0::ds,_,0,v,h,e=>by obtain⟨v0,r,rfl,hv,hr⟩:=aZ h;simp at e;subst e;exact⟨d0,rfl,hv⟩
 |d0::ds,_,i+1,v,h,e=>by obtain⟨v0,r,rfl,hv,hr⟩:=aZ h;exact cA.getV (i:=i) hr (by simpa using e)
theorem cA.append:∀{ds es:List D}{vs us:List V},cA K H ds vs->cA K H es us->cA K H (ds++es) (vs++us)
 |[],es,vs,us,h,q=>by rw[bY h];exact q
 |d::ds,es,_,us,h,q=>by obtain⟨v,r,rfl,hv,hr⟩:=aZ h;exact cK hv (cA.append hr q)
theorem cA.take:∀{ds:List D}{vs:List V} (n:Nat),cA K H ds vs->cA K H (ds.take n) (vs.take n)
 |ds,vs,0,h=>by rw[take_zero,take_zero];exact dG
 |[],_,n+1,h=>by rw[bY h];exact dG
 |d::ds,_,n+1,h=>by obtain⟨v,r,rfl,hv,hr⟩:=aZ h;exact cK hv (cA.take n hr)
theorem cA.drop:∀{ds:List D}{vs:List V} (n:Nat),cA K H ds vs->cA K H (ds.drop n) (vs.drop n)
 |ds,vs,0,h=>h
 |[],_,n+1,h=>by rw[bY h];exact dG
 |d::ds,_,n+1,h=>by obtain⟨v,r,rfl,hv,hr⟩:=aZ h;exact cA.drop n hr
theorem aBN:∀(ns:List Int),cA K H (ns.map D.int) (ns.map V.int)
 |[]=>dG
 |n::ns=>cK bU (aBN ns)
end
inductive AK where
 |l (a:Addr)|d (a:Addr)
deriving DecidableEq
instance:Coe Addr AK:=⟨AK.l⟩
noncomputable abbrev DM:=AK->Option (List D)
noncomputable def bK (M:DM)(a:Addr)(ds:List D):DM:=λb=>if b=AK.l a then some ds else M b
theorem aI {M:DM}{a:Addr}{ds:List D}:bK M a ds a=some ds:=if_pos rfl
theorem bV {M:DM}{a b:Addr}{ds:List D}(h:b≠a):bK M a ds b=M b:=if_neg λe=>h (AK.l.inj e)
theorem zP {M:DM}{a:Addr}{b:AK}{ds:List D}(h:b≠AK.l a):bK M a ds b=M b:=if_neg h
theorem aIB {M:DM}{a b:Addr}{ds:List D}:bK M a ds (.d b)=M (.d b):=if_neg λe=>nomatch e
theorem aBQ {M:DM}{a:Addr}{ds es:List D}:bK (bK M a ds) a es=bK M a es:=by funext b;unfold bK;split<;>rfl
theorem aEe {M:DM}{a b:Addr}{o:List D}(h:M a=some o)(h':M b=none):a≠b:=by intro e;subst e;rw[h] at h';cases h'
theorem yP {M:DM}{a b:AK}{o:List D}(h:M a=some o)(h':M b=none):a≠b:=by intro e;subst e;rw[h] at h';cases h'
def aN6 (a:Addr)(es:List DictEntry):Heap->Prop:=λh=>(a==sysModules) = false/\es.length<=sizeLine/\∃ep,h.get? a = some { cls:=.type "dict",data:=.dict es.toArray ep }
def aJx (K:Frag)(H:Hp)(d:D)(e:DictEntry):Prop:=∃k v kv vv,d=.tup [.int e.hash,k,v]/\cT kv e.key/\Rep K H k kv/\cT vv e.val/\Rep K H v vv
theorem aJx.ext {K:Frag}{H H':Hp}{d:D}{e:DictEntry}(h:aJx K H d e)(x:Ext H H'):aJx K H' d e :=
 let ⟨k,v,kv,vv,a,b,c,f,g⟩:=h;⟨k,v,kv,vv,a,b,c.ext x,f,g.ext x⟩
abbrev aGC (K:Frag)(H:Hp)(ds:List D)(es:List DictEntry):Prop:=Paired (aJx K H) ds es
theorem nZ {K:Frag}{H H':Hp}{ds:List D}{es:List DictEntry}(h:aGC K H ds es)(x:Ext H H'):aGC K H' ds es:=Paired.mapP h λ_ _ r=>r.ext x
structure cI (K:Frag)(M:DM)(H:Hp):Prop where
 l:∀(a:Addr) ds,M (.l a)=some ds->∃xs,H a=some (.lst xs)/\cA K H ds xs
 d:∀(a:Addr) ds,M (.d a)=some ds->∃es,H a=some (.ext (aN6 a es))/\aGC K H ds es
section
variable {K:Frag}{H H':Hp}{M M':DM}
theorem cI.fresh (h:cI K M H){p:Addr}(e:H p=none):M p=none:=by
 cases q:M p with
 |none=>rfl
 |some ds=>obtain⟨xs,z,_⟩:=h.l p ds q;rw[e] at z;cases z
theorem cI.new (h:cI K M H){p:Addr}(e:H p=none)(o:HO):cI K M (upd H p o) where
 l:=λa ds q=>by obtain⟨xs,z,r⟩:=h.l a ds q;exact⟨xs,by rw[bS (bW z e)];exact z,r.ext (Ext.new e o)⟩
 d:=λa ds q=>by obtain⟨xs,z,r⟩:=h.d a ds q;exact⟨xs,by rw[bS (bW z e)];exact z,nZ r (Ext.new e o)⟩
theorem cI.lnew (h:cI K M H){p:Addr}(e:H p=none){xs:List V}{ds:List D}(r:cA K H ds xs):cI K (bK M p ds) (upd H p (.lst xs)) where
 l:=λa es q=>by
  by_cases ha:a=p
  ·subst ha;rw[aI] at q;cases q;exact⟨xs,dN,r.ext (Ext.new e _)⟩
  ·rw[bV ha] at q;obtain⟨ys,z,r2⟩:=h.l a es q;exact⟨ys,by rw[bS ha];exact z,r2.ext (Ext.new e _)⟩
 d:=λa es q=>by rw[aIB] at q;obtain⟨ys,z,r2⟩:=h.d a es q;exact⟨ys,by rw[bS (bW z e)];exact z,nZ r2 (Ext.new e _)⟩
theorem cI.put (h:cI K M H){p:Addr}{xs0:List V}(e:H p=some (.lst xs0)){xs:List V}{ds:List D}(r:cA K H ds xs):cI K (bK M p ds) (upd H p (.lst xs)) where
 l:=λa es q=>by
  by_cases ha:a=p
  ·subst ha;rw[aI] at q;cases q;exact⟨xs,dN,r.ext (Ext.put e _)⟩
  ·rw[bV ha] at q;obtain⟨ys,z,r2⟩:=h.l a es q;exact⟨ys,by rw[bS ha];exact z,r2.ext (Ext.put e _)⟩
 d:=λa es q=>by rw[aIB] at q;obtain⟨ys,z,r2⟩:=h.d a es q;exact⟨ys,by rw[bS (aAw z e (by intro z;cases z))];exact z,nZ r2 (Ext.put e _)⟩
def aU (M M':DM):Prop:=∀a o,M a=some o->M' a=some o
theorem aU.refl (M:DM):aU M M:=λ_ _ h=>h
theorem aU.trans {M1 M2 M3:DM}(a:aU M1 M2)(b:aU M2 M3):aU M1 M3:=λc o h=>b c o (a c o h)
theorem aU.new {M:DM}{p:Addr}(h:M p=none)(ds:List D):aU M (bK M p ds):=λa o e=>by rw[zP (yP e h)];exact e
theorem cI.sub (h:cI K M' H)(s:aU M M'):cI K M H:=⟨λa ds q=>h.l a ds (s _ ds q),λa ds q=>h.d a ds (s _ ds q)⟩
end
noncomputable abbrev cO:=List (Option D)
structure gY (K:Frag)(H:Hp)(ρ:cO)(σ:L2.St):Prop where
 len:ρ.length=σ.length
 get:∀(i:Nat) d,ρ[i]?=some (some d)->∃v,σ[i]?=some (some v)/\Rep K H d v
section
variable {K:Frag}{H H':Hp}{ρ:cO}{σ:L2.St}
theorem gY.ext (h:gY K H ρ σ)(e:Ext H H'):gY K H' ρ σ:=⟨h.len,λi d q=>let ⟨v,a,b⟩:=h.get i d q;⟨v,a,b.ext e⟩⟩
theorem gY.set (h:gY K H ρ σ){d:D}{v:V}(r:Rep K H d v)(i:Nat):gY K H (ρ.set i (some d)) (σ.set i (some v)):=by
 refine⟨by rw[length_set,length_set,h.len],λj d' q=>?_⟩;rw[getElem?_set] at q;by_cases hij:i=j
 ·subst hij;rw[if_pos rfl] at q;by_cases hl:i<ρ.length
  ·rw[if_pos hl] at q;cases q;exact⟨v,by rw[getElem?_set,if_pos rfl,if_pos (by rw[<- h.len];exact hl)],r⟩
  ·rw[if_neg hl] at q;cases q
 ·rw[if_neg hij] at q;obtain⟨u,a,b⟩:=h.get j d' q;exact⟨u,by rw[getElem?_set,if_neg hij];exact a,b⟩
end
abbrev DQ:=D->DM->Prop
abbrev DE:=cO->DM->DQ->Prop
abbrev DT:=cO->DM->(Bool->DM->Prop)->Prop
abbrev DA:=cO->DM->(List D->DM->Prop)->Prop
structure gF where
 nx:cO->DM->Prop
 rt:DQ
 bk:cO->DM->Prop:=λ_ _=>False
 ct:cO->DM->Prop:=λ_ _=>False
abbrev DS:=gF->cO->DM->Prop
abbrev DG:=D->cO->DM->(cO->DM->Prop)->Prop
abbrev DGs:=List D->cO->DM->(cO->DM->Prop)->Prop
noncomputable def LQ (K:Frag)(H:Hp)(Q:DQ):VK:=λv H'=>∃d M',Rep K H' d v/\cI K M' H'/\Ext H H'/\Q d M'
def LT (K:Frag)(H:Hp)(Q:Bool->DM->Prop):Bool->Hp->Prop:=λb H'=>∃M',cI K M' H'/\Ext H H'/\Q b M'
def LA (K:Frag)(H:Hp)(Q:List D->DM->Prop):List V->Hp->Prop:=λvs H'=>∃ds M',cA K H' ds vs/\cI K M' H'/\Ext H H'/\Q ds M'
def LN (K:Frag)(H:Hp)(Q:cO->DM->Prop):L2.St->Hp->Prop:=λσ' H'=>∃ρ' M',gY K H' ρ' σ'/\cI K M' H'/\Ext H H'/\Q ρ' M'
structure lG (K:Frag)(H:Hp)(D:gF)(E:sT):Prop where
 nx:∀σ' H',LN K H D.nx σ' H'->E.nx σ' H'
 rt:∀v H',LQ K H D.rt v H'->E.rt v H'
 bk:∀σ' H',LN K H D.bk σ' H'->E.bk σ' H'
 ct:∀σ' H',LN K H D.ct σ' H'->E.ct σ' H'
def low (K:Frag)(t:DE):TE:=λσ H Q=>∃ρ M Q',gY K H ρ σ/\cI K M H/\t ρ M Q'/\∀v H',LQ K H Q' v H'->Q v H'
def aLa (K:Frag)(t:DT):TT:=λσ H Q=>∃ρ M Q',gY K H ρ σ/\cI K M H/\t ρ M Q'/\∀v H',LT K H Q' v H'->Q v H'
def aOT (K:Frag)(t:DA):TA:=λσ H Q=>∃ρ M Q',gY K H ρ σ/\cI K M H/\t ρ M Q'/\∀v H',LA K H Q' v H'->Q v H'
def aIq (K:Frag)(t:DS):TS:=λE σ H=>∃ρ M D,gY K H ρ σ/\cI K M H/\t D ρ M/\lG K H D E
def aEN (K:Frag)(g:DG):TG:=λv σ H Q=>∃d ρ M Q',Rep K H d v/\gY K H ρ σ/\cI K M H/\g d ρ M Q'/\∀σ' H',LN K H Q' σ' H'->Q σ' H'
def aOd (K:Frag)(g:DGs):TGs:=λvs σ H Q=>∃ds ρ M Q',cA K H ds vs/\gY K H ρ σ/\cI K M H/\g ds ρ M Q'/\∀σ' H',LN K H Q' σ' H'->Q σ' H'
abbrev PDE (X:Cx)(e:Expr)(t:DE):Prop:=PE X e (low X.K t)
abbrev PDT (X:Cx)(e:Expr)(t:DT):Prop:=PT X e (aLa X.K t)
abbrev PDW (X:Cx)(e:Expr)(t:DT):Prop:=PW X e (aLa X.K t)
abbrev PDA (X:Cx)(es:List Expr)(t:DA):Prop:=PA X es (aOT X.K t)
abbrev PDS (X:Cx)(st:Stmt)(t:DS):Prop:=PS X st (aIq X.K t)
abbrev lK (X:Cx)(st:List Stmt)(t:DS):Prop:=PSs X st (aIq X.K t)
abbrev PDG (X:Cx)(e:Expr)(g:DG):Prop:=PG X e (aEN X.K g)
abbrev aD6 (X:Cx)(es:List Expr)(g:DGs):Prop:=PGs X es (aOd X.K g)
section
variable {K:Frag}{H H1:Hp}
theorem LQ.back {Q:DQ}{v:V}{H2:Hp}(e:Ext H H1)(h:LQ K H1 Q v H2):LQ K H Q v H2:=let ⟨d,M,a,b,c,q⟩:=h;⟨d,M,a,b,e.trans c,q⟩
theorem LT.back {Q:Bool->DM->Prop}{v:Bool}{H2:Hp}(e:Ext H H1)(h:LT K H1 Q v H2):LT K H Q v H2:=let ⟨M,b,c,q⟩:=h;⟨M,b,e.trans c,q⟩
theorem LN.back {Q:cO->DM->Prop}{v:L2.St}{H2:Hp}(e:Ext H H1)(h:LN K H1 Q v H2):LN K H Q v H2:=let ⟨d,M,a,b,c,q⟩:=h;⟨d,M,a,b,e.trans c,q⟩
theorem lG.at {D:gF}{E:sT}(h:lG K H D E)(e:Ext H H1):lG K H1 D E :=
 ⟨λs H2 q=>h.nx s H2 (q.back e),λs H2 q=>h.rt s H2 (q.back e),λs H2 q=>h.bk s H2 (q.back e),λs H2 q=>h.ct s H2 (q.back e)⟩
end
section
variable {X:Cx}{e:Expr}{st:Stmt}{sts:List Stmt}
theorem cY {t u:TE}(h:PE X e t)(k:∀σ H Q,u σ H Q->t σ H Q):PE X e u:=λpins s σ H Q I q=>h pins s σ H Q I (k σ H Q q)
theorem aCL {t u:TT}(h:PT X e t)(k:∀σ H Q,u σ H Q->t σ H Q):PT X e u:=λpins s σ H Q I q=>h pins s σ H Q I (k σ H Q q)
theorem aG2 {t u:TT}(h:PW X e t)(k:∀σ H Q,u σ H Q->t σ H Q):PW X e u:=λwh pins s σ H Q I q=>h wh pins s σ H Q I (k σ H Q q)
theorem aGE {es:List Expr}{t u:TA}(h:PA X es t)(k:∀σ H Q,u σ H Q->t σ H Q):PA X es u:=λpos pins s σ H Q I q=>h pos pins s σ H Q I (k σ H Q q)
theorem kK {t u:TS}(h:PS X st t)(k:∀D σ H,u D σ H->t D σ H):PS X st u:=λpins s σ H D I q=>h pins s σ H D I (k D σ H q)
theorem aCa {t u:TS}(h:PSs X sts t)(k:∀D σ H,u D σ H->t D σ H):PSs X sts u:=λpins s σ H D I q=>h pins s σ H D I (k D σ H q)
theorem aIy {t u:TG}(h:PG X e t)(k:∀v σ H Q,u v σ H Q->t v σ H Q):PG X e u:=λpins s σ H v w Q I r q=>h pins s σ H v w Q I r (k v σ H Q q)
theorem aFC {es:List Expr}{t u:TGs}(h:PGs X es t)(k:∀v σ H Q,u v σ H Q->t v σ H Q):PGs X es u:=λpins s σ H v w Q I r q=>h pins s σ H v w Q I r (k v σ H Q q)
end
section
variable {X:Cx}{a b c e:Expr}{es:List Expr}{ta tb tc te:DE}{tA tB:DT}{t:DA}{pos:Pos}
def aCl (i:Nat):DE:=λρ M Q=>match ρ[i]? with
 |some (some d)=>Q d M
 |_=>False
theorem aNs (i:Nat){x:Str}{pos:Pos}(hN:X.N[i]?=some x:=by rfl)(hv:Vis X.env.scope x:=by first|exact Or.inl rfl|exact Or.inr (Or.inl rfl)|exact Or.inr (Or.inr rfl))(hd:(x==("__debug__":Str))=false:=by decide)(hcd:(x==("__classdict__":Str))=false:=by decide):PDE X (.Name x pos) (aCl i) :=
 cY (tO (i:=i) hN hv hd hcd) λσ H Q ⟨ρ,M,Q',re,hm,q,k⟩=>by
  unfold aCl at q;split at q
  ·rename_i d e;obtain⟨v,e1,r⟩:=re.get i d e;exact⟨v,e1,k v H ⟨d,M,r,hm,.refl H,q⟩⟩
  ·exact q.elim
def dC (d:D):DE:=λ_ M Q=>Q d M
theorem aNV {i j pos}:PDE X (.Constant (.int i) j pos) (dC (.int i)):=cY aLn λσ H Q ⟨ρ,M,Q',re,hm,q,k⟩=>k _ H ⟨_,M,bU,hm,.refl H,q⟩
theorem aN8 {i j pos}:PDE X (.Constant (.bool i) j pos) (dC (.bl i)):=cY aP0 λσ H Q ⟨ρ,M,Q',re,hm,q,k⟩=>k _ H ⟨_,M,eW,hm,.refl H,q⟩
theorem aLS {j pos}:PDE X (.Constant .none j pos) (dC .non):=cY aNi λσ H Q ⟨ρ,M,Q',re,hm,q,k⟩=>k _ H ⟨_,M,zB,hm,.refl H,q⟩
theorem aLt {x j pos}:PDE X (.Constant (.str x) j pos) (dC (.str x)):=cY aNG λσ H Q ⟨ρ,M,Q',re,hm,q,k⟩=>k _ H ⟨_,M,aKk,hm,.refl H,q⟩
theorem aJm {x:Str}{d:D}{v:V}{u:Value}{pos:Pos}(hg:Gl X x)(hm:X.mg x=some u)(r:cT v u)(hr:∀H,Rep X.K H d v)(hd:(x==("__debug__":Str))=false:=by decide):PDE X (.Name x pos) (dC d) :=
 cY (aDd hg hm r hd) λσ H Q ⟨ρ,M,Q',re,hm,q,k⟩=>k _ H ⟨_,M,hr H,hm,.refl H,q⟩
abbrev D2:=D->D->DM->DQ->Prop
def OpL (K:Frag)(r:R2)(r':D2):Prop:=∀x y H M dx dy Q,Rep K H dx x->Rep K H dy y->cI K M H->r' dx dy M Q->r x y H (LQ K H Q)
def OpD (X:Cx)(f:Value->Value->Sem Value)(r':D2):Prop :=
 OpR X f λx y H Q=>∃dx dy M Q',Rep X.K H dx x/\Rep X.K H dy y/\cI X.K M H/\r' dx dy M Q'/\∀v H',LQ X.K H Q' v H'->Q v H'
theorem aFq {pins:List (Addr×Obj)}{σ:L2.St}{Q Q':VK}{u:Value}{s:Shared}(h:EP X pins σ Q u s)(k:∀v H,Q v H->Q' v H):EP X pins σ Q' u s:=let ⟨v,H,a,b,c⟩:=h;⟨v,H,a,b,k v H c⟩
theorem OpD.of {f:Value->Value->Sem Value}{r:R2}{r':D2}(h:OpR X f r)(l:OpL X.K r r'):OpD X f r':=λpins s σ H x y v u Q I rx ry ⟨dx,dy,M,Q',r1,r2,hm,q,k⟩ =>
 thn (h pins s σ H x y v u _ I rx ry (l x y H M dx dy Q' r1 r2 hm q)) λv s h=>aFq h k
def dOp (r:D2)(ta tb:DE):DE:=λρ M Q=>ta ρ M λx M1=>tb ρ M1 λy M2=>r x y M2 Q
theorem aCy {r':D2}{σ:L2.St}{H:Hp}{Q:VK}{R:V->V->Hp->VK->Prop}(hR:∀x y H1 Q1,(∃dx dy M Q',Rep X.K H1 dx x/\Rep X.K H1 dy y/\cI X.K M H1/\r' dx dy M Q'/\∀v H',LQ X.K H1 Q' v H'->Q1 v H')->R x y H1 Q1)(h:low X.K (dOp r' ta tb) σ H Q):low X.K ta σ H λx H1=>low X.K tb σ H1 λy H2=>R x y H2 Q:=by obtain⟨ρ,M,Q',re,hm,q,k⟩:=h;refine⟨ρ,M,_,re,hm,q,λx H1 ⟨dx,M1,rx,hm1,e1,q1⟩=>⟨ρ,M1,_,re.ext e1,hm1,q1,λy H2 ⟨dy,M2,ry,hm2,e2,q2⟩=>?_⟩⟩;exact hR x y H2 Q ⟨dx,dy,M2,Q',rx.ext e2,ry,hm2,q2,λv H' z=>k v H' (z.back (e1.trans e2))⟩
theorem aOl {op:Operator}{r:D2}(ho:OpD X (binaryOp op) r)(ha:PDE X a ta)(hb:PDE X b tb):PDE X (.BinOp a op b pos) (dOp r ta tb) :=
 cY (aPN ho ha hb) λσ H Q h=>aCy (λ_ _ _ _ z=>z) h
theorem aMx {op:CmpOp}{r:D2}(ho:OpD X (compareOp op) r)(ha:PDE X a ta)(hb:PDE X b tb)(hm:behindInMarks op b=false:=by exact aCo _):PDE X (.Compare a [op] [b] pos) (dOp r ta tb) :=
 cY (aKs ho ha hb hm) λσ H Q h=>aCy (λ_ _ _ _ z=>z) h
def yK (t:DE):DT:=λρ M Q=>t ρ M λd M'=>match d with
 |.bl k=>Q k M'
 |_=>False
theorem aA5 {σ:L2.St}{H:Hp}{Q:Bool->Hp->Prop}(h:aLa X.K (yK te) σ H Q):low X.K te σ H λx H'=>∃k,x=.bl k/\Q k H':=by
 obtain⟨ρ,M,Q',re,hm,q,k⟩:=h;refine⟨ρ,M,_,re,hm,q,λx H1 ⟨d,M1,rd,hm1,e1,q1⟩=>?_⟩;cases d with
 |bl c=>exact⟨c,cR rd,k c H1 ⟨M1,hm1,e1,q1⟩⟩
 |_=>exact q1.elim
theorem aNb {op:CmpOp}{r:D2}(ho:OpD X (compareOp op) r)(ha:PDE X a ta)(hb:PDE X b tb)(hm:behindInMarks op b=false:=by exact aCo _):PDT X (.Compare a [op] [b] pos) (yK (dOp r ta tb)) :=
 aCL (aJ9 ho ha hb hm) λσ H Q h=>aCy (R:=λx y H Q1=>∃dx dy M Q',Rep X.K H dx x/\Rep X.K H dy y/\cI X.K M H/\r dx dy M Q'/\∀v H',LQ X.K H Q' v H'->Q1 v H') (λ_ _ _ _ z=>z) (aA5 h)
theorem aMu (h:PDE X e te)(he:∀whole,isTrue e X.env whole=(do let v <- whole;standAt e.pos;holding [v] (truthy v)):=by intro _;rfl):PDT X e (yK te) :=
 aCL (aNg h he) λσ H Q h=>aA5 h
def aMz (t u:DT):DT:=λρ M Q=>t ρ M λc M1=>if c=true then u ρ M1 Q else Q false M1
def dOr (t u:DT):DT:=λρ M Q=>t ρ M λc M1=>if c=true then Q true M1 else u ρ M1 Q
def aNz (t:DT):DT:=λρ M Q=>t ρ M λc M1=>Q (!c) M1
variable {cP:List Expr}
theorem aJj (ha:PDT X a tA):PDW X (.BoolOp .And [a] pos) tA:=aKh ha
theorem aL3 (ha:PDT X a tA):PDW X (.BoolOp .Or [a] pos) tA:=aMF ha
theorem aMI (ha:PDT X a tA)(hb:PDW X (.BoolOp .And (b::cP) pos) tB):PDW X (.BoolOp .And (a::b::cP) pos) (aMz tA tB) :=
 aG2 (aMe ha hb) λσ H Q ⟨ρ,M,Q',re,hm,q,k⟩=>⟨ρ,M,_,re,hm,q,λc H1 ⟨M1,hm1,e1,q1⟩=>by
  cases c with
  |true=>exact⟨ρ,M1,_,re.ext e1,hm1,q1,λv H' z=>k v H' (z.back e1)⟩
  |false=>exact k false H1 ⟨M1,hm1,e1,q1⟩⟩
theorem aOU (ha:PDT X a tA)(hb:PDW X (.BoolOp .Or (b::cP) pos) tB):PDW X (.BoolOp .Or (a::b::cP) pos) (dOr tA tB) :=
 aG2 (aOL ha hb) λσ H Q ⟨ρ,M,Q',re,hm,q,k⟩=>⟨ρ,M,_,re,hm,q,λc H1 ⟨M1,hm1,e1,q1⟩=>by
  cases c with
  |false=>exact⟨ρ,M1,_,re.ext e1,hm1,q1,λv H' z=>k v H' (z.back e1)⟩
  |true=>exact k true H1 ⟨M1,hm1,e1,q1⟩⟩
theorem aQa (h:PDW X e tA):PDT X e tA:=PW.pt h
theorem aMy (ha:PDT X a tA):PDT X (.UnaryOp .Not a pos) (aNz tA) :=
 aCL (aNq ha) λσ H Q ⟨ρ,M,Q',re,hm,q,k⟩=>⟨ρ,M,_,re,hm,q,λc H1 ⟨M1,hm1,e1,q1⟩=>k (!c) H1 ⟨M1,hm1,e1,q1⟩⟩
def aIO (ta tb:DE):DE:=λρ M Q=>ta ρ M λx M1=>match x with
 |.bl c=>if c=true then tb ρ M1 Q else Q (.bl false) M1
 |_=>False
def aM1 (ta tb:DE):DE:=λρ M Q=>ta ρ M λx M1=>match x with
 |.bl c=>if c=true then Q (.bl true) M1 else tb ρ M1 Q
 |_=>False
def aGS (ta:DE):DE:=λρ M Q=>ta ρ M λx M1=>match x with
 |.bl c=>Q (.bl (!c)) M1
 |_=>False
theorem aMf {op}(h:PDE X a ta):PDE X (.BoolOp op [a] pos) ta:=aLo h
theorem aNy (ha:PDE X a ta)(hb:PDE X (.BoolOp .And (b::cP) pos) tb):PDE X (.BoolOp .And (a::b::cP) pos) (aIO ta tb) :=
 cY (aMQ ha hb) λσ H Q ⟨ρ,M,Q',re,hm,q,k⟩=>⟨ρ,M,_,re,hm,q,λx H1 ⟨d,M1,rd,hm1,e1,q1⟩=>by
  cases d with
  |bl c =>
   refine⟨c,cR rd,?_⟩;cases c with
   |true=>exact⟨ρ,M1,_,re.ext e1,hm1,q1,λv H' z=>k v H' (z.back e1)⟩
   |false=>exact k _ H1 ⟨_,M1,eW,hm1,e1,q1⟩
  |_=>exact q1.elim⟩
theorem aPX (ha:PDE X a ta)(hb:PDE X (.BoolOp .Or (b::cP) pos) tb):PDE X (.BoolOp .Or (a::b::cP) pos) (aM1 ta tb) :=
 cY (aOJ ha hb) λσ H Q ⟨ρ,M,Q',re,hm,q,k⟩=>⟨ρ,M,_,re,hm,q,λx H1 ⟨d,M1,rd,hm1,e1,q1⟩=>by
  cases d with
  |bl c =>
   refine⟨c,cR rd,?_⟩;cases c with
   |false=>exact⟨ρ,M1,_,re.ext e1,hm1,q1,λv H' z=>k v H' (z.back e1)⟩
   |true=>exact k _ H1 ⟨_,M1,eW,hm1,e1,q1⟩
  |_=>exact q1.elim⟩
theorem aLR (ha:PDE X a ta):PDE X (.UnaryOp .Not a pos) (aGS ta) :=
 cY (aLG ha) λσ H Q ⟨ρ,M,Q',re,hm,q,k⟩=>⟨ρ,M,_,re,hm,q,λx H1 ⟨d,M1,rd,hm1,e1,q1⟩=>by
  cases d with
  |bl c=>exact⟨c,cR rd,k _ H1 ⟨_,M1,eW,hm1,e1,q1⟩⟩
  |_=>exact q1.elim⟩
def aL4 (t:DT)(ta tb:DE):DE:=λρ M Q=>t ρ M λc M1=>if c=true then ta ρ M1 Q else tb ρ M1 Q
theorem aHC (hc:PDT X c tA)(ha:PDE X a ta)(hb:PDE X b tb):PDE X (.IfExp c a b pos) (aL4 tA ta tb) :=
 cY (aIu hc ha hb) λσ H Q ⟨ρ,M,Q',re,hm,q,k⟩=>⟨ρ,M,_,re,hm,q,λc H1 ⟨M1,hm1,e1,q1⟩=>by
  cases c with
  |true=>exact⟨ρ,M1,_,re.ext e1,hm1,q1,λv H' z=>k v H' (z.back e1)⟩
  |false=>exact⟨ρ,M1,_,re.ext e1,hm1,q1,λv H' z=>k v H' (z.back e1)⟩⟩
def pT:DA:=λ_ M Q=>Q [] M
def kZ (ta:DE)(tr:DA):DA:=λρ M Q=>ta ρ M λx M1=>tr ρ M1 λxs M2=>Q (x::xs) M2
theorem aCG:PDA X [] pT:=aGE aC0 λσ H Q ⟨ρ,M,Q',re,hm,q,k⟩=>k [] H ⟨[],M,dG,hm,.refl H,q⟩
theorem zL (ha:PDE X e te)(hr:PDA X es t)(hs:starEach (e::es) X.env=(false,eval e X.env)::starEach es X.env:=by rfl):PDA X (e::es) (kZ te t) :=
 aGE (pE ha hr hs) λσ H Q ⟨ρ,M,Q',re,hm,q,k⟩=>⟨ρ,M,_,re,hm,q,λx H1 ⟨dx,M1,rx,hm1,e1,q1⟩=>⟨ρ,M1,_,re.ext e1,hm1,q1,λxs H2 ⟨dxs,M2,rxs,hm2,e2,q2⟩ =>
  k _ H2 ⟨dx::dxs,M2,cK (rx.ext e2) rxs,hm2,e1.trans e2,q2⟩⟩⟩
def aLZ (t:DA):DE:=λρ M Q=>t ρ M λxs M1=>xs.length<=1000/\Q (.tup xs) M1
def aLg (t:DA):DE:=λρ M Q=>t ρ M λxs M1=>xs.length<=1000/\∀p:Addr,M1 p=none->Q (.ref p) (bK M1 p xs)
theorem aMc {x1}(h:PDA X es t):PDE X (.Tuple es x1 pos) (aLZ t) :=
 cY (aNK h) λσ H Q ⟨ρ,M,Q',re,hm,q,k⟩=>⟨ρ,M,_,re,hm,q,λxs H1 ⟨ds,M1,rs,hm1,e1,q1,q2⟩=>⟨by rw[<- rs.length];exact Nat.le_of_lt (fZ q1),λp hp =>
  k _ _ ⟨.tup ds,M1,cH (.of dN) (rs.ext (Ext.new hp _)),hm1.new hp _,e1.trans (Ext.new hp _),q2⟩⟩⟩
theorem aNO (h:PDA X es t):PDE X (.List es pos) (aLg t) :=
 cY (aL5 h) λσ H Q ⟨ρ,M,Q',re,hm,q,k⟩=>⟨ρ,M,_,re,hm,q,λxs H1 ⟨ds,M1,rs,hm1,e1,q1,q2⟩=>⟨by rw[<- rs.length];exact Nat.le_of_lt (fZ q1),λp hp =>
  k _ _ ⟨.ref p,_,kR,hm1.lnew hp rs,e1.trans (Ext.new hp _),q2 p (hm1.fresh hp)⟩⟩⟩
end
section
variable {X:Cx}{st:Stmt}{cP:List Stmt}{t u:DS}{e:Expr}{te:DE}{pos:Pos}
def aDC:DS:=λE ρ M=>E.nx ρ M
def aM0 (t u:DS):DS:=λE ρ M=>t { E with nx:=u E } ρ M
theorem aJA:lK X [] aDC:=aCa aJ1 λE σ H ⟨ρ,M,D,re,hm,q,k⟩=>k.nx σ H ⟨ρ,M,re,hm,.refl H,q⟩
theorem aGM (h1:PDS X st t)(h2:lK X cP u):lK X (st::cP) (aM0 t u) :=
 aCa (aDA h1 h2) λE σ H ⟨ρ,M,D,re,hm,q,k⟩=>⟨ρ,M,{ D with nx:=u D },re,hm,q,
  ⟨λσ' H' ⟨ρ',M',re',hm',ex,q'⟩=>⟨ρ',M',D,re',hm',q',k.at ex⟩,k.rt,k.bk,k.ct⟩⟩
theorem aJr (h1:PDS X st t):lK X [st] t:=aFN h1
def aIL (te:DE):DS:=λE ρ M=>te ρ M λ_ M1=>E.nx ρ M1
theorem aJR (he:PDE X e te)(hs:swapsWith e none pos.line X.env=pure false:=by rfl):PDS X (.Expr e pos) (aIL te) :=
 kK (aKb he hs) λE σ H ⟨ρ,M,D,re,hm,q,k⟩=>⟨ρ,M,_,re,hm,q,λv H1 ⟨d,M1,rd,hm1,ex,q1⟩=>k.nx σ H1 ⟨ρ,M1,re.ext ex,hm1,ex,q1⟩⟩
def aNI (te:DE):DS:=λE ρ M=>te ρ M E.rt
theorem aLY (he:PDE X e te):PDS X (.Return (some e) pos) (aNI te) :=
 kK (aLW he) λE σ H ⟨ρ,M,D,re,hm,q,k⟩=>⟨ρ,M,_,re,hm,q,k.rt⟩
def aMh (c:DT)(t u:DS):DS:=λE ρ M=>c ρ M λb M1=>if b=true then t E ρ M1 else u E ρ M1
theorem aPf {c:Expr}{a b:List Stmt}{tc:DT}(hc:PDT X c tc)(ha:lK X a t)(hb:lK X b u):PDS X (.If c a b pos) (aMh tc t u) :=
 kK (aOw hc ha hb) λE σ H ⟨ρ,M,D,re,hm,q,k⟩=>⟨ρ,M,_,re,hm,q,λb H1 ⟨M1,hm1,ex,q1⟩=>by
  cases b with
  |true=>exact⟨ρ,M1,D,re.ext ex,hm1,q1,k.at ex⟩
  |false=>exact⟨ρ,M1,D,re.ext ex,hm1,q1,k.at ex⟩⟩
def aE6:DS:=λ_ _ _=>False
theorem aHZ:PDS X st aE6:=λ_ _ _ _ _ _ ⟨_,_,_,_,_,q,_⟩=>q.elim
end
section
variable {X:Cx}{pos:Pos}{e tg:Expr}{es:List Expr}{te:DE}
def gN (i:Nat):DG:=λd ρ M Q=>Q (ρ.set i (some d)) M
theorem aI1 {i:Nat}{x:Str}(hN:X.N.Nodup)(hi:X.N[i]?=some x:=by rfl)(hx:Loc X.env.scope x:=by first|exact Or.inl rfl|exact Or.inr rfl)(hf:X.fn x=true∨X.env.scope.names.lookup x=some .local:=by first|exact .inl rfl|exact .inr rfl|assumption):PDG X (.Name x pos) (gN i) :=
 aIy (aKz (i:=i) hN hi hx hf) λv σ H Q ⟨d,ρ,M,Q',rd,re,hm,q,k⟩=>k _ H ⟨_,M,re.set rd i,hm,.refl H,q⟩
def gNl:DGs:=λds ρ M Q=>match ds with
 |[]=>Q ρ M
 |_=>False
def gCn (t:DG)(u:DGs):DGs:=λds ρ M Q=>match ds with
 |d::r=>t d ρ M λρ' M'=>u r ρ' M' Q
 |[]=>False
theorem aJY:aD6 X [] gNl:=aFC aKv λv σ H Q ⟨ds,ρ,M,Q',rd,re,hm,q,k⟩=>by
 cases ds with
 |nil=>exact⟨bY rd,k σ H ⟨ρ,M,re,hm,.refl H,q⟩⟩
 |cons _ _=>exact q.elim
theorem aIv {t:DG}{u:DGs}(h1:PDG X e t)(h2:aD6 X es u)(hs:(assignEach (e::es) X.env).map (·.2)=assign e X.env::(assignEach es X.env).map (·.2):=by rfl):aD6 X (e::es) (gCn t u) :=
 aFC (aH0 h1 h2 hs) λv σ H Q ⟨ds,ρ,M,Q',rd,re,hm,q,k⟩=>by
  cases ds with
  |nil=>exact q.elim
  |cons d r =>
   obtain⟨x,xs,rfl,rx,rxs⟩:=aZ rd;exact⟨x,xs,rfl,d,ρ,M,_,rx,re,hm,q,λσ' H' ⟨ρ',M',re',hm',ex,q'⟩=>⟨r,ρ',M',Q',rxs.ext ex,re',hm',q',λσ2 H2 z=>k σ2 H2 (z.back ex)⟩⟩
def gT (n:Nat)(t:DGs):DG:=λd ρ M Q=>match d with
 |.tup ds=>ds.length=n/\t ds ρ M Q
 |_=>False
theorem aL2 {k:Nat}{t:DGs}{n:Nat}(hc:X.calm=true)(h:aD6 X es t)(hn:(assignEach es X.env).length=n:=by rfl)(hst:(assignEach es X.env).findIdx? (·.1)=none:=by rfl):PDG X (.Tuple es k pos) (gT n t) :=
 aIy (aNu hc h hn hst) λv σ H Q ⟨d,ρ,M,Q',rd,re,hm,q,k⟩=>by
  cases d with
  |tup ds =>
   obtain⟨a,xs,rfl,sq,rs⟩:=cJ rd;exact⟨a,xs,rfl,sq,by rw[<- rs.length];exact q.1,ds,ρ,M,Q',rs,re,hm,q.2,k⟩
  |_=>exact q.elim
def aGf (te:DE)(g:DG):DS:=λE ρ M=>te ρ M λx M1=>g x ρ M1 E.nx
theorem aJs {g:DG}{σ:L2.St}{H:Hp}{E:sT}(h:aIq X.K (aGf te g) E σ H):low X.K te σ H λx H1=>aEN X.K g x σ H1 E.nx:=by obtain⟨ρ,M,D,re,hm,q,k⟩:=h;exact⟨ρ,M,_,re,hm,q,λv H1 ⟨d,M1,rd,hm1,ex,q1⟩=>⟨d,ρ,M1,_,rd,re.ext ex,hm1,q1,λσ' H' z=>k.nx σ' H' (z.back ex)⟩⟩
theorem aL0 {g:DG}(he:PDE X e te)(hg:PDG X tg g)(hs:swapsWithSole [tg] e pos.line X.env=pure false:=by rfl)(hw:swappedStores [tg] e X.env=pure none:=by rfl)(h1:(assignEach [tg] X.env).map (·.2)=[assign tg X.env]:=by rfl):PDS X (.Assign [tg] e pos) (aGf te g) :=
 kK (aLr he hg hs hw h1) λE σ H h=>aJs h
theorem aLy {i:Nat}{x:Str}{pos':Pos}(hN:X.N.Nodup)(he:PDE X e te)(hi:X.N[i]?=some x:=by rfl)(hx:Loc X.env.scope x:=by first|exact Or.inl rfl|exact Or.inr rfl)(hs:swapsWith e (some (.Name x pos')) pos.line X.env=pure false:=by rfl)(hf:X.fn x=true∨X.env.scope.names.lookup x=some .local:=by first|exact .inl rfl|exact .inr rfl|assumption) :
  PDS X (.Assign [.Name x pos'] e pos) (aGf te (gN i)) :=
 kK (aL6 (i:=i) hN hi hx he hs hf) λE σ H ⟨ρ,M,D,re,hm,q,k⟩=>⟨ρ,M,_,re,hm,q,λv H1 ⟨d,M1,rd,hm1,ex,q1⟩=>k.nx _ H1 ⟨_,M1,(re.ext ex).set rd i,hm1,ex,q1⟩⟩
def aMq (i j:Nat)(ta:DA):DS:=λE ρ M=>ta ρ M λds M1=>match ds with
 |[x,y]=>E.nx ((ρ.set i (some x)).set j (some y)) M1
 |_=>False
theorem aN0 {i j:Nat}{x y:Str}{a b:Expr}{ta:DA}{px py pt:Pos}{kt k2 pt2}(hc:X.calm=true)(hN:X.N.Nodup)(ha:PDA X [a,b] ta)(hi:X.N[i]?=some x:=by rfl)(hj:X.N[j]?=some y:=by rfl)(hij:i≠j:=by decide)(hx:X.env.scope.names.lookup x=some .local:=by rfl)(hy:X.env.scope.names.lookup y=some .local:=by rfl)(hw:swappedStores [.Tuple [.Name x px,.Name y py] kt pt] (.Tuple [a,b] k2 pt2) X.env=pure (some [x,y]):=by rfl)(hs:swapsWithSole [.Tuple [.Name x px,.Name y py] kt pt] (.Tuple [a,b] k2 pt2) pos.line X.env=pure false:=by rfl) :
  PDS X (.Assign [.Tuple [.Name x px,.Name y py] kt pt] (.Tuple [a,b] k2 pt2) pos) (aMq i j ta) :=
 kK (aNT (i:=i) (j:=j) hc hN hi hj hij hx hy ha hw hs) λE σ H ⟨ρ,M,D,re,hm,q,k⟩=>⟨ρ,M,_,re,hm,q,λvs H1 ⟨ds,M1,rs,hm1,ex,q1⟩=>by
  match ds,q1 with
  |[d1,d2],q1 =>
   obtain⟨v1,r1,rfl,rv1,rr1⟩:=aZ rs;obtain⟨v2,r2,rfl,rv2,rr2⟩:=aZ rr1;obtain rfl:=bY rr2;exact⟨v1,v2,rfl,k.nx _ H1 ⟨_,M1,((re.ext ex).set rv1 i).set rv2 j,hm1,ex,q1⟩⟩
  |[],q1=>exact q1.elim
  |[_],q1=>exact q1.elim
  |_::_::_::_,q1=>exact q1.elim⟩
end
section
variable {X:Cx}{pos:Pos}
def aE3 (c:DT)(tb:DS):DS:=λE ρ M=>∃W:Nat->cO->DM->Prop,(∃m,W m ρ M)/\∀m ρ M,W m ρ M ->
 c ρ M λb M1=>if b=true then tb { E with nx:=λρ' M'=>∃m',m'<m/\W m' ρ' M',ct:=λρ' M'=>∃m',m'<m/\W m' ρ' M',bk:=E.nx } ρ M1 else E.nx ρ M1
theorem aIz {c:Expr}{body:List Stmt}{tc:DT}{tb:DS}(hp:PassesOwn (model X.prog X.w) X.A X.env X.xe)(hc:PDT X c tc)(hb:lK X body tb):PDS X (.While c body [] pos) (aE3 tc tb) :=
 kK (aIj hp hc hb) λE σ H ⟨ρ,M,D,re,hm,⟨W,⟨m0,w0⟩,turn⟩,k⟩=>by
  refine⟨λm σ' H'=>∃ρ' M',gY X.K H' ρ' σ'/\cI X.K M' H'/\Ext H H'/\W m ρ' M',⟨m0,ρ,M,re,hm,.refl H,w0⟩,?_⟩;rintro m σ1 H1 ⟨ρ1,M1,re1,hm1,e1,w1⟩;refine⟨ρ1,M1,_,re1,hm1,turn m ρ1 M1 w1,λb H2 ⟨M2,hm2,e2,q2⟩=>?_⟩;cases b with
  |false=>exact k.nx σ1 H2 ⟨ρ1,M2,re1.ext e2,hm2,e1.trans e2,q2⟩
  |true =>
   refine⟨λσ' H'=>∃m',m'<m/\∃ρ' M',gY X.K H' ρ' σ'/\cI X.K M' H'/\Ext H H'/\W m' ρ' M',λσ' H' z=>z,?_⟩;refine⟨ρ1,M2,_,re1.ext e2,hm2,q2,?_⟩;have ex:=e1.trans e2;exact⟨λσ' H' ⟨ρ',M',a,b,c,m',l,d⟩=>⟨m',l,ρ',M',a,b,ex.trans c,d⟩,λv H' z=>k.rt v H' (z.back ex),λσ' H' z=>k.nx σ' H' (z.back ex),λσ' H' ⟨ρ',M',a,b,c,m',l,d⟩=>⟨m',l,ρ',M',a,b,ex.trans c,d⟩⟩
theorem jN {c:DT}{tb:DS}{E:gF}{ρ:cO}{M:DM}(Pv:Nat->cO->DM->Prop)(m0:Nat)(h0:Pv m0 ρ M)(hs:∀m ρ M,Pv m ρ M->c ρ M λb M1=>if b=true then tb { E with nx:=λρ' M'=>∃m',m'<m/\Pv m' ρ' M',ct:=λρ' M'=>∃m',m'<m/\Pv m' ρ' M',bk:=E.nx } ρ M1 else E.nx ρ M1):aE3 c tb E ρ M:=⟨Pv,⟨m0,h0⟩,hs⟩
def dIt (at':Option Addr)(ds:List D)(g:DG)(tb:DS):DS:=λE ρ M=>∃Pv:Nat->cO->DM->Prop,Pv 0 ρ M /\
 (∀i ρ M,i<=ds.length->Pv i ρ M->∀a,at'=some a->M a=some ds) /\
 (∀i d ρ M,ds[i]?=some d->Pv i ρ M->g d ρ M λρ2 M2=>tb { E with nx:=Pv (i+1),ct:=Pv (i+1),bk:=E.nx } ρ2 M2)/\∀ρ M,Pv ds.length ρ M->E.nx ρ M
def aDQ (tl:DE)(g:DG)(tb:DS):DS:=λE ρ M=>tl ρ M λd M1=>match d with
 |.tup ds=>dIt none ds g tb E ρ M1
 |_=>False
def aDj (tl:DE)(g:DG)(tb:DS):DS:=λE ρ M=>tl ρ M λd M1=>match d with
 |.fz ds=>dIt none ds g tb E ρ M1
 |.ref a=>∃ds,M1 a=some ds/\dIt (some a) ds g tb E ρ M1
 |_=>False
variable {iter tg:Expr}{body:List Stmt}{tl:DE}{g:DG}{tb:DS}
theorem aIA {K:Frag}{a':Option Addr}{ds:List D}{E:sT}{Dn:gF}{σ:L2.St}{ρ:cO}{M:DM}{H0 H:Hp}{J:It}(ex0:Ext H0 H)(re:gY K H ρ σ)(hm:cI K M H)(k:lG K H0 Dn E)(h:dIt a' ds g tb Dn ρ M)(seq:∀H',Ext H H'->(∀M',cI K M' H'->(∀a,a'=some a->M' a=some ds)->∃xs,cA K H' ds xs/\(∀i,xs.length<=i->J.stop i H')/\(∀i,i<xs.length->J.go i H')/\∀i x H2,J.yld i H' x H2->H2=H'/\xs[i]?=some x)) :
  ∃W:Nat->Nat->L2.St->Hp->Prop,(∃m,W 0 m σ H)/\∀i m σ H,W i m σ H ->
   (J.stop i H/\E.nx σ H)∨(J.go i H/\∃N:L2.St->Hp->Prop,(∀σ' H',N σ' H'->∃m',m'<m/\W (i+1) m' σ' H')/\∀x H',J.yld i H x H'->aEN K g x σ H' λσ2 H2=>aIq K tb { E with nx:=N,ct:=N,bk:=E.nx } σ2 H2):=by
 obtain⟨Pv,p0,hat,step,done⟩:=h;refine⟨λi m σ' H'=>∃ρ' M',gY K H' ρ' σ'/\cI K M' H'/\Ext H H'/\m=ds.length-i/\i<=ds.length/\Pv i ρ' M',⟨ds.length,ρ,M,re,hm,.refl H,rfl,Nat.zero_le _,p0⟩,?_⟩;rintro i m σ1 H1 ⟨ρ1,M1,re1,hm1,e1,rfl,hi,w1⟩;obtain⟨xs,rs,hst,hgo,hy⟩:=seq H1 e1 M1 hm1 (hat i ρ1 M1 hi w1);have hl:=rs.length;by_cases hlt:i<ds.length
 ·refine .inr ⟨hgo i (by omega),λσ' H'=>∃ρ' M',gY K H' ρ' σ'/\cI K M' H'/\Ext H H'/\Pv (i+1) ρ' M',λσ' H' ⟨ρ',M',a,b,c,d⟩=>⟨ds.length-(i+1),by omega,ρ',M',a,b,c,rfl,hlt,d⟩,λx H' y=>?_⟩;obtain⟨rfl,hx⟩:=hy i x H' y;obtain⟨d,hd,rd⟩:=rs.getV hx;refine⟨d,ρ1,M1,_,rd,re1,hm1,step i d ρ1 M1 hd w1,λσ2 H2 ⟨ρ2,M2,re2,hm2,e2,q2⟩=>⟨ρ2,M2,_,re2,hm2,q2,?_⟩⟩;have ex:=e1.trans e2;exact⟨λσ' H' ⟨ρ',M',a,b,c,d⟩=>⟨ρ',M',a,b,ex.trans c,d⟩,λv H' z=>k.rt v H' (z.back (ex0.trans ex)),λσ' H' z=>k.nx σ' H' (z.back (ex0.trans ex)),λσ' H' ⟨ρ',M',a,b,c,d⟩=>⟨ρ',M',a,b,ex.trans c,d⟩⟩
 ·have e:i=ds.length:=by omega
  subst e;exact .inl ⟨hst _ (by omega),k.nx σ1 H1 ⟨ρ1,M1,re1,hm1,ex0.trans e1,done ρ1 M1 w1⟩⟩
def aLk (lo:Int)(n:Nat)(g:DG)(tb:DS):DS:=λE ρ M=>∃Pv:Nat->cO->DM->Prop,Pv 0 ρ M /\
 (∀i ρ M,i<n->Pv i ρ M->g (.int (lo+i)) ρ M λρ2 M2=>tb { E with nx:=Pv (i+1),ct:=Pv (i+1),bk:=E.nx } ρ2 M2)/\∀ρ M,Pv n ρ M->E.nx ρ M
def aHH (ta:DA)(g:DG)(tb:DS):DS:=λE ρ M=>ta ρ M λds M1=>match ds with
 |[.int j]=>(-(2^62)<=j/\j<2^62)/\aLk 0 j.toNat g tb E ρ M1
 |_=>False
def aIW (ta:DA)(g:DG)(tb:DS):DS:=λE ρ M=>ta ρ M λds M1=>match ds with
 |[.int i,.int j]=>(-(2^62)<=i/\i<2^62/\-(2^62)<=j/\j<2^62)/\aLk i (j-i).toNat g tb E ρ M1
 |_=>False
theorem aH1 {K:Frag}{lo:Int}{n:Nat}{E:sT}{Dn:gF}{σ:L2.St}{ρ:cO}{M:DM}{H0 H:Hp}(ex0:Ext H0 H)(re:gY K H ρ σ)(hm:cI K M H)(k:lG K H0 Dn E)(h:aLk lo n g tb Dn ρ M) :
  ∃W:Nat->Nat->L2.St->Hp->Prop,(∃m,W 0 m σ H)/\∀i m σ H,W i m σ H ->
   ((Itr lo n).stop i H/\E.nx σ H)∨((Itr lo n).go i H/\∃N:L2.St->Hp->Prop,(∀σ' H',N σ' H'->∃m',m'<m/\W (i+1) m' σ' H')/\∀x H',(Itr lo n).yld i H x H'->aEN K g x σ H' λσ2 H2=>aIq K tb { E with nx:=N,ct:=N,bk:=E.nx } σ2 H2):=by
 obtain⟨Pv,p0,step,done⟩:=h;refine⟨λi m σ' H'=>∃ρ' M',gY K H' ρ' σ'/\cI K M' H'/\Ext H H'/\m=n-i/\i<=n/\Pv i ρ' M',⟨n,ρ,M,re,hm,.refl H,rfl,Nat.zero_le _,p0⟩,?_⟩;rintro i m σ1 H1 ⟨ρ1,M1,re1,hm1,e1,rfl,hi,w1⟩;by_cases hlt:i<n
 ·refine .inr ⟨hlt,λσ' H'=>∃ρ' M',gY K H' ρ' σ'/\cI K M' H'/\Ext H H'/\Pv (i+1) ρ' M',λσ' H' ⟨ρ',M',a,b,c,d⟩=>⟨n-(i+1),by omega,ρ',M',a,b,c,rfl,hlt,d⟩,λx H' y=>?_⟩;obtain⟨rfl,rfl⟩:=y;refine⟨_,ρ1,M1,_,bU,re1,hm1,step i ρ1 M1 hlt w1,λσ2 H2 ⟨ρ2,M2,re2,hm2,e2,q2⟩=>⟨ρ2,M2,_,re2,hm2,q2,?_⟩⟩;have ex:=e1.trans e2;exact⟨λσ' H' ⟨ρ',M',a,b,c,d⟩=>⟨ρ',M',a,b,ex.trans c,d⟩,λv H' z=>k.rt v H' (z.back (ex0.trans ex)),λσ' H' z=>k.nx σ' H' (z.back (ex0.trans ex)),λσ' H' ⟨ρ',M',a,b,c,d⟩=>⟨ρ',M',a,b,ex.trans c,d⟩⟩
 ·have e:i=n:=by omega
  subst e;exact .inl ⟨Nat.le_refl _,k.nx σ1 H1 ⟨ρ1,M1,re1,hm1,ex0.trans e1,done ρ1 M1 w1⟩⟩
end
section
variable {X:Cx}{pos:Pos}{iter tg:Expr}{body:List Stmt}{tl:DE}{g:DG}{tb:DS}{ta:DA}
theorem aFi (hp:PassesOwn (model X.prog X.w) X.A X.env X.xe)(hc:X.calm=true)(hi:PDE X iter tl)(hg:PDG X tg g)(hb:lK X body tb)(hs:∀x,foldedSetIterable iter X.env x=pure x:=by intro _;rfl):PDS X (.For tg iter body [] pos) (aDQ tl g tb) :=
 kK (aAy hp hc (aG0 hi) hg hb hs) λE σ H ⟨ρ,M,Dn,re,hm,q,k⟩=>⟨ρ,M,_,re,hm,q,λv H1 ⟨d,M1,rd,hm1,ex,q1⟩=>by
  cases d with
  |tup ds =>
   obtain⟨a,xs,rfl,sq,rs⟩:=cJ rd;refine⟨a,rfl,⟨xs,sq⟩,aIA ex (re.ext ex) hm1 k q1 λH' e' M' hm' _=>⟨xs,rs.ext e',λi hi=>⟨xs,mX e' sq,hi⟩,λi hi=>⟨xs,xs[i],mX e' sq,by simp[hi]⟩,λi x H2 y=>⟨y.1,y.2 xs (mX e' sq)⟩⟩⟩
  |_=>exact q1.elim⟩
theorem aFv (hp:PassesOwn (model X.prog X.w) X.A X.env X.xe)(hc:X.calm=true)(hi:PDE X iter tl)(hg:PDG X tg g)(hb:lK X body tb)(hs:∀x,foldedSetIterable iter X.env x=pure x:=by intro _;rfl):PDS X (.For tg iter body [] pos) (aDj tl g tb) :=
 kK (aAy hp hc (aE9 hi) hg hb hs) λE σ H ⟨ρ,M,Dn,re,hm,q,k⟩=>⟨ρ,M,_,re,hm,q,λv H1 ⟨d,M1,rd,hm1,ex,q1⟩=>by
  cases d with
  |fz ds =>
   obtain⟨a,xs,rfl,sq,rs⟩:=rT rd;exact⟨a,rfl,⟨xs,sq.sq⟩,aIA ex (re.ext ex) hm1 k q1 λH' e' M' hm' _=>⟨xs,rs.ext e',λi hi=>⟨xs,(oR e' sq).sq,hi⟩,λi hi=>⟨xs,xs[i],(oR e' sq).sq,by simp[hi]⟩,λi x H2 y=>⟨y.1,y.2 xs (oR e' sq).sq⟩⟩⟩
  |ref a =>
   obtain⟨ds,ha,q1⟩:=q1;obtain rfl:=bO rd;obtain⟨xs,hx,rs⟩:=hm1.l a ds ha;refine⟨a,rfl,⟨xs,.of hx⟩,aIA ex (re.ext ex) hm1 k q1 λH' e' M' hm' hat=>?_⟩;obtain⟨ys,hy,rs'⟩:=hm'.l a ds (hat a rfl);exact⟨ys,rs',λi hi=>⟨ys,.of hy,hi⟩,λi hi=>⟨ys,ys[i],.of hy,by simp[hi]⟩,λi x H2 y=>⟨y.1,y.2 ys (.of hy)⟩⟩
  |_=>exact q1.elim⟩
theorem aI3 {a:Expr}{p pos':Pos}(hp:PassesOwn (model X.prog X.w) X.A X.env X.xe)(hc:X.calm = true)(hmg:X.mg "range" = none)(ha:PDA X [a] ta)(hg:PDG X tg g)(hb:lK X body tb)(hgl:Gl X "range":=by rfl)(hse:starEach [a] X.env=[(false,eval a X.env)]:=by rfl)(hs:∀x,foldedSetIterable (.Call (.Name "range" p) [a] [] pos') X.env x = pure x:=by intro _;rfl):PDS X (.For tg (.Call (.Name "range" p) [a] [] pos') body [] pos) (aHH ta g tb) :=
 kK (aAy hp hc (aFY hgl hmg ha hse) hg hb hs) λE σ H ⟨ρ,M,Dn,re,hm,q,k⟩=>⟨ρ,M,_,re,hm,q,λvs H1 ⟨ds,M1,rs,hm1,ex,q1⟩=>by
  rcases ds with _|⟨d,_|⟨d2,r⟩⟩
  ·exact q1.elim
  ·cases d with
   |int j =>
    obtain⟨⟨j1,j2⟩,q1⟩:=q1;obtain⟨v1,r1,rfl,rv1,rr1⟩:=aZ rs;obtain rfl:=bY rr1;obtain rfl:=aV rv1;exact⟨j,rfl,j1,j2,aH1 ex (re.ext ex) hm1 k q1⟩
   |_=>exact q1.elim
  ·cases d<;>exact q1.elim⟩
theorem aKe {a b:Expr}{p pos':Pos}(hp:PassesOwn (model X.prog X.w) X.A X.env X.xe)(hc:X.calm = true)(hmg:X.mg "range" = none)(ha:PDA X [a,b] ta)(hg:PDG X tg g)(hb:lK X body tb)(hgl:Gl X "range":=by rfl)(hse:starEach [a,b] X.env=[(false,eval a X.env),(false,eval b X.env)]:=by rfl)(hse2:starEach [b] X.env=[(false,eval b X.env)]:=by rfl)(hs:∀x,foldedSetIterable (.Call (.Name "range" p) [a,b] [] pos') X.env x = pure x:=by intro _;rfl):PDS X (.For tg (.Call (.Name "range" p) [a,b] [] pos') body [] pos) (aIW ta g tb) :=
 kK (aAy hp hc (aGl hgl hmg ha hse hse2) hg hb hs) λE σ H ⟨ρ,M,Dn,re,hm,q,k⟩=>⟨ρ,M,_,re,hm,q,λvs H1 ⟨ds,M1,rs,hm1,ex,q1⟩=>by
  rcases ds with _|⟨d,_|⟨d2,_|⟨d3,r⟩⟩⟩
  ·exact q1.elim
  ·cases d<;>exact q1.elim
  ·cases d with
   |int i =>
    cases d2 with
    |int j =>
     obtain⟨j1,q1⟩:=q1;obtain⟨v1,r1,rfl,rv1,rr1⟩:=aZ rs;obtain⟨v2,r2,rfl,rv2,rr2⟩:=aZ rr1;obtain rfl:=bY rr2;obtain rfl:=aV rv1;obtain rfl:=aV rv2;exact⟨i,j,rfl,j1,aH1 ex (re.ext ex) hm1 k q1⟩
    |_=>exact q1.elim
   |_=>exact q1.elim
  ·cases d<;>first|exact q1.elim|(cases d2<;>exact q1.elim)⟩
end
mutual
noncomputable def eqD:D->D->Bool
 |.tup xs,.tup ys=>pZ xs ys
 |.non,.non=>true
 |.bl a,.bl b=>a==b
 |.bl a,.int b=>(if a then 1 else 0)==b
 |.int a,.bl b=>a==(if b then 1 else 0)
 |.int a,.int b=>a==b
 |.str a,.str b=>a==b
 |_,_=>false
noncomputable def pZ:List D->List D->Bool
 |[],[]=>true
 |x::xs,y::ys=>eqD x y&&pZ xs ys
 |_,_=>false
end
noncomputable def bB:Nat->D->Bool
 |_,.ref _=>false
 |_,.fz _=>false
 |0,.tup _=>false
 |n+1,.tup ds=>ds.all (bB n)
 |_,_=>true
noncomputable def yM:List D->List D->Nat->Bool
 |x::_,y::_,0=>eqD x y
 |_::xs,_::ys,j+1=>yM xs ys j
 |_,_,_=>true
theorem zV (n:Nat)(e:Nat->Bool):(range (n+1)).all e=(e 0&&(range n).all λj=>e (j+1)):=by rw[List.range_succ_eq_map,all_cons,all_map];rfl
theorem mH:∀(xs ys:List D),pZ xs ys=((range (min xs.length ys.length)).all (yM xs ys)&&xs.length==ys.length)
 |[],[]=>by simp[pZ]
 |[],_::_=>by simp[pZ]
 |_::_,[]=>by simp[pZ]
 |x::xs,y::ys=>by
  have ih:=mH xs ys;have e1:min (x::xs).length (y::ys).length=min xs.length ys.length+1:=by simp only[length_cons];omega
  have e2:((x::xs).length==(y::ys).length)=(xs.length==ys.length):=by simp
  rw[e1,e2,zV];show(eqD x y&&pZ xs ys)=((eqD x y&&(range (min xs.length ys.length)).all λj=>yM xs ys j)&&xs.length==ys.length);rw[ih,Bool.and_assoc]
section
variable {X:Cx}{pins:List (Addr×Obj)}{σ:L2.St}{H:Hp}{s:Shared}
theorem aB4 {n:Nat}{d:D}(p:bB n d=true)(h:∀xs,d ≠ .tup xs):bB 0 d=true:=by
 cases d with
 |tup xs=>exact absurd rfl (h xs)
 |ref b=>cases n<;>exact absurd p Bool.false_ne_true
 |fz b=>cases n<;>exact absurd p Bool.false_ne_true
 |_=>rfl
theorem aD3 {d d':D}{v:V}(p:bB 0 d=true)(p':bB 0 d'=true)(r:Rep X.K H d v)(r':Rep X.K H d' v):eqD d d'=true:=by
 cases d<;>cases d'<;>first
  |(exact absurd p Bool.false_ne_true)
  |(exact absurd p' Bool.false_ne_true)
  |(unfold Rep at r r';subst r;cases r'<;>simp[eqD])
theorem aDi {d:D}{a:Addr}(p:bB 0 d=true)(r:Rep X.K H d (.ref a)):False:=by
 cases d<;>first
  |(exact absurd p Bool.false_ne_true)
  |(unfold Rep at r;cases r)
theorem aD0 {n:Nat}(ih:∀{d d':D}{v:V},bB n d=true->bB n d'=true->Rep X.K H d v->Rep X.K H d' v->eqD d d'=true) :
  ∀{xs ys:List D}{us:List V},xs.all (bB n)=true->ys.all (bB n)=true->cA X.K H xs us->cA X.K H ys us->pZ xs ys=true
 |[],[],_,_,_,_,_=>by simp[pZ]
 |[],_::_,_,_,_,r,r'=>by rw[bY r] at r';obtain⟨_,_,z,_⟩:=aZ r';cases z
 |_::_,[],_,_,_,r,r'=>by rw[bY r'] at r;obtain⟨_,_,z,_⟩:=aZ r;cases z
 |x::xs,y::ys,_,p1,p2,r,r'=>by obtain⟨v0,r0,rfl,h1,h2⟩:=aZ r;obtain⟨v0',r0',e0,h1',h2'⟩:=aZ r';cases e0;rw[all_cons,Bool.and_eq_true] at p1 p2;show(eqD x y&&pZ xs ys)=true;rw[ih p1.1 p2.1 h1 h1',aD0 ih p1.2 p2.2 h2 h2'];rfl
theorem aJl (I:Inv X pins σ H s):∀(n:Nat){d d':D} {v:V},bB n d=true->bB n d'=true->Rep X.K H d v->Rep X.K H d' v->eqD d d'=true:=by
 intro n
 induction n with
 |zero=>intro d d' v p p' r r';exact aD3 p p' r r'
 |succ n ih =>
  intro d d' v p p' r r';by_cases h1:∃xs,d=.tup xs
  ·obtain⟨xs,rfl⟩:=h1;obtain⟨a,us,rfl,sq,rs⟩:=cJ r;by_cases h2:∃ys,d'=.tup ys
   ·obtain⟨ys,rfl⟩:=h2;obtain⟨a',us',e1',sq',rs'⟩:=cJ r';cases e1';obtain rfl:=I.tuple_inj sq sq';exact aD0 ih p p' rs rs'
   ·exact(aDi (aB4 p' λxs e=>h2 ⟨xs,e⟩) r').elim
  ·have p0:=aB4 p λxs e=>h1 ⟨xs,e⟩;by_cases h2:∃ys,d'=.tup ys
   ·obtain⟨ys,rfl⟩:=h2;obtain⟨a',us',rfl,sq',rs'⟩:=cJ r';exact(aDi p0 r).elim
   ·exact aD3 p0 (aB4 p' λxs e=>h2 ⟨xs,e⟩) r r'
theorem mE (I:Inv X pins σ H s){a:Addr}{xs:List V}(sq:SqT X.K H a xs):∃its:List Value,cG xs its/\s.heap.IsTuple a its.toArray:=let ⟨its,r,p,_⟩:=I.tuple sq;⟨its,r,p⟩
theorem zE {d:D}{v:V}{n:Nat}(h:Rep X.K H d v)(p:bB 0 d=true):aIa v=true:=by
 cases d with
 |non=>unfold Rep at h;subst h;rfl
 |bl b=>unfold Rep at h;subst h;rfl
 |int b=>unfold Rep at h;subst h;rfl
 |str b=>unfold Rep at h;subst h;rfl
 |tup b=>exact absurd p Bool.false_ne_true
 |ref b=>exact absurd p Bool.false_ne_true
 |fz b=>exact absurd p Bool.false_ne_true
theorem wE {A:Around}{n:Nat}(ih:∀{d d':D}{v v':V} {u u':Value},bB n d=true->bB n d'=true->Rep X.K H d v->Rep X.K H d' v'->cT v u->cT v' u'->SeqAt.EqAt A s u u' (eqD d d')) :
  ∀{xs ys:List D}{us us':List V} {its its':List Value},xs.all (bB n)=true->ys.all (bB n)=true->cA X.K H xs us->cA X.K H ys us'->cG us its->cG us' its'->∀j (h1:j<its.length) (h2:j<its'.length),SeqAt.EqAt A s its[j] its'[j] (yM xs ys j)
 |[],ys,us,us',its,its',_,_,r1,_,v1,_,j,h1,_=>by rw[bY r1] at v1;cases v1;exact absurd h1 (Nat.not_lt_zero _)
 |_::_,[],us,us',its,its',_,_,_,r2,_,v2,j,_,h2=>by rw[bY r2] at v2;cases v2;exact absurd h2 (Nat.not_lt_zero _)
 |x::xs,y::ys,us,us',its,its',p1,p2,r1,r2,v1,v2,j,h1,h2=>by
  obtain⟨a,ra,rfl,ha,hra⟩:=aZ r1;obtain⟨b,rb,rfl,hb,hrb⟩:=aZ r2;rw[all_cons,Bool.and_eq_true] at p1 p2;cases v1 with
  |cons q1 w1 =>
   cases v2 with
   |cons q2 w2 =>
    cases j with
    |zero=>exact ih p1.1 p2.1 ha hb q1 q2
    |succ j=>exact wE ih p1.2 p2.2 hra hrb w1 w2 j (Nat.lt_of_succ_lt_succ h1) (Nat.lt_of_succ_lt_succ h2)
theorem aHc {d d':D}{v v':V}(p:bB 0 d=true)(p':bB 0 d'=true)(r:Rep X.K H d v)(r':Rep X.K H d' v'):eqV v v'=eqD d d':=by
 cases d<;>cases d'<;>first
  |(exact absurd p Bool.false_ne_true)
  |(exact absurd p' Bool.false_ne_true)
  |(unfold Rep at r r';subst r;subst r';simp[eqD,eqV])
theorem aKK (I:Inv X pins σ H s):∀(n:Nat){A:Around} {d d':D} {v v':V} {u u':Value},A.units+n<cLine->bB n d=true->bB n d'=true->Rep X.K H d v->Rep X.K H d' v'->cT v u->cT v' u'->SeqAt.EqAt A s u u' (eqD d d'):=by
 intro n
 induction n with
 |zero =>
  intro A d d' v v' u u' hu p p' r r' q q';have:=aHM (A:=A) (s:=s) q q' (zE (n:=0) r p) (zE (n:=0) r' p');rw[aHc p p' r r'] at this;exact this
 |succ n ih =>
  intro A d d' v v' u u' hu p p' r r' q q';by_cases h1:∃xs,d=.tup xs
  ·obtain⟨xs,rfl⟩:=h1;obtain⟨a,us,rfl,sq,rs⟩:=cJ r;obtain⟨its,rv,ht⟩:=mE I sq;cases q;by_cases h2:∃ys,d'=.tup ys
   ·obtain⟨ys,rfl⟩:=h2;obtain⟨a',us',rfl,sq',rs'⟩:=cJ r';obtain⟨its',rv',ht'⟩:=mE I sq';cases q';by_cases hll:a=a'
    ·subst hll;rw[aJl I (n+1) p p' r r'];exact SeqAt.EqAt.same _
    ·have e1:=rs.length;have e2:=rv.length;have e3:=rs'.length;have e4:=rv'.length;show SeqAt.EqAt A s (.ref a) (.ref a') (pZ xs ys);rw[mH,show xs.length=its.toArray.size by rw[size_toArray];omega,show ys.length=its'.toArray.size by rw[size_toArray];omega];refine SeqAt.EqAt.of_refs hll (SeqAt.RcAt.tuples ht ht' (by omega) λj j1 j2=>?_);have hu':A.in1.units+n<cLine:=by show A.units+1+n<cLine;omega
     have:=wE (A:=A.in1) (s:=s) (λ{d d' v v' u u'} p p' r r' q q'=>ih hu' p p' r r' q q') p p' rs rs' rv rv' j (by simpa using j1) (by simpa using j2);simpa using this
   ·have p0:=aB4 p' (λxs e=>h2 ⟨xs,e⟩);cases d' with
    |non=>rw[eR r'] at q';cases q';exact SeqAt.EqAt.tuple_none ht (by omega)
    |bl b=>rw[cR r'] at q';cases q';exact SeqAt.EqAt.tuple_bool b ht (by omega)
    |int b=>rw[aV r'] at q';obtain⟨t,rfl⟩:=q';exact SeqAt.EqAt.tuple_int b t ht (by omega)
    |str b=>rw[cW r'] at q';obtain⟨t,rfl⟩:=q';exact SeqAt.EqAt.tuple_str b t ht (by omega)
    |tup b=>exact absurd p0 Bool.false_ne_true
    |ref b=>exact absurd p0 Bool.false_ne_true
    |fz b=>exact absurd p0 Bool.false_ne_true
  ·have p0:=aB4 p (λxs e=>h1 ⟨xs,e⟩);by_cases h2:∃ys,d'=.tup ys
   ·obtain⟨ys,rfl⟩:=h2;obtain⟨a',us',rfl,sq',rs'⟩:=cJ r';obtain⟨its',rv',ht'⟩:=mE I sq';cases q';cases d with
    |non=>rw[eR r] at q;cases q;exact SeqAt.EqAt.none_tuple ht' (by omega)
    |bl b=>rw[cR r] at q;cases q;exact SeqAt.EqAt.bool_tuple b ht' (by omega)
    |int b=>rw[aV r] at q;obtain⟨t,rfl⟩:=q;exact SeqAt.EqAt.int_tuple b t ht' (by omega)
    |str b=>rw[cW r] at q;obtain⟨t,rfl⟩:=q;exact SeqAt.EqAt.str_tuple b t ht' (by omega)
    |tup b=>exact absurd p0 Bool.false_ne_true
    |ref b=>exact absurd p0 Bool.false_ne_true
    |fz b=>exact absurd p0 Bool.false_ne_true
   ·have p0':=aB4 p' (λxs e=>h2 ⟨xs,e⟩);have:=aHM (A:=A) (s:=s) q q' (zE (n:=0) r p0) (zE (n:=0) r' p0');rw[aHc p0 p0' r r'] at this;exact this
theorem aOh (I:Inv X pins σ H s){A:Around}(hu:A.units+60<cLine){d d':D}{v v':V}{u u':Value}(p:bB 60 d=true)(p':bB 60 d'=true)(r:Rep X.K H d v)(r':Rep X.K H d' v')(q:cT v u)(q':cT v' u') :
  SeqAt.RcAt A s u u' (eqD d d')/\SeqAt.RcNeAt A s u u' (!eqD d d'):=by
 have hu0:A.units<cLine:=by omega
 cases d with
 |ref b=>exact absurd p Bool.false_ne_true
 |fz b=>exact absurd p Bool.false_ne_true
 |tup xs =>
  obtain⟨a,us,rfl,sq,rs⟩:=cJ r;obtain⟨its,rv,ht⟩:=mE I sq;cases q;cases d' with
  |ref b=>exact absurd p' Bool.false_ne_true
  |fz b=>exact absurd p' Bool.false_ne_true
  |non=>rw[eR r'] at q';cases q';exact⟨SeqAt.RcAt.tuple_none ht hu0,SeqAt.RcNeAt.tuple_none ht hu0⟩
  |bl b=>rw[cR r'] at q';cases q';exact⟨SeqAt.RcAt.tuple_bool b ht hu0,SeqAt.RcNeAt.tuple_bool b ht hu0⟩
  |int b=>rw[aV r'] at q';obtain⟨t,rfl⟩:=q';exact⟨SeqAt.RcAt.tuple_int b t ht hu0,SeqAt.RcNeAt.tuple_int b t ht hu0⟩
  |str b=>rw[cW r'] at q';obtain⟨t,rfl⟩:=q';exact⟨SeqAt.RcAt.tuple_str b t ht hu0,SeqAt.RcNeAt.tuple_str b t ht hu0⟩
  |tup ys =>
   obtain⟨a',us',rfl,sq',rs'⟩:=cJ r';obtain⟨its',rv',ht'⟩:=mE I sq';cases q';have e1:=rs.length;have e2:=rv.length;have e3:=rs'.length;have e4:=rv'.length;have hit:∀j (h1:j<its.toArray.size) (h2:j<its'.toArray.size),SeqAt.EqAt A.in1 s its.toArray[j] its'.toArray[j] (yM xs ys j):=λj j1 j2=>by
    have hu':A.in1.units+59<cLine:=by show A.units+1+59<cLine;omega
    have:=wE (A:=A.in1) (s:=s) (λ{d d' v v' u u'} p p' r r' q q'=>aKK I 59 hu' p p' r r' q q') p p' rs rs' rv rv' j (by simpa using j1) (by simpa using j2);simpa using this
   have hz:eqD (.tup xs) (.tup ys)=((range (min its.toArray.size its'.toArray.size)).all (yM xs ys)&&its.toArray.size==its'.toArray.size):=by show pZ xs ys=_;rw[mH,show xs.length=its.toArray.size by rw[size_toArray];omega,show ys.length=its'.toArray.size by rw[size_toArray];omega]
   rw[hz];exact⟨SeqAt.RcAt.tuples ht ht' hu0 hit,SeqAt.RcNeAt.tuples ht ht' hu0 hit⟩
 |non =>
  rw[eR r] at q;cases q;cases d' with
  |ref b=>exact absurd p' Bool.false_ne_true
  |fz b=>exact absurd p' Bool.false_ne_true
  |non=>rw[eR r'] at q';cases q';exact⟨SeqAt.RcAt.none_none,SeqAt.RcNeAt.none_none⟩
  |bl b=>rw[cR r'] at q';cases q';exact⟨SeqAt.RcAt.none_bool b,SeqAt.RcNeAt.none_bool b⟩
  |int b=>rw[aV r'] at q';obtain⟨t,rfl⟩:=q';exact⟨SeqAt.RcAt.none_int b t,SeqAt.RcNeAt.none_int b t⟩
  |str b=>rw[cW r'] at q';obtain⟨t,rfl⟩:=q';exact⟨SeqAt.RcAt.none_str b t,SeqAt.RcNeAt.none_str b t⟩
  |tup ys =>
   obtain⟨a',us',rfl,sq',rs'⟩:=cJ r';obtain⟨its',rv',ht'⟩:=mE I sq';cases q';exact⟨SeqAt.RcAt.none_tuple ht' hu0,SeqAt.RcNeAt.none_tuple ht' hu0⟩
 |bl z =>
  rw[cR r] at q;cases q;cases d' with
  |ref b=>exact absurd p' Bool.false_ne_true
  |fz b=>exact absurd p' Bool.false_ne_true
  |non=>rw[eR r'] at q';cases q';exact⟨SeqAt.RcAt.bool_none z,SeqAt.RcNeAt.bool_none z⟩
  |bl b=>rw[cR r'] at q';cases q';exact⟨SeqAt.RcAt.bool_bool z b,SeqAt.RcNeAt.bool_bool z b⟩
  |int b=>rw[aV r'] at q';obtain⟨t,rfl⟩:=q';exact⟨SeqAt.RcAt.bool_int z b t,SeqAt.RcNeAt.bool_int z b t⟩
  |str b=>rw[cW r'] at q';obtain⟨t,rfl⟩:=q';exact⟨SeqAt.RcAt.bool_str z b t,SeqAt.RcNeAt.bool_str z b t⟩
  |tup ys =>
   obtain⟨a',us',rfl,sq',rs'⟩:=cJ r';obtain⟨its',rv',ht'⟩:=mE I sq';cases q';exact⟨SeqAt.RcAt.bool_tuple z ht' hu0,SeqAt.RcNeAt.bool_tuple z ht' hu0⟩
 |int z =>
  rw[aV r] at q;obtain⟨tz,rfl⟩:=q;cases d' with
  |ref b=>exact absurd p' Bool.false_ne_true
  |fz b=>exact absurd p' Bool.false_ne_true
  |non=>rw[eR r'] at q';cases q';exact⟨SeqAt.RcAt.int_none z tz,SeqAt.RcNeAt.int_none z tz⟩
  |bl b=>rw[cR r'] at q';cases q';exact⟨SeqAt.RcAt.int_bool z tz b,SeqAt.RcNeAt.int_bool z tz b⟩
  |int b=>rw[aV r'] at q';obtain⟨t,rfl⟩:=q';exact⟨SeqAt.RcAt.int_int z tz b t,SeqAt.RcNeAt.int_int z tz b t⟩
  |str b=>rw[cW r'] at q';obtain⟨t,rfl⟩:=q';exact⟨SeqAt.RcAt.int_str z tz b t,SeqAt.RcNeAt.int_str z tz b t⟩
  |tup ys =>
   obtain⟨a',us',rfl,sq',rs'⟩:=cJ r';obtain⟨its',rv',ht'⟩:=mE I sq';cases q';exact⟨SeqAt.RcAt.int_tuple z tz ht' hu0,SeqAt.RcNeAt.int_tuple z tz ht' hu0⟩
 |str z =>
  rw[cW r] at q;obtain⟨tz,rfl⟩:=q;cases d' with
  |ref b=>exact absurd p' Bool.false_ne_true
  |fz b=>exact absurd p' Bool.false_ne_true
  |non=>rw[eR r'] at q';cases q';exact⟨SeqAt.RcAt.str_none z tz,SeqAt.RcNeAt.str_none z tz⟩
  |bl b=>rw[cR r'] at q';cases q';exact⟨SeqAt.RcAt.str_bool z tz b,SeqAt.RcNeAt.str_bool z tz b⟩
  |int b=>rw[aV r'] at q';obtain⟨t,rfl⟩:=q';exact⟨SeqAt.RcAt.str_int z tz b t,SeqAt.RcNeAt.str_int z tz b t⟩
  |str b=>rw[cW r'] at q';obtain⟨t,rfl⟩:=q';exact⟨SeqAt.RcAt.str_str z tz b t,SeqAt.RcNeAt.str_str z tz b t⟩
  |tup ys =>
   obtain⟨a',us',rfl,sq',rs'⟩:=cJ r';obtain⟨its',rv',ht'⟩:=mE I sq';cases q';exact⟨SeqAt.RcAt.str_tuple z tz ht' hu0,SeqAt.RcNeAt.str_tuple z tz ht' hu0⟩
end
section
variable {X:Cx}{a b e o:Expr}{es:List Expr}{ta tb te to:DE}{t:DA}{pos:Pos}
def d2I (C:Int->Int->Prop)(g:Int->Int->D):D2:=λx y M Q=>match x,y with
 |.int i,.int j=>C i j/\Q (g i j) M
 |_,_=>False
def d2J (g:Int->Int->D):D2:=λx y M Q=>match x,y with
 |.int i,.int j=>Q (g i j) M
 |_,_=>False
theorem aJX {f:Value->Value->Sem Value}{C:Int->Int->Prop}{g:Int->Int->D}{g':Int->Int->V}(h:OpR X f (rI C g'))(hg:∀H i j,Rep X.K H (g i j) (g' i j)):OpD X f (d2I C g) :=
 OpD.of h λx y H M dx dy Q rx ry hm q=>by
  cases dx with
  |int i =>
   cases dy with
   |int j=>exact⟨i,j,aV rx,aV ry,q.1,_,M,hg H i j,hm,.refl H,q.2⟩
   |_=>exact q.elim
  |_=>exact q.elim
theorem aIo {f:Value->Value->Sem Value}{g:Int->Int->D}{g':Int->Int->V}(h:OpR X f (rI0 g'))(hg:∀H i j,Rep X.K H (g i j) (g' i j)):OpD X f (d2J g) :=
 OpD.of h λx y H M dx dy Q rx ry hm q=>by
  cases dx with
  |int i =>
   cases dy with
   |int j=>exact⟨i,j,aV rx,aV ry,_,M,hg H i j,hm,.refl H,q⟩
   |_=>exact q.elim
  |_=>exact q.elim
theorem jW:OpD X (binaryOp .Sub) (d2J λi j=>.int (i-j)):=aIo aMt λ_ _ _=>bU
theorem aJh:OpR X (binaryOp .Mult) (rI IntMulOk λi j=>.int (i*j)):=opI λ_ _ _ _ _ _ _ hc q=>mul_int q hc
theorem bN:OpD X (binaryOp .Mult) (d2I IntMulOk λi j=>.int (i*j)):=aJX aJh λ_ _ _=>bU
def CFd (i j:Int):Prop:=j≠0/\j.natAbs.log2<9000
theorem aNN:OpR X (binaryOp .FloorDiv) (rI CFd λi j=>.int (i.fdiv j)):=opI λ_ _ _ _ _ _ _ hc q=>floordiv_int hc.1 q (.inl (PyProof.noPylong_of_log2 hc.2))
theorem dZ:OpD X (binaryOp .FloorDiv) (d2I CFd λi j=>.int (i.fdiv j)):=aJX aNN λ_ _ _=>bU
theorem cZ:OpD X (binaryOp .Mod) (d2I (λ_ j=>j≠0) λi j=>.int (i.fmod j)):=aJX aJ4 λ_ _ _=>bU
theorem aAO:OpD X (binaryOp .Pow) (d2I aO8 λi j=>.int (i^j.toNat)):=aJX aNF λ_ _ _=>bU
theorem kH:OpD X (compareOp .Lt) (d2J λi j=>.bl (decide (i<j))):=aIo aOa λ_ _ _=>eW
theorem sZ:OpD X (compareOp .LtE) (d2J λi j=>.bl (decide (i<=j))):=aIo aOG λ_ _ _=>eW
theorem gA:OpD X (compareOp .Gt) (d2J λi j=>.bl (decide (j<i))):=aIo aPj λ_ _ _=>eW
theorem aIE:OpD X (compareOp .GtE) (d2J λi j=>.bl (decide (j<=i))):=aIo aPH λ_ _ _=>eW
def aOt:D2:=λx y M Q=>match x,y with
 |.int i,.int j=>Q (.int (i+j)) M
 |.ref a,.ref b=>∃xs ys,M a=some xs/\M b=some ys/\xs.length+ys.length<=1000/\∀p:Addr,M p=none->Q (.ref p) (bK M p (xs++ys))
 |.fz xs,.ref b=>∃ys,M b=some ys/\xs.length+ys.length<=1000/\∀p:Addr,M p=none->Q (.ref p) (bK M p (xs++ys))
 |.tup xs,.tup ys=>xs≠[]/\ys≠[]/\xs.length+ys.length<=1000/\Q (.tup (xs++ys)) M
 |_,_=>False
theorem aH2 {pins:List (Addr×Obj)}{σ:L2.St}{H:Hp}{s:Shared}(I:Inv X pins σ H s){a:Addr}{xs:List V}(h:SqX X.K H a xs):xs.length<=sizeLine/\∃(its:List Value)(n:Nat),cG xs its/\s.heap.get? a = some { cls:=.type "list",data:=.seq its.toArray n }:=by
 rcases h with⟨o,h⟩|⟨its,n,hk,hz,r⟩
 ·obtain⟨_,z,its,n,r,e⟩:=I.hok a _ h;exact⟨z,its,n,r,e⟩
 ·have e:=r.length;simp only[Array.length_toList] at e;exact⟨by omega,its.toList,n,r,by simpa using I.kIn a _ hk⟩
theorem cB:OpD X (binaryOp .Add) aOt:=by
 intro pins s σ H x y v u Q I rx ry ⟨dx,dy,M,Q',r1,r2,hm,q,k⟩;cases dx with
 |int i =>
  cases dy with
  |int j=>exact aM7 pins s σ H x y v u Q I rx ry ⟨i,j,aV r1,aV r2,k _ H ⟨_,M,bU,hm,.refl H,q⟩⟩
  |_=>exact q.elim
 |ref a =>
  cases dy with
  |ref b =>
   obtain⟨xs,ys,ha,hb,hl,q⟩:=q;obtain⟨us,hu,ru⟩:=hm.l a xs ha;obtain⟨ws,hw,rw'⟩:=hm.l b ys hb;refine aLw pins s σ H x y v u Q I rx ry ⟨a,b,us,ws,bO r1,bO r2,hu,hw,?_,λp hp=>k _ _ ⟨.ref p,_,kR,hm.lnew hp (ru.append rw'),Ext.new hp _,q p (hm.fresh hp)⟩⟩;rw[<- ru.length,<- rw'.length];exact Nat.le_of_lt (fZ hl)
  |_=>exact q.elim
 |fz xs =>
  cases dy with
  |ref b =>
   obtain⟨ys,hb,hl,q⟩:=q;obtain⟨a,us,rfl,sq,ru⟩:=rT r1;obtain⟨ws,hw,rw'⟩:=hm.l b ys hb;obtain rfl:=bO r2;cases rx;cases ry;obtain⟨z,its,n,r,e⟩:=aH2 I sq;obtain⟨z2,its2,n2,r3,hl2,e2⟩:=I.lstM hw;have l1:=r.length;have l2:=r3.length;have l3:=ru.length;have l4:=rw'.length;have hz:=fZ hl;refine PySem.P.add_list e e2 ?_ (by rw[size_toArray,size_toArray];omega);have ea:its.toArray++its2.toArray=(its++its2).toArray:=by simp
   rw[ea];refine⟨.ref _,_,I.lnew (t':=s.toks) (r.append r3) (by rw[length_append];omega),rfl,k _ _ ⟨.ref _,_,kR,hm.lnew I.fresh (ru.append rw'),Ext.new I.fresh _,q _ (hm.fresh I.fresh)⟩⟩
  |_=>exact q.elim
 |tup xs =>
  cases dy with
  |tup ys =>
   obtain⟨h1,h2,hl,q⟩:=q;obtain⟨a,us,rfl,sq,ru⟩:=cJ r1;obtain⟨b,ws,rfl,sq2,rw'⟩:=cJ r2;have l3:=ru.length;have l4:=rw'.length;refine aFD pins s σ H _ _ v u Q I rx ry ?_;have n1:us≠[]:=λz=>by rw[z] at l3;exact h1 (List.length_eq_zero_iff.mp l3)
   have n2:ws≠[]:=λz=>by rw[z] at l4;exact h2 (List.length_eq_zero_iff.mp l4)
   exact⟨a,b,us,ws,rfl,rfl,sq,sq2,n1,by rw[<- l3,<- l4];exact Nat.le_of_lt (fZ hl),λz=>absurd z n2,λ_ p hp=>k _ _ ⟨.tup _,M,cH (.of dN) ((ru.append rw').ext (Ext.new hp _)),hm.new hp _,Ext.new hp _,q⟩⟩
  |_=>exact q.elim
 |_=>exact q.elim
def dEq (g:Bool->Bool):D2:=λx y M Q=>match x,y with
 |.ref a,.ref b=>∃xs ys,M a=some xs/\M b=some ys/\(a≠b)/\xs.all (bB 59)=true/\ys.all (bB 59)=true/\Q (.bl (g (pZ xs ys))) M
 |x,y=>bB 60 x=true/\bB 60 y=true/\Q (.bl (g (eqD x y))) M
theorem aIc {pins:List (Addr×Obj)}{σ:L2.St}{H:Hp}{s:Shared}(I:Inv X pins σ H s){A:Around}(hu:A.units+60<cLine){a b:Addr}{us ws:List V}{xs ys:List D}(ha:H a=some (.lst us))(hb:H b=some (.lst ws))(ru:cA X.K H xs us)(rw':cA X.K H ys ws)(p:xs.all (bB 59)=true)(p':ys.all (bB 59)=true):SeqAt.RcAt A s (.ref a) (.ref b) (pZ xs ys)/\SeqAt.RcNeAt A s (.ref a) (.ref b) (!pZ xs ys):=by
 obtain⟨z,its,n,r,hl,e⟩:=I.lstM ha;obtain⟨z2,its2,n2,r3,hl2,e2⟩:=I.lstM hb;have i1:s.heap.IsList a its.toArray:=⟨_,e,rfl,_,rfl⟩;have i2:s.heap.IsList b its2.toArray:=⟨_,e2,rfl,_,rfl⟩;have l3:=ru.length;have l4:=rw'.length;have hu0:A.units<cLine:=by omega
 by_cases hz:its.toArray.size=its2.toArray.size
 ·have hz':=hz;rw[size_toArray,size_toArray] at hz';have hit:∀j (h1:j<its.toArray.size) (h2:j<its2.toArray.size),SeqAt.EqAt A.in1 s its.toArray[j] its2.toArray[j] (yM xs ys j):=λj j1 j2=>by
   have hu':A.in1.units+59<cLine:=by show A.units+1+59<cLine;omega
   have:=wE (A:=A.in1) (s:=s) (λ{d d' v v' u u'} p p' r r' q q'=>aKK I 59 hu' p p' r r' q q') p p' ru rw' r r3 j (by simpa using j1) (by simpa using j2);simpa using this
  have hz2:pZ xs ys=(range its.toArray.size).all (yM xs ys):=by rw[mH,show min xs.length ys.length=its.toArray.size by rw[size_toArray];omega,show(xs.length==ys.length)=true by simp;omega,Bool.and_true]
  rw[hz2];exact⟨SeqAt.RcAt.lists i1 i2 hz hu0 hit,SeqAt.RcNeAt.lists i1 i2 hz hu0 hit⟩
 ·have hz':=hz;rw[size_toArray,size_toArray] at hz';have hz2:pZ xs ys=false:=by rw[mH,show(xs.length==ys.length)=false by simp;omega,Bool.and_false]
  rw[hz2];exact⟨SeqAt.RcAt.lists_lengths i1 i2 (by simpa using hz) hu0,SeqAt.RcNeAt.lists_lengths i1 i2 (by simpa using hz) hu0⟩
theorem aHa (hu:X.A.units+60<cLine):OpD X (compareOp .Eq) (dEq id)/\OpD X (compareOp .NotEq) (dEq not):=by
 have key:∀{pins:List (Addr×Obj)}{s:Shared} {σ:L2.St} {H:Hp} {x y:V} {v u:Value} {dx dy:D} {M:DM} {Q':DQ} {g:Bool->Bool},Inv X pins σ H s->cT x v->cT y u->Rep X.K H dx x->Rep X.K H dy y->cI X.K M H->dEq g dx dy M Q' ->
   ∃b,SeqAt.RcAt X.A s v u b/\SeqAt.RcNeAt X.A s v u (!b)/\Q' (.bl (g b)) M:=by
  intro pins s σ H x y v u dx dy M Q' g I rx ry r1 r2 hm q;have gen:bB 60 dx=true->bB 60 dy=true->Q' (.bl (g (eqD dx dy))) M->∃b,SeqAt.RcAt X.A s v u b/\SeqAt.RcNeAt X.A s v u (!b)/\Q' (.bl (g b)) M:=λp p' q=>let ⟨h1,h2⟩:=aOh I hu p p' r1 r2 rx ry;⟨_,h1,h2,q⟩
  cases dx with
  |ref a =>
   cases dy with
   |ref b =>
    obtain⟨xs,ys,ha,hb,_,p,p',q⟩:=q;obtain⟨us,hu',ru⟩:=hm.l a xs ha;obtain⟨ws,hw,rw'⟩:=hm.l b ys hb;obtain rfl:=bO r1;obtain rfl:=bO r2;cases rx;cases ry;obtain⟨h1,h2⟩:=aIc I hu hu' hw ru rw' p p';exact⟨_,h1,h2,q⟩
   |_=>exact gen q.1 q.2.1 q.2.2
  |_=>exact gen q.1 q.2.1 q.2.2
 refine⟨λpins s σ H x y v u Q I rx ry ⟨dx,dy,M,Q',r1,r2,hm,q,k⟩=>?_,λpins s σ H x y v u Q I rx ry ⟨dx,dy,M,Q',r1,r2,hm,q,k⟩=>?_⟩
 ·obtain⟨b,h1,_,q⟩:=key I rx ry r1 r2 hm q;exact h1 X.prog X.w X.xe _ ⟨.bl b,H,I,rfl,k _ H ⟨.bl b,M,eW,hm,.refl H,q⟩⟩
 ·obtain⟨b,_,h2,q⟩:=key I rx ry r1 r2 hm q;exact h2 X.prog X.w X.xe _ ⟨.bl (!b),H,I,rfl,k _ H ⟨.bl (!b),M,eW,hm,.refl H,q⟩⟩
theorem cD {k:Nat}(hr:eB k X.A):OpD X (compareOp .Eq) (dEq id):=(aHa (by have:=hr.un;omega)).1
theorem qG {k:Nat}(hr:eB k X.A):OpD X (compareOp .NotEq) (dEq not):=(aHa (by have:=hr.un;omega)).2
def aMb (ta:DE):DE:=λρ M Q=>ta ρ M λx M1=>match x with
 |.int i=>Q (.int (-i)) M1
 |_=>False
theorem aLB (ha:PDE X a ta):PDE X (.UnaryOp .USub a pos) (aMb ta) :=
 cY (aPZ aNJ ha) λσ H Q ⟨ρ,M,Q',re,hm,q,k⟩=>⟨ρ,M,_,re,hm,q,λx H1 ⟨d,M1,rd,hm1,ex,q1⟩=>by
  cases d with
  |int i=>exact⟨i,aV rd,k _ H1 ⟨_,M1,bU,hm1,ex,q1⟩⟩
  |_=>exact q1.elim⟩
def nK:D2:=λx y M Q=>match x,y with
 |.tup ds,.int i=>match atI ds i with
  |some d=>Q d M
  |none=>False
 |.fz ds,.int i=>match atI ds i with
  |some d=>Q d M
  |none=>False
 |.ref a,.int i=>∃ds d,M a=some ds/\atI ds i=some d/\Q d M
 |_,_=>False
theorem zW {K:Frag}{H:Hp}{ds:List D}{xs:List V}{i:Int}{d:D}(r:cA K H ds xs)(h:atI ds i=some d):∃v,atI xs i=some v/\Rep K H d v:=by
 unfold atI at h ⊢;rw[<- r.length];cases e:ixN ds.length i with
 |none=>rw[e] at h;cases h
 |some j =>
  rw[e] at h;exact r.get h
theorem ixd:IxR X λx y H Q=>∃dx dy M Q',Rep X.K H dx x/\Rep X.K H dy y/\cI X.K M H/\nK dx dy M Q'/\∀v H',LQ X.K H Q' v H'->Q v H':=by
 intro value slice pins s σ H x y v u Q I rx ry ⟨dx,dy,M,Q',r1,r2,hm,q,k⟩ hs;cases dx with
 |tup ds =>
  cases dy with
  |int i =>
   obtain⟨a,us,rfl,sq,ru⟩:=cJ r1;obtain rfl:=aV r2;cases e:atI ds i with
   |none=>exact absurd q (by show ¬(match atI ds i with|some d=>Q' d M|none=>False);rw[e];exact id)
   |some d =>
    have q':Q' d M:=by have z:(match atI ds i with|some d=>Q' d M|none=>False):=q;rw[e] at z;exact z
    obtain⟨w,hw,rw'⟩:=zW ru e;exact aL8 value slice pins s σ H _ _ v u Q I rx ry ⟨a,us,i,w,rfl,rfl,sq,hw,k _ H ⟨d,M,rw',hm,.refl H,q'⟩⟩ hs
  |_=>exact q.elim
 |fz ds =>
  cases dy with
  |int i =>
   obtain⟨a,us,rfl,sq,ru⟩:=rT r1;obtain rfl:=aV r2;cases e:atI ds i with
   |none=>exact absurd q (by show ¬(match atI ds i with|some d=>Q' d M|none=>False);rw[e];exact id)
   |some d =>
    have q':Q' d M:=by have z:(match atI ds i with|some d=>Q' d M|none=>False):=q;rw[e] at z;exact z
    obtain⟨w,hw,rw'⟩:=zW ru e;exact aFb value slice pins s σ H _ _ v u Q I rx ry ⟨a,us,i,w,rfl,rfl,sq.sq,hw,k _ H ⟨d,M,rw',hm,.refl H,q'⟩⟩ hs
  |_=>exact q.elim
 |ref a =>
  cases dy with
  |int i =>
   obtain⟨ds,d,ha,e,q'⟩:=q;obtain rfl:=bO r1;obtain rfl:=aV r2;obtain⟨us,hu,ru⟩:=hm.l a ds ha;obtain⟨w,hw,rw'⟩:=zW ru e;exact aFb value slice pins s σ H _ _ v u Q I rx ry ⟨a,us,i,w,rfl,rfl,.of hu,hw,k _ H ⟨d,M,rw',hm,.refl H,q'⟩⟩ hs
  |_=>exact q.elim
 |_=>exact q.elim
theorem aPo (ha:PDE X a ta)(hb:PDE X b tb)(hs:uZ b:=by exact λ_ _=>rfl):PDE X (.Subscript a b pos) (dOp nK ta tb) :=
 cY (aOW ixd ha hb hs) λσ H Q h=>aCy (λ_ _ _ _ z=>z) h
abbrev DO:=cO->DM->(Option Int->DM->Prop)->Prop
def aAl (K:Frag)(t:DO):TO:=λσ H Q=>∃ρ M Q',gY K H ρ σ/\cI K M H/\t ρ M Q'/\∀i H',(∃M',cI K M' H'/\Ext H H'/\Q' i M')->Q i H'
noncomputable def aNL:DO:=λ_ M Q=>Q none M
noncomputable def dPt (t:DE):DO:=λρ M Q=>t ρ M λx M1=>match x with
 |.int i=>Q (some i) M1
 |_=>False
theorem aJa:PO X none (aAl X.K aNL):=λpins s σ H Q I ⟨ρ,M,Q',re,hm,q,k⟩=>aKj pins s σ H Q I (k none H ⟨M,hm,.refl H,q⟩)
theorem aI7 (h:PDE X e te):PO X (some e) (aAl X.K (dPt te)):=λpins s σ H Q I ⟨ρ,M,Q',re,hm,q,k⟩=>aKo h pins s σ H Q I ⟨ρ,M,_,re,hm,q,λv H1 ⟨d,M1,rd,hm1,ex,q1⟩=>by
 cases d with
 |int i=>exact⟨i,aV rd,k (some i) H1 ⟨M1,hm1,ex,q1⟩⟩
 |_=>exact q1.elim⟩
noncomputable def cutD (xs:List D)(lo hi:Option Int):List D:=(xs.drop (HT.sIx xs.length 0 lo)).take (HT.sIx xs.length xs.length hi-HT.sIx xs.length 0 lo)
theorem vI {K:Frag}{H:Hp}{ds:List D}{xs:List V}(r:cA K H ds xs)(lo hi:Option Int):cA K H (cutD ds lo hi) (aDY xs lo hi):=by unfold cutD aDY;rw[r.length];exact(r.drop _).take _
def aPa (x:D)(lo hi:Option Int)(M:DM)(Q:DQ):Prop:=match x with
 |.fz ds=>∀p:Addr,M p=none->Q (.ref p) (bK M p (cutD ds lo hi))
 |.ref a=>∃ds,M a=some ds/\∀p:Addr,M p=none->Q (.ref p) (bK M p (cutD ds lo hi))
 |_=>False
def dSl (te:DE)(tl th:DO):DE:=λρ M Q=>te ρ M λx M1=>tl ρ M1 λl M2=>th ρ M2 λh M3=>aPa x l h M3 Q
variable {lo hi:Option Expr}{tl th:DO}{p2:Pos}
theorem aHT (he:PDE X e te)(hl:PO X lo (aAl X.K tl))(hu:PO X hi (aAl X.K th)):PDE X (.Subscript e (.Slice lo hi none p2) pos) (dSl te tl th) :=
 cY (aAe aJS he hl hu) λσ H Q ⟨ρ,M,Q',re,hm,q,k⟩=>⟨ρ,M,_,re,hm,q,λv H1 ⟨d,M1,rd,hm1,e1,q1⟩=>⟨ρ,M1,_,re.ext e1,hm1,q1,λl H2 ⟨M2,hm2,e2,q2⟩=>⟨ρ,M2,_,(re.ext e1).ext e2,hm2,q2,λh H3 ⟨M3,hm3,e3,q3⟩=>by
  have rd3:=(rd.ext e2).ext e3;have ex:=(e1.trans e2).trans e3;cases d with
  |fz ds =>
   obtain⟨a,us,rfl,sq,ru⟩:=rT rd3;exact⟨a,us,rfl,sq.sq,λp hp=>k _ _ ⟨.ref p,_,kR,hm3.lnew hp (vI ru l h),ex.trans (Ext.new hp _),q3 p (hm3.fresh hp)⟩⟩
  |ref a =>
   obtain⟨ds,ha,q3⟩:=q3;obtain rfl:=bO rd;obtain⟨us,hu,ru⟩:=hm3.l a ds ha;exact⟨a,us,rfl,.of hu,λp hp=>k _ _ ⟨.ref p,_,kR,hm3.lnew hp (vI ru l h),ex.trans (Ext.new hp _),q3 p (hm3.fresh hp)⟩⟩
  |_=>exact q3.elim⟩⟩⟩
abbrev DSp:=List D->DM->DQ->Prop
def rC (K:Frag)(sp:DSp):Sp:=λvs H Q _=>∃ds M Q',cA K H ds vs/\cI K M H/\sp ds M Q'/\∀v H',LQ K H Q' v H'->Q v H'
def qI (sp:DSp)(t:DA):DE:=λρ M Q=>t ρ M λds M1=>sp ds M1 Q
variable {CX:CXT}{k:Nat}{f:Addr}{fd:FuncData}{ps:List Str}{sp:DSp}{E:XK}{x:Str}{p:Pos}
theorem aJw (F:lP X.prog X.w X.K X.mg X.base CX k f fd ps (rC X.K sp))(hr:eB k X.A)(hm:X.mg x=some (.ref f))(hk:keepIn X.K (.ref f)=true)(hb:nW X.K fd ps [])(hx:wK CX X E)(ha:PDA X (e::es) t)(hg:Gl X x:=by rfl)(hdb:(x==("__debug__":Str))=false:=by decide)(he:starEach (e::es) X.env=(false,eval e X.env)::starEach es X.env:=by rfl)(hpl:(backTo pos (starEach es X.env)).any (·.1)=false:=by rfl) :
  PDE X (.Call (.Name x p) (e::es) [] pos) (qI sp t) :=
 cY (aKq F hr hg hm hk hb .nil hx ha hdb he hpl) λσ H Q ⟨ρ,M,Q',re,hm,q,k⟩=>⟨ρ,M,_,re,hm,q,λvs H1 ⟨ds,M1,rs,hm1,ex,q1⟩=>⟨ds,M1,Q',by rw[append_nil];exact rs,hm1,q1,λv H' z=>k v H' (z.back ex)⟩⟩
theorem aIn (F:lP X.prog X.w X.K X.mg X.base CX k f fd ps (rC X.K sp))(hr:eB k X.A)(hm:X.mg x=some (.ref f))(hk:keepIn X.K (.ref f)=true)(hb:nW X.K fd ps [])(hx:wK CX X E)(hg:Gl X x:=by rfl)(hdb:(x==("__debug__":Str))=false:=by decide):PDE X (.Call (.Name x p) [] [] pos) (qI sp pT) :=
 cY (aIC F hr hg hm hk hb .nil hx hdb) λσ H Q ⟨ρ,M,Q',re,hm,q,k⟩=>⟨[],M,Q',dG,hm,q,k⟩
def jI (X:Cx)(fv:Value)(r:DSp):Prop:=mV X fv λvs H Q=>∃ds M Q',cA X.K H ds vs/\cI X.K M H/\r ds M Q'/\∀v H',LQ X.K H Q' v H'->Q v H'
theorem jI.of {fv:Value}{r:List V->Hp->VK->Prop}{r':DSp}(h:mV X fv r)(l:∀vs H M ds Q,cA X.K H ds vs->cI X.K M H->r' ds M Q->r vs H (LQ X.K H Q)):jI X fv r':=λpins s σ H xs us Q I rs ⟨ds,M,Q',r1,hm,q,k⟩ =>
 thn (h pins s σ H xs us _ I rs (l xs H M ds Q' r1 hm q)) λv s h=>aFq h k
theorem aHP {r:DSp}{σ:L2.St}{H:Hp}{Q:VK}(h:low X.K (qI r t) σ H Q):aOT X.K t σ H λvs H1=>∃ds M Q',cA X.K H1 ds vs/\cI X.K M H1/\r ds M Q'/\∀v H',LQ X.K H1 Q' v H'->Q v H':=by obtain⟨ρ,M,Q',re,hm,q,k⟩:=h;exact⟨ρ,M,_,re,hm,q,λvs H1 ⟨ds,M1,rs,hm1,ex,q1⟩=>⟨ds,M1,Q',rs,hm1,q1,λv H' z=>k v H' (z.back ex)⟩⟩
theorem aGH {id:String}{r:DSp}(hc:jI X (.builtin id) r)(hm:X.mg x = none)(ha:PDA X (e :: es) t)(hv:bootBuiltins x = some (.builtin id):=by rfl)(hg:Gl X x:=by rfl)(hn:x ≠ "__name__":=by decide)(hdb:(x==("__debug__":Str))=false:=by decide)(he:starEach (e::es) X.env=(false,eval e X.env)::starEach es X.env:=by rfl)(hpl:(backTo pos (starEach es X.env)).any (·.1)=false:=by rfl):PDE X (.Call (.Name x p) (e::es) [] pos) (qI r t) :=
 cY (uY hc hg hm hv ha hn hdb he hpl) λσ H Q h=>aHP h
theorem aGm {T:String}{r:DSp}(hc:jI X (.type T) r)(hm:X.mg x = none)(ha:PDA X (e :: es) t)(hv:bootBuiltins x = some (.type T):=by rfl)(hg:Gl X x:=by rfl)(hn:x ≠ "__name__":=by decide)(hdb:(x==("__debug__":Str))=false:=by decide)(he:starEach (e::es) X.env=(false,eval e X.env)::starEach es X.env:=by rfl)(hpl:(backTo pos (starEach es X.env)).any (·.1)=false:=by rfl):PDE X (.Call (.Name x p) (e::es) [] pos) (qI r t) :=
 cY (aGB hc hg hm hv ha hn hdb he hpl) λσ H Q h=>aHP h
end
section
variable {X:Cx}{a b e o:Expr}{es:List Expr}{ta tb te to:DE}{t:DA}{pos:Pos}
def aPi:DSp:=λds M Q=>match ds with
 |[.int i]=>Q (.int (if i<0 then -i else i)) M
 |_=>False
theorem jD {K:Frag}{H:Hp}{d:D}{vs:List V}(h:cA K H [d] vs):∃v,vs=[v]/\Rep K H d v:=by obtain⟨v,r,rfl,rv,rr⟩:=aZ h;obtain rfl:=bY rr;exact⟨v,rfl,rv⟩
theorem aLE {K:Frag}{H:Hp}{d d2:D}{vs:List V}(h:cA K H [d,d2] vs):∃v v2,vs=[v,v2]/\Rep K H d v/\Rep K H d2 v2:=by obtain⟨v,r,rfl,rv,rr⟩:=aZ h;obtain⟨v2,rfl,rv2⟩:=jD rr;exact⟨v,v2,rfl,rv,rv2⟩
theorem aAu:jI X (.builtin "abs") aPi:=jI.of aIp λvs H M ds Q rs hm q=>by
 rcases ds with _|⟨d,_|⟨d2,r⟩⟩
 ·exact q.elim
 ·cases d with
  |int i =>
   obtain⟨v,rfl,rv⟩:=jD rs;obtain rfl:=aV rv;exact⟨i,rfl,_,M,bU,hm,.refl H,q⟩
  |_=>exact q.elim
 ·cases d<;>exact q.elim
def aPd:DSp:=λds M Q=>match ds with
 |[.int i]=>Q (.int i) M
 |[.bl k]=>Q (.int (if k then 1 else 0)) M
 |_=>False
theorem tJ:jI X (.type "int") aPd:=jI.of aGr λvs H M ds Q rs hm q=>by
 rcases ds with _|⟨d,_|⟨d2,r⟩⟩
 ·exact q.elim
 ·cases d with
  |int i =>
   obtain⟨v,rfl,rv⟩:=jD rs;obtain rfl:=aV rv;exact .inl ⟨i,rfl,_,M,bU,hm,.refl H,q⟩
  |bl i =>
   obtain⟨v,rfl,rv⟩:=jD rs;obtain rfl:=cR rv;exact .inr ⟨i,rfl,_,M,bU,hm,.refl H,q⟩
  |_=>exact q.elim
 ·cases d<;>exact q.elim
def vE:DSp:=λds M Q=>match ds with
 |[.tup xs]=>Q (.int xs.length) M
 |[.fz xs]=>Q (.int xs.length) M
 |[.ref a]=>∃xs,M a=some xs/\Q (.int xs.length) M
 |_=>False
theorem eJ:jI X (.builtin "len") vE:=jI.of aCO λvs H M ds Q rs hm q=>by
 rcases ds with _|⟨d,_|⟨d2,r⟩⟩
 ·exact q.elim
 ·cases d with
  |tup xs =>
   obtain⟨v,rfl,rv⟩:=jD rs;obtain⟨a,us,rfl,sq,ru⟩:=cJ rv;exact⟨a,us,rfl,.inr sq,_,M,by rw[<- ru.length];exact bU,hm,.refl H,q⟩
  |fz xs =>
   obtain⟨v,rfl,rv⟩:=jD rs;obtain⟨a,us,rfl,sq,ru⟩:=rT rv;exact⟨a,us,rfl,.inl sq.sq,_,M,by rw[<- ru.length];exact bU,hm,.refl H,q⟩
  |ref a =>
   obtain⟨v,rfl,rv⟩:=jD rs;obtain rfl:=bO rv;obtain⟨xs,ha,q⟩:=q;obtain⟨us,hu,ru⟩:=hm.l a xs ha;exact⟨a,us,rfl,.inl (.of hu),_,M,by rw[<- ru.length];exact bU,hm,.refl H,q⟩
  |_=>exact q.elim
 ·cases d<;>exact q.elim
def aL9:DSp:=λds M Q=>match ds with
 |[.tup xs]=>Q (.tup xs) M
 |[.ref a]=>∃xs,M a=some xs/\Q (.tup xs) M
 |_=>False
theorem rE:jI X (.type "tuple") aL9:=jI.of aBm λvs H M ds Q rs hm q=>by
 rcases ds with _|⟨d,_|⟨d2,r⟩⟩
 ·exact q.elim
 ·cases d with
  |tup xs =>
   obtain⟨v,rfl,rv⟩:=jD rs;obtain⟨a,us,rfl,sq,ru⟩:=cJ rv;exact⟨a,us,rfl,.inr ⟨sq,_,M,cH sq ru,hm,.refl H,q⟩⟩
  |ref a =>
   obtain⟨v,rfl,rv⟩:=jD rs;obtain rfl:=bO rv;obtain⟨xs,ha,q⟩:=q;obtain⟨us,hu,ru⟩:=hm.l a xs ha;exact⟨a,us,rfl,.inl ⟨.of hu,λp hp=>⟨.tup xs,M,cH (.of dN) (ru.ext (Ext.new hp _)),hm.new hp _,Ext.new hp _,q⟩⟩⟩
  |_=>exact q.elim
 ·cases d<;>exact q.elim
def aDe (to te:DE):DE:=λρ M Q=>to ρ M λx M1=>match x with
 |.ref p=>(∃ds,M1 p=some ds)/\kZ te pT ρ M1 λys M2=>∃ds y,ys=[y]/\M2 p=some ds/\ds.length<1000/\Q .non (bK M2 p (ds++[y]))
 |_=>False
theorem aFW {apos cpos:Pos}(ho:PDE X o to)(he:PDE X e te)(hse:starEach [e] X.env=(false,eval e X.env)::starEach [] X.env:=by rfl)(hbase:attributeBase o "append" X.env (eval o X.env)=eval o X.env:=by rfl)(hfew:((backTo cpos (starEach [e] X.env)).all (λx=>!x.1)&&(backToKw cpos (keywordEach [] X.env)).all (λx=>x.1.isSome)
  &&decide ([e].length+([]:List Keyword).length+(if ([]:List Keyword).isEmpty then 0 else 1)<30))=true:=by rfl)(hline:(apos.endLine==cpos.line)=true:=by rfl)(hplain:(backTo cpos (starEach [] X.env)).any (·.1)=false:=by rfl) :
  PDE X (.Call (.Attribute o "append" apos) [e] [] cpos) (aDe to te) :=
 cY (aOP PySem.F.plainAttrs_list PySem.F.slot_list_append PySem.F.type_list_append aF8 ho (zL he aCG hse) hbase hfew hline hse hplain) λσ H Q ⟨ρ,M,Q',re,hm,q,k⟩=>⟨ρ,M,_,re,hm,q,λv H1 ⟨d,M1,rd,hm1,e1,q1⟩=>by
  cases d with
  |ref p =>
   obtain rfl:=bO rd;obtain⟨⟨ds0,h0⟩,q1⟩:=q1;obtain⟨us0,hu0,_⟩:=hm1.l p ds0 h0;refine⟨.inl ⟨rfl,us0,.of hu0⟩,ρ,M1,_,re.ext e1,hm1,q1,λvs H2 ⟨dvs,M2,rs,hm2,e2,ds,y,ey,hp,hl,q2⟩=>?_⟩;subst ey;obtain⟨w,rfl,rw'⟩:=jD rs;obtain⟨us,hu,ru⟩:=hm2.l p ds hp;exact⟨p,us,w,rfl,rfl,hu,by rw[<- ru.length];exact fZ (Nat.le_of_lt hl),k _ _ ⟨.non,_,zB,hm2.put hu (ru.append (cK rw' dG)),(e1.trans e2).trans (Ext.put hu _),q2⟩⟩
  |_=>exact q1.elim⟩
noncomputable def tyD:D->Option String
 |.non=>some "NoneType"
 |.bl _=>some "bool"
 |.int _=>some "int"
 |.str _=>some "str"
 |.tup _=>some "tuple"
 |.fz _=>some "list"
 |.ref _=>none
theorem tyT {K:Frag}{H:Hp}{s:Shared}{pins:List (Addr×Obj)}{σ:L2.St}(I:Inv X pins σ H s){a:Addr}{xs:List V}(sq:SqT X.K H a xs):∃o,s.heap.get? a = some o/\o.cls = .type "tuple":=by obtain⟨its,_,⟨o,h1,h2,_⟩,_⟩:=I.tuple sq;exact⟨o,h1,h2⟩
theorem aO0 {K:Frag}{H:Hp}{s:Shared}{pins:List (Addr×Obj)}{σ:L2.St}{A:Around}{E:Value->Shared->Prop}{Q:Value->Shared->Prop}{c:Value}{d:D}{v:V}{u:Value}{T:String}{k:Bool}(I:Inv X pins σ H s)(rd:Rep X.K H d v)(rv:cT v u)(ty:tyD d=some T)(e:kitOne X.K (.type T) c = some k)(h:∀tk,Q (.bool k) { s with toks:=tk }):wpAny (model X.prog X.w) A (call (.builtin "isinstance") [u,c]) Q E s:=by
 cases d with
 |non=>cases ty;rw[eR rd] at rv;exact nY I rv (.non) e h
 |bl b=>cases ty;rw[cR rd] at rv;exact nY I rv (.bl b) e h
 |int b=>cases ty;rw[aV rd] at rv;exact nY I rv (.int b) e h
 |str b=>cases ty;rw[cW rd] at rv;exact nY I rv (.str b) e h
 |ref b=>cases ty
 |tup b =>
  cases ty;obtain⟨a,us,rfl,sq,ru⟩:=cJ rd;cases rv;obtain⟨o,h1,h2⟩:=tyT (K:=K) I sq;exact kia_one PySem.W.kitx_tuple I.kIn ⟨o,h1,h2⟩ e (λz=>nomatch z) h
 |fz b =>
  cases ty;obtain⟨a,us,rfl,sq,ru⟩:=rT rd;cases rv;obtain⟨z,its,n,r,e1⟩:=aH2 I sq;exact kia_one kitx_list I.kIn ⟨_,e1,rfl⟩ e (λz=>nomatch z) h
def dIs (K:Frag)(c:Value)(te:DE):DE:=λρ M Q=>te ρ M λd M1=>(∃T k,tyD d = some T/\kitOne K (.type T) c = some k/\Q (.bl k) M1)∨(∃(p:Addr)(xs:List D) (k:Bool),d = .ref p/\M1 p = some xs/\kitOne K (.type "list") c=some k/\Q (.bl k) M1)
theorem aJJ {T:String}{x:Str}{p p2:Pos}(he:PDE X e te)(hm:X.mg "isinstance" = none)(hmx:X.mg x = none)(hv:bootBuiltins x = some (.type T):=by rfl)(hg:Gl X "isinstance":=by rfl)(hgx:Gl X x:=by rfl)(hn:x ≠ "__name__":=by decide)(hdb:(x==("__debug__":Str))=false:=by decide)(hse:starEach [e,.Name x p2] X.env=(false,eval e X.env)::starEach [.Name x p2] X.env:=by rfl)(hse2:starEach [.Name x p2] X.env=(false,eval (.Name x p2) X.env)::starEach [] X.env:=by rfl)(hpl:(backTo pos (starEach [.Name x p2] X.env)).any (·.1)=false:=by rfl) :
  PDE X (.Call (.Name "isinstance" p) [e,.Name x p2] [] pos) (dIs X.K (.type T) te):=by
 have hc:mV X (.builtin "isinstance") λvs H Q=>∃d M Q' v,vs = [v,.ty T]/\Rep X.K H d v/\cI X.K M H/\((∃T' k,tyD d = some T'/\kitOne X.K (.type T') (.type T) = some k/\Q' (.bl k) M)∨(∃(p:Addr)(xs:List D) (k:Bool),d = .ref p/\M p = some xs/\kitOne X.K (.type "list") (.type T)=some k/\Q' (.bl k) M))/\∀v H',LQ X.K H Q' v H'->Q v H':=by
  intro pins s σ H xs us Q I rs ⟨d,M,Q',v,e1,rd,hm,q,k⟩;subst e1;obtain⟨u1,u2,rfl,rv,rt⟩:=rs.two;cases rt;rcases q with⟨T',b,ty,e2,q⟩|⟨p,ys,b,rfl,hp,e2,q⟩
  ·exact aO0 (K:=X.K) I rd rv ty e2 λtk=>⟨.bl b,H,I.tok tk,rfl,k _ H ⟨_,M,eW,hm,.refl H,q⟩⟩
  ·obtain rfl:=bO rd;obtain⟨us,hu,ru⟩:=hm.l p ys hp;exact nY I rv (.lst hu) e2 λtk=>⟨.bl b,H,I.tok tk,rfl,k _ H ⟨_,M,eW,hm,.refl H,q⟩⟩
 refine cY (uY hc hg hm rfl (pE he (pE (aJK hgx hmx hv (v:=.ty T) rfl hn hdb) aC0 hse2) hse) (by decide) (by decide) hse hpl) λσ H Q ⟨ρ,M,Q',re,hm,q,k⟩=>?_;exact⟨ρ,M,_,re,hm,q,λv H1 ⟨d,M1,rd,hm1,ex,q1⟩=>⟨d,M1,Q',v,rfl,rd,hm1,q1,λv H' z=>k v H' (z.back ex)⟩⟩
end
noncomputable def iO (N:List Str)(ds:List D):cO:=ds.map some++replicate (N.length-ds.length) none
noncomputable def Dn (Q:DQ):DQ:=λd M=>∃M',aU M' M/\Q d M'
section
variable {P:Program}{w:World}{K:Frag}{mg:Str->Option Value}{base:Heap}
theorem oQ {H:Hp}{ds:List D}{vs:List V}(r:cA K H ds vs)(N:List Str):gY K H (iO N ds) (L2.start N vs):=by
 have hl:=r.length;refine⟨by unfold iO L2.start;simp only[length_append,length_map,length_replicate,hl],λi d q=>?_⟩;unfold iO at q;unfold L2.start;by_cases hi:i<ds.length
 ·rw[getElem?_append_left (by simpa using hi),getElem?_map] at q;rw[getElem?_append_left (by simpa[<- hl] using hi),getElem?_map];cases e:ds[i]? with
  |none=>rw[e] at q;cases q
  |some d' =>
   rw[e] at q;cases q;obtain⟨v,e2,rv⟩:=r.get e;exact⟨v,by rw[e2];rfl,rv⟩
 ·rw[getElem?_append_right (by simpa using hi),List.getElem?_replicate] at q;split at q<;>cases q
theorem Fun.okD {x qual:Str}{st:Stmt}{f:Addr}{fd:FuncData}{N ps:List Str}{k:Nat}{sp:DSp}(F:L2.Fun K x qual st f fd)(S:aR N ps (aJ st))(len:∀ds M Q,sp ds M Q->ds.length=ps.length)(hbody:∀(cdv:Value)(A:Around) (outer:List Env) (s:Shared) (H:Hp) (ds:List D) (M:DM) (Q:DQ) (E:XK),eB k (A.deeper (envOfC qual (aJ st) s.heap.objs.size f cdv))->sp ds M Q ->
   ∃t,lK (kE CX0 P w K mg base N qual (aJ st) f cdv A outer s H E).nox (fC st) t/\t { nx:=λ_ M'=>Dn Q .non M',rt:=Dn Q } (iO N ds) M):lP P w K mg base CX0 (k+1) f fd ps (rC K sp):=by
 refine F.ok S (λvs H Q E ⟨ds,M,Q',rs,hm,q,_⟩=>by rw[<- rs.length];exact len ds M Q' q) λcdv A outer s H vs Q E hr ⟨ds,M,Q',rs,hm,q,k'⟩=>?_;obtain⟨t,h1,h2⟩:=hbody cdv A outer s H ds M Q' E hr q;have fin:∀v H',LQ K H (Dn Q') v H'->Q v H':=λv H' ⟨d,M1,rd,hm1,ex,M2,sub,q2⟩=>k' v H' ⟨d,M2,rd,hm1.sub sub,ex,q2⟩;refine⟨_,h1,iO N ds,M,_,oQ rs N,hm,h2,⟨λσ' H' ⟨ρ',M',_,hm',ex,q'⟩=>fin _ H' ⟨.non,M',zB,hm',ex,q'⟩,fin,λσ' H' ⟨_,_,_,_,_,z⟩=>z.elim,λσ' H' ⟨_,_,_,_,_,z⟩=>z.elim⟩⟩
end
theorem aF1 {P:Program}{w:World}{K:Frag}{mg mb:Str->Option Value}{CX:CXT}{k:Nat}{fa a:Addr}{fd:FuncData}{x:Str}{sp:Sp}{s₁:Shared}{vs:List Value}{ns:List Int}(KX:K.In s₁.heap)(hns:s₁.heap.Ns mainGlobals mg)(hb:s₁.heap.Ns builtinsNs mb)(hbb:∀x:Str,x ≠ "__name__"->mb x=bootBuiltins x)(hlim:s₁.heap.NoLimit)(hg:s₁.gens=#[])(ha:s₁.heap.get? a = some { cls:=.type "list",data:=.seq vs.toArray })(hi:IntsAre vs ns)(hl:ns.length<=sizeLine)(hr:eB k callerA)(F:∀base:Heap,K.In base->base.Ns mainGlobals mg->lP P w K mg base CX k fa fd [x] sp)(hbind:∀(s:Shared)(u:Value),BindsTo s fd ⟨[u],[]⟩ [(x,u)])(hsp:∀H:Hp,aK8 H->SqX K H a (ns.map V.int)->sp [.ref a] H (λv _=>v=.bl true) λ_ _ _=>False)(hCX:∀H e s',CX [] H s₁ (λ_ _ _=>False) e s'->False) :
  codeAny (model P w) callerA (.call (.ref fa) ⟨[.ref a],[]⟩) (λr s'=>r=.ok (.ret (.bool true))/\OldK s₁.heap s'.heap/\s'.os=s₁.os/\AllBare s'.gens) s₁:=by
 have rv:=xC hi;have lenV:=hi.length;refine aGQ (ns:=ns) (sp:=λvs H Q E=>SqX K H a (ns.map V.int)/\sp vs H Q E) KX hns hb hbb hlim hg ha hi hl hr (λbase h1 h2=>(F base h1 h2).imp λ_ _ _ _ z=>z.2) hbind (λH hO hS=>?_) hCX;have sx:SqX K H a (ns.map V.int):=by
  rcases hS with(h|h)|⟨o,its,n,hk,hc,hd,hs,hz,r⟩
  ·rcases hO a with z|⟨o,xs,z⟩
   ·rw[h] at z;cases z
   ·rw[h] at z;cases z
  ·exact .inl h
  ·have e:=KX a o hk;rw[ha] at e;cases e;cases hs;exact .inr ⟨_,_,hk,hz,r⟩
 exact⟨sx,hsp H hO sx⟩
theorem walk_ofD {l:PySem.W.OpenLaw}{n k:Nat}{q:Program}{loose:List Str}{XP:(Str->Option Value)->Heap->Prop}{YP:World->Heap->Prop}{d:DefRec}{K:Params->Frag}{sp:DSp}{x:Str}(hn:l.most=some n)(hn2:n<=sizeLine)(hdf:d.params.defaults=[])(hr:eB k callerA)(hY:∀(w:World)(h:Heap),YP w h->(K w.params).In h)(F:∀(w:World)(mg:Str->Option Value) (fa:Addr) (h:Heap),(K w.params).In h->h.Ns mainGlobals mg->mg d.name=some (.ref fa) ->
   ∃fd:FuncData,(∀(s:Shared)(u:Value),BindsTo s fd ⟨[u],[]⟩ [(x,u)]) /\
    ∀base:Heap,(K w.params).In base->base.Ns mainGlobals mg->lP l.prog w (K w.params) mg base CX0 k fa fd [x] (rC (K w.params) sp))(hsp:∀(ns:List Int),ns.length<=n->∀M,sp [.fz (ns.map D.int)] M λd _=>d=.bl true) :
  PySem.W.WalkO q loose XP YP l.row.toRowW d [] (λf vs=>PySem.call f vs):=by
 refine Att.attach_call hn hdf λw s₀ s₁ mg mb fa o pm cd doc a vs ns G Y ho hd hcd hmg hobj hints hlen hg=>?_;have KX:=hY w _ Y;obtain⟨fd,hb,hF⟩:=F w mg fa _ KX G.T.g hmg;refine aF1 KX G.T.g G.T.b G.T.builtins G.T.nolimit hg hobj hints (Nat.le_trans hlen hn2) hr hF hb (λH hO hS=>?_) λH e s' h=>h;refine⟨[.fz (ns.map D.int)],λ_=>none,_,cK (by unfold Rep;exact⟨a,_,rfl,hS,aBN ns⟩) dG,⟨(λ_ _ z=>by cases z),(λ_ _ z=>by cases z)⟩,hsp ns hlen _,λv H' z=>?_⟩;obtain⟨d,M',rd,_,_,e⟩:=z;have e':d=.bl true:=e;subst e';exact cR rd
def bT (K:Frag)(mg:Str->Option Value)(x:Str)(st:Stmt)(ps:List Str):Prop:=∃f fd,L2.Fun K x x st f fd/\mg x=some (.ref f)/\nW K fd ps []
def Has (P:Program)(w:World)(K:Frag)(mg:Str->Option Value)(base:Heap)(k:Nat)(x:Str)(ps:List Str)(sp:DSp):Prop :=
 ∃f fd,lP P w K mg base CX0 k f fd ps (rC K sp)/\mg x=some (.ref f)/\keepIn K (.ref f)=true/\nW K fd ps []
def gG (K:Frag)(mg:Str->Option Value)(x:Str)(d:D):Prop:=∃u v,mg x=some u/\cT v u/\∀H,Rep K H d v
section
variable {P:Program}{w:World}{K:Frag}{mg:Str->Option Value}{base:Heap}
theorem Has.mk {x:Str}{st:Stmt}{N ps:List Str}{k:Nat}{sp:DSp}(h:bT K mg x st ps)(S:aR N ps (aJ st))(len:∀ds M Q,sp ds M Q->ds.length=ps.length)(hbody:∀(f:Addr)(cdv:Value) (A:Around) (outer:List Env) (s:Shared) (H:Hp) (ds:List D) (M:DM) (Q:DQ) (E:XK),eB k (A.deeper (envOfC x (aJ st) s.heap.objs.size f cdv))->sp ds M Q ->
   ∃t,lK (kE CX0 P w K mg base N x (aJ st) f cdv A outer s H E).nox (fC st) t/\t { nx:=λ_ M'=>Dn Q .non M',rt:=Dn Q } (iO N ds) M):Has P w K mg base (k+1) x ps sp:=by
 obtain⟨f,fd,F,hm,hb⟩:=h;exact⟨f,fd,Fun.okD F S len λcdv A outer s H ds M Q E hr q=>hbody f cdv A outer s H ds M Q E hr q,hm,F.kp,hb⟩
theorem Has.imp {x:Str}{ps:List Str}{k:Nat}{sp sp':DSp}(h:Has P w K mg base k x ps sp)(i:∀ds M Q,sp' ds M Q->sp ds M Q):Has P w K mg base k x ps sp':=by obtain⟨f,fd,F,hm,hk,hb⟩:=h;exact⟨f,fd,F.imp λvs H Q E ⟨ds,M,Q',a,b,c,d⟩=>⟨ds,M,Q',a,b,i _ _ _ c,d⟩,hm,hk,hb⟩
end
section
variable {X:Cx}{a b c e:Expr}{es:List Expr}{ta tb te:DE}{t:DA}{pos p:Pos}{x:Str}{ps:List Str}{sp:DSp}{k j:Nat}
theorem aHk (h:Has X.prog X.w X.K X.mg X.base k x ps sp)(hr:eB j X.A)(hkj:k<=j)(ha:PDA X (e::es) t)(hg:Gl X x:=by rfl)(hdb:(x==("__debug__":Str))=false:=by decide)(he:starEach (e::es) X.env=(false,eval e X.env)::starEach es X.env:=by rfl)(hpl:(backTo pos (starEach es X.env)).any (·.1)=false:=by rfl) :
  PDE X (.Call (.Name x p) (e::es) [] pos) (qI sp t):=by
 obtain⟨f,fd,F,hm,hk,hb⟩:=h;exact aJw F (hr.mono hkj) hm hk hb aGJ ha hg hdb he hpl
theorem aGa (h:Has X.prog X.w X.K X.mg X.base k x ps sp)(hr:eB j X.A)(hkj:k<=j)(hg:Gl X x:=by rfl)(hdb:(x==("__debug__":Str))=false:=by decide):PDE X (.Call (.Name x p) [] [] pos) (qI sp pT):=by obtain⟨f,fd,F,hm,hk,hb⟩:=h;exact aIn F (hr.mono hkj) hm hk hb aGJ hg hdb
theorem aHh {d:D}(h:gG X.K X.mg x d)(hg:Gl X x:=by rfl)(hd:(x==("__debug__":Str))=false:=by decide):PDE X (.Name x pos) (dC d):=by obtain⟨u,v,hm,rv,hr⟩:=h;exact aJm hg hm rv hr hd
def aJQ (i:Nat)(te:DE)(g:Int->Int->Int):DS:=λE ρ M=>match ρ[i]? with
 |some (some (.int z))=>te ρ M λy M1=>match y with
  |.int j=>E.nx (ρ.set i (some (.int (g z j)))) M1
  |_=>False
 |_=>False
theorem aJB {i:Nat}{op:Operator}{g:Int->Int->Int}{pos':Pos}(ho:PIp X op (ipI g))(hN:X.N.Nodup)(he:PDE X e te)(hi:X.N[i]?=some x:=by rfl)(hx:Loc X.env.scope x:=by first|exact Or.inl rfl|exact Or.inr rfl)(hf:X.fn x=true∨X.env.scope.names.lookup x=some .local:=by first|exact .inl rfl|exact .inr rfl|assumption) :
  PDS X (.AugAssign (.Name x pos') op e pos) (aJQ i te g) :=
 kK (aMC (i:=i) hN hi hx he ho hf) λE σ H ⟨ρ,M,Dn,re,hm,q,k⟩=>by
  unfold aJQ at q;split at q
  ·rename_i z e1;obtain⟨v,e2,rv⟩:=re.get i _ e1;obtain rfl:=aV rv;refine⟨_,e2,ρ,M,_,re,hm,q,λw H1 ⟨d,M1,rd,hm1,ex,q1⟩=>?_⟩;cases d with
   |int j=>exact⟨z,j,rfl,aV rd,k.nx _ H1 ⟨_,M1,(re.ext ex).set bU i,hm1,ex,q1⟩⟩
   |_=>exact q1.elim
  ·exact q.elim
end
theorem dif {c A B:Prop}[Decidable c](h1:c->A)(h2:¬c->B):if decide c=true then A else B:=by
 by_cases h:c
 ·rw[decide_eq_true h];exact h1 h
 ·rw[decide_eq_false h];exact h2 h
theorem aPu {b:Bool}{A B:Prop}(h1:b=true->A)(h2:b=false->B):if b=true then A else B:=by
 cases b
 ·exact h2 rfl
 ·exact h1 rfl
section
variable {prog:Program}{w:World}{A:Around}{E:Value->Shared->Prop}{s:Shared}
theorem zS {h h':Heap}{it t:Addr}{items:Array Value}(ht:h.IsList t items)(hs:Heap.SameBut it h h')(hne:t≠it):h'.IsList t items:=by obtain⟨o,e,r⟩:=ht;exact⟨o,(hs.2 t hne).trans e,r⟩
theorem yH {h:Heap}{t:Addr}{items:Array Value}(ht:h.IsList t items)(o:Obj):(h.push o).IsList t items:=by obtain⟨o',e,r⟩:=ht;exact⟨o',Heap.get?_push_of_some _ e,r⟩
theorem aBK {it t:Addr}{items:Array Value}(hne:t≠it):∀(n i:Nat)(s:Shared) (Q:List Value->Shared->Prop),s.heap.IsListIter it t i->s.heap.IsList t items->i+n<=items.size ->
  (∀h',h'.IsListIter it t (i+n)->Heap.SameBut it s.heap h'->Q ((items.toList.drop i).take n) { s with heap:=h' })->wpAny (model prog w) A (draw (.ref it) n) Q E s
 |0,i,s,Q,hit,_,_,hQ=>by show wpAny _ _ (pure []) Q E s;exact wpAny_pure (by simpa using hQ s.heap hit (Heap.SameBut.refl ..))
 |n+1,i,s,Q,hit,ht,hle,hQ=>by
  have hlt:i<items.size:=by omega
  show wpAny _ _ (pyNext (.ref it) >>= _) Q E s;refine wpAny_bind (wpAny_pyNext_list_item hit ht (x:=items[i]) (by simp[hlt]) λh₁ hit₁ hs₁=>?_);refine wpAny_bind (wpAny_holding (aBK hne n (i+1) _ _ hit₁ (zS ht hs₁ hne) (by omega) λh₂ hit₂ hs₂=>wpAny_pure ?_));have hd:items.toList.drop i=items[i]::items.toList.drop (i+1):=by simp[List.drop_eq_getElem_cons,hlt]
  have:=hQ h₂ (by rw[show i+(n+1)=i+1+n by omega];exact hit₂) (hs₁.trans hs₂);rw[hd,List.take_succ_cons] at this;exact this
theorem xW {t:Addr}{items:Array Value}{Q:List Value->Shared->Prop}(hh:A.handled=none)(ht:s.heap.IsList t items)(hQ:∀h',Heap.ExtBut s.heap.objs.size s.heap h'->Q items.toList { s with heap:=h' }):wpAny (model prog w) A (unpackItems (.ref t) items.size none) Q E s:=by
 have hlt:t≠s.heap.objs.size:=by obtain⟨o,ho,_⟩:=ht;exact Nat.ne_of_lt (Heap.lt_size ho)
 unfold unpackItems;refine wpAny_bind ?_
 ·unfold notIterableAtAll;refine wpAny_bind (wpAny_specialOf ht.typeIs slot_list_iter.lookup ?_);refine wpAny_pure ?_;simp only[Bool.false_eq_true,if_false];refine wpAny_bind (wpAny_holding (wpAny_pyIter_list ht ?_));refine wpAny_bind (wpAny_holding (aBK hlt items.size 0 _ _ ⟨_,Heap.get?_push_size _ rfl,rfl,rfl⟩ (yH ht _) (by omega) λh₁ hit₁ hs₁=>?_));have hall:List.take items.size (List.drop 0 items.toList)=items.toList:=by rw[List.drop_zero];exact take_of_length_le (by simp)
  rw[hall];rw[if_neg (by simp)];have ht₁:h₁.IsList t items:=zS (yH ht _) hs₁ hlt;refine wpAny_bind (wpAny_holding (wpAny_pyNext_list_end hh hit₁ ht₁ (by simp) λh₂ he₂=>?_));simp only[Option.isSome_none,Bool.false_eq_true,if_false];refine wpAny_pure (hQ h₂ λb o hb e=>he₂ b o hb (hs₁.extBut b o hb (Heap.get?_push_of_some _ e)))
theorem vC {env:Env}{elts:List Expr}{x1}{pos:Pos}{t:Addr}{items:Array Value}{Q:Unit->Shared->Prop}(hh:A.handled=none)(ht:s.heap.IsList t items)(hn:(assignEach elts env).length=items.size)(hstar:(assignEach elts env).findIdx? (·.1)=none)(h:∀h',Heap.ExtBut s.heap.objs.size s.heap h'->wpAny (model prog w) A (assignInOrder ((assignEach elts env).map (·.2)) items.toList) Q E { s with heap:=h' }) :
  wpAny (model prog w) A (assign (.Tuple elts x1 pos) env (.ref t)) Q E s:=by
 rw[assign_Tuple];refine wpAny_bind (wpAny_standAt ?_);unfold unpack;rw[hn,hstar];exact wpAny_bind (wpAny_holding (xW hh ht h))
end
section
variable {X:Cx}{pos:Pos}{e a b:Expr}{es:List Expr}{te ta tb:DE}
def gU (n:Nat)(t:DGs):DG:=λd ρ M Q=>match d with
 |.tup ds=>ds.length=n/\t ds ρ M Q
 |.ref a=>∃ds,M a=some ds/\ds.length=n/\t ds ρ M Q
 |_=>False
theorem aM8 {k:Nat}{t:DGs}{n:Nat}(hc:X.calm=true)(h:aD6 X es t)(hn:(assignEach es X.env).length=n:=by rfl)(hst:(assignEach es X.env).findIdx? (·.1)=none:=by rfl):PDG X (.Tuple es k pos) (gU n t):=by
 intro pins s σ H v u Q I r ⟨d,ρ,M,Q',rd,re,hm,q,k'⟩;cases d with
 |tup ds=>exact aL2 hc h hn hst pins s σ H v u Q I r ⟨.tup ds,ρ,M,Q',rd,re,hm,q,k'⟩
 |ref p =>
  obtain⟨ds,hp,hl,q⟩:=q;obtain rfl:=bO rd;cases r;obtain⟨us,hu,ru⟩:=hm.l p ds hp;obtain⟨z,its,nn,rv,hlen,e1⟩:=I.lstM hu;have l1:=ru.length;refine vC (I.ok.hd hc) ⟨_,e1,rfl,_,rfl⟩ (by rw[hn,size_toArray];omega) hst λh' hx=>?_;have I1:Inv X pins σ H { s with heap:=h' }:=I.kept (t':=s.toks) λb o e=>hx b o (Nat.ne_of_lt (Heap.lt_size e)) e;exact h pins _ σ H us _ Q I1 (by simpa using rv) ⟨ds,ρ,M,Q',ru,re,hm,q,k'⟩
 |_=>exact q.elim
noncomputable def isV:D->D->Option Bool
 |.non,.non=>some true
 |.bl a,.bl b=>some (a==b)
 |.non,.bl _=>some false
 |.bl _,.non=>some false
 |.int _,.non=>some false
 |.str _,.non=>some false
 |.tup _,.non=>some false
 |.ref _,.non=>some false
 |.fz _,.non=>some false
 |.tup _,.bl _=>some false
 |_,_=>none
def aHr (g:Bool->Bool):D2:=λx y M Q=>match isV x y with
 |some k=>Q (.bl (g k)) M
 |none=>False
theorem aIg {K:Frag}{H:Hp}{x y:V}{v u:Value}{dx dy:D}{k:Bool}(rx:cT x v)(ry:cT y u)(r1:Rep K H dx x)(r2:Rep K H dy y)(h:isV dx dy=some k):plainIs v u=true/\(v==u)=k:=by
 cases dx<;>cases dy<;>first
  |(cases (show(none:Option Bool)=some k from h))
  |(
    first
    |(rw[eR r1] at rx;cases rx)
    |(rw[cR r1] at rx;cases rx)
    |(rw[aV r1] at rx;obtain⟨t,rfl⟩:=rx)
    |(rw[cW r1] at rx;obtain⟨t,rfl⟩:=rx)
    |(rw[bO r1] at rx;cases rx)
    |(obtain⟨a,us,rfl,_,_⟩:=cJ r1;cases rx)
    |(obtain⟨a,us,rfl,_,_⟩:=rT r1;cases rx)
    first
    |(rw[eR r2] at ry;cases ry)
    |(rw[cR r2] at ry;cases ry)
    simp only[isV,Option.some.injEq] at h;subst h;constructor<;>first|rfl|(rename_i b1 b2;cases b1<;>cases b2<;>rfl))
theorem aHK:OpD X (compareOp .Is) (aHr id):=λpins s σ H x y v u Q I rx ry ⟨dx,dy,M,Q',r1,r2,hm,q,k⟩=>by
 unfold aHr at q;split at q
 ·rename_i b e;obtain⟨h1,h2⟩:=aIg rx ry r1 r2 e;exact wpAny_is_plain h1 (by rw[h2];exact⟨.bl b,H,I,rfl,k _ H ⟨_,M,eW,hm,.refl H,q⟩⟩)
 ·exact q.elim
theorem aDO:OpD X (compareOp .IsNot) (aHr not):=λpins s σ H x y v u Q I rx ry ⟨dx,dy,M,Q',r1,r2,hm,q,k⟩=>by
 unfold aHr at q;split at q
 ·rename_i b e;obtain⟨h1,h2⟩:=aIg rx ry r1 r2 e;exact wpAny_isNot_plain h1 (by rw[h2];exact⟨.bl (!b),H,I,rfl,k _ H ⟨_,M,eW,hm,.refl H,q⟩⟩)
 ·exact q.elim
end
section
variable {M:DM}{Q:DQ}{g:Bool->Bool}{ds:List D}{i:Int}{a:Addr}{α:Type}{x0 x1 x2 x3 x4 x5:α}{l:List α}
theorem ixT:nK (.tup ds) (.int i) M Q=(match atI ds i with|some d=>Q d M|none=>False):=rfl
theorem ixF:nK (.fz ds) (.int i) M Q=(match atI ds i with|some d=>Q d M|none=>False):=rfl
theorem aQB:nK (.ref a) (.int i) M Q=(∃ds d,M a=some ds/\atI ds i=some d/\Q d M):=rfl
theorem aMm:atI [x0] 0=some x0:=rfl
theorem aMW:atI [x0] (-1)=some x0:=rfl
theorem aNQ:atI [x0,x1] 0=some x0:=rfl
theorem aMK:atI [x0,x1] 1=some x1:=rfl
theorem aNh:atI [x0,x1] (-1)=some x1:=rfl
theorem aMs:atI [x0,x1,x2] 0=some x0:=rfl
theorem aMw:atI [x0,x1,x2] 1=some x1:=rfl
theorem aK9:atI [x0,x1,x2] 2=some x2:=rfl
theorem aLF:atI [x0,x1,x2] (-1)=some x2:=rfl
theorem aMv:atI [x0,x1,x2,x3] 0=some x0:=rfl
theorem aLL:atI [x0,x1,x2,x3] 1=some x1:=rfl
theorem aMV:atI [x0,x1,x2,x3] 2=some x2:=rfl
theorem aNE:atI [x0,x1,x2,x3] 3=some x3:=rfl
theorem aN1:atI [x0,x1,x2,x3] (-1)=some x3:=rfl
theorem aLc:atI [x0,x1,x2,x3,x4] 0=some x0:=rfl
theorem aM5:atI [x0,x1,x2,x3,x4] 1=some x1:=rfl
theorem aNe:atI [x0,x1,x2,x3,x4] 2=some x2:=rfl
theorem aMY:atI [x0,x1,x2,x3,x4] 3=some x3:=rfl
theorem aLX:atI [x0,x1,x2,x3,x4] 4=some x4:=rfl
theorem aNM:atI [x0,x1,x2,x3,x4] (-1)=some x4:=rfl
theorem aMX:atI [x0,x1,x2,x3,x4,x5] 0=some x0:=rfl
theorem aLs:atI [x0,x1,x2,x3,x4,x5] 1=some x1:=rfl
theorem aNl:atI [x0,x1,x2,x3,x4,x5] 2=some x2:=rfl
theorem aNC:atI [x0,x1,x2,x3,x4,x5] 3=some x3:=rfl
theorem aM2:atI [x0,x1,x2,x3,x4,x5] 4=some x4:=rfl
theorem aLM:atI [x0,x1,x2,x3,x4,x5] 5=some x5:=rfl
theorem aMg:atI [x0,x1,x2,x3,x4,x5] (-1)=some x5:=rfl
theorem aL7 {n:Nat}{t:DGs}{ρ:cO}{R:cO->DM->Prop}:gU n t (.tup ds) ρ M R=(ds.length=n/\t ds ρ M R):=rfl
theorem aMU {n:Nat}{t:DGs}{ρ:cO}{R:cO->DM->Prop}:gU n t (.ref a) ρ M R=(∃ds,M a=some ds/\ds.length=n/\t ds ρ M R):=rfl
theorem cU {i j:Int}:dEq g (.int i) (.int j) M Q=Q (.bl (g (decide (i=j)))) M:=by
 show(bB 60 (.int i)=true/\bB 60 (.int j)=true/\Q (.bl (g (eqD (.int i) (.int j)))) M)=_;have e:eqD (.int i) (.int j)=decide (i=j):=by show(i==j)=_;by_cases h:i=j<;>simp[h]
 rw[e];exact propext ⟨λh=>h.2.2,λh=>⟨rfl,rfl,h⟩⟩
theorem aO {x y:Str}:dEq g (.str x) (.str y) M Q=Q (.bl (g (decide (x=y)))) M:=by
 show(bB 60 (.str x)=true/\bB 60 (.str y)=true/\Q (.bl (g (eqD (.str x) (.str y)))) M)=_;have e:eqD (.str x) (.str y)=decide (x=y):=by show(x==y)=_;by_cases h:x=y<;>simp[h]
 rw[e];exact propext ⟨λh=>h.2.2,λh=>⟨rfl,rfl,h⟩⟩
theorem le2 {α:Type}{x y:α}:([x,y]:List α).length<=1000:=by show(2:Nat)<=1000;decide
def isK (K:Frag)(c:Value)(d:D)(M:DM)(Q:DQ):Prop:=(∃T k,tyD d = some T/\kitOne K (.type T) c = some k/\Q (.bl k) M)∨(∃(p:Addr)(xs:List D) (k:Bool),d = .ref p/\M p = some xs/\kitOne K (.type "list") c=some k/\Q (.bl k) M)
theorem aNH {K:Frag}{c:Value}{te:DE}{ρ:cO}:dIs K c te ρ M Q=te ρ M λd M1=>isK K c d M1 Q:=rfl
end
end Dd
namespace L2
open PySem PySem.Spec PyProof.Rows
noncomputable def clo (cells:List (Str×Addr)):List (Str×NameKind)->List (Str×Addr)->List (Str×Addr)
 |[],cs=>cs
 |(n,k)::r,cs=>clo cells r (if k == .free then (n,(cells.lookup n).getD 0)::cs else cs)
noncomputable def aDW (env:Env)(x:Str×NameKind)(r:List (Str×Addr)):Sem (ForInStep (List (Str×Addr))) :=
 if (x.2==NameKind.free)=true then do let a <- cellOf env x.1;pure (ForInStep.yield ((x.1,a)::r)) else pure (ForInStep.yield r)
theorem aDw {env:Env}:∀(names:List (Str×NameKind)) (cs:List (Str×Addr)),(∀y∈names,y.2=.free->∃c,env.cells.lookup y.1=some c)->(forIn names cs (aDW env):Sem (List (Str×Addr)))=pure (clo env.cells names cs)
 |[],cs,_=>rfl
 |(n,k)::r,cs,hh=>by
  rw[List.forIn_cons];have ih:=λcs=>aDw (env:=env) r cs λz hz=>hh z (mem_cons_of_mem _ hz);cases hk:k==NameKind.free with
  |true =>
   have hf:k=.free:=by simpa using hk
   obtain⟨c,hc⟩:=hh (n,k) mem_cons_self hf;have hc:env.cells.lookup n=some c:=hc;have e:aDW env (n,k) cs=pure (ForInStep.yield ((n,c)::cs)):=by unfold aDW;rw[if_pos hk];show(cellOf env n >>= _)=_;unfold cellOf;rw[hc];rfl
   rw[e];refine Eq.trans (b:=(forIn r ((n,c)::cs) (aDW env):Sem (List (Str×Addr)))) rfl ?_;rw[ih];show _=pure (clo env.cells r (if k == .free then (n,(env.cells.lookup n).getD 0)::cs else cs));rw[hk,if_pos rfl,hc];rfl
  |false =>
   have e:aDW env (n,k) cs=pure (ForInStep.yield cs):=by unfold aDW;rw[if_neg (by rw[hk];decide)]
   rw[e];refine Eq.trans (b:=(forIn r cs (aDW env):Sem (List (Str×Addr)))) rfl ?_;rw[ih];show _=pure (clo env.cells r (if k == .free then (n,(env.cells.lookup n).getD 0)::cs else cs));rw[hk,if_neg (by decide)]
theorem aDk {scope:Scope}{env:Env}(h:∀y∈scope.names,y.2=.free->∃c,env.cells.lookup y.1=some c):closureFor scope env=pure (clo env.cells scope.names []):=by have e:closureFor scope env=((forIn scope.names [] (aDW env):Sem (List (Str×Addr))) >>= λcs=>pure cs):=rfl;rw[e,aDw _ _ h];rfl
theorem aFp {cells:List (Str×Addr)}{x:Str}{c:Addr}:∀{names:List (Str×NameKind)}{cs:List (Str×Addr)},(∀y∈names,y.2=.free->∃c,cells.lookup y.1=some c)->(cs.lookup x=some c->cells.lookup x=some c)->(clo cells names cs).lookup x=some c->cells.lookup x=some c
 |[],cs,_,h,e=>h e
 |(n,k)::r,cs,hh,h,e=>by
  unfold clo at e;refine aFp (λy hy=>hh y (mem_cons_of_mem _ hy)) (λe2=>?_) e;cases hk:k==NameKind.free with
  |false=>rw[hk,if_neg (by decide)] at e2;exact h e2
  |true =>
   rw[hk,if_pos rfl] at e2;have hk':k=.free:=by simpa using hk
   obtain⟨c',hc'⟩:=hh (n,k) mem_cons_self hk';have hc':cells.lookup n=some c':=hc';rw[lookup_cons] at e2;cases hx:x==n with
   |true =>
    rw[hx] at e2;have:x=n:=by simpa using hx
    subst this;rw[hc'] at e2 ⊢;exact e2
   |false=>rw[hx] at e2;exact h e2
theorem aCQ {cells:List (Str×Addr)}{x:Str}:∀{names:List (Str×NameKind)}{cs:List (Str×Addr)},((x,NameKind.free)∈names ∨ ∃c,cs.lookup x=some c)->∃c,(clo cells names cs).lookup x=some c
 |[],cs,h=>by
  rcases h with h|h
  ·exact nomatch h
  ·exact h
 |(n,k)::r,cs,h=>by
  unfold clo;refine aCQ ?_;have ins:∀{v:Addr},(∃c,cs.lookup x=some c)->∃c,((n,v)::cs).lookup x=some c:=λ{v} ⟨c,e⟩=>by
   rw[lookup_cons];cases x==n with
   |true=>exact⟨_,rfl⟩
   |false=>exact⟨c,e⟩
  rcases h with h|h
  ·rcases List.mem_cons.mp h with e|e
   ·cases e;refine .inr ⟨_,by rw[if_pos (by rfl),lookup_cons,beq_self_eq_true]⟩
   ·exact .inl e
  ·cases hk:k==NameKind.free with
   |true=>rw[if_pos rfl];exact .inr (ins h)
   |false=>rw[if_neg (by decide)];exact .inr h
theorem yI {g:Str->NameKind->NameKind}{x:Str}:∀{names:List (Str×NameKind)},(names.map λp=>(p.1,g p.1 p.2)).lookup x=(names.lookup x).map (g x)
 |[]=>rfl
 |(n,k)::r=>by
  rw[map_cons,lookup_cons,lookup_cons];cases hx:x==n with
  |true =>
   have:x=n:=by simpa using hx
   subst this;rfl
  |false=>exact yI
theorem sC {scope:Scope}{env:Env}{x:Str}:(relabel scope env).names.lookup x=(scope.names.lookup x).map λk=>if (k==NameKind.free&&env.scope.kind == .function&&env.kindOf x==some .cell)=true then .cell else k:=by rw[<- yI (g:=λx k=>if (k==NameKind.free&&env.scope.kind == .function&&env.kindOf x==some .cell)=true then .cell else k)];unfold relabel;dsimp only;congr 1;refine List.map_congr_left λp _=>?_;obtain⟨n,k⟩:=p;dsimp only;split<;>rfl
noncomputable abbrev Cx.blk (X:Cx)(N':List Str)(scope:Scope)(C:Addr)(s:Shared)(H:Hp)(fp:List Addr)(pins:List (Addr×Obj)):Cx :=
 { X with N:=N',s₀:=s,H₀:=H,env:=compEnvC scope (clo X.env.cells scope.names []) C X.env,outer:=X.stack,ex:=fp,fn:=λ_=>false,pn:=X.pn++pins,xe:=λ_ _=>False }
structure iR (X:Cx)(N':List Str)(fr:List (Option Nat))(scope:Scope):Prop where
 kind:scope.kind=.function
 nocell:∀y∈scope.names,y.2 ≠ .cell
 names:∀y∈scope.names,y.2=.local->scope.names.lookup y.1=some .local
 free:∀y∈scope.names,y.2=.free->X.env.scope.names.lookup y.1=some .cell
 len:fr.length=N'.length
 at':∀(i j:Nat)(x:Str),N'[i]?=some x->fr[i]?=some (some j)->X.N[j]?=some x/\scope.names.lookup x=some .free
structure aCV (oN:List Str)(osc:Scope)(N':List Str)(fr:List (Option Nat))(scope:Scope):Prop where
 kind:scope.kind=.function
 nocell:∀y∈scope.names,y.2 ≠ .cell
 names:∀y∈scope.names,y.2=.local->scope.names.lookup y.1=some .local
 free:∀y∈scope.names,y.2=.free->osc.names.lookup y.1=some .cell
 len:fr.length=N'.length
 at':∀p∈N'.zip fr,∀j∈p.2,oN[j]?=some p.1/\scope.names.lookup p.1=some .free
theorem aCV.scope {X:Cx}{oN:List Str}{osc:Scope}{N':List Str}{fr:List (Option Nat)}{scope:Scope}(B:aCV oN osc N' fr scope)(hN:X.N=oN)(ho:X.env.scope=osc):iR X N' fr scope:=by
 subst hN ho;refine⟨B.kind,B.nocell,B.names,B.free,B.len,λi j x h1 h2=>?_⟩;have:(x,some j)∈N'.zip fr:=by refine mem_of_getElem? (i:=i) ?_;rw[List.getElem?_zip_eq_some];exact⟨h1,h2⟩
 exact B.at' _ this j rfl
noncomputable def wW (fr:List (Option Nat))(σ:St):St:=fr.map λo=>match o with
 |some j=>(σ[j]?).join
 |none=>none
section
variable {X:Cx}{pins:List (Addr×Obj)}{σ:St}{H:Hp}{s:Shared}{N':List Str}{fr:List (Option Nat)}{scope:Scope}{C:Addr}{fp:List Addr}
theorem iR.hasC (S:iR X N' fr scope)(ok:X.Ok):∀y∈scope.names,y.2=.free->∃c,X.env.cells.lookup y.1=some c:=λy hy e=>ok.has y.1 (.inl (S.free y hy e))
theorem iR.sub (S:iR X N' fr scope)(ok:X.Ok){x:Str}{c:Addr}(h:(clo X.env.cells scope.names []).lookup x=some c):X.env.cells.lookup x=some c:=aFp (S.hasC ok) (λz=>by cases z) h
theorem aFk (S:iR X N' fr scope)(I:Inv X pins σ H s){h':Heap}{m:Str->Option Value}(k:∀x c v,(clo X.env.cells scope.names []).lookup x=some c->s.heap.IsCell c v->h'.IsCell c v) :
  ∀(i:Nat)(x:Str) (v:V),N'[i]?=some x->(wW fr σ)[i]?=some (some v)->∃u,cT v u/\aOZ (compEnvC scope (clo X.env.cells scope.names []) C X.env) h' m x u:=by
 intro i x v hx hv;unfold wW at hv;rw[getElem?_map] at hv;cases hf:fr[i]? with
 |none=>rw[hf] at hv;cases hv
 |some o =>
  rw[hf] at hv;cases o with
  |none=>cases hv
  |some j =>
   have hv:(σ[j]?).join=some v:=Option.some.inj hv;obtain⟨hN,hfree⟩:=S.at' i j x hx hf;have hσ:σ[j]?=some (some v):=by
    cases e:σ[j]? with
    |none=>rw[e] at hv;cases hv
    |some o=>rw[e] at hv;rw[show o=some v from hv]
   have hmem:(x,NameKind.free)∈scope.names:=PySem.mem_of_lookup hfree;have hcell:=S.free _ hmem rfl;obtain⟨mm,_,hl⟩:=I.loc;obtain⟨u,r,l⟩:=hl j x v hN hσ (.inr (.inl hcell));refine⟨u,r,.inr ⟨.inl ?_,?_⟩⟩
   ·show(relabel scope X.env).names.lookup x=some .cell;rw[sC,hfree];have h1:X.env.scope.kind=.function:=I.ok.kind;have h2:X.env.kindOf x=some .cell:=hcell;rw[h1,h2];rfl
   ·rcases l with⟨k1,_⟩|⟨_,c,e,z⟩
    ·have:X.env.scope.names.lookup x=some .local:=k1;rw[hcell] at this;cases this
    ·obtain⟨c',e'⟩:=aCQ (cells:=X.env.cells) (x:=x) (names:=scope.names) (cs:=[]) (.inl hmem);have e2:=S.sub I.ok e';rw[e] at e2;cases e2;exact⟨c,e',k x c _ e' z⟩
theorem aJ6 (S:iR X N' fr scope)(I:Inv X pins σ H s)(hf:∀b∈fp,aBA X pins H b)(ho:∀b∈fp,∃o,s.heap.get? b=some o){s1:Shared}{m:Str->Option Value}(hos:s1.os=s.os)(hg:s1.gens=s.gens)(hC:s.heap.objs.size<=C)(k:∀b o,s.heap.get? b=some o->s1.heap.get? b=some o)(hn:s1.heap.Ns C m) :
  Inv (X.blk N' scope C s H fp pins) [] (wW fr σ) H s1:=by
 have lt:∀b o,s.heap.get? b=some o->b≠C:=λb o e=>Nat.ne_of_lt (Nat.lt_of_lt_of_le (Heap.lt_size e) hC);have stk:∀b,b≠X.env.locals->b∉X.fs->b∉frs X.stack:=λb h1 h2 hb=>(List.mem_cons.mp (I.stkSub b hb)).elim h1 h2;have cellK:∀x c v,(clo X.env.cells scope.names []).lookup x=some c->s.heap.IsCell c v->s1.heap.IsCell c v:=λx c v _ ⟨o,e,d⟩=>⟨o,k c o e,d⟩;refine⟨⟨I.ok.mod,S.kind,I.ok.glob,I.ok.blt,hC,λx y c h1 h2=>I.ok.inj x y c (S.sub I.ok h1) (S.sub I.ok h2),λx hx=>?_,(λx c z=>by cases z),I.ok.hd,I.ok.frames,.inl rfl,λb hb=>?_,I.bs,Nat.le_trans I.ok.bsz I.sz,λb o e hb=>?_,λb hb=>?_,I.stack,I.stkFree⟩,
  hos,by rw[hg];exact I.bare,Un.kept k,⟨m,hn,λi x v h1 h2 _=>aFk S I cellK i x v h1 h2⟩,λx c e=>?_,I.hok.fresh hC,λx c e=>I.freeC x c (S.sub I.ok e),λp hp=>?_,I.hok.kept k,?_⟩
 ·have hx:(relabel scope X.env).names.lookup x=some .cell∨(relabel scope X.env).names.lookup x=some .free:=hx;rw[sC] at hx;have hfree:(x,NameKind.free)∈scope.names:=by
   cases e:scope.names.lookup x with
   |none=>rw[e] at hx;rcases hx with z|z<;>cases z
   |some kk =>
    rw[e] at hx;have hm:=PySem.mem_of_lookup e;cases kk with
    |free=>exact hm
    |cell=>exact absurd rfl (S.nocell _ hm)
    |_=>rcases hx with z|z<;>cases z
  exact aCQ (.inl hfree)
 ·obtain⟨o,e⟩:=ho b hb;obtain⟨_,_,_,_,f4,_⟩:=hf b hb;exact⟨lt b o e,λx c z=>f4 x c (S.sub I.ok z)⟩
 ·obtain⟨_,_,_,f3,_⟩:=hf b hb;rcases f3 with z|z
  ·exact I.ok.noex b o e z
  ·exact absurd (Nat.lt_of_lt_of_le (Heap.lt_size e) (Nat.le_trans I.ok.bsz z)) (Nat.lt_irrefl _)
 ·obtain⟨_,f1,f2,_⟩:=hf b hb;exact stk b f1 f2
 ·obtain⟨v,z⟩:=I.cell x c (S.sub I.ok e);exact⟨v,cellK x c v e z⟩
 ·rw[append_nil] at hp;obtain⟨e,n,ne,nf,d⟩:=I.pin p hp;exact⟨k p.1 p.2 e,n,lt p.1 p.2 e,stk p.1 ne nf,d⟩
 ·unfold wW;rw[length_map];exact S.len
theorem aGb (S:iR X N' fr scope){s1:Shared}{H1:Hp}{σ1:St}{pl:List (Addr×Obj)}(I:Inv X pins σ H s)(J:Inv (X.blk N' scope C s H fp pins) pl σ1 H1 s1):Inv (X.blk N' scope C s H fp pins) pl (wW fr σ) H1 s1:=by
 obtain⟨m,hn,_⟩:=id J.loc;refine⟨J.ok,J.os,J.bare,J.base,⟨m,hn,λi x v h1 h2 _=>aFk S I (λx c v e z=>?_) i x v h1 h2⟩,J.cell,J.free,J.freeC,J.pin,J.hok,?_⟩
 ·obtain⟨o,eo,d⟩:=z;have e':=S.sub I.ok e;have hfree:=I.freeC x c e';have nex:c∉fp:=λhb=>(J.ok.exf c hb).2 x c e rfl;by_cases hfs:c∈frs X.stack
  ·obtain⟨sl,q⟩:=J.base.slot c o eo hfree hfs nex;exact⟨_,q,d⟩
  ·exact⟨o,J.base.keep c o eo hfree hfs nex,d⟩
 ·unfold wW;rw[length_map];exact S.len
end
section
variable {prog:Program}{w:World}{A:Around}{R:Result->Shared->Prop}{s:Shared}
theorem rV {elt target iter:Expr}{scope:Scope}{pos:Pos}{it acc:Value}{env:Env}(I:Nat->Shared->Prop)(turn:∀n s,I n s->wpAny (model prog w) A (pyNext it) (λr s₁=>match r with
   |none=>R (.ok .next) s₁
   |some v=>wpAny (model prog w) A (letOwnedTupleGo target it v) (λ_ s₁'=>wpAny (model prog w) A (assign target env v) (λ_ s₂=>wpAny (model prog w) A (eval elt env) (λx s₃ =>
     wpAny (model prog w) A (call (.builtin "list.append") [acc,x]) (λ_ s₄=>∃m,m<n/\I m s₄) (λ_ _=>False) s₃)
     (λ_ _=>False) s₂) (λ_ _=>False) s₁') (λ_ _=>False) s₁) (λ_ _=>False) s)(n:Nat)(h:I n s):codeAny (model prog w) A (.compLoop (.ListComp elt [⟨target,iter,[],0⟩] scope pos) 0 it acc env) R s:=by
 refine codeAny_loop rfl I (λn s hI=>?_) n h;show wpAny _ _ ((compTurn (.ListComp elt [⟨target,iter,[],0⟩] scope pos) 0 it acc env).onRaise (λx=>do noteFrame x env;theTreesLotGoes x)) _ _ s;refine wpAny_noted ?_;rw[compTurn_list1];refine wpAny_bind (wpAny_standAt (wpAny_bind (wpAny_mono (turn n s hI) (λr s₁ h₁=>?_) λ_ _ h'=>h'.elim)));cases r with
 |none=>exact wpAny_pure h₁
 |some v =>
  exact wpAny_bind (wpAny_mono h₁ (λ_ s₁' h₁'=>wpAny_bind (wpAny_mono h₁' (λ_ s₂ h₂=>wpAny_bind (wpAny_bind (wpAny_mono h₂ (λx s₃ h₃=>wpAny_bind (wpAny_mono h₃
   (λ_ s₄ h₄=>wpAny_pure (wpAny_pure ⟨rfl,h₄⟩)) λ_ _ h'=>h'.elim)) λ_ _ h'=>h'.elim))) λ_ _ h'=>h'.elim)) λ_ _ h'=>h'.elim)
end
theorem Inv.track {X:Cx}{pins:List (Addr×Obj)}{σ:St}{H:Hp}{s:Shared}{d:Addr}{ys:List V}(I:Inv X pins σ H s)(hn:H d=none)(hs:X.s₀.heap.objs.size<=d)(hL:d≠X.env.locals)(hc:∀x c,X.env.cells.lookup x=some c->c≠d)(hp:∀p∈X.pn++pins,p.1≠d)(new:gJ X.prog X.w (upd H d (.lst ys)) s.heap d (.lst ys)):Inv X pins σ (upd H d (.lst ys)) s:=by
 have ne0:∀b o,X.s₀.heap.get? b=some o->b≠d:=λb o e=>Nat.ne_of_lt (Nat.lt_of_lt_of_le (Heap.lt_size e) hs);refine⟨I.ok,I.os,I.bare,⟨I.base.keep,I.base.slot,λb o e n hx=>?_,I.base.there,λb xs e=>?_,λb o u e=>?_,λb ps e=>?_⟩,I.loc,I.cell,?_,λx c e=>?_,λp hpp=>?_,λb u e=>?_,I.len⟩
 ·rw[bS (ne0 b o e)];exact I.base.free b o e n hx
 ·have:=I.base.tups b xs e;rw[bS (bW this hn)];exact this
 ·have:=I.base.frzs b o u e;rw[bS (bW this hn)];exact this
 ·obtain⟨more,q⟩:=I.base.tbls b ps e;exact⟨more,by rw[bS (bW q hn)];exact q⟩
 ·rw[bS (Ne.symm hL)];exact I.free
 ·rw[bS (hc x c e)];exact I.freeC x c e
 ·obtain⟨e,n,r⟩:=I.pin p hpp;exact⟨e,by rw[bS (hp p hpp)];exact n,r⟩
 ·by_cases hb:b=d
  ·subst hb;rw[dN] at e;cases e;exact new
  ·rw[bS hb] at e;exact(I.hok b u e).stay (λc v _ q=>q) (λc q=>by rw[bS (bW q hn)];exact q) λc xs q=>by rw[bS (bW q hn)];exact q
def tLc (wi:TI)(fr:List (Option Nat))(g:TG)(te:TE):TE:=λσ H Q=>wi σ H λJ H1=>∃W:Nat->Nat->List V->Hp->Prop,(∃m,W 0 m [] H1)/\∀i m ys H,W i m ys H ->
 (J.stop i H/\ys.length<=sizeLine/\∀p,H p=none->Q (.ref p) (upd H p (.lst ys))) ∨
 (J.go i H/\ys.length<=sizeLine/\∀x H',J.yld i H x H'->g x (wW fr σ) H' λσ2 H2=>te σ2 H2 λy H3=>∃m',m'<m/\W (i+1) m' (ys++[y]) H3)
structure CF (X:Cx)(pins:List (Addr×Obj))(H:Hp)(C:Addr):Prop where
 none:H C=none
 loc:C≠X.env.locals
 sz:X.s₀.heap.objs.size<=C
 cel:∀x c,X.env.cells.lookup x=some c->c≠C
 pin:∀p∈X.pn++pins,p.1≠C
theorem aI9 {X:Cx}{elt iter tg:Expr}{scope:Scope}{pos pos2:Pos}{N':List Str}{fr:List (Option Nat)}{wi:TI}{g:TG}{te:TE}(S:iR X N' fr scope)(hc:X.calm=true)(hi:PI X tg iter wi)(hg:∀C s H fp pins,PG (X.blk N' scope C s H fp pins) tg g)(he:∀C s H fp pins,PE (X.blk N' scope C s H fp pins) elt te)(hs:∀x,foldedSetIterable iter X.env x=pure x){pins:List (Addr×Obj)}{s:Shared}{σ:St}{H:Hp}{Q:VK}(I:Inv X pins σ H s)(h:tLc wi fr g te σ H Q)(use:Option (Value->Sem Unit))(Post:Value->Shared->Prop)(fin:∀D C H' s4 m,Inv X pins σ H' s4->s4.heap.Ns C m->CF X pins H' C->Q (.ref D) H'->compPost (model X.prog X.w) X.A X.xe use Post (.ref D) C (.ok .next) s4) :
  wpAny (model X.prog X.w) X.A (comprehension (.ListComp elt [⟨tg,iter,[],0⟩] scope pos) scope X.env pos2 (newList []) false (eval iter X.env) use) Post X.xe s:=by
 refine wpAny_comprehension_free (use:=use) rfl hs (aDk (S.hasC I.ok)) S.kind S.names ?_;show wpAny _ _ (eval iter X.env) _ _ s;refine thn (hi pins s σ H _ I h) λv s1 h1=>thn h1 λitv s2 h2=>?_;obtain⟨it,fp,tn,J,H2,e,I2,T,st2,f2,W,⟨m0,w0⟩,turn⟩:=h2;subst e;refine wpAny_newObj_type (wpAny_newFunctionEnv S.nocell (by intro y hy;simp at hy) (λh₁ hns₁ hsb₁=>?_) S.kind);dsimp only at hns₁ hsb₁ ⊢;generalize hHp:s2.heap.push { cls:=.type "list",dict:=none,data:=.seq ([]:List Value).toArray }=HP at hns₁ hsb₁ ⊢;have hC:HP.objs.size=s2.heap.objs.size+1:=by rw[<- hHp,Heap.size_push]
 generalize hCe:HP.objs.size=C at hns₁ hsb₁ ⊢;generalize hDe:s2.heap.objs.size=D at hC ⊢;have hDC:D≠C:=by omega
 have hCle:s2.heap.objs.size<=C:=by omega
 have old:∀b o,s2.heap.get? b=some o->h₁.get? b=some o:=λb o e=>hsb₁.extBut b o (Nat.ne_of_lt (Nat.lt_of_lt_of_le (Heap.lt_size e) hCle)) (Heap.get?_push_of_some _ (hHp ▸ Heap.get?_push_of_some _ e));have hD1:h₁.PlainList D #[]:=⟨_,by refine hsb₁.extBut _ _ hDC (Heap.get?_push_of_some _ ?_);rw[<- hHp,<- hDe];exact Heap.get?_push_size _ rfl⟩
 have ltf:∀b∈fp,b<D:=λb hb=>by obtain⟨o,e,_⟩:=T.obj _ _ st2 b hb;exact Nat.lt_of_lt_of_eq (Heap.lt_size e) hDe
 have J0:=aJ6 (s1:={ s2 with heap:=h₁,toks:=s2.toks+([]:List (Str×Value)).length }) S I2 f2 (λb hb=>let ⟨o,e,_⟩:=T.obj _ _ st2 b hb;⟨o,e⟩) rfl rfl hCle old hns₁;have ltC:∀b,b<D->b≠C:=λb hb=>Nat.ne_of_lt (Nat.lt_of_lt_of_le hb (by rw[<- hDe];exact hCle));have old2:∀b o,s2.heap.get? b=some o->b<D:=λb o e=>Nat.lt_of_lt_of_eq (Heap.lt_size e) hDe;have neD:∀b o,s2.heap.get? b=some o->b≠D:=λb o e=>Nat.ne_of_lt (old2 b o e);have hDs:s2.heap.objs.size<=D:=Nat.le_of_eq hDe;have hDfs:D∉frs X.stack:=λhb=>by
  rcases List.mem_cons.mp (I2.stkSub D hb) with z|z
  ·have:=I2.lt;rw[<- z] at this;exact absurd (Nat.lt_of_lt_of_le this hDs) (Nat.lt_irrefl _)
  ·exact I2.nofs hDs z
 have cellD:∀x c,X.env.cells.lookup x=some c->c≠D/\c≠C:=λx c e=>by obtain⟨v,o,ho,_⟩:=I2.cell x c e;exact⟨neD c o ho,ltC c (old2 c o ho)⟩
 have pinD:∀p∈X.pn++pins,p.1≠D/\p.1≠C:=λp hp=>by have e:=(I2.pin p hp).1;exact⟨neD _ _ e,ltC _ (old2 _ _ e)⟩
 have fpok:∀(pl:List (Addr×Obj)) (H':Hp),(∀b∈fp,H' b=none)->(∀p∈pl,∀b∈fp,p.1≠b)->∀b∈fp,aBA (X.blk N' scope C s2 H2 fp pins) pl H' b:=λpl H' hn hpl b hb=>by
  refine⟨hn b hb,ltC b (ltf b hb),J0.ok.exfs b hb,.inl hb,(J0.ok.exf b hb).2,λp hp=>?_⟩;rcases List.mem_append.mp hp with z|z
  ·exact(f2 b hb).2.2.2.2.2 p z
  ·exact hpl p z b hb
 have loop:codeAny (model X.prog X.w) X.A (.compLoop (.ListComp elt [⟨tg,iter,[],0⟩] scope pos) 0 (.ref it) (.ref D) (compEnvC scope (clo X.env.cells scope.names []) C X.env))
   (compPost (model X.prog X.w) X.A X.xe use Post (.ref D) C) { s2 with heap:=h₁,toks:=s2.toks+([]:List (Str×Value)).length }:=by
  refine rV (λn s'=>∃i H' ys its,Inv (X.blk N' scope C s2 H2 fp pins) [] (wW fr σ) H' s'/\tn i s'.heap/\(∀b∈fp,H' b=none)/\s'.heap.PlainList D its/\H' D=none/\cG ys its.toList/\W i n ys H') ?_ m0
   ⟨0,H2,[],#[],J0,T.keep _ _ _ st2 λb hb o e=>old b o e,λb hb=>(f2 b hb).1,hD1,I2.hok.fresh hDs,.nil,w0⟩
  rintro n s3 ⟨i,H3,ys,its,I3,st3,fr3,⟨nn,pl3⟩,hD3,rv3,w3⟩;have I3p:Inv (X.blk N' scope C s2 H2 fp pins) [(D,{ cls:=.type "list",data:=.seq its nn })] (wW fr σ) H3 s3:=I3.pins_of λp hp=>by have e:=List.mem_singleton.mp hp;subst e;exact⟨pl3,hD3,hDC,hDfs,λv z=>by cases z⟩
  have pf:∀p∈[((D,{ cls:=.type "list",data:=.seq its nn }):Addr×Obj)],∀b∈fp,p.1≠b:=λp hp b hb=>by have e:=List.mem_singleton.mp hp;subst e;exact(Nat.ne_of_lt (ltf b hb)).symm
  rcases turn i n ys H3 w3 with⟨stop,hz,q⟩|⟨go,hz,step⟩
  ·refine thn (T.done (X.blk N' scope C s2 H2 fp pins) rfl rfl rfl hc i _ s3 _ H3 (λ_ _=>False) I3p (fpok _ H3 fr3 pf) st3 stop) λr s4 ⟨hr,I4⟩=>?_;subst hr;obtain⟨mm,hn4,_⟩:=id I4.loc;have pD:=(I4.pin _ (mem_append_right _ mem_cons_self)).1;have IX:Inv X pins σ H3 s4:=I2.call' I4.os I4.base I4.hok I4.bare λb hb=>⟨(f2 b hb).2.2.2.1,(f2 b hb).2.1,(f2 b hb).2.2.2.2.1,(f2 b hb).2.2.2.2.2⟩;have CL:C≠X.env.locals:=(Nat.ne_of_lt (Nat.lt_of_lt_of_le I2.lt hCle)).symm;have DL:D≠X.env.locals:=(Nat.ne_of_lt (Nat.lt_of_lt_of_le I2.lt hDs)).symm;refine fin D C (upd H3 D (.lst ys)) s4 mm (IX.track hD3 (Nat.le_trans I2.sz hDs) DL (λx c e=>(cellD x c e).1) (λp hp=>(pinD p hp).1) ⟨hz,its.toList,nn,rv3,pD⟩) hn4 ⟨by rw[bS (Ne.symm hDC)];exact I4.free,CL,Nat.le_trans I2.sz hCle,λx c e=>(cellD x c e).2,λp hp=>(pinD p hp).2⟩ (q D hD3)
  ·refine thn (T.item (X.blk N' scope C s2 H2 fp pins) rfl rfl rfl hc i _ s3 _ H3 (λ_ _=>False) I3p (fpok _ H3 fr3 pf) st3 go) λr s4 ⟨u,hr,h4⟩=>?_;subst hr;refine thn h4 λ_ s5 ⟨x,H5,I5,r5,y5,st5,fr5⟩=>?_;have I5':=I5.pinned (fpok _ H5 fr5 pf) (T.obj _ _ st5);refine thn (hg C s2 H2 fp pins _ s5 _ H5 x u _ I5' r5 (step x H5 y5)) λ_ s6 ⟨σ6,H6,I6,q6⟩=>?_;refine thn (he C s2 H2 fp pins _ s6 σ6 H6 _ I6 q6) λyv s7 ⟨y,H7,I7,ry,m',hm,w7⟩=>?_;obtain⟨pD,nD,_⟩:=I7.pin _ (mem_append_right _ (mem_append_left _ mem_cons_self));have lz:its.size<=sizeLine:=by
    have e:ys.length=its.size:=by rw[rv3.length];simp
    rw[<- e];exact hz
   refine wpAny_list_append_plain (hsz:=lz) ⟨nn,pD⟩ λh8 pl8 sb8=>?_;have I7a:Inv (X.blk N' scope C s2 H2 fp pins) [] σ6 H7 s7:=I7.pins_of λp hp=>nomatch hp;have I8:Inv (X.blk N' scope C s2 H2 fp pins) [] σ6 H7 { s7 with heap:=h8,toks:=s7.toks }:=I7a.turned (it:=D) (λb o hb e=>sb8.extBut b o hb e) nD hDC (.inr hDs) (λx c e=>(cellD x c (S.sub I2.ok e)).1) λp hp=>by rw[append_nil] at hp;exact(pinD p hp).1
   refine⟨m',hm,i+1,H7,ys++[y],its.push yv,aGb S I2 I8,?_,λb hb=>?_,pl8,nD,?_,w7⟩
   ·refine T.keep _ _ _ st5 λb hb o e=>sb8.extBut b o (Nat.ne_of_lt (ltf b hb)) (I7.pin (b,o) (mem_append_right _ (mem_append_right _ (pL hb e)))).1
   ·obtain⟨o,e,d⟩:=T.obj _ _ st5 b hb;exact(I7.pin (b,o) (mem_append_right _ (mem_append_right _ (pL hb e)))).2.1
   ·rw[Array.toList_push];exact rv3.append (.cons ry .nil)
 exact codeAny_compStart_list loop (T.self _ _ _ _ _ (T.keep _ _ _ st2 λb hb o e=>old b o e) loop)
theorem aK3 {X:Cx}{elt iter tg:Expr}{scope:Scope}{pos:Pos}{N':List Str}{fr:List (Option Nat)}{wi:TI}{g:TG}{te:TE}(S:iR X N' fr scope)(hc:X.calm=true)(hi:PI X tg iter wi)(hg:∀C s H fp pins,PG (X.blk N' scope C s H fp pins) tg g)(he:∀C s H fp pins,PE (X.blk N' scope C s H fp pins) elt te)(hs:∀x,foldedSetIterable iter X.env x=pure x:=by intro _;rfl) :
  PE X (.ListComp elt [⟨tg,iter,[],0⟩] scope pos) (tLc wi fr g te):=by
 intro pins s σ H Q I h;rw[eval_ListComp];refine aI9 S hc hi hg he hs I h none (EP X pins σ Q) λD C H' s4 m J hn F q=>⟨m,hn,λh' sb=>?_⟩;exact⟨.ref D,H',J.turned (t':=s4.toks) (it:=C) (λb o hb e=>sb.extBut b o hb e) F.none F.loc (.inr F.sz) F.cel F.pin,rfl,q⟩
end L2
namespace Dd
open PySem PySem.Spec PyProof.Rows L2
noncomputable def aBi (fr:List (Option Nat))(ρ:cO):cO:=fr.map λo=>match o with
 |some j=>(ρ[j]?).join
 |none=>none
section
variable {K:Frag}{H:Hp}{ρ:cO}{σ:L2.St}
theorem aHi (re:gY K H ρ σ)(fr:List (Option Nat)):gY K H (aBi fr ρ) (wW fr σ):=by
 refine⟨by unfold aBi wW;rw[length_map,length_map],λi d e=>?_⟩;unfold aBi at e;unfold wW;rw[getElem?_map] at e ⊢;cases hf:fr[i]? with
 |none=>rw[hf] at e;cases e
 |some o =>
  rw[hf] at e;cases o with
  |none=>cases e
  |some j =>
   have e:(ρ[j]?).join=some d:=Option.some.inj e;have e2:ρ[j]?=some (some d):=by
    cases h:ρ[j]? with
    |none=>rw[h] at e;cases e
    |some o=>rw[h] at e;rw[show o=some d from e]
   obtain⟨v,hv,r⟩:=re.get j d e2;refine⟨v,?_,r⟩;show some (σ[j]?).join=some (some v);rw[hv];rfl
end
def aC1 (at':Option Addr)(ds:List D)(ρ0:cO)(g:DG)(te:DE)(M:DM)(Q:DQ):Prop:=ds.length<=1000/\∃Pv:Nat->List D->DM->Prop,Pv 0 [] M /\
 (∀i ys M,i<=ds.length->Pv i ys M->∀a,at'=some a->M a=some ds) /\
 (∀i d ys M,ds[i]?=some d->Pv i ys M->g d ρ0 M λρ2 M2=>te ρ2 M2 λy M3=>Pv (i+1) (ys++[y]) M3) /\
 ∀ys M,ys.length=ds.length->Pv ds.length ys M->∀p:Addr,M p=none->Q (.ref p) (bK M p ys)
def aLv (tl:DE)(fr:List (Option Nat))(g:DG)(te:DE):DE:=λρ M Q=>tl ρ M λd M1=>match d with
 |.fz ds=>aC1 none ds (aBi fr ρ) g te M1 Q
 |.ref a=>∃ds,M1 a=some ds/\aC1 (some a) ds (aBi fr ρ) g te M1 Q
 |_=>False
def aLq (tl:DE)(fr:List (Option Nat))(g:DG)(te:DE):DE:=λρ M Q=>tl ρ M λd M1=>match d with
 |.tup ds=>aC1 none ds (aBi fr ρ) g te M1 Q
 |_=>False
section
variable {X:Cx}{g:DG}{te:DE}
theorem aEI {K:Frag}{a':Option Addr}{ds:List D}{fr:List (Option Nat)}{σ:L2.St}{ρ:cO}{M:DM}{H0 H:Hp}{J:It}{Q:VK}{Q':DQ}(ex0:Ext H0 H)(re:gY K H ρ σ)(hm:cI K M H)(h:aC1 a' ds (aBi fr ρ) g te M Q')(kq:∀v H',LQ K H0 Q' v H'->Q v H')(seq:∀H',Ext H H'->(∀M',cI K M' H'->(∀a,a'=some a->M' a=some ds)->∃xs,cA K H' ds xs/\(∀i,xs.length<=i->J.stop i H')/\(∀i,i<xs.length->J.go i H')/\∀i x H2,J.yld i H' x H2->H2=H'/\xs[i]?=some x)) :
  ∃W:Nat->Nat->List V->Hp->Prop,(∃m,W 0 m [] H)/\∀i m ys H,W i m ys H ->
   (J.stop i H/\ys.length<=sizeLine/\∀p,H p=none->Q (.ref p) (upd H p (.lst ys))) ∨
   (J.go i H/\ys.length<=sizeLine/\∀x H',J.yld i H x H'->aEN K g x (wW fr σ) H' λσ2 H2=>low K te σ2 H2 λy H3=>∃m',m'<m/\W (i+1) m' (ys++[y]) H3):=by
 obtain⟨hl,Pv,p0,hat,step,done⟩:=h;refine⟨λi m ysV H'=>∃ys M',cA K H' ys ysV/\cI K M' H'/\Ext H H'/\m=ds.length-i/\i<=ds.length/\ys.length=i/\Pv i ys M',⟨ds.length,[],M,dG,hm,.refl H,rfl,Nat.zero_le _,rfl,p0⟩,?_⟩;rintro i m ysV H1 ⟨ys,M1,ry,hm1,e1,rfl,hi,ly,w1⟩;obtain⟨xs,rs,hst,hgo,hy⟩:=seq H1 e1 M1 hm1 (hat i ys M1 hi w1);have hll:=rs.length;have lz:ysV.length<=sizeLine:=by rw[<- ry.length];exact Nat.le_of_lt (fZ (by omega))
 by_cases hlt:i<ds.length
 ·refine .inr ⟨hgo i (by omega),lz,λx H' y=>?_⟩;obtain⟨rfl,hx⟩:=hy i x H' y;obtain⟨d,hd,rd⟩:=rs.getV hx;refine⟨d,aBi fr ρ,M1,_,rd,aHi (re.ext e1) fr,hm1,step i d ys M1 hd w1,λσ2 H2 ⟨ρ2,M2,re2,hm2,e2,q2⟩=>?_⟩;refine⟨ρ2,M2,_,re2,hm2,q2,λv H3 ⟨dy,M3,rdy,hm3,e3,q3⟩=>?_⟩;exact⟨ds.length-(i+1),by omega,ys++[dy],M3,(ry.ext (e2.trans e3)).append (cK rdy dG),hm3,(e1.trans e2).trans e3,rfl,hlt,by rw[length_append,ly];rfl,q3⟩
 ·have e:i=ds.length:=by omega
  subst e;exact .inl ⟨hst _ (by omega),lz,λp hp=>kq _ _ ⟨.ref p,_,kR,hm1.lnew hp ry,(ex0.trans e1).trans (Ext.new hp _),done ys M1 ly w1 p (hm1.fresh hp)⟩⟩
variable {elt iter tg:Expr}{scope:Scope}{pos:Pos}{N':List Str}{fr:List (Option Nat)}{tl:DE}{ta:DA}{oN:List Str}{osc:Scope}
theorem aMS (B:aCV oN osc N' fr scope)(hc:X.calm=true)(hi:PDE X iter tl)(hg:∀C s H fp pins,PG (X.blk N' scope C s H fp pins) tg (aEN X.K g))(he:∀C s H fp pins,PE (X.blk N' scope C s H fp pins) elt (low X.K te))(hN:X.N=oN:=by rfl)(ho:X.env.scope=osc:=by rfl)(hs:∀x,foldedSetIterable iter X.env x=pure x:=by intro _;rfl) :
  PDE X (.ListComp elt [⟨tg,iter,[],0⟩] scope pos) (aLv tl fr g te) :=
 cY (aK3 (B.scope hN ho) hc (aE9 hi) hg he hs) λσ H Q ⟨ρ,M,Q',re,hm,q,k⟩=>⟨ρ,M,_,re,hm,q,λv H1 ⟨d,M1,rd,hm1,ex,q1⟩=>by
  cases d with
  |fz ds =>
   obtain⟨a,xs,rfl,sq,rs⟩:=rT rd;exact⟨a,rfl,⟨xs,sq.sq⟩,aEI ex (re.ext ex) hm1 q1 k λH' e' M' hm' _=>⟨xs,rs.ext e',λi hi=>⟨xs,(oR e' sq).sq,hi⟩,λi hi=>⟨xs,xs[i],(oR e' sq).sq,by simp[hi]⟩,λi x H2 y=>⟨y.1,y.2 xs (oR e' sq).sq⟩⟩⟩
  |ref a =>
   obtain⟨ds,ha,q1⟩:=q1;obtain rfl:=bO rd;obtain⟨xs,hx,rs⟩:=hm1.l a ds ha;refine⟨a,rfl,⟨xs,.of hx⟩,aEI ex (re.ext ex) hm1 q1 k λH' e' M' hm' hat=>?_⟩;obtain⟨ys,hy,rs'⟩:=hm'.l a ds (hat a rfl);exact⟨ys,rs',λi hi=>⟨ys,.of hy,hi⟩,λi hi=>⟨ys,ys[i],.of hy,by simp[hi]⟩,λi x H2 y=>⟨y.1,y.2 ys (.of hy)⟩⟩
  |_=>exact q1.elim⟩
theorem aLi (B:aCV oN osc N' fr scope)(hc:X.calm=true)(hi:PDE X iter tl)(hg:∀C s H fp pins,PG (X.blk N' scope C s H fp pins) tg (aEN X.K g))(he:∀C s H fp pins,PE (X.blk N' scope C s H fp pins) elt (low X.K te))(hN:X.N=oN:=by rfl)(ho:X.env.scope=osc:=by rfl)(hs:∀x,foldedSetIterable iter X.env x=pure x:=by intro _;rfl) :
  PDE X (.ListComp elt [⟨tg,iter,[],0⟩] scope pos) (aLq tl fr g te) :=
 cY (aK3 (B.scope hN ho) hc (aG0 hi) hg he hs) λσ H Q ⟨ρ,M,Q',re,hm,q,k⟩=>⟨ρ,M,_,re,hm,q,λv H1 ⟨d,M1,rd,hm1,ex,q1⟩=>by
  cases d with
  |tup ds =>
   obtain⟨a,xs,rfl,sq,rs⟩:=cJ rd;exact⟨a,rfl,⟨xs,sq⟩,aEI ex (re.ext ex) hm1 q1 k λH' e' M' hm' _=>⟨xs,rs.ext e',λi hi=>⟨xs,mX e' sq,hi⟩,λi hi=>⟨xs,xs[i],mX e' sq,by simp[hi]⟩,λi x H2 y=>⟨y.1,y.2 xs (mX e' sq)⟩⟩⟩
  |_=>exact q1.elim⟩
end
end Dd
namespace L2
open PySem PySem.Spec PyProof.Rows
variable {X:Cx}
theorem aA8 (hc:X.calm = true):mV X (.builtin "all") (λxs H Q=>∃(p:Addr)(bs:List Bool),xs=[.ref p]/\SqL X.K H p (bs.map V.bl)/\Q (.bl (bs.all id)) H):=by
 intro pins s σ H xs us Q I r h;obtain⟨p,bs,rfl,hq,q⟩:=h;obtain⟨u,rfl,rx⟩:=yA r;cases rx;obtain⟨its,r',pl,hz⟩:=I.list hq;have hl:=pl.isList;have hlt:p<s.heap.objs.size:=by obtain⟨_,e,_⟩:=hl;exact Heap.lt_size e
 have hg:∀(i:Nat)(v:Value),its.toArray[i]?=some v->∃b,bs[i]?=some b/\v=Value.bool b:=λi v e=>by
  obtain⟨x,hx,rv⟩:∃x,(bs.map V.bl)[i]?=some x/\cT x v:=by
   have:=r'.length;have hi:i<its.length:=by have:=(Array.getElem?_eq_some_iff.mp e).1;simpa using this
   have hi':i<(bs.map V.bl).length:=by omega
   obtain⟨w,hw,rw'⟩:=r'.get (i:=i) (List.getElem?_eq_getElem hi');have:w=v:=by
    have e':its[i]?=some v:=by simpa using e
    rw[e'] at hw;exact(Option.some.inj hw).symm
   subst this;exact⟨_,List.getElem?_eq_getElem hi',rw'⟩
  rw[getElem?_map] at hx;cases hb:bs[i]? with
  |none=>rw[hb] at hx;cases hx
  |some b=>rw[hb] at hx;cases hx;cases rv;exact⟨b,rfl,rfl⟩
 refine call_all_walk (wpAny_pyIter_list hl ?_);refine⟨s.heap.objs.size,[s.heap.objs.size,p],[s.heap.objs.size],its.toArray.size,_,_,λi=>(bs[i]?).getD true,rfl,Walks.list (A:=X.A.in1) (I.ok.hd hc) _ p (Nat.ne_of_lt hlt) its.toArray,
  ⟨⟨_,Heap.get?_push_size _ rfl,rfl,rfl⟩,hl.push _⟩,λi v s' Q' E' hP hQ=>?_,λh' tk hk=>?_⟩
 ·obtain⟨b,e,rfl⟩:=hg i v hP;simp only[e,Option.getD_some] at hQ;exact wpAny_truthy_bool hQ
 ·have e:((range its.toArray.size).all λi=>(bs[i]?).getD true)=bs.all id:=by have l1:=r'.length;rw[length_map] at l1;rw[size_toArray,<- l1];exact LSm.range_all bs
  rw[e];exact⟨.bl (bs.all id),H,I.kept (t':=tk) (LSm.kept_iter hk),rfl,q⟩
end L2
namespace Dd
open PySem PySem.Spec PyProof.Rows L2
variable {X:Cx}
def aP3:DSp:=λds M Q=>match ds with
 |[.ref a]=>∃bs:List Bool,M a=some (bs.map D.bl)/\Q (.bl (bs.all id)) M
 |_=>False
theorem aDo {K:Frag}{H:Hp}:∀{bs:List Bool}{vs:List V},cA K H (bs.map D.bl) vs->vs=bs.map V.bl
 |[],_,h=>bY h
 |b::bs,_,h=>by obtain⟨v,r,rfl,hv,hr⟩:=aZ h;rw[cR hv,aDo hr];rfl
theorem aLC (hc:X.calm = true):jI X (.builtin "all") aP3:=jI.of (aA8 hc) λvs H M ds Q rs hm q=>by
 rcases ds with _|⟨d,_|⟨d2,r⟩⟩
 ·exact q.elim
 ·cases d with
  |ref a =>
   obtain⟨v,rfl,rv⟩:=jD rs;obtain rfl:=bO rv;obtain⟨bs,ha,q⟩:=q;obtain⟨us,hu,ru⟩:=hm.l a _ ha;obtain rfl:=aDo ru;exact⟨a,bs,rfl,.of hu,_,M,eW,hm,.refl H,q⟩
  |_=>exact q.elim
 ·cases d<;>exact q.elim
section
variable {g:DG}{te:DE}{tb:DS}{Q:DQ}{ρ0:cO}
def itT (d:D)(ρ0:cO)(g:DG)(te:DE)(M:DM)(Q:DQ):Prop:=match d with
 |.tup ds=>aC1 none ds ρ0 g te M Q
 |_=>False
theorem aKt {tl:DE}{fr:List (Option Nat)}{ρ:cO}{M:DM}:aLq tl fr g te ρ M Q=tl ρ M λd M1=>itT d (aBi fr ρ) g te M1 Q:=rfl
theorem aKd {ds:List D}{M:DM}:itT (.tup ds) ρ0 g te M Q=aC1 none ds ρ0 g te M Q:=rfl
def foT (d:D)(g:DG)(tb:DS)(E:gF)(ρ:cO)(M:DM):Prop:=match d with
 |.tup ds=>dIt none ds g tb E ρ M
 |_=>False
theorem aHd {tl:DE}{E:gF}{ρ:cO}{M:DM}:aDQ tl g tb E ρ M=tl ρ M λd M1=>foT d g tb E ρ M1:=rfl
theorem aKl {ds:List D}{E:gF}{ρ:cO}{M:DM}:foT (.tup ds) g tb E ρ M=dIt none ds g tb E ρ M:=rfl
def goC (g:DG)(te:DE)(ρ0:cO)(Q:DQ):List D->List D->DM->Prop
 |[],ys,M=>∀p:Addr,M p=none->Q (.ref p) (bK M p ys)
 |d::r,ys,M=>g d ρ0 M λρ2 M2=>te ρ2 M2 λy M3=>goC g te ρ0 Q r (ys++[y]) M3
theorem aMp {ds:List D}{M:DM}(hl:ds.length<=1000)(h:goC g te ρ0 Q ds [] M):aC1 none ds ρ0 g te M Q:=by
 refine⟨hl,λi ys M=>goC g te ρ0 Q (ds.drop i) ys M,h,λ_ _ _ _ _ a e=>(by cases e),λi d ys M hd hp=>?_,λys M _ hp p hn=>?_⟩
 ·obtain⟨hi,e⟩:=List.getElem?_eq_some_iff.mp hd;have hp:goC g te ρ0 Q (ds.drop i) ys M:=hp;rw[List.drop_eq_getElem_cons hi,e] at hp;exact hp
 ·have hp:goC g te ρ0 Q (ds.drop ds.length) ys M:=hp;rw[List.drop_length] at hp;exact hp p hn
end
section
variable {e:Expr}{te:DE}{pos:Pos}
end
section
variable {X:Cx}{e:Expr}{te:DE}{pos p2:Pos}{lo hi:Option Expr}{tl th:DO}
def aKY (x:D)(lo hi:Option Int)(M:DM)(Q:DQ):Prop:=match x with
 |.tup ds=>¬(HT.sIx ds.length 0 lo=0/\HT.sIx ds.length ds.length hi=ds.length)/\Q (.tup (cutD ds lo hi)) M
 |_=>False
def aLm (te:DE)(tl th:DO):DE:=λρ M Q=>te ρ M λx M1=>tl ρ M1 λl M2=>th ρ M2 λh M3=>aKY x l h M3 Q
theorem aGp (he:PDE X e te)(hl:PO X lo (aAl X.K tl))(hu:PO X hi (aAl X.K th)):PDE X (.Subscript e (.Slice lo hi none p2) pos) (aLm te tl th) :=
 cY (aAe aIw he hl hu) λσ H Q ⟨ρ,M,Q',re,hm,q,k⟩=>⟨ρ,M,_,re,hm,q,λv H1 ⟨d,M1,rd,hm1,e1,q1⟩=>⟨ρ,M1,_,re.ext e1,hm1,q1,λl H2 ⟨M2,hm2,e2,q2⟩=>⟨ρ,M2,_,(re.ext e1).ext e2,hm2,q2,λh H3 ⟨M3,hm3,e3,q3⟩=>by
  have rd3:=(rd.ext e2).ext e3;have ex:=(e1.trans e2).trans e3;cases d with
  |tup ds =>
   obtain⟨a,us,rfl,sq,ru⟩:=cJ rd3;have l1:=ru.length;refine⟨a,us,rfl,sq,by rw[<- l1];exact q3.1,λp hp=>k _ _ ⟨.tup _,M3,cH (.of dN) ((vI ru l h).ext (Ext.new hp _)),hm3.new hp _,ex.trans (Ext.new hp _),q3.2⟩⟩
  |_=>exact q3.elim⟩⟩⟩
def aOA (g:Bool->Bool):D2:=λx y M Q=>match x,y with
 |.int k,.ref a=>∃ns:List Int,M a=some (ns.map D.int)/\Q (.bl (g (ns.any (·==k)))) M
 |.str k,.ref a=>∃ns:List Str,M a=some (ns.map D.str)/\Q (.bl (g (ns.any (·==k)))) M
 |_,_=>False
theorem uC {K:Frag}{H:Hp}:∀{ns:List Int}{vs:List V} {its:List Value},cA K H (ns.map D.int) vs->cG vs its->IntsAre its ns
 |[],_,_,h,r=>by rw[bY h] at r;cases r;exact .nil
 |n::ns,_,_,h,r=>by
  obtain⟨v,rr,rfl,hv,hr⟩:=aZ h;rw[aV hv] at r;cases r with
  |cons q w =>
   obtain⟨t,rfl⟩:=q;exact .cons _ _ (uC hr w)
theorem uB {K:Frag}{H:Hp}:∀{ns:List Str}{vs:List V} {its:List Value},cA K H (ns.map D.str) vs->cG vs its->StrsAre its ns
 |[],_,_,h,r=>by rw[bY h] at r;cases r;exact .nil
 |n::ns,_,_,h,r=>by
  obtain⟨v,rr,rfl,hv,hr⟩:=aZ h;rw[cW hv] at r;cases r with
  |cons q w =>
   obtain⟨t,rfl⟩:=q;exact .cons _ _ (uB hr w)
theorem yB:OpD X (compareOp .In) (aOA id):=λpins s σ H x y v u Q I rx ry ⟨dx,dy,M,Q',r1,r2,hm,q,k⟩=>by
 cases dx with
 |int z =>
  cases dy with
  |ref a =>
   obtain⟨ns,ha,q⟩:=q;obtain rfl:=aV r1;obtain rfl:=bO r2;obtain⟨t,rfl⟩:=rx;cases ry;obtain⟨us,hu,ru⟩:=hm.l a _ ha;obtain⟨zz,its,nn,rv,hlen,e1⟩:=I.lstM hu;exact in_list_ints ⟨_,e1,rfl,_,rfl⟩ (uC ru rv) ⟨.bl _,H,I,rfl,k _ H ⟨_,M,eW,hm,.refl H,q⟩⟩
  |_=>exact q.elim
 |str z =>
  cases dy with
  |ref a =>
   obtain⟨ns,ha,q⟩:=q;obtain rfl:=cW r1;obtain rfl:=bO r2;obtain⟨t,rfl⟩:=rx;cases ry;obtain⟨us,hu,ru⟩:=hm.l a _ ha;obtain⟨zz,its,nn,rv,hlen,e1⟩:=I.lstM hu;exact in_list_strs ⟨_,e1,rfl,_,rfl⟩ (uB ru rv) ⟨.bl _,H,I,rfl,k _ H ⟨_,M,eW,hm,.refl H,q⟩⟩
  |_=>exact q.elim
 |_=>cases dy<;>exact q.elim
end
end Dd
namespace L2
open PySem PySem.Spec PyProof.Rows
open PySem.AutoSeq1 (wpAny_loadPart')
section
variable {X:Cx}{a n:Expr}{ta:TE}{tn:TA}{pos:Pos}
end
end L2
namespace Dd
open PySem PySem.Spec PyProof.Rows L2
section
variable {X:Cx}{a n:Expr}{ta:DE}{tn:DA}{pos p pos':Pos}
end
section
variable {X:Cx}{a b c e o:Expr}{es:List Expr}{ta tb tc te to:DE}{pos:Pos}
def xQ (r r':D2)(ta tb tc:DE):DE:=λρ M Q=>ta ρ M λx M1=>tb ρ M1 λy M2=>r x y M2 λz M3=>match z with
 |.bl k=>if k=true then tc ρ M3 λw M4=>r' y w M4 Q else Q (.bl false) M3
 |_=>False
theorem aBJ {r r':D2}{σ:L2.St}{H:Hp}{Q:VK}(h:low X.K (xQ r r' ta tb tc) σ H Q) :
  aEX (λx y H Q=>∃dx dy M Q',Rep X.K H dx x/\Rep X.K H dy y/\cI X.K M H/\r dx dy M Q'/\∀v H',LQ X.K H Q' v H'->Q v H') (λx y H Q=>∃dx dy M Q',Rep X.K H dx x/\Rep X.K H dy y/\cI X.K M H/\r' dx dy M Q'/\∀v H',LQ X.K H Q' v H'->Q v H') (low X.K ta) (low X.K tb) (low X.K tc) σ H Q:=by
 obtain⟨ρ,M,Q',re,hm,q,k⟩:=h;refine⟨ρ,M,_,re,hm,q,λx H1 ⟨dx,M1,rx,hm1,e1,q1⟩=>⟨ρ,M1,_,re.ext e1,hm1,q1,λy H2 ⟨dy,M2,ry,hm2,e2,q2⟩=>⟨dx,dy,M2,_,rx.ext e2,ry,hm2,q2,λz H3 ⟨dz,M3,rz,hm3,e3,q3⟩=>?_⟩⟩⟩;cases dz with
 |bl k' =>
  refine⟨k',cR rz,?_⟩;cases k' with
  |false=>exact k _ H3 ⟨.bl false,M3,eW,hm3,(e1.trans e2).trans e3,q3⟩
  |true=>exact⟨ρ,M3,_,((re.ext e1).ext e2).ext e3,hm3,q3,λw H4 ⟨dw,M4,rw',hm4,e4,q4⟩=>⟨dy,dw,M4,Q',(ry.ext e3).ext e4,rw',hm4,q4,λv H' zz=>k v H' (zz.back (((e1.trans e2).trans e3).trans e4))⟩⟩
 |_=>exact q3.elim
theorem aHQ {op op':CmpOp}{r r':D2}(ho:OpD X (compareOp op) r)(ho':OpD X (compareOp op') r')(ha:PDE X a ta)(hb:PDE X b tb)(hc:PDE X c tc)(hm:lastMarks [op,op'] [b,c]=false:=by with_unfolding_all rfl):PDE X (.Compare a [op,op'] [b,c] pos) (xQ r r' ta tb tc) :=
 cY (aIh ho ho' ha hb hc hm) λσ H Q h=>aBJ h
theorem aHI {op op':CmpOp}{r r':D2}(ho:OpD X (compareOp op) r)(ho':OpD X (compareOp op') r')(ha:PDE X a ta)(hb:PDE X b tb)(hc:PDE X c tc)(hm:lastMarks [op,op'] [b,c]=false:=by with_unfolding_all rfl):PDT X (.Compare a [op,op'] [b,c] pos) (yK (xQ r r' ta tb tc)) :=
 aCL (aH7 ho ho' ha hb hc hm) λσ H Q h=>aBJ (aA5 h)
def aHb (g:Int->Int->Int):DSp:=λds M Q=>match ds with
 |[.int i,.int j]=>Q (.int (g i j)) M
 |_=>False
theorem aJO {g:Int->Int->Int}{fv:Value}(h:mV X fv (λxs H Q=>∃i j,xs=[.int i,.int j]/\Q (.int (g i j)) H)):jI X fv (aHb g):=jI.of h λvs H M ds Q rs hm q=>by
 rcases ds with _|⟨d,_|⟨d2,_|⟨d3,r⟩⟩⟩
 ·exact q.elim
 ·cases d<;>exact q.elim
 ·cases d with
  |int i =>
   cases d2 with
   |int j =>
    obtain⟨v,v2,rfl,rv,rv2⟩:=aLE rs;obtain rfl:=aV rv;obtain rfl:=aV rv2;exact⟨i,j,rfl,_,M,bU,hm,.refl H,q⟩
   |_=>exact q.elim
  |_=>exact q.elim
 ·cases d<;>first|exact q.elim|(cases d2<;>exact q.elim)
def aPw:DSp:=aHb λi j=>if j<i then j else i
theorem aMl (hc:X.calm = true):jI X (.builtin "min") aPw:=aJO (aGc hc)
end
mutual
theorem aDg:∀(n:Nat)(d:D),bB n d=true->eqD d d=true
 |n,.non,_=>rfl
 |n,.bl b,_=>by simp[eqD]
 |n,.int i,_=>by simp[eqD]
 |n,.str x,_=>by simp[eqD]
 |n,.ref a,h=>by cases n<;>exact absurd h Bool.false_ne_true
 |n,.fz a,h=>by cases n<;>exact absurd h Bool.false_ne_true
 |0,.tup xs,h=>absurd h Bool.false_ne_true
 |n+1,.tup xs,h=>xD n xs h
theorem xD:∀(n:Nat)(ds:List D),ds.all (bB n)=true->pZ ds ds=true
 |n,[],_=>rfl
 |n,d::ds,h=>by rw[all_cons,Bool.and_eq_true] at h;show(eqD d d&&pZ ds ds)=true;rw[aDg n d h.1,xD n ds h.2];rfl
end
theorem wC {g:Bool->Bool}{d:D}{M:DM}{Q:DQ}(h:bB 60 d=true)(q:Q (.bl (g true)) M):dEq g d d M Q:=by
 cases d with
 |ref a=>exact absurd h Bool.false_ne_true
 |_=>exact⟨h,h,by rw[aDg 60 _ h];exact q⟩
theorem vT {g:Bool->Bool}{a b:Addr}{xs ys:List D}{M:DM}{Q:DQ}(h1:M a=some xs)(h2:M b=some ys)(n:a≠b)(e:xs=ys)(p:xs.all (bB 59)=true)(q:Q (.bl (g true)) M):dEq g (.ref a) (.ref b) M Q:=by subst e;exact⟨xs,xs,h1,h2,n,p,p,by rw[xD 59 xs p];exact q⟩
theorem aPA (n:Nat):HT.sIx (n+1) 0 (some 1)=1/\HT.sIx (n+1) (n+1) none=n+1:=by
 constructor
 ·unfold HT.sIx;simp
 ·rfl
theorem aDr {x:D}{xs:List D}:cutD (x::xs) (some 1) none=xs:=by unfold cutD;rw[length_cons,(aPA _).1,(aPA _).2];simp
theorem ifF {b:Bool}{A B:Prop}(h:b=false)(q:B):if b=true then A else B:=by subst h;exact q
theorem ifT {b:Bool}{A B:Prop}(h:b=true)(q:A):if b=true then A else B:=by subst h;exact q
end Dd
set_option maxHeartbeats 400000
namespace L2
open PySem PySem.Spec PyProof.Rows
end L2
namespace Dd
open PySem PySem.Spec PyProof.Rows L2
section
variable {X:Cx}{e k:Expr}{te tk:DE}{pos p2:Pos}
end
end Dd
namespace Zp
open PySem PySem.Spec PyProof.Rows
section
variable {prog:Program}{w:World}{A:Around}{E:Value->Shared->Prop}{s:Shared}
end
end Zp
namespace L2
open PySem PySem.Spec PyProof.Rows
theorem Inv.turnedT {X:Cx}{pins:List (Addr×Obj)}{σ:St}{H:Hp}{s:Shared}{h':Heap}{fp:List Addr}{p:Addr}{xs:List V}{its:List Value}(I:Inv X pins σ H s)(k:∀b o,b∉fp->s.heap.get? b=some o->h'.get? b=some o)(hf:∀b∈fp,aBA X pins H b)(hp:s.heap.objs.size<=p)(hz:xs.length<=sizeLine)(hv:cG xs its)(ht:IsTup h' p its.toArray)(th:∀b∈fp,∃o,h'.get? b=some o) :
  Inv X pins σ (upd H p (.tup xs)) { s with heap:=h' }:=by
 have hn:H p=none:=I.hok.fresh hp;have nf:∀b u,H b=some u->b∉fp:=λb u e hb=>by rw[(hf b hb).1] at e;cases e
 have np:∀b o,s.heap.get? b=some o->b≠p:=λb o e=>Nat.ne_of_lt (Nat.lt_of_lt_of_le (Heap.lt_size e) hp);refine I.step (g':=s.gens) (d':=s.drawn) (t':=s.toks) (ch:=fp) (λb hb=>⟨(hf b hb).2.2.2.1,(hf b hb).2.1,(hf b hb).2.2.2.2.1,(hf b hb).2.2.2.2.2⟩) (λb o _ _ hc e _=>k b o hc e) (λb o _ _ hc e _=>⟨o.slots,k b o hc e⟩) (λb o _ e n=>by rw[bS (np b o e)];exact n)
  (λb o hc e=>⟨o,k b o hc e⟩) (λb ys e=>by rw[bS (bW e hn)];exact e) (λb o u e=>by rw[bS (bW e hn)];exact e) (λb ps e=>⟨#[],by rw[bS (bW e hn),e];simp⟩) (λm hm=>?_) (λb u e=>?_) I.bare
 ·obtain⟨o,es,ep,ho,r⟩:=hm;exact⟨o,es,ep,k _ o (λhb=>(hf _ hb).2.1 rfl) ho,r⟩
 ·by_cases hb:b=p
  ·subst hb;rw[dN] at e;cases e;exact⟨hz,its,hv,ht⟩
  ·rw[bS hb] at e;refine(I.hok b u e).stay (λc v hc q=>k c v ?_ q) (λc q=>by rw[bS (bW q hn)];exact q) λc xs q=>by rw[bS (bW q hn)];exact q
   rcases hc with z|z
   ·rw[z];exact nf b u e
   ·exact nf c _ z
theorem Inv.turnedL {X:Cx}{pins:List (Addr×Obj)}{σ:St}{H:Hp}{s:Shared}{h':Heap}{fp:List Addr}(I:Inv X pins σ H s)(k:∀b o,b∉fp->s.heap.get? b=some o->h'.get? b=some o)(hf:∀b∈fp,aBA X pins H b) :
  Inv X pins σ H { s with heap:=h' }:=by
 have nf:∀b u,H b=some u->b∉fp:=λb u e hb=>by rw[(hf b hb).1] at e;cases e
 refine I.step (g':=s.gens) (d':=s.drawn) (t':=s.toks) (ch:=fp) (λb hb=>⟨(hf b hb).2.2.2.1,(hf b hb).2.1,(hf b hb).2.2.2.2.1,(hf b hb).2.2.2.2.2⟩) (λb o _ _ hc e _=>k b o hc e) (λb o _ _ hc e _=>⟨o.slots,k b o hc e⟩) (λb o _ e n=>n)
  (λb o hc e=>⟨o,k b o hc e⟩) (λb ys e=>e) (λb o u e=>e) (λb ps e=>⟨#[],by rw[e];simp⟩) (λm hm=>?_) (λb u e=>?_) I.bare
 ·obtain⟨o,es,ep,ho,r⟩:=hm;exact⟨o,es,ep,k _ o (λhb=>(hf _ hb).2.1 rfl) ho,r⟩
 ·refine(I.hok b u e).stay (λc v hc q=>k c v ?_ q) (λc q=>q) λc xs q=>q;rcases hc with z|z
  ·rw[z];exact nf b u e
  ·exact nf c _ z
end L2
namespace Dd
open PySem PySem.Spec PyProof.Rows L2
section
variable {X:Cx}{pos:Pos}{iter tg:Expr}{body:List Stmt}{tl:DE}{g:DG}{tb:DS}{ta:DA}
end
end Dd
set_option maxHeartbeats 1000000
namespace Dd
open PySem PySem.Spec PyProof.Rows L2
theorem gJ.there {P:Program}{w:World}{H:Hp}{h:Heap}{a:Addr}{o:HO}(x:gJ P w H h a o):∃u,h.get? a=some u:=by
 cases o with
 |lst xs=>obtain⟨_,_,_,_,e⟩:=x;exact⟨_,e⟩
 |tup xs=>obtain⟨_,_,_,ob,e,_⟩:=x;exact⟨_,e⟩
 |dK kvs=>obtain⟨_,_,_,_,o,_,_,e,_⟩:=x;exact⟨_,e⟩
 |dT kvs=>obtain⟨_,_,_,_,o,_,_,e,_⟩:=x;exact⟨_,e⟩
 |set S n=>obtain⟨o,_,_,_,e,_⟩:=x;exact⟨_,e⟩
 |ins C dx fs=>obtain⟨_,_,_,e,_⟩:=x;exact⟨_,e⟩
 |own y=>obtain⟨_,e⟩:=x;exact⟨_,e⟩
 |xd fs=>obtain⟨_,⟨_,_,_,e,_⟩,_⟩:=x;exact⟨_,e⟩
 |rng lo hi=>obtain⟨_,_,_,e⟩:=x;exact⟨_,e⟩
 |frz ob u=>obtain⟨e,_⟩:=x;exact⟨_,e⟩
 |tbl ps=>exact⟨_,(show h.get? a=some _ from x)⟩
 |met f y=>exact⟨_,(show h.get? a=some _ from x)⟩
 |ext φ=>obtain⟨_,⟨_,e⟩,_⟩:=x;exact⟨_,e⟩
def FpN (X:Cx)(pins:List (Addr×Obj))(H:Hp)(b:Addr):Prop :=
 H b=none/\b≠X.env.locals/\X.s₀.heap.get? b=none/\(∀x c,X.env.cells.lookup x=some c->c≠b)/\∀p∈X.pn++pins,p.1≠b
section
variable {X:Cx}{pins:List (Addr×Obj)}{σ:L2.St}{H H':Hp}{s:Shared}{h':Heap}
theorem _root_.L2.Inv.fpN (I:Inv X pins σ H s)(hex:X.ex=[]){b:Addr}(h:s.heap.get? b=none)(hn:H' b=none):FpN X pins H' b:=by
 refine⟨hn,λz=>?_,?_,λx c e z=>?_,λp hp z=>?_⟩
 ·obtain⟨m,⟨o,_,_,ho,_⟩,_⟩:=I.loc;rw[<- z,h] at ho;cases ho
 ·cases q:X.s₀.heap.get? b with
  |none=>rfl
  |some o =>
   obtain⟨o',e⟩:=I.base.there b o q (by rw[hex];simp);rw[h] at e;cases e
 ·obtain⟨v,o,ho,_⟩:=I.cell x c e;rw[z,h] at ho;cases ho
 ·obtain⟨e,_⟩:=I.pin p hp;rw[z,h] at e;cases e
theorem _root_.L2.Inv.untr (I:Inv X pins σ H s){b:Addr}(h:s.heap.get? b=none):H b=none:=by
 cases q:H b with
 |none=>rfl
 |some o=>obtain⟨u,e⟩:=gJ.there (I.hok b o q);rw[h] at e;cases e
theorem _root_.L2.Inv.mark {ch:List Addr}(I:Inv X pins σ H s)(hch:∀b∈ch,FpN X pins H b)(keep:∀b o,b∉frs X.stack->b∉ch->s.heap.get? b=some o->h'.get? b=some o)(slot:∀b o,b∉ch->s.heap.get? b=some o->∃sl,h'.get? b=some { o with slots:=sl }):Inv X pins σ H { s with heap:=h' }:=by
 have neL:∀b o,X.s₀.heap.get? b=some o->b≠X.env.locals:=λb o e=>Nat.ne_of_lt (Nat.lt_of_lt_of_le (Heap.lt_size e) I.ok.above);have neC:∀b o,X.s₀.heap.get? b=some o->b∉ch:=λb o e hb=>by rw[(hch b hb).2.2.1] at e;cases e
 have stk:∀b,b≠X.env.locals->b∉X.fs->b∉frs X.stack:=λb h1 h2 hb=>(List.mem_cons.mp (I.stkSub b hb)).elim h1 h2;have cellK:∀x c,X.env.cells.lookup x=some c->∀v,s.heap.IsCell c v->h'.IsCell c v:=λx c e v ⟨o,ho,hd⟩=>by obtain⟨sl,q⟩:=slot c o (λz=>(hch c z).2.2.2.1 x c e rfl) ho;exact⟨_,q,hd⟩
 refine⟨I.ok,I.os,I.bare,⟨λb o e n hb hx=>?_,λb o e n hb hx=>?_,I.base.free,λb o e hx=>?_,I.base.tups,I.base.frzs,I.base.tbls⟩,?_,λx c e=>?_,I.free,I.freeC,λp hp=>?_,λa o e=>?_,I.len⟩
 ·exact keep b o (stk b (neL b o e) hb) (neC b o e) (I.base.keep b o e n hb hx)
 ·obtain⟨sl,e1⟩:=I.base.slot b o e n hb hx;obtain⟨sl',e2⟩:=slot b _ (neC b o e) e1;exact⟨sl',e2⟩
 ·obtain⟨o',e1⟩:=I.base.there b o e hx;obtain⟨sl,e2⟩:=slot b o' (neC b o e) e1;exact⟨_,e2⟩
 ·obtain⟨m,⟨o,es,ep,ho,r⟩,hl⟩:=I.loc;obtain⟨sl,e2⟩:=slot _ o (λz=>(hch _ z).2.1 rfl) ho;refine⟨m,⟨_,es,ep,e2,r⟩,λi x v e1 e2 e3=>?_⟩;obtain⟨u,r,l⟩:=hl i x v e1 e2 e3;refine⟨u,r,?_⟩;rcases l with l|⟨k,c,e,z⟩
  ·exact .inl l
  ·exact .inr ⟨k,c,e,cellK x c e _ z⟩
 ·obtain⟨v,z⟩:=I.cell x c e;exact⟨v,cellK x c e v z⟩
 ·obtain⟨e,n,ne,nf,d⟩:=I.pin p hp;exact⟨keep p.1 p.2 (stk _ ne nf) (λz=>(hch _ z).2.2.2.2 p hp rfl) e,n,ne,nf,d⟩
 ·refine(I.hok a o e).stay (λb u hb q=>keep b u (λz=>?_) (λz=>?_) q) (λ_ q=>q) λ_ _ q=>q
  ·have:=I.stkFree b z;rcases hb with hb|hb
   ·rw[hb,e] at this;cases this
   ·rw[hb] at this;cases this
  ·have:=(hch b z).1;rcases hb with hb|hb
   ·rw[hb,e] at this;cases this
   ·rw[hb] at this;cases this
end
theorem qQ (f:Array Value->Array Value)(o:Obj):(o.mapFields f).dict=o.dict:=by unfold Obj.mapFields;split<;>rfl
def Nw (h:Heap)(e:Addr)(cls:Value):Prop:=∃oe vs,h.get? e=some oe/\(oe.cls=cls/\oe.dict=none)/\oe.data=.fields vs/\vs[1]?=some Value.none
def Tr (h:Heap)(e:Addr)(cls:Value)(T:Addr)(fl:Value):Prop :=
 ∃oe vs oT ts,h.get? e=some oe/\(oe.cls=cls/\oe.dict=none)/\oe.data=.fields vs/\vs[1]?=some (.ref T)/\T≠e/\h.get? T=some oT/\oT.data=.fields ts/\ts[3]?=some fl
section
variable {X:Cx}{pins:List (Addr×Obj)}{σ:L2.St}{H:Hp}{s:Shared}{M:Model}{A:Around}{E:Value->Shared->Prop}{e T:Addr}{cls:Value}
theorem aB5 {oe:Obj}{vs:Array Value}{head:Value}{hadNext:Bool}{Q:Unit->Shared->Prop}(I:Inv X pins σ H s)(hs:X.stack=X.env::X.outer)(hf:X.env.frame=some X.env.locals)(hex:X.ex=[])(hA:A.frames=some X.stack)(he:s.heap.get? e=some oe)(hdi:oe.dict=none)(hd:oe.data=.fields vs)(hsz:1<vs.size)(fe:FpN X pins H e)(h:∀s' T,Inv X pins σ H s'->Tr s'.heap e oe.cls T (rawInt X.env.locals)->FpN X pins H T->s.heap.get? T=none->Q () s') :
  wpAny M A (do let a <- frameOf X.env;let pl <- entryPlaceOf X.env.locals hadNext;let b <- EntryCells.newEntry head a .none (rawInt X.env.locals) .none pl;setField (.ref e) 1 b) Q E s:=by
 have hfr:A.frames=some (X.env::X.outer):=by rw[hA,hs]
 have hl:s.heap.FunFrames X.base (X.env::X.outer):=hs ▸ I.stack;have hene:e∉(X.env::X.outer).filterMap (·.frame):=λhm=>by obtain⟨_,o,ho,hnf⟩:=hl.mem hm;rw[he] at ho;cases ho;exact hnf vs hd
 have hfs:frs X.stack=(X.env::X.outer).filterMap (·.frame):=by rw[hs];rfl
 refine wpAny_bind (wpAny_frameOf_fun hfr hl hf λh₁ hs₁=>?_);refine wpAny_bind (wpAny_entryPlaceOf λpl hpl=>?_);unfold EntryCells.newEntry newFields;refine wpAny_bind (wpAny_newObj_type ?_ (hpl.sizeOk5 _ _ _ _ _));have he₁:h₁.get? e=some oe:=(hs₁.2.1 e hene).trans he;have he₂:=Heap.get?_push_of_some (h:=h₁) { cls:=.type "traceback",dict:=none,data:=.fields ([head,.ref X.env.locals,.none,rawInt X.env.locals,.none]++(if pl.isEmpty then replicate 6 Value.none else pl)).toArray } he₁;refine wpAny_setField he₂ hd hsz ?_;have hTe:h₁.objs.size≠e:=Nat.ne_of_gt (Heap.lt_size he₁);have hd₃:=Obj.data_mapFields hd (·.setIfInBounds 1 (Value.ref h₁.objs.size));have he₃:=Heap.get?_update_self (Obj.mapFields (·.setIfInBounds 1 (Value.ref h₁.objs.size))) he₂ (Obj.isFreed_of_fields hd₃);have hT₃:=(Heap.get?_update_other (h₁.push { cls:=.type "traceback",dict:=none,data:=.fields ([head,.ref X.env.locals,.none,rawInt X.env.locals,.none]++(if pl.isEmpty then replicate 6 Value.none else pl)).toArray })
  (Obj.mapFields (·.setIfInBounds 1 (Value.ref h₁.objs.size))) (Ne.symm hTe)).trans (Heap.get?_push_size h₁ rfl)
 have hTn:s.heap.get? h₁.objs.size=none:=Heap.get?_none_of_le (by rw[hs₁.1];exact Nat.le_refl _);refine h _ h₁.objs.size (L2.Inv.mark (s:=s) (ch:=[e]) I (λb hb=>by rw[List.mem_singleton.mp hb];exact fe) (λb o hb hc q=>?_) λb o hc q=>?_) ?_ (L2.Inv.fpN (s:=s) I hex hTn (L2.Inv.untr (s:=s) I hTn)) hTn
 ·have hbe:b≠e:=λz=>hc (by simp[z]);rw[Heap.get?_update_other _ _ (Ne.symm hbe)];exact Heap.get?_push_of_some _ ((hs₁.2.1 b (by rw[<- hfs];exact hb)).trans q)
 ·have hbe:b≠e:=λz=>hc (by simp[z]);obtain⟨sl,z⟩:=hs₁.2.2 b o q;exact⟨sl,by rw[Heap.get?_update_other _ _ (Ne.symm hbe)];exact Heap.get?_push_of_some _ z⟩
 ·exact⟨_,_,_,_,he₃,⟨Obj.cls_mapFields _ _,(qQ _ _).trans hdi⟩,hd₃,by simp[hsz],hTe,hT₃,rfl,by first|(simp;done)|(rcases hpl with rfl|⟨_,_,_,_,_,_,_,rfl⟩<;>simp)⟩
theorem aGX {Q:Unit->Shared->Prop}(I:Inv X pins σ H s)(hs:X.stack=X.env::X.outer)(hf:X.env.frame=some X.env.locals)(hex:X.ex=[])(hA:A.frames=some X.stack)(n:Nw s.heap e cls)(fe:FpN X pins H e)(h:∀s' T,Inv X pins σ H s'->Tr s'.heap e cls T (rawInt X.env.locals)->FpN X pins H T->s.heap.get? T=none->Q () s'):wpAny M A (noteFrame (.ref e) X.env) Q E s:=by obtain⟨oe,vs,he,⟨rfl,hdi⟩,hd,h1⟩:=n;unfold noteFrame;simp only[hf];refine wpAny_bind (wpAny_field he hd h1 ?_);rw[if_neg (by decide)];exact aB5 I hs hf hex hA he hdi hd (Array.getElem?_eq_some_iff.mp h1).1 fe h
theorem zK {ts:Array Value}{oT:Obj}{f:Array Value->Array Value}(I:Inv X pins σ H s)(fT:FpN X pins H T)(hT:s.heap.get? T=some oT) :
  Inv X pins σ H { s with heap:=s.heap.update T (Obj.mapFields f) }:=by
 refine I.mark (ch:=[T]) (λb hb=>by rw[List.mem_singleton.mp hb];exact fT) (λb o _ hc q=>?_) λb o hc q=>⟨o.slots,?_⟩ <;>
 ·rw[Heap.get?_update_other _ _ (Ne.symm (λz=>hc (by simp[z])))];exact q
theorem pU {fl:Value}{Q:Unit->Shared->Prop}(I:Inv X pins σ H s)(t:Tr s.heap e cls T fl)(fT:FpN X pins H T)(h:∀s',Inv X pins σ H s'->Tr s'.heap e cls T .none->Q () s'):wpAny M A (setFlight (.ref e) none) Q E s:=by obtain⟨oe,vs,oT,ts,he,hcls,hd,h1,hTe,hT,hdT,h3⟩:=t;have hsz3:3<ts.size:=(Array.getElem?_eq_some_iff.mp h3).1;unfold setFlight;refine wpAny_bind (wpAny_field he hd h1 ?_);rw[if_pos (show(Value.ref T != Value.none)=true from by simp)];refine wpAny_setField hT hdT hsz3 (h _ (zK (ts:=ts) I fT hT) ?_);exact⟨oe,vs,_,_,(Heap.get?_update_other _ _ hTe).trans he,hcls,hd,h1,hTe,Heap.get?_update_self _ hT (Obj.isFreed_of_fields (Obj.data_mapFields hdT _)),Obj.data_mapFields hdT _,by simp[hsz3]⟩
theorem aBS {Q:Unit->Shared->Prop}(I:Inv X pins σ H s)(hs:X.stack=X.env::X.outer)(hf:X.env.frame=some X.env.locals)(hex:X.ex=[])(hA:A.frames=some X.stack)(t:Tr s.heap e cls T .none)(fe:FpN X pins H e)(fT:FpN X pins H T)(h:∀s' T',Inv X pins σ H s'->Tr s'.heap e cls T' (rawInt X.env.locals)->FpN X pins H T'->Q () s'):wpAny M A (noteFrame (.ref e) X.env) Q E s:=by obtain⟨oe,vs,oT,ts,he,⟨rfl,hdi⟩,hd,h1,hTe,hT,hdT,h3⟩:=t;unfold noteFrame;simp only[hf];refine wpAny_bind (wpAny_field he hd h1 ?_);rw[if_pos (show(Value.ref T != Value.none)=true from by simp)];refine wpAny_bind (wpAny_field hT hdT h3 ?_);rw[if_neg (show ¬((Value.none==rawInt X.env.locals)=true) from by simp[rawInt])];refine wpAny_bind (wpAny_setField hT hdT (Array.getElem?_eq_some_iff.mp h3).1 ?_);exact aB5 (zK (ts:=ts) I fT hT) hs hf hex hA ((Heap.get?_update_other _ _ hTe).trans he) hdi hd (Array.getElem?_eq_some_iff.mp h1).1 fe λs' T' I' t' f' _=>h s' T' I' t' f'
theorem aGx {Q:Unit->Shared->Prop}(I:Inv X pins σ H s)(hs:X.stack=X.env::X.outer)(hf:X.env.frame=some X.env.locals)(hex:X.ex=[])(hA:A.frames=some X.stack)(n:Nw s.heap e cls)(fe:FpN X pins H e)(h:∀s' T,Inv X pins σ H s'->Tr s'.heap e cls T .none->FpN X pins H T->s.heap.get? T=none->Q () s'):wpAny M A (leaving X.env (.ref e)) Q E s:=by unfold leaving;exact wpAny_bind (aGX I hs hf hex hA n fe λs1 T I1 t1 f1 n1=>pU I1 t1 f1 λs2 I2 t2=>h s2 T I2 t2 f1 n1)
end
noncomputable def CXr (P:Program)(w:World):CXT:=λouter H s E e s'=>∃(a:Addr)(cls:Value) (T:Addr) (H':Hp),e=Value.ref a/\s'.os=s.os/\AllBare s'.gens/\Un (frs outer) [] H H' s.heap s'.heap/\HOk P w H' s'.heap /\
 Tr s'.heap a cls T .none/\s.heap.get? a=none/\s.heap.get? T=none/\H' a=none/\H' T=none/\E cls none H'
theorem aFO {K:Frag}{h:Heap}{C:Addr}{bmB:List Value}{newId:String}(X:K.In h)(q:excIn K C bmB newId=true) :
  ∃bm N nm qn bs hdct sn sub ab col dd k0 k1 k2 k3 k5,∃mN:Str->Option Value,h.get? C = some (excClassObj nm qn C N bs bm hdct sn sub ab col dd k0 k1 k2 k3 k5 newId)/\h.Ns N mN/\mN "__init__"=none/\OwnTail h bmB bm:=by
 unfold excIn at q;split at q
 ·rename_i dd cd sl ho;split at q
  ·rename_i C' bm k0 k1 k2 k3 n k5 hm hs;simp only[Bool.and_eq_true,beq_iff_eq,Bool.not_eq_true'] at q;obtain⟨⟨⟨⟨⟨rfl,rfl⟩,hdel⟩,ht⟩,hok⟩,hni⟩:=q;cases cd;dsimp only at hm hdel hok hni;subst hm hdel;cases sl;simp only at hs;subst hs;exact⟨_,_,_,_,_,_,_,_,_,_,_,_,_,_,_,_,_,X _ _ ho,.of_isNs (PySem.W.isNs_of_in X hok),PySem.W.nsMap_none_of_in X hok hni,PySem.W.tail_of_in X ht⟩
  ·cases q
 ·cases q
def uX (X:Cx)(x:Str)(V:DM->Prop):Prop:=X.calm=true/\X.ex=[]/\∃C bmB newId B initId,X.mg x=some (.ref C)/\excIn X.K C bmB newId=true/\ExcBaseFacts B newId initId bmB /\
 ∀pins σ H s a M',Inv X pins σ H s->Nw s.heap a (.ref C)->FpN X pins H a->cI X.K M' H->V M'->X.xe (.ref a) s
def aEv (V:DM->Prop)(t:DA):DS:=λ_ ρ M=>t ρ M λds M1=>ds.length<=1000/\V M1
section
variable {X:Cx}{x:Str}{V:DM->Prop}{e:Expr}{es:List Expr}{t:DA}{np cpos pos:Pos}
theorem aHv (R:uX X x V)(ha:PDA X (e::es) t)(hg:Gl X x:=by rfl)(hd:(x==("__debug__":Str))=false:=by decide)(he:starEach (e::es) X.env=(false,eval e X.env)::starEach es X.env:=by rfl)(hpl:(backTo cpos (starEach es X.env)).any (·.1)=false:=by rfl) :
  PDS X (.Raise (some (.Call (.Name x np) (e::es) [] cpos)) none pos) (aEv V t):=by
 intro pins s σ H D I ⟨ρ,M,D',re,hm,q,k⟩;obtain⟨calm,hex,C,bmB,newId,B,initId,hmg,hq,FB,fly⟩:=R;obtain⟨tl,N,nm,qn,bs,hdct,sn,sub,ab,col,dd,k0,k1,k2,k3,k5,mN,hC,hN,hni,T⟩:=aFO I.ok.mod.kin hq;refine wpAny_Raise_call_subT (C:=C) (nm:=nm) (q:=qn) (N:=N) (bs:=bs) (bm:=tl) (hdct:=hdct) (sn:=sn) (sub:=sub) (ab:=ab) (col:=col) (dd:=dd) (k0:=k0) (k1:=k1) (k2:=k2) (k3:=k3) (k5:=k5)
  FB (mN:=mN) (T.hasType FB.hasBase) (I.ok.hd calm) (by rw[he];show(false||(backTo cpos (starEach es X.env)).any (·.1))=false;rw[hpl];rfl) hni (iW I hg hmg ⟨rfl,?_⟩ hd)
 have h:=ha cpos pins s σ H (LA X.K H λds M1=>ds.length<=1000/\V M1) I ⟨ρ,M,_,re,hm,q,λvs H' z=>z⟩;rw[he] at h ⊢;refine Calls.evalArgs_plain (wpAny_mono h (λus s₂ ⟨vs,H2,I2,rv,ds,M2,rs,hm2,ex,hl,hV⟩=>⟨rfl,?_,I2.bk _ _ hC,hN.keeps I2.bk,T.keeps I2.bk,λh' a mk=>?_⟩) λ_ _ y=>y)
 ·show us.length<=sizeLine;rw[<- rv.length,<- rs.length];exact Nat.le_of_lt (fZ hl)
 ·obtain⟨tt,ht,_⟩:=mk.there;have I3:Inv X pins σ H2 { s₂ with heap:=h' }:=I2.kept (t':=s₂.toks) mk.keeps;have hn:=I2.untr mk.new;exact fly pins σ H2 _ a M2 I3 ⟨_,_,ht,⟨rfl,rfl⟩,rfl,rfl⟩ (I2.fpN hex mk.new hn) hm2 hV
end
def spX (K:Frag)(C:Addr)(cond:List D->DM->Prop):Sp:=λvs H _ E=>∃ds M,cA K H ds vs/\cI K M H/\cond ds M/\∀M' H',cI K M' H'->aU M M'->E (.ref C) none H'
noncomputable def bmV:List Value:=[.type "ValueError",.type "Exception",.type "BaseException",.type "object"]
def aDc (K:Frag)(mg:Str->Option Value)(x:Str)(C:Addr):Prop:=mg x = some (.ref C)/\excIn K C bmV "ValueError.__new__"=true
def iS (P:Program)(w:World)(K:Frag)(mg:Str->Option Value)(base:Heap)(k:Nat)(x:Str)(ps:List Str)(C:Addr)(cond:List D->DM->Prop):Prop :=
 ∃f fd,lP P w K mg base (CXr P w) k f fd ps (spX K C cond)/\mg x=some (.ref f)/\keepIn K (.ref f)=true/\nW K fd ps []
section
variable {P:Program}{w:World}{K:Frag}{mg:Str->Option Value}{base:Heap}
theorem iS.mk {x c:Str}{C:Addr}{st:Stmt}{N ps:List Str}{k:Nat}{cond:List D->DM->Prop}(h:bT K mg x st ps)(hc:aDc K mg c C)(S:aR N ps (aJ st))(len:∀ds M,cond ds M->ds.length=ps.length)(hbody:∀(f:Addr)(cdv:Value) (A:Around) (outer:List Env) (s:Shared) (H:Hp) (ds:List D) (M:DM) (E:XK),eB k (A.deeper (envOfC x (aJ st) s.heap.objs.size f cdv))->cond ds M ->
   uX (kE (CXr P w) P w K mg base N x (aJ st) f cdv A outer s H E) c (aU M) ->
   ∃t,lK (kE (CXr P w) P w K mg base N x (aJ st) f cdv A outer s H E) (fC st) t/\t { nx:=λ_ _=>False,rt:=λ_ _=>False } (iO N ds) M)  :iS P w K mg base (k+1) x ps C cond:=by
 obtain⟨f,fd,F,hm,hb⟩:=h;refine⟨f,fd,?_,hm,F.kp,hb⟩;obtain⟨oc,od,kV,doc,pm,an,cdv,ct,osl,rfl,lk,hcd⟩:=F.ex;refine aFd lk hcd S (λvs H Q E ⟨ds,M,rs,hm,q,_⟩=>by rw[<- rs.length];exact len ds M q) λA outer s H vs Q E hr ⟨ds,M,rs,hm,q,k'⟩=>?_;have RO:uX (kE (CXr P w) P w K mg base N x (aJ st) f cdv A outer s H E) c (aU M) :=
  ⟨rfl,rfl,C,bmV,_,_,_,hc.1,hc.2,PySem.F.excBase_ValueError,λpins σ H' s1 a M' I n fe hm' sub =>
   aGx (X:=kE (CXr P w) P w K mg base N x (aJ st) f cdv A outer s H E) I rfl rfl rfl I.ok.frames n fe λs' T I' t' fT _ =>
    ⟨a,.ref C,T,H',rfl,I'.os,I'.bare,I'.base,I'.hok,t',fe.2.2.1,fT.2.2.1,fe.1,fT.1,k' M' H' hm' sub⟩⟩
 obtain⟨t,h1,h2⟩:=hbody f cdv A outer s H ds M E hr q RO;exact⟨_,h1,iO N ds,M,_,oQ rs N,hm,h2,⟨λσ' H' ⟨_,_,_,_,_,z⟩=>z.elim,λv H' ⟨_,_,_,_,_,z⟩=>z.elim,λσ' H' ⟨_,_,_,_,_,z⟩=>z.elim,λσ' H' ⟨_,_,_,_,_,z⟩=>z.elim⟩⟩
abbrev aOu (P:Program)(w:World)(K:Frag)(mg:Str->Option Value)(base:Heap)(k:Nat)(x:Str)(ps:List Str)(C:Addr)(cond:List D->Prop):Prop:=iS P w K mg base k x ps C λds _=>cond ds
end
def ExO (o:Obj)(C:Addr):Prop:=o.cls=.ref C/\o.dict=none/\∃vs,o.data=.fields vs
noncomputable abbrev Exc (X:Cx)(a:Addr)(o:Obj):Cx:={ X with A:=X.A.mark (some (.ref a)),calm:=false,pn:=(a,o)::X.pn }
section
variable {X:Cx}{pins:List (Addr×Obj)}{σ:L2.St}{H:Hp}{s:Shared}{a:Addr}{o:Obj}
theorem aML (I:X.Ok):(Exc X a o).Ok :=
 ⟨I.mod,I.kind,I.glob,I.blt,I.above,I.inj,I.has,I.cab,(λz=>nomatch z),I.frames,I.stk,I.exf,I.bs,I.bsz,I.noex,I.exfs,I.funs,I.frf⟩
theorem aCc (I:Inv X pins σ H s)(h:s.heap.get? a=some o)(n:H a=none)(nl:a≠X.env.locals)(nf:a∉X.fs)(nc:∀v,o.data ≠ .cell v):Inv (Exc X a o) pins σ H s :=
 ⟨aML I.ok,I.os,I.bare,I.base,I.loc,I.cell,I.free,I.freeC,λp hp=>by
  rcases List.mem_cons.mp hp with z|z
  ·subst z;exact⟨h,n,nl,nf,nc⟩
  ·exact I.pin p z,I.hok,I.len⟩
theorem nB (ok:X.Ok)(I:Inv (Exc X a o) pins σ H s):Inv X pins σ H s :=
 ⟨ok,I.os,I.bare,I.base,I.loc,I.cell,I.free,I.freeC,λp hp=>I.pin p (mem_cons_of_mem _ hp),I.hok,I.len⟩
theorem jL {M:Model}{A:Around}{E:Value->Shared->Prop}{n:Str}{j:Nat}{pos:Pos}{Q:Unit->Shared->Prop}(I:Inv X pins σ H s)(hN:X.N.Nodup)(hj:X.N[j]?=some n)(hl:X.env.scope.names.lookup n=some .local)(h:∀s',Inv X pins (σ.set j none) H s'->Q () s'):wpAny M A (do bindName X.env n .none;unbindBehindTheSuite X.env n pos) Q E s:=by
 obtain⟨m,hn,hlo⟩:=id I.loc;have hcls:(X.env.scope.kind == .class||(X.env.scope.kind == .module&&X.env.locals != X.env.globals))=false:=by rw[I.ok.kind];rfl
 have cne:=I.cne;refine wpAny_nameGoes_keeps hl hn hcls λh' v hn' hs=>h _ ?_;obtain⟨oL,_,_,hoL,_⟩:=id hn;refine⟨I.ok,I.os,I.bare,⟨λb o e n hb hx=>?_,λb o e n hb hx=>?_,I.base.free,λb o e hx=>?_,I.base.tups,I.base.frzs,I.base.tbls⟩,⟨_,hn',λi y v' e1 e2 e3=>?_⟩,λy c e=>?_,I.free,I.freeC,λp hp=>?_,λb ob e=>?_,by simpa using I.len⟩
 ·exact(hs.2 b (Nat.ne_of_lt (Nat.lt_of_lt_of_le (Heap.lt_size e) I.ok.above))).trans (I.base.keep b o e n hb hx)
 ·obtain⟨sl,e1⟩:=I.base.slot b o e n hb hx;exact⟨sl,(hs.2 b (Nat.ne_of_lt (Nat.lt_of_lt_of_le (Heap.lt_size e) I.ok.above))).trans e1⟩
 ·obtain⟨o',e1⟩:=I.base.there b o e hx;exact⟨o',(hs.2 b (Nat.ne_of_lt (Nat.lt_of_lt_of_le (Heap.lt_size e) I.ok.above))).trans e1⟩
 ·have hij:i≠j:=λz=>by subst z;rw[getElem?_set] at e2;rw[if_pos rfl] at e2;split at e2<;>cases e2
  rw[List.getElem?_set_ne (Ne.symm hij)] at e2;obtain⟨u,r,q⟩:=hlo i y v' e1 e2 e3;refine⟨u,r,?_⟩;rcases q with⟨k,e⟩|⟨k,c,e,z⟩
  ·refine .inl ⟨k,?_⟩;have:y≠n:=λe=>hij (aAL hN e1 (e ▸ hj));simp[this,e]
  ·exact .inr ⟨k,c,e,z.sameBut hs (cne y c e)⟩
 ·obtain⟨w',z⟩:=I.cell y c e;exact⟨w',z.sameBut hs (cne y c e)⟩
 ·obtain⟨e,n,ne,nf,d⟩:=I.pin p hp;exact⟨(hs.2 p.1 ne).trans e,n,ne,nf,d⟩
 ·refine(I.hok b ob e).stay (λc w' hc q=>(hs.2 c ?_).trans q) (λ_ q=>q) λ_ _ q=>q;rintro rfl;rcases hc with rfl|hc
  ·rw[I.free] at e;cases e
  ·rw[I.free] at hc;cases hc
end
theorem gY.setN {K:Frag}{H:Hp}{ρ:cO}{σ:L2.St}(h:gY K H ρ σ)(i:Nat):gY K H (ρ.set i none) (σ.set i none):=by
 refine⟨by rw[length_set,length_set,h.len],λj d' q=>?_⟩;rw[getElem?_set] at q;by_cases hij:i=j
 ·subst hij;rw[if_pos rfl] at q;split at q<;>cases q
 ·rw[if_neg hij] at q;obtain⟨u,a,b⟩:=h.get j d' q;exact⟨u,by rw[getElem?_set,if_neg hij];exact a,b⟩
noncomputable def gF.un (D:gF)(j:Nat):gF:={ nx:=λρ M=>D.nx (ρ.set j none) M,rt:=D.rt,bk:=λρ M=>D.bk (ρ.set j none) M,ct:=λρ M=>D.ct (ρ.set j none) M }
noncomputable def aEV (D:sT)(j:Nat):sT:={ nx:=λρ M=>D.nx (ρ.set j none) M,rt:=D.rt,bk:=λρ M=>D.bk (ρ.set j none) M,ct:=λρ M=>D.ct (ρ.set j none) M }
theorem lG.un {K:Frag}{H:Hp}{D:gF}{E:sT}(k:lG K H D E)(j:Nat):lG K H (D.un j) (aEV E j) :=
 ⟨λσ' H' ⟨ρ',M',re,hm,ex,q⟩=>k.nx _ H' ⟨_,M',re.setN j,hm,ex,q⟩,k.rt,λσ' H' ⟨ρ',M',re,hm,ex,q⟩=>k.bk _ H' ⟨_,M',re.setN j,hm,ex,q⟩,λσ' H' ⟨ρ',M',re,hm,ex,q⟩=>k.ct _ H' ⟨_,M',re.setN j,hm,ex,q⟩⟩
section
variable {X:Cx}{a:Expr}{e:Expr}{es:List Expr}{t:DA}{x f n cm:Str}{ps:List Str}{sp:DSp}{cond:List D->DM->Prop}{C Cm:Addr}{k1 k2 k i j:Nat}{ts:Addr->DS}{b0:Stmt}{suite:List Stmt}{px pf pc pa pcm ph pos:Pos}
theorem aLQ {pins:List (Addr×Obj)}{σ:L2.St}{H1:Hp}{s1 s':Shared}{M1:DM}{ρ:cO}{De:gF}{En:sT}{ev:Value}(ok:X.Ok)(hs:X.stack=X.env::X.outer)(hf:X.env.frame=some X.env.locals)(hex:X.ex=[])(hX:∀e s,X.xe e s->False)(hN:X.N.Nodup)(hj:X.N[j]?=some n)(hnl:X.env.scope.names.lookup n=some .local)(hcm:X.mg cm=some (.ref Cm))(hgc:Gl X cm)(hdc:(cm==("__debug__":Str))=false)(hmt:exmOne X.K (.ref C) (.ref Cm)=some true)(hsu:∀a o,ExO o C->lK (Exc X a o) (b0::suite) (ts a))(I1:Inv X pins σ H1 s1)(re:gY X.K H1 ρ σ)(k:lG X.K H1 De En)(q:∀a,ts a (De.un j) (ρ.set j (some (.ref a))) M1)(h:CXr X.prog X.w X.stack H1 s1 (λc _ H'=>c=.ref C/\∃M',cI X.K M' H'/\aU M1 M') ev s') :
  wpAny (model X.prog X.w) X.A (noteFrame ev X.env) (λ_ s₂=>wpAny (model X.prog X.w) X.A (setFlight ev none)
   (λ_ s₃=>wpAny (model X.prog X.w) X.A (handleBy ev X.env [.ExceptHandler (some (.Name cm pcm)) (some n) (b0::suite) ph]) (SP X pins En) X.xe s₃) X.xe s₂) X.xe s':=by
 obtain⟨a,cls,T,H',rfl,os,bare,un,hok,tr,na,nT,ha,hT,rfl,M',hm',sub⟩:=h;have I2:Inv X pins σ H' s':=I1.call' (ch:=[]) os un hok bare (λb z=>absurd z (by simp));have fa:FpN X pins H' a:=I1.fpN hex na ha;have fT:FpN X pins H' T:=I1.fpN hex nT hT;have ex:Ext H1 H':=⟨un.tups,un.frzs⟩;refine aBS I2 hs hf hex I2.ok.frames tr fa fT λs3 T3 I3 t3 f3=>?_;refine pU I3 t3 f3 λs4 I4 t4=>?_;have noF:∀{s:Shared}{oe:Obj} {vs:Array Value},Inv X pins σ H' s->s.heap.get? a=some oe->oe.data=.fields vs->a∉X.fs:=λ{s oe vs} I he hd hb=>by obtain⟨_,o,ho,hnf⟩:=I.funs.mem hb;rw[he] at ho;cases ho;exact hnf vs hd
 have inn:∀{s:Shared}{T fl},Inv X pins σ H' s->Tr s.heap a (.ref C) T fl->∃oe,oe.cls=.ref C/\s.heap.get? a=some oe/\Inv (Exc X a oe) pins σ H' s:=λ{s T fl} I t=>by obtain⟨oe,vs,oT,ts,he,hc,hd,_⟩:=t;exact⟨oe,hc.1,he,aCc I he ha fa.2.1 (noF I he hd) λv z=>by rw[hd] at z;cases z⟩
 obtain⟨o4,hc4,he4,J4⟩:=inn I4 t4;refine wpAny_handleBy_cons (codeAny_handlers_test ?_) (by intro z;cases z);refine iW (X:=Exc X a o4) J4 hgc hcm ?_ hdc;have LT:∀M:Model,PySem.W.Looks M s4.heap (typeOf (.ref a)) (.ref C):=λM=>hc4 ▸ (PySem.W.Looks.ld he4).andThen .now;refine(PySem.W.exm_one J4.kIn (LT _) hmt).here ?_;simp only[if_true];refine codeAny_handlers_suite_as ?_;refine pU I4 t4 f3 λs5 I5 t5=>?_;obtain⟨oe,vs,oT,tts,he5,hc5,hd5,_⟩:=t5;refine xF (v:=.ref a) I5 hN hj (.inl hnl) rfl (λs6 I6 ⟨b,hsb,hb⟩=>?_) (.inr hnl);have hne:a≠b:=by
  rcases hb with hb|hb
  ·rw[hb];exact fa.2.1
  ·exact λz=>fa.2.2.2.1 n b hb z.symm
 have he6:s6.heap.get? a=some oe:=(hsb.2 a hne).trans he5;have J6:Inv (Exc X a oe) pins (σ.set j (some (.ref a))) H' s6:=aCc I6 he6 ha fa.2.1 (noF I5 he5 hd5) λv z=>by rw[hd5] at z;cases z
 have run:=hsu a oe ⟨hc5.1,hc5.2,_,hd5⟩ pins s6 (σ.set j (some (.ref a))) H' (aEV En j) J6 ⟨_,M1,De.un j,(re.ext ex).set kR j,hm'.sub sub,q a,(k.at ex).un j⟩;refine wpAny_mono run (λfl s7 h7=>?_) λx s7 h7=>(hX x s7 h7).elim;cases fl with
 |next =>
  obtain⟨σ',H7,I7,q7⟩:=h7;exact jL (nB ok I7) hN hj hnl λs8 I8=>⟨_,H7,I8,q7⟩
 |brk =>
  obtain⟨σ',H7,I7,q7⟩:=h7;exact jL (nB ok I7) hN hj hnl λs8 I8=>⟨_,H7,I8,q7⟩
 |cont =>
  obtain⟨σ',H7,I7,q7⟩:=h7;exact jL (nB ok I7) hN hj hnl λs8 I8=>⟨_,H7,I8,q7⟩
 |ret u =>
  obtain⟨v,σ',H7,I7,r7,q7⟩:=h7;exact jL (nB ok I7) hN hj hnl λs8 I8=>⟨v,_,H7,I8,r7,q7⟩
theorem aKf {pins:List (Addr×Obj)}{σ:L2.St}{H1:Hp}{s1:Shared}{M1:DM}{ds:List D}{us:List Value}{vs:List V}{Q:Value->Shared->Prop}{E:Value->Shared->Prop}{f':Addr}{Q':DQ}(hH:iS X.prog X.w X.K X.mg X.base k1 f ps C cond)(hh:Has X.prog X.w X.K X.mg X.base k2 f ps sp)(hr:eB k X.A)(hk1:k1<=k)(hk2:k2<=k)(hmf:X.mg f=some (.ref f'))(I1:Inv X pins σ H1 s1)(rv:cG vs us)(rs:cA X.K H1 ds vs)(hm1:cI X.K M1 H1)(q:(cond ds M1/\∀ev s',CXr X.prog X.w X.stack H1 s1 (λc _ H'=>c=.ref C/\∃M',cI X.K M' H'/\aU M1 M') ev s'->E ev s')∨sp ds M1 Q')(hQ:∀u s',EP X pins σ (LQ X.K H1 Q') u s'->Q u s'):wpAny (model X.prog X.w) X.A (call (.ref f') us) Q E s1:=by
 rcases q with⟨q,hE⟩|q
 ·obtain⟨f1,fd,F,hm,_,hb⟩:=hH;have hf:f1=f':=by have:=hm.symm.trans hmf;cases this;rfl
  subst hf;have hsp:spX X.K C cond vs H1 (λ_ _=>False) (λc _ H'=>c=.ref C/\∃M',cI X.K M' H'/\aU M1 M'):=⟨ds,M1,rs,hm1,q,λM' H' a b=>⟨rfl,M',a,b⟩⟩;have hl:(us++[]).length=ps.length:=by rw[append_nil,<- rv.length];exact F.len _ _ _ _ hsp
  have hbb:=hb s1 us I1.kIn hl;rw[append_nil] at hbb;refine wpAny_call (codeAny_mono (F.run X.A X.stack s1 H1 ⟨us,[]⟩ us vs _ _ (hr.mono hk1) I1.env0 hbb rv hsp) λr s' hq=>?_);cases r with
  |error ev=>exact hE ev s' hq
  |ok fl =>
   cases fl with
   |ret u=>obtain⟨_,_,_,_,_,_,_,z⟩:=(show CE _ _ _ _ _ _ _ _ from hq);exact z.elim
   |next=>exact False.elim hq
   |brk=>exact False.elim hq
   |cont=>exact False.elim hq
 ·obtain⟨f1,fd,F,hm,_,hb⟩:=hh;have hf:f1=f':=by have:=hm.symm.trans hmf;cases this;rfl
  subst hf;have hsp:rC X.K sp vs H1 (LQ X.K H1 Q') (λ_ _ _=>False):=⟨ds,M1,Q',rs,hm1,q,λv H' z=>z⟩;have hl:(us++[]).length=ps.length:=by rw[append_nil,<- rv.length];exact F.len _ _ _ _ hsp
  have hbb:=hb s1 us I1.kIn hl;rw[append_nil] at hbb;refine wpAny_call (codeAny_mono (F.run X.A X.stack s1 H1 ⟨us,[]⟩ us vs _ _ (hr.mono hk2) I1.env0 hbb rv hsp) λr s' hq=>?_);cases r with
  |error ev=>exact False.elim hq
  |ok fl =>
   cases fl with
   |ret u=>exact hQ u s' (I1.after hq)
   |next=>exact False.elim hq
   |brk=>exact False.elim hq
   |cont=>exact False.elim hq
end
section
open PySem.W PySem.Calls
end
theorem aDu {K:Frag}{t:Value}:kitOne K t t=some true:=by unfold kitOne;rw[if_pos (beq_self_eq_true t)]
section
variable {X:Cx}{n c:Str}{C Cc a:Addr}{o:Obj}{p p1 p2 pos:Pos}{j:Nat}
end
section
open PySem.W PySem.Calls
variable {prog:Program}{w:World}{A:Around}{E:Value->Shared->Prop}{s:Shared}{K:Frag}{x C D:Addr}{ox:Obj}
theorem aGd {Q:Option Value->Shared->Prop}(X:K.In s.heap)(I:InstAt s.heap x ox D none)(hga:findIn K (.ref D) "__getattribute__" = some (some (.builtin "BaseException.__getattribute__")))(hgn:findIn K (.ref D) "__getattr__" = some none)(hcl:findIn K (.ref D) "__class__" = some (some (.builtin "object.__class__")))(hcd:(clsIn K D).isSome = true)(hn:specialIn K (.builtin "object.__class__") "__get__" = some (some (.builtin "getset_descriptor.__get__")))(htk:takesIn K (.builtin "object.__class__") = some true)(hm:mroIn K D (.type "object") = some true)(hmb:mroIn K D (.type "BaseException")=some true)(h:Q (some (.ref D)) { s with toks:=s.toks+1 }):wpAny (model prog w) A (getAttr? (.ref x) "__class__") Q E s:=by
 obtain⟨hh,g,d,t,os⟩:=s;have L0:=I.type (M:=model prog w);have L1:=looks_findIn (M:=model prog w) X hga;unfold getAttr? getAttrBy? getAttrBy;refine wpAny_bind (wpAny_mkText (wpAny_bind (wpAny_attempt (wpAny_holding (wpAny_bind (L0.at (wpAny_bind (L1.at ?_))))))));have hx2:(onTheHeap (Value.ref D)&&Value.builtin "BaseException.__getattribute__"==Value.builtin "object.__getattribute__")=false:=by rw[show(Value.builtin "BaseException.__getattribute__"==Value.builtin "object.__getattribute__")=false by decide +kernel,Bool.and_false]
 dsimp only;rw[if_neg (by rw[hx2];exact Bool.false_ne_true)];have f3:=PySem.F.attr_ValueError.ga.bind (.ref x);have L2:=looks_findIn (M:=model prog w) X hgn;have L3:=looks_mroIn (M:=model prog w) X hmb;have hf:findObj K D none "__class__" = some (.bind (.builtin "getset_descriptor.__get__") (.builtin "object.__class__")):=by obtain⟨cd,hc⟩:=Option.isSome_iff_exists.mp hcd;unfold findObj;rw[hc,Option.bind_some,hcl,Option.bind_some];simp[hn,htk]
 have L4:=looks_find (M:=model prog w) X I hf;unfold getAttrByItsOwn hookBefore callGetattribute;refine wpAny_bind ?_;rw[if_pos (show onTheHeap (Value.ref D)=true from rfl)];refine L2.at ?_;refine wpAny_bind (wpAny_attempt (wpAny_holding ?_));rw[if_neg (by simp)];unfold boundAndCalled;rw[f3];refine wpAny_bind (wpAny_pure ?_);dsimp only[cons_append,nil_append];have hk:builtinKind "BaseException.__getattribute__"=some .slot:=by decide +kernel
 have hsplit:splitId "BaseException.__getattribute__"=some ("BaseException","__getattribute__"):=by decide +kernel
 have ha:=PySem.F.args_bexc_ga (.ref x) (.str "__class__" t);refine wpAny_call (codeAny_call_builtin PySem.F.attr_ValueError.ga.plain PySem.F.entry_bexc_ga ?_);simp only[checkBuiltinCall,hk,hsplit];refine wpAny_bind ?_;unfold isInstance;refine wpAny_bind (L0.at ?_);refine L3.at ?_;simp only[Bool.not_true,Bool.false_eq_true,if_false];repeat (any_goals (first|assumption|(with_reducible refine L0.at ?_)|(with_reducible refine L4.at ?_)|wp_step))
 refine class_get (ox:=ox) (od:=none) X I hm ?_;repeat (any_goals (first|assumption|exact h|wp_step))
structure tV (K:Frag)(D:Addr):Prop where
 ga:findIn K (.ref D) "__getattribute__" = some (some (.builtin "BaseException.__getattribute__"))
 gn:findIn K (.ref D) "__getattr__"=some none
 cl:findIn K (.ref D) "__class__" = some (some (.builtin "object.__class__"))
 nn:specialIn K (.builtin "object.__class__") "__get__" = some (some (.builtin "getset_descriptor.__get__"))
 tk:takesIn K (.builtin "object.__class__")=some true
 mo:mroIn K D (.type "object")=some true
 mb:mroIn K D (.type "BaseException")=some true
theorem tV.cd (e:tV K D):∃cd,clsIn K D=some cd:=by obtain⟨cd,a,_⟩:=Option.bind_eq_some_iff.mp e.mo;exact⟨cd,a⟩
theorem aHu {o:Obj}(e:tV K D)(ho:ExO o D):KitX K (.ref x) (.ref D) (λh=>h.get? x=some o) where
 ty:=λ_ _ _ q=>ho.1 ▸ (Looks.ld q).andThen .now
 it:=λ_ _ X _=>by
  obtain⟨cdD,hcD⟩:=e.cd;unfold clsIn at hcD;split at hcD
  ·rename_i c' d' cd' sl' hk;intro A' Q' E' s' k q;unfold isType loadHead;exact wpAny_bind (wpAny_loadPart (k _ _ (X _ _ hk)) (wpAny_pure q))
  ·cases hcD
 ne:=λh tp dd its n sl X htp=>by
  obtain⟨cdD,hcD⟩:=e.cd;refine Bool.eq_false_iff.mpr λq=>?_;have ee:D=tp:=Value.ref.inj (beq_iff_eq.mp q);subst ee;unfold clsIn at hcD;split at hcD
  ·rename_i c' d' cd' sl' hk;have z:=(X _ _ hk).symm.trans htp;cases z
  ·cases hcD
 ca:=λ{_ _ _ _ _ s} X q k=>by obtain⟨h1,h2,vs,h3⟩:=ho;have I:InstAt s.heap x o D none:=⟨q,h1,by unfold notCls;rw[h3],by rw[h2];trivial⟩;exact aGd X I e.ga e.gn e.cl (by obtain⟨cd,z⟩:=e.cd;rw[z];rfl) e.nn e.tk e.mo e.mb k
end
section
variable {X:Cx}{a C:Addr}{o:Obj}
end
section
open PySem.SeqAt
open PySem.AutoSeq1 (wpAny_loadPart')
open PySem.MeetsSeq PySem.MeetsSeq2 PySem.MeetsSeq3
end
section
variable {X:Cx}{j:Nat}
theorem aKM {K:Frag}{H:Hp}{a b:Int}{xs:List V}{its:List Value}(r:cA K H [.int a,.int b] xs)(v:cG xs its):∃t u,its=[.int a t,.int b u]:=by
 obtain⟨v1,r1,rfl,h1,r1'⟩:=aZ r;obtain rfl:=aV h1;obtain⟨v2,r2,rfl,h2,r2'⟩:=aZ r1';obtain rfl:=aV h2;obtain rfl:=bY r2';cases v with
 |cons q1 w1 =>
  cases w1 with
  |cons q2 w2 =>
   cases w2;obtain⟨t,rfl⟩:=q1;obtain⟨u,rfl⟩:=q2;exact⟨t,u,rfl⟩
end
def aLx (t u:DS):DS:=λD ρ M=>∃R:cO->DM->Prop,t { D with nx:=R } ρ M/\∀ρ' M',R ρ' M'->u D ρ' M'
section
variable {X:Cx}{st:Stmt}{cP:List Stmt}{t u:DS}
theorem aKr (h1:PDS X st t)(h2:lK X cP u):lK X (st::cP) (aLx t u) :=
 aCa (aDA h1 h2) λE σ H ⟨ρ,M,D,re,hm,⟨R,q,k2⟩,k⟩ =>
  ⟨ρ,M,{ D with nx:=R },re,hm,q,⟨λσ' H' ⟨ρ',M',re',hm',ex,r⟩=>⟨ρ',M',D,re',hm',k2 ρ' M' r,k.at ex⟩,k.rt,k.bk,k.ct⟩⟩
end
section
variable {X:Cx}{e:Expr}{es:List Expr}{t:DA}{x f cm:Str}{ps:List Str}{sp:DSp}{cond:List D->DM->Prop}{C Cm:Addr}{k1 k2 k i:Nat}{ts:DS}{b0:Stmt}{suite:List Stmt}{px pf pc pa pcm ph pos:Pos}
end
@[irreducible] def ZE (X:Cx)(e:Expr)(t:DE):Prop:=PDE X e t
theorem ZE.o {X:Cx}{e:Expr}{t:DE}(h:ZE X e t):PDE X e t:=by unfold ZE at h;exact h
theorem ZE.i {X:Cx}{e:Expr}{t:DE}(h:PDE X e t):ZE X e t:=by unfold ZE;exact h
@[irreducible] def ZT (X:Cx)(e:Expr)(t:DT):Prop:=PDT X e t
theorem ZT.o {X:Cx}{e:Expr}{t:DT}(h:ZT X e t):PDT X e t:=by unfold ZT at h;exact h
theorem ZT.i {X:Cx}{e:Expr}{t:DT}(h:PDT X e t):ZT X e t:=by unfold ZT;exact h
@[irreducible] def ZW (X:Cx)(e:Expr)(t:DT):Prop:=PDW X e t
theorem ZW.o {X:Cx}{e:Expr}{t:DT}(h:ZW X e t):PDW X e t:=by unfold ZW at h;exact h
theorem ZW.i {X:Cx}{e:Expr}{t:DT}(h:PDW X e t):ZW X e t:=by unfold ZW;exact h
@[irreducible] def ZA (X:Cx)(e:List Expr)(t:DA):Prop:=PDA X e t
theorem ZA.o {X:Cx}{e:List Expr}{t:DA}(h:ZA X e t):PDA X e t:=by unfold ZA at h;exact h
theorem ZA.i {X:Cx}{e:List Expr}{t:DA}(h:PDA X e t):ZA X e t:=by unfold ZA;exact h
@[irreducible] def ZS (X:Cx)(e:Stmt)(t:DS):Prop:=PDS X e t
theorem ZS.o {X:Cx}{e:Stmt}{t:DS}(h:ZS X e t):PDS X e t:=by unfold ZS at h;exact h
theorem ZS.i {X:Cx}{e:Stmt}{t:DS}(h:PDS X e t):ZS X e t:=by unfold ZS;exact h
@[irreducible] def ZSs (X:Cx)(e:List Stmt)(t:DS):Prop:=lK X e t
theorem ZSs.o {X:Cx}{e:List Stmt}{t:DS}(h:ZSs X e t):lK X e t:=by unfold ZSs at h;exact h
theorem ZSs.i {X:Cx}{e:List Stmt}{t:DS}(h:lK X e t):ZSs X e t:=by unfold ZSs;exact h
@[irreducible] def ZG (X:Cx)(e:Expr)(t:DG):Prop:=PDG X e t
theorem ZG.o {X:Cx}{e:Expr}{t:DG}(h:ZG X e t):PDG X e t:=by unfold ZG at h;exact h
theorem ZG.i {X:Cx}{e:Expr}{t:DG}(h:PDG X e t):ZG X e t:=by unfold ZG;exact h
@[irreducible] def ZGs (X:Cx)(e:List Expr)(t:DGs):Prop:=aD6 X e t
theorem ZGs.o {X:Cx}{e:List Expr}{t:DGs}(h:ZGs X e t):aD6 X e t:=by unfold ZGs at h;exact h
theorem ZGs.i {X:Cx}{e:List Expr}{t:DGs}(h:aD6 X e t):ZGs X e t:=by unfold ZGs;exact h
@[irreducible] def ZO (X:Cx)(e:Option Expr)(t:DO):Prop:=PO X e (aAl X.K t)
theorem ZO.o {X:Cx}{e:Option Expr}{t:DO}(h:ZO X e t):PO X e (aAl X.K t):=by unfold ZO at h;exact h
theorem ZO.i {X:Cx}{e:Option Expr}{t:DO}(h:PO X e (aAl X.K t)):ZO X e t:=by unfold ZO;exact h
section
variable {K:Frag}{H H':Hp}
end
section
variable {K:Frag}{H H':Hp}{M M':DM}
end
section
variable {K:Frag}{H H':Hp}{ρ:cO}{σ:L2.St}
end
section
variable {K:Frag}{H H1:Hp}
end
section
variable {X:Cx}{e:Expr}{st:Stmt}{sts:List Stmt}
end
section
variable {X:Cx}{a b c e:Expr}{es:List Expr}{ta tb tc te:DE}{tA tB:DT}{t:DA}{pos:Pos}
theorem aB (i:Nat){x:Str}{pos:Pos}(hN:X.N[i]?=some x:=by rfl)(hv:Vis X.env.scope x:=by first|exact Or.inl rfl|exact Or.inr (Or.inl rfl)|exact Or.inr (Or.inr rfl))(hd:(x==("__debug__":Str))=false:=by decide)(hcd:(x==("__classdict__":Str))=false:=by decide):ZE X (.Name x pos) (aCl i):=.i (aNs i hN hv hd hcd)
theorem aC {i j pos}:ZE X (.Constant (.int i) j pos) (dC (.int i)):=.i (aNV (i:=i) (j:=j) (pos:=pos))
theorem lM {i j pos}:ZE X (.Constant (.bool i) j pos) (dC (.bl i)):=.i (aN8 (i:=i) (j:=j) (pos:=pos))
theorem fV {j pos}:ZE X (.Constant .none j pos) (dC .non):=.i (aLS (j:=j) (pos:=pos))
theorem aL {x j pos}:ZE X (.Constant (.str x) j pos) (dC (.str x)):=.i (aLt)
theorem aK {op:Operator}{r:D2}(ho:OpD X (binaryOp op) r)(ha:ZE X a ta)(hb:ZE X b tb):ZE X (.BinOp a op b pos) (dOp r ta tb):=.i (aOl (op:=op) ho ha.o hb.o)
theorem cN {op:CmpOp}{r:D2}(ho:OpD X (compareOp op) r)(ha:ZE X a ta)(hb:ZE X b tb)(hm:behindInMarks op b=false:=by exact aCo _):ZE X (.Compare a [op] [b] pos) (dOp r ta tb):=.i (aMx (op:=op) ho ha.o hb.o hm)
theorem aQ {op:CmpOp}{r:D2}(ho:OpD X (compareOp op) r)(ha:ZE X a ta)(hb:ZE X b tb)(hm:behindInMarks op b=false:=by exact aCo _):ZT X (.Compare a [op] [b] pos) (yK (dOp r ta tb)):=.i (aNb (op:=op) ho ha.o hb.o hm)
theorem dD (h:ZE X e te)(he:∀whole,isTrue e X.env whole=(do let v <- whole;standAt e.pos;holding [v] (truthy v)):=by intro _;rfl):ZT X e (yK te):=.i (aMu h.o he)
variable {cP:List Expr}
theorem fF (ha:ZT X a tA):ZW X (.BoolOp .And [a] pos) tA:=.i (aJj ha.o)
theorem iB (ha:ZT X a tA):ZW X (.BoolOp .Or [a] pos) tA:=.i (aL3 ha.o)
theorem fU (ha:ZT X a tA)(hb:ZW X (.BoolOp .And (b::cP) pos) tB):ZW X (.BoolOp .And (a::b::cP) pos) (aMz tA tB):=.i (aMI ha.o hb.o)
theorem kL (ha:ZT X a tA)(hb:ZW X (.BoolOp .Or (b::cP) pos) tB):ZW X (.BoolOp .Or (a::b::cP) pos) (dOr tA tB):=.i (aOU ha.o hb.o)
theorem fY (h:ZW X e tA):ZT X e tA:=.i (aQa h.o)
theorem kS (ha:ZT X a tA):ZT X (.UnaryOp .Not a pos) (aNz tA):=.i (aMy ha.o)
theorem eV {op}(h:ZE X a ta):ZE X (.BoolOp op [a] pos) ta:=.i (aMf (op:=op) h.o)
theorem fP (ha:ZE X a ta)(hb:ZE X (.BoolOp .And (b::cP) pos) tb):ZE X (.BoolOp .And (a::b::cP) pos) (aIO ta tb):=.i (aNy ha.o hb.o)
theorem zQ (ha:ZE X a ta)(hb:ZE X (.BoolOp .Or (b::cP) pos) tb):ZE X (.BoolOp .Or (a::b::cP) pos) (aM1 ta tb):=.i (aPX ha.o hb.o)
theorem vU (ha:ZE X a ta):ZE X (.UnaryOp .Not a pos) (aGS ta):=.i (aLR ha.o)
theorem iK (hc:ZT X c tA)(ha:ZE X a ta)(hb:ZE X b tb):ZE X (.IfExp c a b pos) (aL4 tA ta tb):=.i (aHC hc.o ha.o hb.o)
theorem aD :ZA X [] pT:=.i (aCG)
theorem aA (ha:ZE X e te)(hr:ZA X es t)(hs:starEach (e::es) X.env=(false,eval e X.env)::starEach es X.env:=by rfl):ZA X (e::es) (kZ te t):=.i (zL ha.o hr.o hs)
theorem aM {x1}(h:ZA X es t):ZE X (.Tuple es x1 pos) (aLZ t):=.i (aMc h.o)
theorem bR (h:ZA X es t):ZE X (.List es pos) (aLg t):=.i (aNO h.o)
end
section
variable {X:Cx}{st:Stmt}{cP:List Stmt}{t u:DS}{e:Expr}{te:DE}{pos:Pos}
theorem aS :ZSs X [] aDC:=.i (aJA)
theorem aF (h1:ZS X st t)(h2:ZSs X cP u):ZSs X (st::cP) (aM0 t u):=.i (aGM h1.o h2.o)
theorem aE (h1:ZS X st t):ZSs X [st] t:=.i (aJr h1.o)
theorem dR (he:ZE X e te)(hs:swapsWith e none pos.line X.env=pure false:=by rfl):ZS X (.Expr e pos) (aIL te):=.i (aJR he.o hs)
theorem aN (he:ZE X e te):ZS X (.Return (some e) pos) (aNI te):=.i (aLY he.o)
theorem aW {c:Expr}{a b:List Stmt}{tc:DT}(hc:ZT X c tc)(ha:ZSs X a t)(hb:ZSs X b u):ZS X (.If c a b pos) (aMh tc t u):=.i (aPf hc.o ha.o hb.o)
theorem mB :ZS X st aE6:=.i (aHZ)
end
section
variable {X:Cx}{pos:Pos}{e tg:Expr}{es:List Expr}{te:DE}
theorem aX {i:Nat}{x:Str}(hN:X.N.Nodup)(hi:X.N[i]?=some x:=by rfl)(hx:Loc X.env.scope x:=by first|exact Or.inl rfl|exact Or.inr rfl)(hf:X.fn x=true∨X.env.scope.names.lookup x=some .local:=by first|exact .inl rfl|exact .inr rfl|assumption):ZG X (.Name x pos) (gN i):=.i (aI1 (i:=i) hN hi hx hf)
theorem fE :ZGs X [] gNl:=.i (aJY)
theorem bJ {t:DG}{u:DGs}(h1:ZG X e t)(h2:ZGs X es u)(hs:(assignEach (e::es) X.env).map (·.2)=assign e X.env::(assignEach es X.env).map (·.2):=by rfl):ZGs X (e::es) (gCn t u):=.i (aIv h1.o h2.o hs)
theorem iU {g:DG}(he:ZE X e te)(hg:ZG X tg g)(hs:swapsWithSole [tg] e pos.line X.env=pure false:=by rfl)(hw:swappedStores [tg] e X.env=pure none:=by rfl)(h1:(assignEach [tg] X.env).map (·.2)=[assign tg X.env]:=by rfl):ZS X (.Assign [tg] e pos) (aGf te g):=.i (aL0 he.o hg.o hs hw h1)
theorem aP {i:Nat}{x:Str}{pos':Pos}(hN:X.N.Nodup)(he:ZE X e te)(hi:X.N[i]?=some x:=by rfl)(hx:Loc X.env.scope x:=by first|exact Or.inl rfl|exact Or.inr rfl)(hs:swapsWith e (some (.Name x pos')) pos.line X.env=pure false:=by rfl)(hf:X.fn x=true∨X.env.scope.names.lookup x=some .local:=by first|exact .inl rfl|exact .inr rfl|assumption):ZS X (.Assign [.Name x pos'] e pos) (aGf te (gN i)):=.i (aLy (i:=i) hN he.o hi hx hs hf)
theorem sE {i j:Nat}{x y:Str}{a b:Expr}{ta:DA}{px py pt:Pos}{kt k2 pt2}(hc:X.calm=true)(hN:X.N.Nodup)(ha:ZA X [a,b] ta)(hi:X.N[i]?=some x:=by rfl)(hj:X.N[j]?=some y:=by rfl)(hij:i≠j:=by decide)(hx:X.env.scope.names.lookup x=some .local:=by rfl)(hy:X.env.scope.names.lookup y=some .local:=by rfl)(hw:swappedStores [.Tuple [.Name x px,.Name y py] kt pt] (.Tuple [a,b] k2 pt2) X.env=pure (some [x,y]):=by rfl)(hs:swapsWithSole [.Tuple [.Name x px,.Name y py] kt pt] (.Tuple [a,b] k2 pt2) pos.line X.env=pure false:=by rfl):ZS X (.Assign [.Tuple [.Name x px,.Name y py] kt pt] (.Tuple [a,b] k2 pt2) pos) (aMq i j ta):=.i (aN0 (i:=i) (j:=j) hc hN ha.o hi hj hij hx hy hw hs)
end
section
variable {X:Cx}{pos:Pos}
theorem iH {c:Expr}{body:List Stmt}{tc:DT}{tb:DS}(hp:PassesOwn (model X.prog X.w) X.A X.env X.xe)(hc:ZT X c tc)(hb:ZSs X body tb):ZS X (.While c body [] pos) (aE3 tc tb):=.i (aIz hp hc.o hb.o)
variable {iter tg:Expr}{body:List Stmt}{tl:DE}{g:DG}{tb:DS}
end
section
variable {X:Cx}{pos:Pos}{iter tg:Expr}{body:List Stmt}{tl:DE}{g:DG}{tb:DS}{ta:DA}
theorem kX (hp:PassesOwn (model X.prog X.w) X.A X.env X.xe)(hc:X.calm=true)(hi:ZE X iter tl)(hg:ZG X tg g)(hb:ZSs X body tb)(hs:∀x,foldedSetIterable iter X.env x=pure x:=by intro _;rfl):ZS X (.For tg iter body [] pos) (aDQ tl g tb):=.i (aFi hp hc hi.o hg.o hb.o hs)
theorem zR (hp:PassesOwn (model X.prog X.w) X.A X.env X.xe)(hc:X.calm=true)(hi:ZE X iter tl)(hg:ZG X tg g)(hb:ZSs X body tb)(hs:∀x,foldedSetIterable iter X.env x=pure x:=by intro _;rfl):ZS X (.For tg iter body [] pos) (aDj tl g tb):=.i (aFv hp hc hi.o hg.o hb.o hs)
theorem aAM {a:Expr}{p pos':Pos}(hp:PassesOwn (model X.prog X.w) X.A X.env X.xe)(hc:X.calm = true)(hmg:X.mg "range" = none)(ha:ZA X [a] ta)(hg:ZG X tg g)(hb:ZSs X body tb)(hgl:Gl X "range":=by rfl)(hse:starEach [a] X.env = [(false,eval a X.env)]:=by rfl)(hs:∀x,foldedSetIterable (.Call (.Name "range" p) [a] [] pos') X.env x = pure x:=by intro _;rfl):ZS X (.For tg (.Call (.Name "range" p) [a] [] pos') body [] pos) (aHH ta g tb):=.i (aI3 hp hc hmg ha.o hg.o hb.o hgl hse hs)
theorem aHV {a b:Expr}{p pos':Pos}(hp:PassesOwn (model X.prog X.w) X.A X.env X.xe)(hc:X.calm = true)(hmg:X.mg "range" = none)(ha:ZA X [a,b] ta)(hg:ZG X tg g)(hb:ZSs X body tb)(hgl:Gl X "range":=by rfl)(hse:starEach [a,b] X.env = [(false,eval a X.env),(false,eval b X.env)]:=by rfl)(hse2:starEach [b] X.env = [(false,eval b X.env)]:=by rfl)(hs:∀x,foldedSetIterable (.Call (.Name "range" p) [a,b] [] pos') X.env x = pure x:=by intro _;rfl):ZS X (.For tg (.Call (.Name "range" p) [a,b] [] pos') body [] pos) (aIW ta g tb):=.i (aKe hp hc hmg ha.o hg.o hb.o hgl hse hse2 hs)
end
section
variable {X:Cx}{pins:List (Addr×Obj)}{σ:L2.St}{H:Hp}{s:Shared}
end
section
variable {X:Cx}{a b e o:Expr}{es:List Expr}{ta tb te to:DE}{t:DA}{pos:Pos}
theorem eL (ha:ZE X a ta):ZE X (.UnaryOp .USub a pos) (aMb ta):=.i (aLB ha.o)
theorem aH (ha:ZE X a ta)(hb:ZE X b tb)(hs:uZ b:=by exact λ_ _=>rfl):ZE X (.Subscript a b pos) (dOp nK ta tb):=.i (aPo ha.o hb.o hs)
theorem iQ :ZO X none aNL:=.i (aJa)
theorem dH (h:ZE X e te):ZO X (some e) (dPt te):=.i (aI7 h.o)
variable {lo hi:Option Expr}{tl th:DO}{p2:Pos}
theorem lY (he:ZE X e te)(hl:ZO X lo tl)(hu:ZO X hi th):ZE X (.Subscript e (.Slice lo hi none p2) pos) (dSl te tl th):=.i (aHT he.o hl.o hu.o)
variable {CX:CXT}{k:Nat}{f:Addr}{fd:FuncData}{ps:List Str}{sp:DSp}{E:XK}{x:Str}{p:Pos}
theorem bI {id:String}{r:DSp}(hc:jI X (.builtin id) r)(hm:X.mg x = none)(ha:ZA X (e :: es) t)(hv:bootBuiltins x = some (.builtin id):=by rfl)(hg:Gl X x:=by rfl)(hn:x ≠ "__name__":=by decide)(hdb:(x==("__debug__":Str))=false:=by decide)(he:starEach (e::es) X.env=(false,eval e X.env)::starEach es X.env:=by rfl)(hpl:(backTo pos (starEach es X.env)).any (·.1)=false:=by rfl):ZE X (.Call (.Name x p) (e::es) [] pos) (qI r t):=.i (aGH (id:=id) hc hm ha.o hv hg hn hdb he hpl)
theorem eE {T:String}{r:DSp}(hc:jI X (.type T) r)(hm:X.mg x = none)(ha:ZA X (e :: es) t)(hv:bootBuiltins x = some (.type T):=by rfl)(hg:Gl X x:=by rfl)(hn:x ≠ "__name__":=by decide)(hdb:(x==("__debug__":Str))=false:=by decide)(he:starEach (e::es) X.env=(false,eval e X.env)::starEach es X.env:=by rfl)(hpl:(backTo pos (starEach es X.env)).any (·.1)=false:=by rfl):ZE X (.Call (.Name x p) (e::es) [] pos) (qI r t):=.i (aGm (T:=T) hc hm ha.o hv hg hn hdb he hpl)
end
section
variable {X:Cx}{a b e o:Expr}{es:List Expr}{ta tb te to:DE}{t:DA}{pos:Pos}
theorem fM {apos cpos:Pos}(ho:ZE X o to)(he:ZE X e te)(hse:starEach [e] X.env = (false,eval e X.env) :: starEach [] X.env:=by rfl)(hbase:attributeBase o "append" X.env (eval o X.env)=eval o X.env:=by rfl)(hfew:((backTo cpos (starEach [e] X.env)).all (λx=>!x.1)&&(backToKw cpos (keywordEach [] X.env)).all (λx=>x.1.isSome)
  &&decide ([e].length+([]:List Keyword).length+(if ([]:List Keyword).isEmpty then 0 else 1)<30)) = true:=by rfl)(hline:(apos.endLine==cpos.line) = true:=by rfl)(hplain:(backTo cpos (starEach [] X.env)).any (·.1) = false:=by rfl):ZE X (.Call (.Attribute o "append" apos) [e] [] cpos) (aDe to te):=.i (aFW ho.o he.o hse hbase hfew hline hplain)
theorem mS {T:String}{x:Str}{p p2:Pos}(he:ZE X e te)(hm:X.mg "isinstance" = none)(hmx:X.mg x = none)(hv:bootBuiltins x = some (.type T):=by rfl)(hg:Gl X "isinstance":=by rfl)(hgx:Gl X x:=by rfl)(hn:x ≠ "__name__":=by decide)(hdb:(x==("__debug__":Str)) = false:=by decide)(hse:starEach [e,.Name x p2] X.env = (false,eval e X.env) :: starEach [.Name x p2] X.env:=by rfl)(hse2:starEach [.Name x p2] X.env = (false,eval (.Name x p2) X.env) :: starEach [] X.env:=by rfl)(hpl:(backTo pos (starEach [.Name x p2] X.env)).any (·.1) = false:=by rfl):ZE X (.Call (.Name "isinstance" p) [e,.Name x p2] [] pos) (dIs X.K (.type T) te):=.i (aJJ (T:=T) he.o hm hmx hv hg hgx hn hdb hse hse2 hpl)
end
section
variable {P:Program}{w:World}{K:Frag}{mg:Str->Option Value}{base:Heap}
end
section
variable {P:Program}{w:World}{K:Frag}{mg:Str->Option Value}{base:Heap}
end
section
variable {X:Cx}{a b c e:Expr}{es:List Expr}{ta tb te:DE}{t:DA}{pos p:Pos}{x:Str}{ps:List Str}{sp:DSp}{k j:Nat}
theorem aG (h:Has X.prog X.w X.K X.mg X.base k x ps sp)(hr:eB j X.A)(hkj:k<=j)(ha:ZA X (e::es) t)(hg:Gl X x:=by rfl)(hdb:(x==("__debug__":Str))=false:=by decide)(he:starEach (e::es) X.env=(false,eval e X.env)::starEach es X.env:=by rfl)(hpl:(backTo pos (starEach es X.env)).any (·.1)=false:=by rfl):ZE X (.Call (.Name x p) (e::es) [] pos) (qI sp t):=.i (aHk h hr hkj ha.o hg hdb he hpl)
theorem aEO (h:Has X.prog X.w X.K X.mg X.base k x ps sp)(hr:eB j X.A)(hkj:k<=j)(hg:Gl X x:=by rfl)(hdb:(x==("__debug__":Str))=false:=by decide):ZE X (.Call (.Name x p) [] [] pos) (qI sp pT):=.i (aGa h hr hkj hg hdb)
theorem bG {d:D}(h:gG X.K X.mg x d)(hg:Gl X x:=by rfl)(hd:(x==("__debug__":Str))=false:=by decide):ZE X (.Name x pos) (dC d):=.i (aHh h hg hd)
theorem nX {i:Nat}{op:Operator}{g:Int->Int->Int}{pos':Pos}(ho:PIp X op (ipI g))(hN:X.N.Nodup)(he:ZE X e te)(hi:X.N[i]?=some x:=by rfl)(hx:Loc X.env.scope x:=by first|exact Or.inl rfl|exact Or.inr rfl)(hf:X.fn x=true∨X.env.scope.names.lookup x=some .local:=by first|exact .inl rfl|exact .inr rfl|assumption):ZS X (.AugAssign (.Name x pos') op e pos) (aJQ i te g):=.i (aJB (i:=i) (op:=op) ho hN he.o hi hx hf)
end
section
variable {prog:Program}{w:World}{A:Around}{E:Value->Shared->Prop}{s:Shared}
end
section
variable {X:Cx}{pos:Pos}{e a b:Expr}{es:List Expr}{te ta tb:DE}
theorem gS {k:Nat}{t:DGs}{n:Nat}(hc:X.calm=true)(h:ZGs X es t)(hn:(assignEach es X.env).length=n:=by rfl)(hst:(assignEach es X.env).findIdx? (·.1)=none:=by rfl):ZG X (.Tuple es k pos) (gU n t):=.i (aM8 (n:=n) hc h.o hn hst)
end
section
variable {M:DM}{Q:DQ}{g:Bool->Bool}{ds:List D}{i:Int}{a:Addr}{α:Type}{x0 x1 x2 x3 x4 x5:α}{l:List α}
end
section
variable {K:Frag}{H:Hp}{ρ:cO}{σ:L2.St}
end
section
variable {X:Cx}{g:DG}{te:DE}
variable {elt iter tg:Expr}{scope:Scope}{pos:Pos}{N':List Str}{fr:List (Option Nat)}{tl:DE}{ta:DA}{oN:List Str}{osc:Scope}
theorem aJo (B:aCV oN osc N' fr scope)(hc:X.calm=true)(hi:ZE X iter tl)(hg:∀C s H fp pins,ZG (X.blk N' scope C s H fp pins) tg g)(he:∀C s H fp pins,ZE (X.blk N' scope C s H fp pins) elt te)(hN:X.N=oN:=by rfl)(ho:X.env.scope=osc:=by rfl)(hs:∀x,foldedSetIterable iter X.env x=pure x:=by intro _;rfl):ZE X (.ListComp elt [⟨tg,iter,[],0⟩] scope pos) (aLv tl fr g te):=.i (aMS B hc hi.o (λC s H fp pins=>(hg C s H fp pins).o) (λC s H fp pins=>(he C s H fp pins).o) hN ho hs)
theorem aFm (B:aCV oN osc N' fr scope)(hc:X.calm=true)(hi:ZE X iter tl)(hg:∀C s H fp pins,ZG (X.blk N' scope C s H fp pins) tg g)(he:∀C s H fp pins,ZE (X.blk N' scope C s H fp pins) elt te)(hN:X.N=oN:=by rfl)(ho:X.env.scope=osc:=by rfl)(hs:∀x,foldedSetIterable iter X.env x=pure x:=by intro _;rfl):ZE X (.ListComp elt [⟨tg,iter,[],0⟩] scope pos) (aLq tl fr g te):=.i (aLi B hc hi.o (λC s H fp pins=>(hg C s H fp pins).o) (λC s H fp pins=>(he C s H fp pins).o) hN ho hs)
end
variable {X:Cx}
section
variable {g:DG}{te:DE}{tb:DS}{Q:DQ}{ρ0:cO}
end
section
variable {e:Expr}{te:DE}{pos:Pos}
end
section
variable {X:Cx}{e:Expr}{te:DE}{pos p2:Pos}{lo hi:Option Expr}{tl th:DO}
theorem aE1 (he:ZE X e te)(hl:ZO X lo tl)(hu:ZO X hi th):ZE X (.Subscript e (.Slice lo hi none p2) pos) (aLm te tl th):=.i (aGp he.o hl.o hu.o)
end
section
variable {X:Cx}{a n:Expr}{ta:DE}{tn:DA}{pos p pos':Pos}
end
section
variable {X:Cx}{a b c e o:Expr}{es:List Expr}{ta tb tc te to:DE}{pos:Pos}
theorem aB6 {op op':CmpOp}{r r':D2}(ho:OpD X (compareOp op) r)(ho':OpD X (compareOp op') r')(ha:ZE X a ta)(hb:ZE X b tb)(hc:ZE X c tc)(hm:lastMarks [op,op'] [b,c]=false:=by with_unfolding_all rfl):ZE X (.Compare a [op,op'] [b,c] pos) (xQ r r' ta tb tc):=.i (aHQ (op:=op) (op':=op') ho ho' ha.o hb.o hc.o hm)
theorem aBV {op op':CmpOp}{r r':D2}(ho:OpD X (compareOp op) r)(ho':OpD X (compareOp op') r')(ha:ZE X a ta)(hb:ZE X b tb)(hc:ZE X c tc)(hm:lastMarks [op,op'] [b,c]=false:=by with_unfolding_all rfl):ZT X (.Compare a [op,op'] [b,c] pos) (yK (xQ r r' ta tb tc)):=.i (aHI (op:=op) (op':=op') ho ho' ha.o hb.o hc.o hm)
end
section
variable {X:Cx}{e k:Expr}{te tk:DE}{pos p2:Pos}
end
section
variable {X:Cx}{pos:Pos}{iter tg:Expr}{body:List Stmt}{tl:DE}{g:DG}{tb:DS}{ta:DA}
end
section
variable {X:Cx}{x:Str}{V:DM->Prop}{e:Expr}{es:List Expr}{t:DA}{np cpos pos:Pos}
theorem aF3 (R:uX X x V)(ha:ZA X (e::es) t)(hg:Gl X x:=by rfl)(hd:(x==("__debug__":Str))=false:=by decide)(he:starEach (e::es) X.env=(false,eval e X.env)::starEach es X.env:=by rfl)(hpl:(backTo cpos (starEach es X.env)).any (·.1)=false:=by rfl):ZS X (.Raise (some (.Call (.Name x np) (e::es) [] cpos)) none pos) (aEv V t):=.i (aHv R ha.o hg hd he hpl)
end
section
variable {P:Program}{w:World}{K:Frag}{mg:Str->Option Value}{base:Heap}
end
section
variable {X:Cx}{pins:List (Addr×Obj)}{σ:L2.St}{H:Hp}{s:Shared}{a:Addr}{o:Obj}
end
section
variable {X:Cx}{a:Expr}{e:Expr}{es:List Expr}{t:DA}{x f n cm:Str}{ps:List Str}{sp:DSp}{cond:List D->DM->Prop}{C Cm:Addr}{k1 k2 k i j:Nat}{ts:Addr->DS}{b0:Stmt}{suite:List Stmt}{px pf pc pa pcm ph pos:Pos}
end
section
end
section
variable {X:Cx}{n c:Str}{C Cc a:Addr}{o:Obj}{p p1 p2 pos:Pos}{j:Nat}
end
section
variable {prog:Program}{w:World}{A:Around}{E:Value->Shared->Prop}{s:Shared}{K:Frag}{x C D:Addr}{ox:Obj}
end
section
variable {X:Cx}{a C:Addr}{o:Obj}
end
section
end
section
variable {X:Cx}{j:Nat}
end
section
variable {X:Cx}{st:Stmt}{cP:List Stmt}{t u:DS}
theorem hJ (h1:ZS X st t)(h2:ZSs X cP u):ZSs X (st::cP) (aLx t u):=.i (aKr h1.o h2.o)
end
section
variable {X:Cx}{e:Expr}{es:List Expr}{t:DA}{x f cm:Str}{ps:List Str}{sp:DSp}{cond:List D->DM->Prop}{C Cm:Addr}{k1 k2 k i:Nat}{ts:DS}{b0:Stmt}{suite:List Stmt}{px pf pc pa pcm ph pos:Pos}
end
section
variable {P:Program}{w:World}{K:Frag}{mg:Str->Option Value}{base:Heap}
theorem Fun.okZ {x qual:Str}{st:Stmt}{f:Addr}{fd:FuncData}{N ps:List Str}{k:Nat}{sp:DSp}(F:L2.Fun K x qual st f fd)(S:aR N ps (aJ st))(len:∀ds M Q,sp ds M Q->ds.length=ps.length)(hbody:∀(cdv:Value)(A:Around) (outer:List Env) (s:Shared) (H:Hp) (ds:List D) (M:DM) (Q:DQ) (E:XK),eB k (A.deeper (envOfC qual (aJ st) s.heap.objs.size f cdv))->sp ds M Q ->
   ∃t,ZSs (kE CX0 P w K mg base N qual (aJ st) f cdv A outer s H E).nox (fC st) t/\t { nx:=λ_ M'=>Dn Q .non M',rt:=Dn Q } (iO N ds) M):lP P w K mg base CX0 (k+1) f fd ps (rC K sp) :=
 Fun.okD F S len λcdv A outer s H ds M Q E hr h=>let ⟨t,h1,h2⟩:=hbody cdv A outer s H ds M Q E hr h;⟨t,h1.o,h2⟩
theorem Has.mkZ {x:Str}{st:Stmt}{N ps:List Str}{k:Nat}{sp:DSp}(h:bT K mg x st ps)(S:aR N ps (aJ st))(len:∀ds M Q,sp ds M Q->ds.length=ps.length)(hbody:∀(f:Addr)(cdv:Value) (A:Around) (outer:List Env) (s:Shared) (H:Hp) (ds:List D) (M:DM) (Q:DQ) (E:XK),eB k (A.deeper (envOfC x (aJ st) s.heap.objs.size f cdv))->sp ds M Q ->
   ∃t,ZSs (kE CX0 P w K mg base N x (aJ st) f cdv A outer s H E).nox (fC st) t/\t { nx:=λ_ M'=>Dn Q .non M',rt:=Dn Q } (iO N ds) M):Has P w K mg base (k+1) x ps sp :=
 Has.mk h S len λf cdv A outer s H ds M Q E hr h=>let ⟨t,h1,h2⟩:=hbody f cdv A outer s H ds M Q E hr h;⟨t,h1.o,h2⟩
end
section
variable {P:Program}{w:World}{K:Frag}{mg:Str->Option Value}{base:Heap}
end
end Dd
namespace Mz
open PySem
def Bd (n:Nat)(x:Int):Prop:=x.natAbs<2^n
theorem Bd.mono {m n:Nat}{x:Int}(h:Bd m x)(l:m<=n):Bd n x:=Nat.lt_of_lt_of_le h (Nat.pow_le_pow_right (by decide) l)
theorem Bd.neg {n:Nat}{x:Int}(h:Bd n x):Bd n (-x):=by unfold Bd at *;rw[Int.natAbs_neg];exact h
theorem Bd.add {m:Nat}{x y:Int}(h:Bd m x)(h2:Bd m y):Bd (m+1) (x+y):=by unfold Bd at *;have:=Int.natAbs_add_le x y;rw[Nat.pow_succ];omega
theorem Bd.sub {m:Nat}{x y:Int}(h:Bd m x)(h2:Bd m y):Bd (m+1) (x-y):=by rw[Int.sub_eq_add_neg];exact h.add h2.neg
theorem Bd.mul {m n:Nat}{x y:Int}(h:Bd m x)(h2:Bd n y):Bd (m+n) (x*y):=by unfold Bd at *;rw[Int.natAbs_mul,Nat.pow_add];exact Nat.mul_lt_mul'' h h2
theorem Bd.of {n:Nat}{x:Int}(h1:-(2^n:Nat)<x)(h2:x<(2^n:Nat)):Bd n x:=by unfold Bd;omega
theorem Bd.log {n:Nat}{x:Int}(h:Bd n x)(h0:0<n):x.natAbs.log2<n:=by
 rcases Nat.eq_zero_or_pos x.natAbs with e|e
 ·rw[e];simpa using h0
 ·exact(Nat.log2_lt (Nat.ne_of_gt e)).mpr h
theorem Bd.bits {n:Nat}{x:Int}(h:Bd n x):Builtin.Int.intBits x<=n+1:=by
 unfold Builtin.Int.intBits;split
 ·exact Nat.zero_le _
 ·rcases Nat.eq_zero_or_pos n with e|e
  ·subst e;have:x.natAbs<1:=h;have:x.natAbs=0:=by omega
   rw[this];decide
  ·have:=h.log e;omega
theorem dB {m n:Nat}{x y:Int}(h:Bd m x)(h2:Bd n y)(l:m+n<=100000000:=by decide):IntMulOk x y:=IntMulOk.of_le h.bits h2.bits (by omega)
theorem rR {x y:Int}(h:Bd 63 x):IntMulOk x y:=IntMulOk.of_left (by have:=h.bits;omega)
theorem uP {x y:Int}(h:Bd 63 y):IntMulOk x y:=IntMulOk.of_right (by have:=h.bits;omega)
theorem aB7 {a b:Int}(h:b≠0):(a.fmod b).natAbs<b.natAbs:=by
 rcases Int.lt_or_lt_of_ne h with hb|hb
 ·have e:=Int.fmod_eq_emod (a:=a) (b:=b);have h1:=Int.emod_nonneg a h;have h2:=Int.emod_lt_of_neg a hb;by_cases hd:b∣a
  ·rw[if_pos (.inr hd)] at e;have:=Int.emod_eq_zero_of_dvd hd;omega
  ·rw[if_neg (by omega)] at e;have h3:a % b≠0:=λz=>hd (Int.dvd_of_emod_eq_zero z);omega
 ·have h1:=Int.fmod_nonneg_of_pos a hb;have h2:=Int.fmod_lt_of_pos a hb;omega
theorem aAf (a b:Int):Int.gcd b (a.fmod b)=Int.gcd a b:=by rw[Int.fmod_def,Int.mul_comm b,Int.gcd_sub_mul_right_right,Int.gcd_comm]
noncomputable def sg (t b:Int):Int:=if b<0 then -(Int.gcd t b:Int) else (Int.gcd t b:Int)
noncomputable def fT (t b:Int):Int:=t.fdiv (sg t b)
noncomputable def fB (t b:Int):Int:=b.fdiv (sg t b)
theorem nF {t b:Int}(h:b≠0):0<Int.gcd t b:=Nat.pos_of_ne_zero λz=>h (Int.gcd_eq_zero_iff.mp z).2
theorem aK5 {t b:Int}(h:b≠0):sg t b≠0:=by have:=nF (t:=t) h;unfold sg;split<;>omega
theorem qL (t b:Int):sg t b∣t:=by
 have h:=Int.gcd_dvd_left t b;unfold sg;split
 ·exact Int.neg_dvd.mpr h
 ·exact h
theorem rO (t b:Int):sg t b∣b:=by
 have h:=Int.gcd_dvd_right t b;unfold sg;split
 ·exact Int.neg_dvd.mpr h
 ·exact h
theorem aNP {t b:Int}(h:b≠0):fT t b*sg t b=t:=by unfold fT;rw[Int.fdiv_eq_ediv_of_dvd (qL t b)];exact Int.ediv_mul_cancel (qL t b)
theorem aGV {t b:Int}(h:b≠0):fB t b*sg t b=b:=by unfold fB;rw[Int.fdiv_eq_ediv_of_dvd (rO t b)];exact Int.ediv_mul_cancel (rO t b)
theorem aLV {t b:Int}(h:b≠0):0<fB t b:=by
 have e:=aGV (t:=t) h;have hg:=nF (t:=t) h;rcases Int.lt_trichotomy (fB t b) 0 with z|z|z
 ·exfalso;unfold sg at e;split at e
  ·rename_i hb;have:=Int.mul_pos_of_neg_of_neg z (show -(Int.gcd t b:Int)<0 by omega);omega
  ·rename_i hb;have:=Int.mul_neg_of_neg_of_pos z (show 0<(Int.gcd t b:Int) by omega);omega
 ·rw[z] at e;omega
 ·exact z
theorem aMj {t b:Int}(h:b≠0):fT t b*b=fB t b*t:=by
 have e1:=aNP (t:=t) h;have e2:=aGV (t:=t) h;have:fT t b*(fB t b*sg t b)=fB t b*(fT t b*sg t b):=by grind
 rw[e1,e2] at this;exact this
theorem aBZ (t b:Int):(sg t b).natAbs=Int.gcd t b:=by unfold sg;split<;>simp
theorem aQM {t b:Int}(h:b≠0):Int.gcd (fT t b) (fB t b)=1:=by unfold fT fB;rw[Int.fdiv_eq_ediv_of_dvd (qL t b),Int.fdiv_eq_ediv_of_dvd (rO t b),Int.gcd_ediv (qL t b) (rO t b),aBZ];exact Nat.div_self (nF h)
theorem Bd.fT {n:Nat}{t b:Int}(h:Bd n t):Bd n (fT t b):=by unfold Bd at *;unfold Mz.fT;rw[Int.fdiv_eq_ediv_of_dvd (qL t b)];exact Nat.lt_of_le_of_lt (Int.natAbs_ediv_le_natAbs _ _) h
theorem Bd.fB {n:Nat}{t b:Int}(h:Bd n b):Bd n (fB t b):=by unfold Bd at *;unfold Mz.fB;rw[Int.fdiv_eq_ediv_of_dvd (rO t b)];exact Nat.lt_of_le_of_lt (Int.natAbs_ediv_le_natAbs _ _) h
theorem Bd.sg {n:Nat}{t b:Int}(h:Bd n b)(h0:b≠0):Bd n (sg t b):=by unfold Bd at *;rw[aBZ];have:=Nat.le_of_dvd (by omega) (Int.natAbs_dvd_natAbs.mpr (Int.gcd_dvd_right t b));simp at this;omega
theorem zO {a b c:Int}(h:b∣a*c)(g:Int.gcd b a=1):b∣c:=by
 have h':b.natAbs∣a.natAbs*c.natAbs:=by rw[<- Int.natAbs_mul];exact Int.natAbs_dvd_natAbs.mpr h
 exact Int.natAbs_dvd_natAbs.mp (Nat.Coprime.dvd_of_dvd_mul_left g h')
theorem tF {t b t' b':Int}(h:0<b)(h':0<b')(g:Int.gcd t b=1)(g':Int.gcd t' b'=1)(e:t*b'=t'*b):t=t'/\b=b':=by
 have d1:b∣b':=by have:b∣t*b':=⟨t',by rw[e];exact Int.mul_comm _ _⟩;exact zO this (by rw[Int.gcd_comm];exact g)
 have d2:b'∣b:=by have:b'∣t'*b:=⟨t,by rw[<- e];exact Int.mul_comm _ _⟩;exact zO this (by rw[Int.gcd_comm];exact g')
 have e1:b=b':=Int.le_antisymm (Int.le_of_dvd h' d1) (Int.le_of_dvd h d2);subst e1;exact⟨Int.eq_of_mul_eq_mul_right (by omega) e,rfl⟩
theorem den_pos (q:Rat):(0:Int)<(q.den:Int):=by have:=q.den_pos;omega
theorem eX (q:Rat):(q.den:Int)≠0:=by have:=q.den_pos;omega
theorem aAv (q:Rat):((q.den:Int):Rat)≠0:=by
 intro h;have:(q.den:Int)=0:=by exact_mod_cast h
 exact eX q this
theorem aJ0 (q:Rat):(q.num:Rat)/((q.den:Int):Rat)=q:=by have h:=Rat.num_divInt_den q;rw[Rat.divInt_eq_div] at h;exact h
theorem iP (q:Rat):(q.num:Rat)=q*((q.den:Int):Rat):=by have h:=aJ0 q;have h2:=aAv q;grind
theorem aFs {t b:Int}(h:b≠0):fT t b=((t:Rat)/(b:Rat)).num/\fB t b=((((t:Rat)/(b:Rat)).den:Nat):Int):=by
 have hb:(b:Rat)≠0:=by exact_mod_cast h
 refine tF (aLV h) (den_pos _) (aQM h) ?_ ?_
 ·have:=((t:Rat)/(b:Rat)).reduced;unfold Nat.Coprime at this;rw[<- this];rfl
 ·have e1:=aMj (t:=t) h;have e2:=iP ((t:Rat)/(b:Rat));have e3:((fT t b:Int):Rat)*b=(fB t b:Int)*(t:Rat):=by rw[<- Rat.intCast_mul,<- Rat.intCast_mul,e1]
  have e4:((fT t b:Int):Rat)*((((t:Rat)/(b:Rat)).den:Int):Rat)=((((t:Rat)/(b:Rat)).num:Int):Rat)*(fB t b:Int):=by rw[e2];grind
  rw[<- Rat.intCast_mul,<- Rat.intCast_mul] at e4;exact Rat.intCast_inj.mp e4
def BQ (n:Nat)(q:Rat):Prop:=Bd n q.num/\Bd n (q.den:Int)
theorem BQ.mono {m n:Nat}{q:Rat}(h:BQ m q)(l:m<=n):BQ n q:=⟨h.1.mono l,h.2.mono l⟩
theorem BQ.make {n:Nat}{t b:Int}(h:b≠0)(h1:Bd n t)(h2:Bd n b):BQ n ((t:Rat)/(b:Rat)):=by obtain⟨e1,e2⟩:=aFs (t:=t) h;exact⟨e1 ▸ h1.fT,e2 ▸ h2.fB⟩
theorem aOQ (p q:Rat):(((p.num*q.den+q.num*p.den:Int)):Rat)/((p.den*q.den:Int):Rat)=p+q:=by have h1:=aAv p;have h2:=aAv q;have e1:=iP p;have e2:=iP q;rw[Rat.intCast_add,Rat.intCast_mul,Rat.intCast_mul,Rat.intCast_mul,e1,e2];grind
theorem aQL (p q:Rat):(((p.num*q.den-q.num*p.den:Int)):Rat)/((p.den*q.den:Int):Rat)=p-q:=by have h1:=aAv p;have h2:=aAv q;have e1:=iP p;have e2:=iP q;rw[Rat.intCast_sub,Rat.intCast_mul,Rat.intCast_mul,Rat.intCast_mul,e1,e2];grind
theorem aMi (p q:Rat):(((p.num*q.num:Int)):Rat)/((p.den*q.den:Int):Rat)=p*q:=by have h1:=aAv p;have h2:=aAv q;have e1:=iP p;have e2:=iP q;rw[Rat.intCast_mul,Rat.intCast_mul,e1,e2];grind
theorem BQ.add {m n:Nat}{p q:Rat}(h:BQ m p)(h2:BQ n q):BQ (m+n+1) (p+q):=by rw[<- aOQ];exact .make (Int.mul_ne_zero (eX p) (eX q)) ((h.1.mul h2.2).add ((h2.1.mul h.2).mono (by omega))) ((h.2.mul h2.2).mono (by omega))
theorem BQ.sub {m n:Nat}{p q:Rat}(h:BQ m p)(h2:BQ n q):BQ (m+n+1) (p-q):=by rw[<- aQL];exact .make (Int.mul_ne_zero (eX p) (eX q)) ((h.1.mul h2.2).sub ((h2.1.mul h.2).mono (by omega))) ((h.2.mul h2.2).mono (by omega))
theorem BQ.mul {m n:Nat}{p q:Rat}(h:BQ m p)(h2:BQ n q):BQ (m+n) (p*q):=by rw[<- aMi];exact .make (Int.mul_ne_zero (eX p) (eX q)) (h.1.mul h2.1) (h.2.mul h2.2)
theorem BQ.int {m:Nat}{z:Int}(h:Bd m z)(h0:0<m):BQ m (z:Rat):=⟨by rw[Rat.num_intCast];exact h,by rw[Rat.den_intCast];unfold Bd;exact Nat.one_lt_two_pow (by omega)⟩
theorem ltQ (p q:Rat):(p.num*q.den<q.num*p.den)↔p<q:=(Rat.lt_iff p q).symm
theorem aJL {q:Rat}:0<q.num↔0<q:=by have:=Rat.lt_iff 0 q;simp at this;exact this.symm
theorem aK6 {t b:Int}{q:Rat}(hb:0<b)(hg:Int.gcd t b=1)(e:(t:Rat)=q*(b:Rat)):t=q.num/\b=(q.den:Int):=by
 refine tF hb (den_pos q) hg ?_ ?_
 ·have:=q.reduced;unfold Nat.Coprime at this;rw[<- this];rfl
 ·have e2:=iP q;have:((t*(q.den:Int):Int):Rat)=((q.num*b:Int):Rat):=by rw[Rat.intCast_mul,Rat.intCast_mul,e,e2];grind
  exact Rat.intCast_inj.mp this
theorem oP {a b c:Int}(h:Int.gcd a b=1)(h2:Int.gcd a c=1):Int.gcd a (b*c)=1:=by unfold Int.gcd at *;rw[Int.natAbs_mul];exact Nat.Coprime.mul_right h h2
theorem fL {a b:Int}(h:Int.gcd a b=1):Int.gcd b a=1:=by rw[Int.gcd_comm];exact h
theorem nE {a a' b:Int}(h:a∣a')(h2:Int.gcd a' b=1):Int.gcd a b=1:=by unfold Int.gcd at *;exact Nat.Coprime.coprime_dvd_left (Int.natAbs_dvd_natAbs.mpr h) h2
theorem red (q:Rat):Int.gcd q.num (q.den:Int)=1:=by have:=q.reduced;unfold Nat.Coprime at this;rw[<- this];rfl
theorem sG {x y:Int}(h:y≠0):∃a b:Int,x=(Int.gcd x y:Int)*a/\y=(Int.gcd x y:Int)*b/\Int.gcd a b=1/\x.fdiv (Int.gcd x y:Int)=a/\y.fdiv (Int.gcd x y:Int)=b:=by
 have hp:0<Int.gcd x y:=nF h;obtain⟨a,ha⟩:=Int.gcd_dvd_left x y;obtain⟨b,hb⟩:=Int.gcd_dvd_right x y;have e1:x.fdiv (Int.gcd x y:Int)=a:=by rw[Int.fdiv_eq_ediv_of_dvd (Int.gcd_dvd_left x y)];exact Int.ediv_eq_of_eq_mul_right (by omega) ha
 have e2:y.fdiv (Int.gcd x y:Int)=b:=by rw[Int.fdiv_eq_ediv_of_dvd (Int.gcd_dvd_right x y)];exact Int.ediv_eq_of_eq_mul_right (by omega) hb
 refine⟨a,b,ha,hb,?_,e1,e2⟩;rw[<- e1,<- e2,Int.fdiv_eq_ediv_of_dvd (Int.gcd_dvd_left x y),Int.fdiv_eq_ediv_of_dvd (Int.gcd_dvd_right x y),Int.gcd_ediv (Int.gcd_dvd_left x y) (Int.gcd_dvd_right x y)];simp;exact Nat.div_self hp
theorem aQv (p q:Rat):∀g a t l:Int,g=(Int.gcd p.den q.den:Int)->a=(p.den:Int).fdiv g->t=p.num*(q.den:Int).fdiv g+q.num*a->l=(Int.gcd t g:Int) ->
  g≠0/\l≠0/\g∣(p.den:Int)/\l∣g/\t.fdiv l=(p+q).num/\a*(q.den:Int).fdiv l=((p+q).den:Int):=by
 intro g a t l hg ha ht hl;have d1:=den_pos p;have d2:=den_pos q;obtain⟨a',b,e1,e2,cab,f1,f2⟩:=sG (x:=p.den) (y:=q.den) (eX q);rw[<- hg] at e1 e2 f1 f2;rw[f1] at ha;subst ha;rw[f2] at ht;have g0:0<g:=by have:=nF (t:=(p.den:Int)) (eX q);omega
 have a0:0<a:=by
  rcases Int.lt_trichotomy a 0 with z|z|z
  ·have:=Int.mul_neg_of_pos_of_neg g0 z;omega
  ·subst z;omega
  ·exact z
 have b0:0<b:=by
  rcases Int.lt_trichotomy b 0 with z|z|z
  ·have:=Int.mul_neg_of_pos_of_neg g0 z;omega
  ·subst z;omega
  ·exact z
 obtain⟨t',g',e3,e4,ctg,f3,f4⟩:=sG (x:=t) (y:=g) (by omega);rw[<- hl] at e3 e4 f3 f4;have l0:0<l:=by have:=nF (t:=t) (b:=g) (by omega);omega
 have g'0:0<g':=by
  rcases Int.lt_trichotomy g' 0 with z|z|z
  ·have:=Int.mul_neg_of_pos_of_neg l0 z;omega
  ·subst z;omega
  ·exact z
 have f5:(q.den:Int).fdiv l=g'*b:=by
  have e:(q.den:Int)=l*(g'*b):=by rw[e2,e4];grind
  rw[Int.fdiv_eq_ediv_of_dvd ⟨_,e⟩];exact Int.ediv_eq_of_eq_mul_right (by omega) e
 refine⟨by omega,by omega,⟨a,e1⟩,⟨g',e4⟩,?_⟩;rw[f3,f5];have ca:Int.gcd t a=1:=by have c1:Int.gcd p.num a=1:=fL (nE ⟨g,by rw[e1];grind⟩ (fL (red p)));have:Int.gcd a (p.num*b)=1:=oP (fL c1) cab;rw[ht,Int.gcd_comm,Int.gcd_add_mul_right_right];exact this
 have cb:Int.gcd t b=1:=by have c1:Int.gcd q.num b=1:=fL (nE ⟨g,by rw[e2];grind⟩ (fL (red q)));have:Int.gcd b (q.num*a)=1:=oP (fL c1) (fL cab);rw[ht,Int.gcd_comm,Int.add_comm,Int.gcd_add_mul_right_right];exact this
 have hd:t'∣t:=⟨l,by rw[e3];grind⟩;refine aK6 (q:=p+q) (Int.mul_pos a0 (Int.mul_pos g'0 b0)) (oP (nE hd ca) (oP ctg (nE hd cb))) ?_;have n1:=iP p;have n2:=iP q;have r1:=aAv p;have r2:=aAv q;have k1:((p.den:Int):Rat)=(l:Rat)*g'*a:=by rw[e1,e4,Rat.intCast_mul,Rat.intCast_mul]
 have k2:((q.den:Int):Rat)=(l:Rat)*g'*b:=by rw[e2,e4,Rat.intCast_mul,Rat.intCast_mul]
 have k3:(l:Rat)*t'=(p.num:Rat)*b+(q.num:Rat)*a:=by rw[<- Rat.intCast_mul,<- e3,ht,Rat.intCast_add,Rat.intCast_mul,Rat.intCast_mul]
 have k4:(l:Rat)≠0:=λz=>by
                     have:l=0:=by exact_mod_cast z
                     omega
 rw[n1,n2,k1,k2] at k3;rw[Rat.intCast_mul,Rat.intCast_mul];have:(l:Rat)*(t':Rat)=l*((p+q)*((a:Rat)*(g'*b))):=by rw[k3];grind
 grind
theorem aPC (p q:Rat):∀f r:Int,f=(Int.gcd p.num q.den:Int)->r=(Int.gcd q.num p.den:Int) ->
  f≠0/\r≠0/\f∣(q.den:Int)/\r∣(p.den:Int)/\p.num.fdiv f*q.num.fdiv r=(p*q).num/\(p.den:Int).fdiv r*(q.den:Int).fdiv f=((p*q).den:Int):=by
 intro f r hf hr;have d1:=den_pos p;have d2:=den_pos q;obtain⟨x,v,e1,e2,c1,f1,f2⟩:=sG (x:=p.num) (y:=q.den) (eX q);obtain⟨y,u,e3,e4,c2,f3,f4⟩:=sG (x:=q.num) (y:=p.den) (eX p);rw[<- hf] at e1 e2 f1 f2;rw[<- hr] at e3 e4 f3 f4;have f0:0<f:=by have:=nF (t:=p.num) (eX q);omega
 have r0:0<r:=by have:=nF (t:=q.num) (eX p);omega
 have v0:0<v:=by
  rcases Int.lt_trichotomy v 0 with z|z|z
  ·have:=Int.mul_neg_of_pos_of_neg f0 z;omega
  ·subst z;omega
  ·exact z
 have u0:0<u:=by
  rcases Int.lt_trichotomy u 0 with z|z|z
  ·have:=Int.mul_neg_of_pos_of_neg r0 z;omega
  ·subst z;omega
  ·exact z
 refine⟨by omega,by omega,⟨v,e2⟩,⟨u,e4⟩,?_⟩;rw[f1,f2,f3,f4];have cxu:Int.gcd x u=1:=nE ⟨f,by rw[e1];grind⟩ (fL (nE ⟨r,by rw[e4];grind⟩ (fL (red p))));have cyv:Int.gcd y v=1:=nE ⟨r,by rw[e3];grind⟩ (fL (nE ⟨f,by rw[e2];grind⟩ (fL (red q))));refine aK6 (q:=p*q) (Int.mul_pos u0 v0) ?_ ?_
 ·exact fL (oP (fL (oP cxu c1)) (fL (oP c2 cyv)))
 have n1:=iP p;have n2:=iP q;have r1:=aAv p;have r2:=aAv q;have k1:((p.den:Int):Rat)=(r:Rat)*u:=by rw[e4,Rat.intCast_mul]
 have k2:((q.den:Int):Rat)=(f:Rat)*v:=by rw[e2,Rat.intCast_mul]
 have k3:(p.num:Rat)=(f:Rat)*x:=by rw[e1,Rat.intCast_mul]
 have k4:(q.num:Rat)=(r:Rat)*y:=by rw[e3,Rat.intCast_mul]
 have k5:(f:Rat)≠0:=λz=>by
                     have:f=0:=by exact_mod_cast z
                     omega
 have k6:(r:Rat)≠0:=λz=>by
                     have:r=0:=by exact_mod_cast z
                     omega
 rw[Rat.intCast_mul,Rat.intCast_mul];have:(f:Rat)*r*((x:Rat)*y)=f*r*((p*q)*((u:Rat)*v)):=by
  have z1:(f:Rat)*x=p*(r*u):=by rw[<- k3,<- k1];exact n1
  have z2:(r:Rat)*y=q*(f*v):=by rw[<- k4,<- k2];exact n2
  grind
 grind
theorem Bd.dvd {n:Nat}{x y:Int}(h:Bd n y)(d:x∣y)(h0:y≠0):Bd n x:=by unfold Bd at *;have:=Nat.le_of_dvd (by omega) (Int.natAbs_dvd_natAbs.mpr d);omega
theorem Bd.fdiv {n:Nat}{x y:Int}(h:Bd n x)(d:y∣x):Bd n (x.fdiv y):=by unfold Bd at *;rw[Int.fdiv_eq_ediv_of_dvd d];exact Nat.lt_of_le_of_lt (Int.natAbs_ediv_le_natAbs _ _) h
noncomputable def sgn (q:Rat):Int:=if 0<q then 1 else if q<0 then -1 else 0
noncomputable def uu (t:Rat):Rat:=(1-t*t)/(1+t*t)
noncomputable def vv (t:Rat):Rat:=(t+t)/(1+t*t)
noncomputable def rq (x y:Rat):Nat->Rat×Rat
 |0=>(x,y)
 |n+1=>(-(rq x y n).2,(rq x y n).1)
noncomputable def tb (t h u:Int):Int:=(t+h*u).fmod 4
end Mz
namespace Dd
open PySem PySem.Spec PyProof.Rows L2 Mz
noncomputable def FQ (q:Rat):D:=.tup [.int q.num,.int (q.den:Int)]
theorem aFx {t b:Int}(h:b≠0):(D.tup [.int (fT t b),.int (fB t b)])=FQ ((t:Rat)/(b:Rat)):=by obtain⟨e1,e2⟩:=aFs (t:=t) h;rw[e1,e2];rfl
def eG:DSp:=λds M Q=>∃a b,ds=[.int a,.int b]/\Q (.int (Int.gcd a b:Int)) M
def aCz (g:Rat->Rat->D)(C:Rat->Prop:=λ_=>True):DSp:=λds M Q=>∃p q m n,ds=[FQ p,FQ q]/\C q/\BQ m p/\BQ n q/\m+n<=8998/\Q (g p q) M
def aCm:DSp:=aCz λp q=>FQ (p+q)
def aD8:DSp:=aCz λp q=>FQ (p*q)
def aDP:DSp:=aCz λp q=>.bl (decide (p<q))
theorem vN {g:Rat->Rat->D}{C:Rat->Prop}(ds:List D)(M:DM)(Q:DQ)(h:aCz g C ds M Q):ds.length=2:=by obtain⟨a,b,m,n,rfl,_⟩:=h;rfl
theorem yX {n:Nat}{x y z:Int}(h:Bd n y)(l:n<=9000)(d:z∣y)(h0:y≠0)(hz:z≠0):CFd x z:=⟨hz,by
 rcases Nat.eq_zero_or_pos n with e|e
 ·subst e;have:y.natAbs<1:=h;omega
 ·exact Nat.lt_of_lt_of_le ((h.dvd d h0).log e) l⟩
theorem aJT (q:Rat):(D.tup [.int (-q.num),.int (q.den:Int)])=FQ (-q):=by unfold FQ;rw[Rat.neg_num,Rat.neg_den]
noncomputable def PQ (x y:Rat):D:=.tup [FQ x,FQ y]
theorem aCH (p q:Rat):eqD (FQ p) (FQ q)=decide (p=q):=by
 show(p.num==q.num&&((p.den:Int)==(q.den:Int)&&true))=decide (p=q);by_cases h:p=q
 ·subst h;simp
 ·rw[decide_eq_false h];by_cases h1:p.num=q.num
  ·have h2:¬((p.den:Int)=(q.den:Int)):=λz=>h (Rat.ext h1 (by exact_mod_cast z));simp[h1,h2]
  ·simp[h1]
theorem aIf (x y u v:Rat):eqD (PQ x y) (PQ u v)=(decide (x=u)&&decide (y=v)):=by show(eqD (FQ x) (FQ u)&&(eqD (FQ y) (FQ v)&&true))=_;rw[aCH,aCH,Bool.and_true]
def kN:DSp:=λds M Q=>∃x y,ds=[PQ x y]/\BQ 900 x/\BQ 900 y/\∀X Y d:Int,0<d->(X:Rat)=x*(d:Rat)->(Y:Rat)=y*(d:Rat)->Bd 1800 X->Bd 1800 Y->Bd 1800 d->Q (.tup [.int X,.int Y,.int d]) M
def aCA:DSp:=λds M Q=>∃z:Int,ds=[.int z]/\Q (.int (sgn (z:Rat))) M
theorem aEg {d:Int}(h:0<d):(0:Rat)<(d:Rat):=by exact_mod_cast h
noncomputable def bef (x y u v:Rat):Bool:=if x=u then decide (y<v) else decide (x<u)
structure Adv (M M':DM)(a:Addr):Prop where
 l:∀b:Addr,b≠a->M' (.l b)=M (.l b)
 d:∀b:Addr,M' (.d b)=M (.d b)
instance {M M':DM}{a:Addr}:CoeFun (Adv M M' a) (λ_=>∀b:Addr,b≠a->M' (.l b)=M (.l b)):=⟨Adv.l⟩
theorem Adv.trans {M M1 M2:DM}{a:Addr}(h:Adv M M1 a)(h2:Adv M1 M2 a):Adv M M2 a:=⟨λb n=>(h2.l b n).trans (h.l b n),λb=>(h2.d b).trans (h.d b)⟩
theorem aJV {xs:List D}{lo hi:Option Int}{d:D}(h:d∈cutD xs lo hi):d∈xs:=List.mem_of_mem_drop (List.mem_of_mem_take h)
noncomputable def aEY:D:=.tup [.int 1,.int 1]
theorem aNa {x y:Rat}{g:DG}{te:DE}{Q:DQ}{ρ0:cO}{M:DM}:itT (PQ x y) ρ0 g te M Q=aC1 none [FQ x,FQ y] ρ0 g te M Q:=rfl
theorem aNj {q:Rat}{g:DG}{te:DE}{Q:DQ}{ρ0:cO}{M:DM}:itT (FQ q) ρ0 g te M Q=aC1 none [.int q.num,.int (q.den:Int)] ρ0 g te M Q:=rfl
theorem aLP {x y:Rat}{g:DG}{tb:DS}{E:gF}{ρ:cO}{M:DM}:foT (PQ x y) g tb E ρ M=dIt none [FQ x,FQ y] g tb E ρ M:=rfl
theorem aPg {q:Rat}{M:DM}{Q:DQ}:nK (FQ q) (.int 0) M Q=Q (.int q.num) M:=rfl
theorem aPc {q:Rat}{M:DM}{Q:DQ}:nK (FQ q) (.int 1) M Q=Q (.int (q.den:Int)) M:=rfl
theorem aOg {x y:Rat}{M:DM}{Q:DQ}:nK (PQ x y) (.int 0) M Q=Q (FQ x) M:=rfl
theorem aO2 {x y:Rat}{M:DM}{Q:DQ}:nK (PQ x y) (.int 1) M Q=Q (FQ y) M:=rfl
theorem aOq {x y:Rat}{n:Nat}{t:DGs}{ρ:cO}{M:DM}{R:cO->DM->Prop}:gU n t (PQ x y) ρ M R=(([FQ x,FQ y]:List D).length=n/\t [FQ x,FQ y] ρ M R):=rfl
theorem aN2 {q:Rat}{n:Nat}{t:DGs}{ρ:cO}{M:DM}{R:cO->DM->Prop}:gU n t (FQ q) ρ M R=(([.int q.num,.int (q.den:Int)]:List D).length=n/\t [.int q.num,.int (q.den:Int)] ρ M R):=rfl
theorem aCp {g:Bool->Bool}{p q:Rat}{M:DM}{Q:DQ}:dEq g (FQ p) (FQ q) M Q=Q (.bl (g (decide (p=q)))) M:=by show(bB 60 (FQ p)=true/\bB 60 (FQ q)=true/\Q (.bl (g (eqD (FQ p) (FQ q)))) M)=_;rw[aCH];exact propext ⟨λh=>h.2.2,λh=>⟨rfl,rfl,h⟩⟩
theorem aIK {g:Bool->Bool}{x y u v:Rat}{M:DM}{Q:DQ}:dEq g (PQ x y) (PQ u v) M Q=Q (.bl (g (decide (x=u/\y=v)))) M:=by
 show(bB 60 (PQ x y)=true/\bB 60 (PQ u v)=true/\Q (.bl (g (eqD (PQ x y) (PQ u v)))) M)=_;have e:(decide (x=u)&&decide (y=v))=decide (x=u/\y=v):=by by_cases h1:x=u<;>by_cases h2:y=v<;>simp[h1,h2]
 rw[aIf,e];exact propext ⟨λh=>h.2.2,λh=>⟨rfl,rfl,h⟩⟩
theorem jS {M:DM}{p b:Addr}{ds:List D}(h:bK M p ds b=none):b≠p/\M b=none:=by
 by_cases e:b=p
 ·subst e;rw[aI] at h;cases h
 ·rw[bV e] at h;exact⟨e,h⟩
noncomputable def uU:D:=.tup [.tup [.int 0,.int 1],.tup [.int 0,.int 1]]
noncomputable def FR (px py:Rat)(t h:Int)(s:Rat):D:=.tup [PQ px py,.int t,.int h,FQ s]
theorem aOs {px py s:Rat}{i h:Int}{n:Nat}{t:DGs}{ρ:cO}{M:DM}{R:cO->DM->Prop}:gU n t (FR px py i h s) ρ M R=(([PQ px py,.int i,.int h,FQ s]:List D).length=n/\t [PQ px py,.int i,.int h,FQ s] ρ M R):=rfl
theorem aPF {px py s:Rat}{t h:Int}{M:DM}{Q:DQ}:nK (FR px py t h s) (.int 0) M Q=Q (PQ px py) M:=rfl
theorem aPl {px py s:Rat}{t h:Int}{M:DM}{Q:DQ}:nK (FR px py t h s) (.int 1) M Q=Q (.int t) M:=rfl
theorem aOk {px py s:Rat}{t h:Int}{M:DM}{Q:DQ}:nK (FR px py t h s) (.int 2) M Q=Q (.int h) M:=rfl
theorem aPt {px py s:Rat}{t h:Int}{M:DM}{Q:DQ}:nK (FR px py t h s) (.int 3) M Q=Q (FQ s) M:=rfl
theorem aMD (px py s px' py' s':Rat)(t h t' h':Int):eqD (FR px py t h s) (FR px' py' t' h' s')=decide (px=px'/\py=py'/\t=t'/\h=h'/\s=s'):=by show(eqD (PQ px py) (PQ px' py')&&(t==t'&&(h==h'&&(eqD (FQ s) (FQ s')&&true))))=_;rw[aIf,aCH];by_cases h1:px=px'<;>by_cases h2:py=py'<;>by_cases h3:t=t'<;>by_cases h4:h=h'<;>by_cases h5:s=s'<;>simp[h1,h2,h3,h4,h5]
theorem aMZ {g:Bool->Bool}{px py s px' py' s':Rat}{t h t' h':Int}{M:DM}{Q:DQ}:dEq g (FR px py t h s) (FR px' py' t' h' s') M Q=Q (.bl (g (decide (px=px'/\py=py'/\t=t'/\h=h'/\s=s')))) M:=by show(bB 60 (FR px py t h s)=true/\bB 60 (FR px' py' t' h' s')=true/\Q (.bl (g (eqD (FR px py t h s) (FR px' py' t' h' s')))) M)=_;rw[aMD];exact propext ⟨λz=>z.2.2,λz=>⟨rfl,rfl,z⟩⟩
def mO (n:Nat)(L:List D):Prop:=L.length=n/\∀d∈L,∃z:Int,d=.int z/\0<=z/\z<1000000
theorem mO.at {n:Nat}{L:List D}(h:mO n L){i:Nat}(hi:i<n):∃z:Int,atI L (i:Int)=some (.int z)/\0<=z/\z<1000000:=by
 have hl:i<L.length:=by rw[h.1];exact hi
 obtain⟨z,e,z0,z1⟩:=h.2 L[i] (List.getElem_mem hl);exact⟨z,sF (by rw[List.getElem?_eq_getElem hl,e]),z0,z1⟩
theorem aIX {x y:Rat}{M:DM}{Q:DQ}:vE [PQ x y] M Q=Q (.int 2) M:=rfl
theorem aI4 {q:Rat}{M:DM}{Q:DQ}:vE [FQ q] M Q=Q (.int 2) M:=rfl
theorem aIZ {px py s:Rat}{t h:Int}{M:DM}{Q:DQ}:vE [FR px py t h s] M Q=Q (.int 4) M:=rfl
theorem aHw {a:Addr}{M:DM}{Q:DQ}:vE [.ref a] M Q=∃xs,M a=some xs/\Q (.int (xs.length:Int)) M:=rfl
section
variable {M:DM}{Q:DQ}{a b c d e f:D}
theorem aLh {i:Int}:aPi [.int i] M Q=Q (.int (if i<0 then -i else i)) M:=rfl
theorem aJ2 {xs:List D}:vE [.fz xs] M Q=Q (.int xs.length) M:=rfl
theorem aJf:vE [.tup []] M Q=Q (.int 0) M:=rfl
theorem aKp:vE [.tup [a]] M Q=Q (.int 1) M:=rfl
theorem aJp:vE [.tup [a,b]] M Q=Q (.int 2) M:=rfl
theorem aKB:vE [.tup [a,b,c]] M Q=Q (.int 3) M:=rfl
theorem aJg:vE [.tup [a,b,c,d]] M Q=Q (.int 4) M:=rfl
theorem aJd:vE [.tup [a,b,c,d,e]] M Q=Q (.int 5) M:=rfl
end
structure Fm where
 (px py:Rat) (t h:Int) (s:Rat)
noncomputable def FmD (f:Fm):D:=FR f.px f.py f.t f.h f.s
noncomputable def Fm.one:Fm:=⟨0,0,0,1,1⟩
def Fm.Ok (f:Fm):Prop:=0<=f.t/\f.t<4/\(f.h=1∨f.h = -1)
theorem Fm.ok_one:Fm.one.Ok:=⟨by decide,by decide,.inl rfl⟩
theorem aN5 {f:Fm}{M:DM}{Q:DQ}:nK (FmD f) (.int 0) M Q=Q (PQ f.px f.py) M:=rfl
theorem aPq {f:Fm}{M:DM}{Q:DQ}:nK (FmD f) (.int 1) M Q=Q (.int f.t) M:=rfl
theorem aO4 {f:Fm}{M:DM}{Q:DQ}:nK (FmD f) (.int 2) M Q=Q (.int f.h) M:=rfl
theorem aPD {f:Fm}{M:DM}{Q:DQ}:nK (FmD f) (.int 3) M Q=Q (FQ f.s) M:=rfl
theorem aNY {f:Fm}{n:Nat}{t:DGs}{ρ:cO}{M:DM}{R:cO->DM->Prop}:gU n t (FmD f) ρ M R=(([PQ f.px f.py,.int f.t,.int f.h,FQ f.s]:List D).length=n/\t [PQ f.px f.py,.int f.t,.int f.h,FQ f.s] ρ M R):=rfl
theorem aHU {f:Fm}{M:DM}{Q:DQ}:vE [FmD f] M Q=Q (.int 4) M:=rfl
section
variable {X:Cx}{pins:List (Addr×Obj)}{σ:L2.St}{H:Hp}{s:Shared}{M:DM}
end
def aPk (g:Bool->Bool):D2:=λx y M Q=>match x,y with
 |.int k,.tup ys=>∃ns:List Int,ys=ns.map D.int/\Q (.bl (g (ns.any (·==k)))) M
 |.str k,.tup ys=>∃ns:List Str,ys=ns.map D.str/\Q (.bl (g (ns.any (·==k)))) M
 |_,_=>False
section
variable {X:Cx}
theorem aMn:OpD X (compareOp .In) (aPk id):=λpins s σ H x y v u Q I rx ry ⟨dx,dy,M,Q',r1,r2,hm,q,k⟩=>by
 cases dx with
 |int z =>
  cases dy with
  |tup ys =>
   obtain⟨ns,rfl,q⟩:=q;obtain rfl:=aV r1;obtain⟨a,us,rfl,sq,ru⟩:=cJ r2;obtain⟨its,rv,ht⟩:=mE I sq;obtain⟨t,rfl⟩:=rx;cases ry;exact in_tuple_ints ht (uC ru rv) ⟨.bl _,H,I,rfl,k _ H ⟨_,M,eW,hm,.refl H,q⟩⟩
  |_=>exact q.elim
 |str z =>
  cases dy with
  |tup ys =>
   obtain⟨ns,rfl,q⟩:=q;obtain rfl:=cW r1;obtain⟨a,us,rfl,sq,ru⟩:=cJ r2;obtain⟨its,rv,ht⟩:=mE I sq;obtain⟨t,rfl⟩:=rx;cases ry;exact in_tuple_strs ht (uB ru rv) ⟨.bl _,H,I,rfl,k _ H ⟨_,M,eW,hm,.refl H,q⟩⟩
  |_=>exact q.elim
 |_=>cases dy<;>exact q.elim
end
end Dd
namespace L2
open PySem PySem.Spec PyProof.Rows
section
variable {prog:Program}{w:World}{A:Around}{R:Result->Shared->Prop}{s:Shared}
end
end L2
namespace Dd
open PySem PySem.Spec PyProof.Rows L2
section
variable {X:Cx}{g:DG}{tc:DT}{te:DE}
variable {elt iter tg cnd:Expr}{scope:Scope}{pos:Pos}{N':List Str}{fr:List (Option Nat)}{tl:DE}{ta:DA}{oN:List Str}{osc:Scope}
end
open Mz
section
variable {X:Cx}{o e f:Expr}{to te tf:DE}
end
section
variable {X:Cx}{pins:List (Addr×Obj)}{σ:L2.St}{H:Hp}{s:Shared}
end
section
variable {X:Cx}{o:Expr}{to:DE}
def aLz (to:DE):DE:=λρ M Q=>to ρ M λx M1=>match x with
 |.ref p=>∃ds y,M1 p=some ds/\ds[ds.length-1]?=some y/\Q y (bK M1 p ds.dropLast)
 |_=>False
theorem aBG {K:Frag}{H:Hp}{ds:List D}{vs:List V}(h:cA K H ds vs):cA K H ds.dropLast vs.dropLast:=by rw[List.dropLast_eq_take,List.dropLast_eq_take,h.length];exact h.take _
theorem aL1 {apos cpos:Pos}(ho:PDE X o to)(hbase:attributeBase o "pop" X.env (eval o X.env)=eval o X.env:=by rfl)(hline:(apos.endLine==cpos.line)=true:=by rfl) :
  PDE X (.Call (.Attribute o "pop" apos) [] [] cpos) (aLz to) :=
 cY (aNB PySem.F.plainAttrs_list PySem.F.slot_list_pop PySem.F.type_list_pop aLA ho hbase hline) λσ H Q ⟨ρ,M,Q',re,hm,q,k⟩=>⟨ρ,M,_,re,hm,q,λv H1 ⟨d,M1,rd,hm1,e1,q1⟩=>by
  cases d with
  |ref p =>
   obtain rfl:=bO rd;obtain⟨ds,y,hp,hy,q1⟩:=q1;obtain⟨us,hu,ru⟩:=hm1.l p ds hp;obtain⟨w,hw,rw'⟩:=ru.get hy;refine⟨.inl ⟨rfl,us,.of hu⟩,p,us,w,rfl,rfl,hu,by rw[<- ru.length];exact hw,k _ _ ⟨y,_,rw'.ext (Ext.put hu _),hm1.put hu (aBG ru),e1.trans (Ext.put hu _),q1⟩⟩
  |_=>exact q1.elim⟩
end
section
variable {X:Cx}{g:DG}{tc:DT}{te:DE}
variable {elt iter tg cnd:Expr}{scope:Scope}{pos:Pos}{N':List Str}{fr:List (Option Nat)}{tl:DE}{ta:DA}{oN:List Str}{osc:Scope}
end
section
variable {X:Cx}{o e f:Expr}{to te tf:DE}
end
section
variable {X:Cx}{pins:List (Addr×Obj)}{σ:L2.St}{H:Hp}{s:Shared}
end
section
variable {X:Cx}{o:Expr}{to:DE}
theorem zG {apos cpos:Pos}(ho:ZE X o to)(hbase:attributeBase o "pop" X.env (eval o X.env) = eval o X.env:=by rfl)(hline:(apos.endLine==cpos.line) = true:=by rfl):ZE X (.Call (.Attribute o "pop" apos) [] [] cpos) (aLz to):=.i (aL1 ho.o hbase hline)
end
section
variable {P:Program}{w:World}{K:Frag}{mg:Str->Option Value}{base:Heap}
end
section
variable {X:Cx}{n x:Str}{C a:Addr}{o:Obj}{p p1 pos:Pos}{j k k':Nat}{sp:Addr->DM->DQ->Prop}
end
section
open PySem.SeqAt
open PySem.AutoSeq1 (wpAny_loadPart')
open PySem.MeetsSeq PySem.MeetsSeq2 PySem.MeetsSeq3
end
section
variable {prog:Program}{w:World}{A:Around}{E:Value->Shared->Prop}{s:Shared}
end
section
variable {X:Cx}{j:Nat}
end
theorem us0 {us:List Value}(h:us.length=0):us=[]:=List.length_eq_zero_iff.mp h
theorem us1 {us:List Value}(h:us.length=1):∃a,us=[a]:=List.length_eq_one_iff.mp h
theorem us2 {us:List Value}(h:us.length=2):∃a b,us=[a,b]:=by
 cases us with
 |nil=>cases h
 |cons a r=>obtain⟨b,rfl⟩:=us1 (us:=r) (Nat.succ.inj h);exact⟨a,b,rfl⟩
theorem us3 {us:List Value}(h:us.length=3):∃a b c,us=[a,b,c]:=by
 cases us with
 |nil=>cases h
 |cons a r=>obtain⟨b,c,rfl⟩:=us2 (us:=r) (Nat.succ.inj h);exact⟨a,b,c,rfl⟩
theorem us4 {us:List Value}(h:us.length=4):∃a b c d,us=[a,b,c,d]:=by
 cases us with
 |nil=>cases h
 |cons a r=>obtain⟨b,c,d,rfl⟩:=us3 (us:=r) (Nat.succ.inj h);exact⟨a,b,c,d,rfl⟩
noncomputable instance aQW:DecidableEq D:=λa b=>Classical.propDecidable (a=b)
noncomputable def aOF:Nat->D->Bool
 |_,.int _=>true
 |_,.str _=>true
 |n+1,.tup ds=>ds.all (aOF n)
 |_,_=>false
mutual
def IsK (h:Heap):D->Value->Prop
 |.int i,v=>∃t,v=.int i t
 |.str x,v=>∃t,v=.str x t
 |.tup ds,v=>∃a its,v=.ref a/\IsTup h a its/\wL h ds its.toList
 |_,_=>False
def wL (h:Heap):List D->List Value->Prop
 |[],vs=>vs=[]
 |d::ds,vs=>∃v r,vs=v::r/\IsK h d v/\wL h ds r
end
theorem aGz {h:Heap}{d:D}{ds:List D}{vs:List Value}(x:wL h (d::ds) vs):∃v r,vs=v::r/\IsK h d v/\wL h ds r:=by unfold wL at x;exact x
theorem aJP {h:Heap}{ds:List D}{v:Value}(x:IsK h (.tup ds) v):∃a its,v=.ref a/\IsTup h a its/\wL h ds its.toList:=by unfold IsK at x;exact x
section
variable {prog:Program}{w:World}
end
mutual
theorem IsK.keep {h h':Heap}(k:∀a its,IsTup h a its->IsTup h' a its):∀{x:D}{v:Value},IsK h x v->IsK h' x v
 |.int _,_,a=>by unfold IsK at a ⊢;exact a
 |.str _,_,a=>by unfold IsK at a ⊢;exact a
 |.tup ds,_,a=>by obtain⟨p,its,rfl,ht,hs⟩:=aJP a;unfold IsK;exact⟨p,its,rfl,k p its ht,wL.keep k hs⟩
 |.non,_,a=>by unfold IsK at a;exact a.elim
 |.bl _,_,a=>by unfold IsK at a;exact a.elim
 |.fz _,_,a=>by unfold IsK at a;exact a.elim
 |.ref _,_,a=>by unfold IsK at a;exact a.elim
theorem wL.keep {h h':Heap}(k:∀a its,IsTup h a its->IsTup h' a its):∀{xs:List D}{vs:List Value},wL h xs vs->wL h' xs vs
 |[],_,a=>by unfold wL at a ⊢;exact a
 |x::xs,_,a=>by obtain⟨v,r,rfl,a1,a2⟩:=aGz a;unfold wL;exact⟨v,r,rfl,a1.keep k,wL.keep k a2⟩
end
section
variable {prog:Program}{w:World}{A:Around}{E:Value->Shared->Prop}{s:Shared}{it d:Addr}{i ep:Nat}{es:Array DictEntry}
end
structure TK (kvs:List (D×D)):Prop where
 key:∀p∈kvs,(∃ds,p.1=.tup ds)/\aOF 6 p.1=true
 nd:(kvs.map (·.1)).Nodup
theorem TK.nil:TK []:=⟨(λ_ h=>(nomatch h)),List.nodup_nil⟩
def KX (K:Frag)(H:Hp)(p:D×D)(x:D×Addr×Value):Prop:=p.1=x.1/\Rep K H p.1 (.ref x.2.1)/\∃vv,cT vv x.2.2/\Rep K H p.2 vv
section
variable {X:Cx}{pins:List (Addr×Obj)}{σ:L2.St}{H:Hp}{s:Shared}
theorem Paired.len {α β:Type}{F:α->β->Prop}:∀{l:List α}{l':List β},Paired F l l'->l.length=l'.length
 |_,_,.nil=>rfl
 |_,_,.cons _ t=>by rw[length_cons,length_cons,Paired.len t]
end
section
variable {X:Cx}{pos:Pos}
end
open PySem.W
section
variable {n:Nat}{lt:Nat->Nat->Bool}{p:Array Nat}
end
section
variable {n:Nat}{p:Array Nat}
end
section
variable {prog:Program}{w:World}{A:Around}{E:Value->Shared->Prop}{s:Shared}
end
section
variable {X:Cx}{pins:List (Addr×Obj)}{σ:L2.St}{H:Hp}{s:Shared}
end
end Dd
namespace L2
open PySem PySem.Spec PyProof.Rows
end L2
namespace Dd
open PySem PySem.Spec PyProof.Rows L2
section
variable {X:Cx}{pos:Pos}{iter tg:Expr}{body:List Stmt}{tl:DE}{g:DG}{tb:DS}{ta:DA}
theorem aQm {CX:CXT}{P:Program}{w:World}{K:Frag}{mg:Str->Option Value}{base:Heap}{N:List Str}{qual:Str}{scope:Scope}{f:Addr}{cd:Value}{A:Around}{outer:List Env}{s:Shared}{H:Hp}{E:XK}:(kE CX P w K mg base N qual scope f cd A outer s H E).w=w:=rfl
end
end Dd
namespace L2
open PySem PySem.Spec PyProof.Rows
section
variable {prog:Program}{w:World}{A:Around}{E:Value->Shared->Prop}{s:Shared}
end
end L2
namespace Dd
open PySem PySem.Spec PyProof.Rows L2
section
variable {X:Cx}{pos:Pos}{iter tg:Expr}{body:List Stmt}{tl:DE}{g:DG}{tb:DS}{ta:DA}
end
end Dd
namespace L2
open PySem PySem.Spec PyProof.Rows
end L2
namespace Dd
open PySem PySem.Spec PyProof.Rows L2
section
variable {X:Cx}{pos:Pos}{iter tg elt:Expr}{body:List Stmt}{tl te:DE}{g:DG}{tb:DS}{ta:DA}
variable {scope:Scope}{N':List Str}{fr:List (Option Nat)}{oN:List Str}{osc:Scope}
end
theorem aD4:fillsNumberSlot (.type "tuple") "mul"=pure false :=
 PySem.fillsNumberSlot_seq (id:="tuple.__mul__") (r:=some (.builtin "tuple.__rmul__")) F.slot_tuple_mul.lookup (by decide +kernel) F.slot_tuple_rmul.lookup (by decide +kernel)
theorem aIH:seqRepeat? (.type "tuple") = pure (some (.builtin "tuple.__mul__")):=by unfold seqRepeat?;rw[PySem.seqSlot_of (T:="tuple") (name:="__mul__") (id:="tuple.__mul__") F.slot_tuple_mul.lookup (by decide +kernel),PySem.seqSlot_of (T:="tuple") (name:="__rmul__") (id:="tuple.__rmul__") F.slot_tuple_rmul.lookup (by decide +kernel)];rfl
section
variable {prog:Program}{w:World}{A:Around}{E:Value->Shared->Prop}{s:Shared}
theorem aIT (a:Int)(t:Tok)(l:Addr)(items:Array Value)(n:Nat)(di:Option Addr)(sl:Array (Option Value)) :
  Meets (Builtin.«int.__rmul__» ⟨[.int a t,.ref l],[]⟩) (λ_ R s=>s.heap.get? l = some { cls:=.type "tuple",dict:=di,data:=.seq items n,slots:=sl }/\R (.ok (.ret Value.notImplemented)) s) :=
 .of_wp λprog w A R s h=>by obtain⟨hp,g,d,tk,os⟩:=s;obtain⟨hl,h⟩:=h;wp_walk;exact⟨_,rfl,h⟩
theorem aGU (t:Tok)(l:Addr)(items:Array Value)(n:Nat)(di:Option Addr)(sl:Array (Option Value)) :
  Meets (Builtin.«tuple.__mul__» ⟨[.ref l,.int 1 t],[]⟩) (λ_ R s=>s.heap.get? l = some { cls:=.type "tuple",dict:=di,data:=.seq items n,slots:=sl }/\R (.ok (.ret (.ref l))) s) :=
 .of_wp λprog w A R s h=>by
  obtain⟨hp,g,d,tk,os⟩:=s;obtain⟨hl,h⟩:=h
  wp_walk
  exact⟨_,rfl,h⟩
theorem aA0 (items:Array Value):∀(k:Nat)(acc:Array Value),((replicate k items).foldl (· ++ ·) acc).size=acc.size+k*items.size
 |0,acc=>by simp
 |k+1,acc=>by rw[replicate_succ,foldl_cons,aA0 items k,Array.size_append,Nat.succ_mul];omega
theorem aJC (k:Int)(t:Tok)(l:Addr)(items:Array Value)(n:Nat)(di:Option Addr)(sl:Array (Option Value))(h1:k≠1)(h2:-(2^63)<=k)(h3:k<2^63)(he:items.isEmpty=false)(hz:items.size*k.toNat<=sizeLine) :
  Meets (Builtin.«tuple.__mul__» ⟨[.ref l,.int k t],[]⟩) (λ_ R s=>s.heap.get? l = some { cls:=.type "tuple",dict:=di,data:=.seq items n,slots:=sl } /\
   R (.ok (.ret (.ref s.heap.objs.size))) { s with heap:=s.heap.push { cls:=.type "tuple",data:=.seq ((replicate k.toNat items).foldl (· ++ ·) #[]) } }) :=
 .of_wp λprog w A R s h=>by
  obtain⟨hp,g,d,tk,os⟩:=s;obtain⟨hl,h⟩:=h
  wp_walk
  refine wpAny_ite_split (λz=>absurd z (by simp;omega)) λ_=>?_
  wp_walk
  have line:(sizeLine:Int)<=(2^63-1)/8:=by decide
  by_cases k0:k<=0
  ·refine wpAny_ite_split (λ_=>?_) λz=>absurd (by simp[k0]) z;have e0:k.toNat=0:=by omega
   rw[e0] at h
   wp_walk
   exact⟨_,rfl,h⟩
  ·refine wpAny_ite_split (λz=>absurd z (by rw[he];simp;omega)) λ_=>?_;have e1:(items.size:Int)*k=((items.size*k.toNat:Nat):Int):=by rw[Int.natCast_mul,Int.toNat_of_nonneg (by omega)]
   refine wpAny_ite_split (λz=>absurd z (by rw[e1];omega)) λ_=>?_;refine wpAny_ite_split (λz=>absurd z (by unfold Builtin.Tuple.tupleTooMany;rw[e1];simp only[gt_iff_lt,decide_eq_true_eq,Int.not_lt];exact Int.ofNat_le.mpr hz)) λ_=>?_;have hz':((replicate k.toNat items).foldl (· ++ ·) #[]).size<=sizeLine:=by have:=aA0 items k.toNat #[];rw[this];simpa[Nat.mul_comm] using hz
   wp_walk
   exact⟨_,rfl,h⟩
end
section
variable {X:Cx}{pos:Pos}
theorem aAj {K:Frag}{H:Hp}{ds:List D}{vs:List V}(r:cA K H ds vs):∀k:Nat,cA K H (replicate k ds).flatten (replicate k vs).flatten
 |0=>dG
 |k+1=>by rw[replicate_succ,flatten_cons,replicate_succ,flatten_cons];exact r.append (aAj r k)
theorem aAq {vs:List V}{us:List Value}(r:cG vs us):∀k:Nat,cG (replicate k vs).flatten (replicate k us).flatten
 |0=>.nil
 |k+1=>by rw[replicate_succ,flatten_cons,replicate_succ,flatten_cons];exact r.append (aAq r k)
theorem aBI (its:List Value)(k:Nat):(replicate k its.toArray).foldl (· ++ ·) #[]=(replicate k its).flatten.toArray:=by
 have g:∀(k:Nat)(acc:List Value),(replicate k its.toArray).foldl (· ++ ·) acc.toArray=(acc++(replicate k its).flatten).toArray:=λk=>by
  induction k with
  |zero=>intro acc;simp
  |succ k ih =>
   intro acc;rw[replicate_succ,foldl_cons,List.append_toArray,ih,replicate_succ,flatten_cons,append_assoc]
 exact g k []
def aKO:D2:=λx y M Q=>match x,y with
 |.tup ds,.int k=>ds≠[]/\-(2^62)<=k/\k<2^62/\ds.length*k.toNat<=1000/\Q (.tup (replicate k.toNat ds).flatten) M
 |_,_=>False
theorem aFI:OpD X (binaryOp .Mult) aKO:=by
 intro pins s σ H x y v u Q I rx ry ⟨dx,dy,M,Q',r1,r2,hm,q,k⟩
 match dx,dy,q with
 |.tup ds,.int n,q =>
  obtain⟨ne,h1,h2,hz,q⟩:=q;obtain⟨l,vs,rfl,sq,rs⟩:=cJ r1;obtain rfl:=aV r2;cases rx;obtain⟨t,rfl⟩:=ry;obtain⟨its,rv,⟨o,ho,hc,m,hd⟩,hzz⟩:=I.tuple sq;obtain⟨c,di,dt,sl⟩:=o;cases hc;cases hd;have l1:=rs.length;have l2:=rv.length;have hz':its.toArray.size*n.toNat<=sizeLine:=by rw[size_toArray,<- l2,<- l1];exact Nat.le_of_lt (fZ hz)
  have he:its.toArray.isEmpty=false:=by
   cases its with
   |nil=>exact absurd (List.length_eq_zero_iff.mp (by rw[l1,l2];rfl)) ne
   |cons a b=>rfl
  refine wpAny_binaryOp_repeat_ref (T:="tuple") (U:="int") (by decide) ⟨_,ho,rfl⟩ (λs'=>typeIs_int s' n t) aD4 F.fills_int_mul F.slot_int_rmul aIH F.slot_int_index.lookup
   (call_meets F.slot_int_rmul (typeIs_int s n t) F.entry_int_rmul (F.args_int_rmul_2 _ _) (aIT n t l its.toArray m di sl) ⟨ho,rfl,⟨_,ho,rfl⟩,?_⟩)
  by_cases e1:n=1
  ·subst e1;refine call_meets F.slot_tuple_mul ⟨_,ho,rfl⟩ F.entry_tuple_mul (F.args_tuple_mul_2 _ _) (aGU t l its.toArray m di sl) ⟨ho,?_⟩;refine⟨.ref l,H,I,rfl,k _ _ ⟨.tup ds,M,cH sq rs,hm,.refl H,?_⟩⟩;have:(replicate (1:Int).toNat ds).flatten=ds:=by simp
   rw[this] at q;exact q
  ·refine call_meets F.slot_tuple_mul ⟨_,ho,rfl⟩ F.entry_tuple_mul (F.args_tuple_mul_2 _ _) (aJC n t l its.toArray m di sl e1 (by omega) (by omega) he hz') ⟨ho,?_⟩;rw[aBI];have hl:(replicate n.toNat vs).flatten.length<=sizeLine:=by rw[L2.len_rep];rw[size_toArray,<- l2,Nat.mul_comm] at hz';exact hz'
   refine⟨.ref s.heap.objs.size,_,I.laid (t':=s.toks) (λ_ _ q=>Heap.get?_push_of_some _ q) (Nat.le_refl _) (show gJ X.prog X.w _ _ _ (.tup (replicate n.toNat vs).flatten) from⟨hl,_,aAq rv n.toNat,⟨_,Heap.get?_push_size _ rfl,rfl,_,rfl⟩⟩),rfl,
    k _ _ ⟨.tup _,M,cH (.of dN) ((aAj rs n.toNat).ext (Ext.new I.fresh _)),hm.new I.fresh _,Ext.new I.fresh _,q⟩⟩
def aPI:DSp:=λds M Q=>match ds with
 |[.ref a]=>∃ns:List Int,M a=some (ns.map D.int)/\Q (.int ns.sum) M
 |_=>False
theorem aAi:∀{ns:List Int}{vs:List V} {us:List Value} {K:Frag} {H:Hp},cA K H (ns.map D.int) vs->cG vs us->∃ps:List (Int×Tok),us=ps.map (λp=>Value.int p.1 p.2)/\ps.map (·.1)=ns
 |[],vs,us,K,H,r,v=>by rw[bY r] at v;cases v;exact⟨[],rfl,rfl⟩
 |n::ns,vs,us,K,H,r,v=>by
  obtain⟨x,rr,rfl,rx,rs⟩:=aZ r;cases v with
  |cons q1 q2 =>
   obtain⟨ps,e1,e2⟩:=aAi rs q2;rw[aV rx] at q1;obtain⟨t,rfl⟩:=q1;exact⟨(n,t)::ps,by rw[e1];rfl,by rw[map_cons,e2]⟩
theorem aNr (hc:X.calm = true):jI X (.builtin "sum") aPI:=by
 intro pins s σ H xs us Q I r ⟨ds,M,Q',rs,hm,q,k⟩
 match ds,q with
 |[.ref a],q =>
  obtain⟨ns,ha,q⟩:=q;obtain⟨v,rfl,rv⟩:=jD rs;obtain rfl:=bO rv;obtain⟨u,rfl,ru⟩:=yA r;cases ru;obtain⟨vs,hH,hr⟩:=hm.l a _ ha;obtain⟨hz,its,n,hv,hl,e⟩:=I.lstM hH;obtain⟨ps,e1,e2⟩:=aAi hr hv;have hi:s.heap.IsList a (intItems ps.toArray):=⟨_,e,rfl,n,by rw[e1];simp[intItems]⟩;refine sum_intListG (I.ok.hd hc) hi λh' tk t' kp=>?_;have es:preSum (numAt ps.toArray) ps.toArray.size=ns.sum:=by rw[preSum_eq,List.toList_toArray,e2,size_toArray,show ps.length=ns.length by rw[<- e2,length_map],take_length]
  rw[es];exact⟨.int ns.sum,H,I.kept kp,⟨t',rfl⟩,k _ _ ⟨.int ns.sum,M,bU,hm,.refl H,q⟩⟩
def aJ5 (w:World)(K:Frag)(mg:Str->Option Value)(x:Str)(names:List (Str×Str)):Prop :=
 ∃a es ep,mg x = some (.ref a)/\K.lookup a = some ⟨.type "dict",none,.dict es ep,#[]⟩/\KeysLit w.params es.toList/\∀k n,names.lookup k=some n->∃f,nsIn K a k=some (some (.ref f))/\mg n=some (.ref f)
def aNm (mg:Str->Option Value)(names:List (Str×Str))(ti:DE):DE:=λρ M Q=>ti ρ M λd M1=>match d with
 |.str k=>∃n,names.lookup k=some n/\∀f,mg n=some (.ref f)->Q (.ref f) M1
 |_=>False
theorem aMd {x:Str}{names:List (Str×Str)}{p:Pos}{i:Expr}{ti:DE}(T:aJ5 X.w X.K X.mg x names)(hi:PDE X i ti)(hg:Gl X x:=by rfl)(hd:(x==("__debug__":Str))=false:=by decide)(hs:uZ i:=by intro _ _;rfl) :
  PDE X (.Subscript (.Name x p) i pos) (aNm X.mg names ti):=by
 obtain⟨a,es,ep,hm,hk,ks,look⟩:=T;intro pins s σ H Q I ⟨ρ,M,Q',re,hm',q,kq⟩;refine Subscript_ (iW I hg hm ?_ hd);refine thn (hi pins s σ H (LQ X.K H λd M1=>match d with
  |.str k=>∃n,names.lookup k=some n/\∀f,X.mg n=some (.ref f)->Q' (.ref f) M1
  |_=>False) I ⟨ρ,M,_,re,hm',q,λ_ _ z=>z⟩) λu s1 ⟨y,H1,I1,ry,d1,M1,r1,hm1,e1,q1⟩=>?_
 cases d1 with
 |str k =>
  obtain⟨n,hn,q1⟩:=q1;obtain⟨f,hf,hmf⟩:=look k n hn;rw[cW r1] at ry;obtain⟨t,rfl⟩:=ry;have mo:=mapOf_K (prog:=X.prog) (w:=X.w) I1.kIn hk ks;refine subscriptTail_builtinR (x:=.ref f) (T:="dict") mo.typeIs PySem.F.slot_dict_getitem.lookup (wpAny_getItem_of (strKind_is X.prog X.w k t) mo (find_K hk hf) ⟨rfl,?_⟩) (hs _ _);exact⟨.ref f,H1,I1.tok _,rfl,kq _ _ ⟨.ref f,M1,kR,hm1,e1,q1 f hmf⟩⟩
 |_=>exact q1.elim
def aEA (P:Program)(w:World)(K:Frag)(mg:Str->Option Value)(base:Heap)(j:Nat)(tf:DE)(ta:DA):DE:=λρ M Q=>tf ρ M λd M1=>match d with
 |.ref f=>∃n ps sp,mg n=some (.ref f)/\Has P w K mg base j n ps sp/\ta ρ M1 λds M2=>sp ds M2 Q
 |_=>False
theorem aIr {x:Str}{p:Pos}{e:Expr}{es:List Expr}{tf:DE}{ta:DA}{j k:Nat}(hf:PDE X (.Name x p) tf)(hr:eB k X.A)(hjk:j<=k)(ha:PDA X (e::es) ta)(he:starEach (e::es) X.env=(false,eval e X.env)::starEach es X.env:=by rfl)(hpl:(backTo pos (starEach es X.env)).any (·.1)=false:=by rfl):PDE X (.Call (.Name x p) (e::es) [] pos) (aEA X.prog X.w X.K X.mg X.base j tf ta):=by
 intro pins s σ H Q I ⟨ρ,M,Q',re,hm',q,kq⟩;refine wpAny_Call_Name_kw (thn (hf pins s σ H _ I ⟨ρ,M,_,re,hm',q,λ_ _ z=>z⟩) λu s1 ⟨y,H1,I1,ry,d1,M1,r1,hm1,e1,q1⟩=>?_);cases d1 with
 |ref f =>
  obtain⟨n,ps,sp,hm,⟨f',fd,F,hm2,hk,hb⟩,q1⟩:=q1;obtain rfl:f=f':=by rw[hm] at hm2;cases hm2;rfl
  rw[bO r1] at ry;cases ry;refine callWith_K (h₀:=X.base) I1.ok.mod.kin hk (thn (ha pos pins s1 σ H1 _ I1 ⟨ρ,M1,_,re.ext e1,hm1,q1,λ_ _ z=>z⟩) λus s2 ⟨vs,H2,I2,r2,ds,M2,rs,hm2,e2,q2⟩=>⟨I2.kIn,?_⟩) he hpl;exact aEE F (hr.mono hjk) hb .nil aGJ I2 r2 ⟨ds,M2,Q',by rw[append_nil];exact rs,hm2,q2,λv H' z=>kq v H' (z.back (e1.trans e2))⟩
 |_=>exact q1.elim
end
section
variable {P:Program}{w:World}{K:Frag}{mg:Str->Option Value}{base:Heap}
theorem iS.mkZ {x c:Str}{C:Addr}{st:Stmt}{N ps:List Str}{k:Nat}{cond:List D->DM->Prop}(h:bT K mg x st ps)(hc:aDc K mg c C)(S:aR N ps (aJ st))(len:∀ds M,cond ds M->ds.length=ps.length)(hbody:∀(f:Addr)(cdv:Value) (A:Around) (outer:List Env) (s:Shared) (H:Hp) (ds:List D) (M:DM) (E:XK),eB k (A.deeper (envOfC x (aJ st) s.heap.objs.size f cdv))->cond ds M ->
   uX (kE (CXr P w) P w K mg base N x (aJ st) f cdv A outer s H E) c (aU M) ->
   ∃t,ZSs (kE (CXr P w) P w K mg base N x (aJ st) f cdv A outer s H E) (fC st) t/\t { nx:=λ_ _=>False,rt:=λ_ _=>False } (iO N ds) M):iS P w K mg base (k+1) x ps C cond :=
 iS.mk h hc S len λf cdv A outer s H ds M E hr h hRO=>let ⟨t,h1,h2⟩:=hbody f cdv A outer s H ds M E hr h hRO;⟨t,h1.o,h2⟩
end
end Dd
namespace HT
open PySem PyProof.Rows
section
variable {prog:Program}{w:World}{A:Around}{E:Value->Shared->Prop}{s:Shared}
theorem getItem_tuple_whole {t sl:Addr}{items:Array Value}{vl vu:Value}{lo hi:Option Int}{Q:Value->Shared->Prop}(ht:IsTup s.heap t items)(hs:s.heap.IsSliceOf sl vl vu .none)(pl:IsPart vl lo)(pu:IsPart vu hi)(hw:sIx items.size 0 lo=0/\sIx items.size items.size hi=items.size)(h:Q (.ref t) s):wpAny (model prog w) A (getItem (.ref t) (.ref sl)) Q E s:=by
 obtain⟨os,hos,hcs,hds⟩:=id hs;have hTs:s.TypeIs (.ref sl) "slice":=⟨os,hos,hcs⟩;unfold getItem;try with_reducible refine wpAny_holding ?_
 first|refine wpAny_bind (wpAny_pure ?_)|skip
 refine wpAny_bind (wpAny_sequenceKey ht.typeIs (by decide) ?_);refine wpAny_bind (wpAny_callSpecial?_slot (name:=Str.ofString "__getitem__") ht.typeIs PyProof.Rows.slot_tuple_getitem
  (wpAny_call_entry PyProof.Rows.slot_tuple_getitem ht.typeIs entry_tuple_getitem ?_ (args_tuple_getitem _ _)))
 show wpAny _ _ (Builtin.Tuple.tupleItemsOf (.ref t) >>= _) _ _ s;refine wpAny_bind (tupleItemsOf_ ht ?_);refine wpAny_bind (wpAny_typeOf hTs ?_);rw[if_pos (by decide)];refine wpAny_bind (oE hs pl pu ?_);have hyes:(((sIx items.size 0 lo:Nat):Int)==0&&(1:Int)==1&&(sIx items.size items.size hi-sIx items.size 0 lo)==items.size)=true:=by rw[hw.1,hw.2];simp
 show wpAny _ _ (if (((sIx items.size 0 lo:Nat):Int)==0&&(1:Int)==1&&(sIx items.size items.size hi-sIx items.size 0 lo)==items.size)=true then _ else _) _ _ s;rw[if_pos hyes];obtain⟨ot,hot,hct,n,hdt⟩:=id ht
 wp_walk
 first
  |exact⟨_,rfl,wpAny_pure h⟩
  |exact⟨_,rfl,h⟩
  |exact h
end
end HT
namespace L2
open PySem PySem.Spec PyProof.Rows
variable {X:Cx}
def aQl (K:Frag):V->Option Int->Option Int->Hp->VK->Prop:=λx lo hi H Q=>∃a xs,x=.ref a/\SqT K H a xs /\
 (HT.sIx xs.length 0 lo=0/\HT.sIx xs.length xs.length hi=xs.length)/\Q (.ref a) H
theorem aIt:SlR X (aQl X.K):=by
 intro pins s σ H x v vl vu lo hi sl Q I rx hs pl pu h;obtain⟨a,xs,rfl,hx,hw,q⟩:=h;cases rx;obtain⟨its,r,ht,hz⟩:=I.tuple hx;have hlen:its.toArray.size=xs.length:=by rw[size_toArray];exact r.length.symm
 refine⟨"tuple",_,PyProof.Rows.slot_tuple_getitem.lookup,ht.typeIs,?_⟩;exact HT.getItem_tuple_whole ht hs pl pu (by rw[hlen];exact hw) ⟨.ref a,H,I,rfl,q⟩
end L2
namespace Dd
open PySem PySem.Spec PyProof.Rows L2
section
variable {X:Cx}{e:Expr}{te:DE}{pos p2:Pos}{lo hi:Option Expr}{tl th:DO}
def aKI (x:D)(lo hi:Option Int)(M:DM)(Q:DQ):Prop:=match x with
 |.tup ds=>Q (.tup (cutD ds lo hi)) M
 |_=>False
def aMA (te:DE)(tl th:DO):DE:=λρ M Q=>te ρ M λx M1=>tl ρ M1 λl M2=>th ρ M2 λh M3=>aKI x l h M3 Q
theorem aGn {ds:List D}{lo hi:Option Int}(h:HT.sIx ds.length 0 lo=0/\HT.sIx ds.length ds.length hi=ds.length):cutD ds lo hi=ds:=by unfold cutD;rw[h.1,h.2];simp
theorem aGw (he:PDE X e te)(hl:PO X lo (aAl X.K tl))(hu:PO X hi (aAl X.K th)):PDE X (.Subscript e (.Slice lo hi none p2) pos) (aMA te tl th) :=
 cY (aAe (SlR.or aIw aIt) he hl hu) λσ H Q ⟨ρ,M,Q',re,hm,q,k⟩=>⟨ρ,M,_,re,hm,q,λv H1 ⟨d,M1,rd,hm1,e1,q1⟩=>⟨ρ,M1,_,re.ext e1,hm1,q1,λl H2 ⟨M2,hm2,e2,q2⟩=>⟨ρ,M2,_,(re.ext e1).ext e2,hm2,q2,λh H3 ⟨M3,hm3,e3,q3⟩=>by
  have rd3:=(rd.ext e2).ext e3;have ex:=(e1.trans e2).trans e3;cases d with
  |tup ds =>
   obtain⟨a,us,rfl,sq,ru⟩:=cJ rd3;have l1:=ru.length;have q3:Q' (.tup (cutD ds l h)) M3:=q3;by_cases hw:HT.sIx ds.length 0 l=0/\HT.sIx ds.length ds.length h=ds.length
   ·rw[aGn hw] at q3;exact .inr ⟨a,us,rfl,sq,by rw[<- l1];exact hw,k _ _ ⟨.tup ds,M3,cH sq ru,hm3,ex,q3⟩⟩
   ·exact .inl ⟨a,us,rfl,sq,by rw[<- l1];exact hw,λp hp=>k _ _ ⟨.tup _,M3,cH (.of dN) ((vI ru l h).ext (Ext.new hp _)),hm3.new hp _,ex.trans (Ext.new hp _),q3⟩⟩
  |_=>exact q3.elim⟩⟩⟩
end
section
variable {X:Cx}{pins:List (Addr×Obj)}{σ:L2.St}{H:Hp}{s:Shared}{M:Model}{A:Around}{E:Value->Shared->Prop}{e T:Addr}{cls:Value}
theorem aEU {Q:Unit->Shared->Prop}(I:Inv X pins σ H s)(hs:X.stack=X.env::X.outer)(hf:X.env.frame=some X.env.locals)(hex:X.ex=[])(hA:A.frames=some X.stack)(t:Tr s.heap e cls T .none)(fe:FpN X pins H e)(fT:FpN X pins H T)(h:∀s' T',Inv X pins σ H s'->Tr s'.heap e cls T' .none->FpN X pins H T'->Q () s'):wpAny M A (leaving X.env (.ref e)) Q E s:=by unfold leaving;exact wpAny_bind (aBS I hs hf hex hA t fe fT λs1 T1 I1 t1 f1=>pU I1 t1 f1 λs2 I2 t2=>h s2 T1 I2 t2 f1)
end
def aCT (X:Cx)(C:Addr)(V:DM->Prop):Prop:=X.ex=[] /\
 ∀pins σ H s a T M',Inv X pins σ H s->Tr s.heap a (.ref C) T .none->FpN X pins H a->FpN X pins H T->cI X.K M' H->V M'->X.xe (.ref a) s
def aHA (V:DM->Prop)(cond:List D->DM->Prop)(t:DA):DE:=λρ M _=>t ρ M λds M1=>cond ds M1/\∀M',aU M1 M'->V M'
section
variable {X:Cx}{e:Expr}{es:List Expr}{t:DA}{f:Str}{ps:List Str}{cond:List D->DM->Prop}{C:Addr}{k1 k:Nat}{V:DM->Prop}{pf pc:Pos}
theorem aHB (hH:iS X.prog X.w X.K X.mg X.base k1 f ps C cond)(hr:eB k X.A)(hk1:k1<=k)(PO:aCT X C V)(ha:PDA X (e::es) t)(hg:Gl X f:=by rfl)(hdb:(f==("__debug__":Str))=false:=by decide)(he:starEach (e::es) X.env=(false,eval e X.env)::starEach es X.env:=by rfl)(hpl:(backTo pc (starEach es X.env)).any (·.1)=false:=by rfl) :
  PDE X (.Call (.Name f pf) (e::es) [] pc) (aHA V cond t):=by
 intro pins s σ H Q I ⟨ρ,M,Q',re,hm,q,k'⟩;obtain⟨hex,fly⟩:=PO;obtain⟨f1,fd,F,hmf,hk,hb⟩:=id hH;refine wpAny_Call_Name_kw (iW I hg hmf ?_ hdb);refine callWith_K (h₀:=X.base) I.ok.mod.kin hk (thn (ha pc pins s σ H (LA X.K H _) I ⟨ρ,M,_,re,hm,q,λvs H' z=>z⟩) λus s1 ⟨vs,H1,I1,rv,ds,M1,rs,hm1,ex,q1,q2⟩=>⟨I1.kIn,?_⟩) he hpl;have hsp:spX X.K C cond vs H1 (λ_ _=>False) (λc _ H'=>c=.ref C/\∃M',cI X.K M' H'/\aU M1 M'):=⟨ds,M1,rs,hm1,q1,λM' H' a b=>⟨rfl,M',a,b⟩⟩;have hl:(us++[]).length=ps.length:=by rw[append_nil,<- rv.length];exact F.len _ _ _ _ hsp
 have hbb:=hb s1 us I1.kIn hl;rw[append_nil] at hbb;refine wpAny_call (codeAny_mono (F.run X.A X.stack s1 H1 ⟨us,[]⟩ us vs _ _ (hr.mono hk1) I1.env0 hbb rv hsp) λr s' hq=>?_);cases r with
 |error ev =>
  obtain⟨a,cls,T,H',rfl,os,bare,un,hok,tr,na,nT,ha',hT,rfl,M',hm',sub⟩:=(show CXr X.prog X.w X.stack H1 s1 (λc _ H'=>c=.ref C/\∃M',cI X.K M' H'/\aU M1 M') ev s' from hq);have I2:Inv X pins σ H' s':=I1.call' (ch:=[]) os un hok bare (λb z=>absurd z (by simp));exact fly pins σ H' s' a T M' I2 tr (I1.fpN hex na ha') (I1.fpN hex nT hT) hm' (q2 M' sub)
 |ok fl =>
  cases fl with
  |ret u=>obtain⟨_,_,_,_,_,_,_,z⟩:=(show CE _ _ _ _ _ _ _ _ from hq);exact z.elim
  |next=>exact False.elim hq
  |brk=>exact False.elim hq
  |cont=>exact False.elim hq
end
section
variable {P:Program}{w:World}{K:Frag}{mg:Str->Option Value}{base:Heap}
theorem iS.mkP {x:Str}{C:Addr}{st:Stmt}{N ps:List Str}{k:Nat}{cond:List D->DM->Prop}(h:bT K mg x st ps)(S:aR N ps (aJ st))(len:∀ds M,cond ds M->ds.length=ps.length)(hbody:∀(f:Addr)(cdv:Value) (A:Around) (outer:List Env) (s:Shared) (H:Hp) (ds:List D) (M:DM) (E:XK),eB k (A.deeper (envOfC x (aJ st) s.heap.objs.size f cdv))->cond ds M ->
   aCT (kE (CXr P w) P w K mg base N x (aJ st) f cdv A outer s H E) C (aU M) ->
   ∃t,ZSs (kE (CXr P w) P w K mg base N x (aJ st) f cdv A outer s H E) (fC st) t/\t { nx:=λ_ _=>False,rt:=λ_ _=>False } (iO N ds) M):iS P w K mg base (k+1) x ps C cond:=by
 obtain⟨f,fd,F,hm,hb⟩:=h;refine⟨f,fd,?_,hm,F.kp,hb⟩;obtain⟨oc,od,kV,doc,pm,an,cdv,ct,osl,rfl,lk,hcd⟩:=F.ex;refine aFd lk hcd S (λvs H Q E ⟨ds,M,rs,hm,q,_⟩=>by rw[<- rs.length];exact len ds M q) λA outer s H vs Q E hr ⟨ds,M,rs,hm,q,k'⟩=>?_;have PO:aCT (kE (CXr P w) P w K mg base N x (aJ st) f cdv A outer s H E) C (aU M) :=
  ⟨rfl,λpins σ H' s1 a T M' I t fe fT hm' sub =>
   aEU (X:=kE (CXr P w) P w K mg base N x (aJ st) f cdv A outer s H E) I rfl rfl rfl I.ok.frames t fe fT λs' T' I' t' fT' =>
    ⟨a,.ref C,T',H',rfl,I'.os,I'.bare,I'.base,I'.hok,t',fe.2.2.1,fT'.2.2.1,fe.1,fT'.1,k' M' H' hm' sub⟩⟩
 obtain⟨t,h1,h2⟩:=hbody f cdv A outer s H ds M E hr q PO;exact⟨_,h1.o,iO N ds,M,_,oQ rs N,hm,h2,⟨λσ' H' ⟨_,_,_,_,_,z⟩=>z.elim,λv H' ⟨_,_,_,_,_,z⟩=>z.elim,λσ' H' ⟨_,_,_,_,_,z⟩=>z.elim,λσ' H' ⟨_,_,_,_,_,z⟩=>z.elim⟩⟩
theorem Has.never {x:Str}{st:Stmt}{N ps:List Str}(h:bT K mg x st ps)(S:aR N ps (aJ st))(k:Nat):Has P w K mg base (k+1) x ps (λ_ _ _=>False) :=
 Has.mk h S (λ_ _ _ z=>z.elim) λ_ _ _ _ _ _ _ _ _ _ _ z=>z.elim
theorem Has.mono {x:Str}{ps:List Str}{k k':Nat}{sp:DSp}(h:Has P w K mg base k x ps sp)(l:k<=k'):Has P w K mg base k' x ps sp:=by obtain⟨f,fd,F,hm,hk,hb⟩:=h;exact⟨f,fd,F.mono l,hm,hk,hb⟩
end
section
variable {X:Cx}{a:Expr}{e tg:Expr}{es:List Expr}{t:DA}{g:DG}{f n cm:Str}{ps:List Str}{sp:DSp}{cond:List D->DM->Prop}{C Cm:Addr}{k1 k2 k j:Nat}{ts:Addr->DS}{b0:Stmt}{suite:List Stmt}{pf pc pa pcm ph pos:Pos}
end
open PySem.AutoSeq1 (wpAny_loadPart')
theorem aDB (l b:Addr)(items items2:Array Value)(n n2:Nat)(dd dd2:Option Addr)(sl sl2:Array (Option Value))(hc0:items.isEmpty=true) :
  Meets (Builtin.«tuple.__add__» ⟨[.ref l,.ref b],[]⟩) (λ_ R s=>s.heap.get? l = some { cls:=.type "tuple",dict:=dd,data:=.seq items n,slots:=sl }/\s.heap.get? b = some { cls:=.type "tuple",dict:=dd2,data:=.seq items2 n2,slots:=sl2 }/\R (.ok (.ret (Value.ref b))) { s with heap:=s.heap,toks:=s.toks }) :=
 .of_wp λprog w A R s h=>by obtain⟨hp,g,d,tk,os⟩:=s;obtain⟨hl,hb,h⟩:=h;have f1:=AutoSeq1.idx_int;have f2:=AutoSeq1.sub_tuple_tuple;have f3:=AutoSeq1.sub_list_list;have f4:=AutoSeq1.sub_tuple_list;have f5:=AutoSeq1.sub_list_tuple;wp_walk using wpAny_loadPart' hl,wpAny_loadPart' hb;exact⟨_,rfl,h⟩
section
variable {X:Cx}
def aId:D2:=λx y M Q=>match x,y with
 |.tup xs,.tup ys=>xs.length+ys.length<=1000/\Q (.tup (xs++ys)) M
 |_,_=>False
theorem gQ:OpD X (binaryOp .Add) aId:=by
 intro pins s σ H x y v u Q I rx ry ⟨dx,dy,M,Q',r1,r2,hm,q,k⟩
 match dx,dy,q with
 |.tup xs,.tup ys,q =>
  obtain⟨hl,q⟩:=q;obtain⟨a,us,rfl,sq,ru⟩:=cJ r1;obtain⟨b,ws,rfl,sq2,rw'⟩:=cJ r2;have l3:=ru.length;have l4:=rw'.length;by_cases n1:us=[]
  ·have nx:xs=[]:=List.length_eq_zero_iff.mp (by rw[l3,n1];rfl);rw[nx] at q;cases rx;cases ry;obtain⟨its,r5,p1,_⟩:=I.tuple sq;obtain⟨its2,r6,p2,_⟩:=I.tuple sq2;obtain⟨⟨cls,dd,data,sl⟩,ho,hc,n,hd⟩:=id p1;obtain⟨⟨cls2,dd2,data2,sl2⟩,ho2,hc2,n2,hd2⟩:=id p2;simp only at hc hd hc2 hd2;subst hc hd hc2 hd2;have e0:its=[]:=List.length_eq_zero_iff.mp (by rw[<- r5.length,n1];rfl);exact concat_meets ⟨_,ho,rfl⟩ ⟨_,ho2,rfl⟩ noFill_tuple_add seq_tuple_add PySem.F.slot_tuple_add PySem.F.entry_tuple_add (PySem.F.args_tuple_add_2 _ _)
    (aDB a b its.toArray its2.toArray n n2 dd dd2 sl sl2 (by rw[e0];rfl)) ⟨ho,ho2,.ref b,H,I,rfl,k _ H ⟨.tup ys,M,cH sq2 rw',hm,.refl H,q⟩⟩
  ·refine aFD pins s σ H _ _ v u Q I rx ry ?_;refine⟨a,b,us,ws,rfl,rfl,sq,sq2,n1,by rw[<- l3,<- l4];exact Nat.le_of_lt (fZ hl),λz=>?_,λ_ p hp=>k _ _ ⟨.tup _,M,cH (.of dN) ((ru.append rw').ext (Ext.new hp _)),hm.new hp _,Ext.new hp _,q⟩⟩;have ny:ys=[]:=List.length_eq_zero_iff.mp (by rw[l4,z];rfl);rw[ny,append_nil] at q;exact k _ H ⟨.tup xs,M,cH sq ru,hm,.refl H,q⟩
end
section
variable {X:Cx}{pins:List (Addr×Obj)}{σ:L2.St}{H:Hp}{s:Shared}
end
section
variable {X:Cx}{pos:Pos}
end
section
variable {X:Cx}{pos:Pos}{iter tg:Expr}{body:List Stmt}{tl:DE}{g:DG}{tb:DS}{ta:DA}
end
section
variable {X:Cx}{pos:Pos}{iter tg:Expr}{body:List Stmt}{tl:DE}{g:DG}{tb:DS}{ta:DA}
end
section
variable {X:Cx}{pos:Pos}{iter tg elt:Expr}{body:List Stmt}{tl te:DE}{g:DG}{tb:DS}{ta:DA}
variable {scope:Scope}{N':List Str}{fr:List (Option Nat)}{oN:List Str}{osc:Scope}
end
section
variable {prog:Program}{w:World}{A:Around}{E:Value->Shared->Prop}{s:Shared}
end
section
variable {X:Cx}{pos:Pos}
theorem aJH {x:Str}{names:List (Str×Str)}{p:Pos}{i:Expr}{ti:DE}(T:aJ5 X.w X.K X.mg x names)(hi:ZE X i ti)(hg:Gl X x:=by rfl)(hd:(x==("__debug__":Str))=false:=by decide)(hs:uZ i:=by intro _ _;rfl):ZE X (.Subscript (.Name x p) i pos) (aNm X.mg names ti):=.i (aMd (i:=i) T hi.o hg hd hs)
theorem aFT {x:Str}{p:Pos}{e:Expr}{es:List Expr}{tf:DE}{ta:DA}{j k:Nat}(hf:ZE X (.Name x p) tf)(hr:eB k X.A)(hjk:j<=k)(ha:ZA X (e::es) ta)(he:starEach (e::es) X.env=(false,eval e X.env)::starEach es X.env:=by rfl)(hpl:(backTo pos (starEach es X.env)).any (·.1)=false:=by rfl):ZE X (.Call (.Name x p) (e::es) [] pos) (aEA X.prog X.w X.K X.mg X.base j tf ta):=.i (aIr (j:=j) (k:=k) hf.o hr hjk ha.o he hpl)
end
section
variable {P:Program}{w:World}{K:Frag}{mg:Str->Option Value}{base:Heap}
end
section
variable {X:Cx}{e:Expr}{te:DE}{pos p2:Pos}{lo hi:Option Expr}{tl th:DO}
theorem jA (he:ZE X e te)(hl:ZO X lo tl)(hu:ZO X hi th):ZE X (.Subscript e (.Slice lo hi none p2) pos) (aMA te tl th):=.i (aGw he.o hl.o hu.o)
end
section
variable {X:Cx}{pins:List (Addr×Obj)}{σ:L2.St}{H:Hp}{s:Shared}{M:Model}{A:Around}{E:Value->Shared->Prop}{e T:Addr}{cls:Value}
end
section
variable {X:Cx}{e:Expr}{es:List Expr}{t:DA}{f:Str}{ps:List Str}{cond:List D->DM->Prop}{C:Addr}{k1 k:Nat}{V:DM->Prop}{pf pc:Pos}
theorem aBR (hH:iS X.prog X.w X.K X.mg X.base k1 f ps C cond)(hr:eB k X.A)(hk1:k1<=k)(PO:aCT X C V)(ha:ZA X (e::es) t)(hg:Gl X f:=by rfl)(hdb:(f==("__debug__":Str))=false:=by decide)(he:starEach (e::es) X.env=(false,eval e X.env)::starEach es X.env:=by rfl)(hpl:(backTo pc (starEach es X.env)).any (·.1)=false:=by rfl):ZE X (.Call (.Name f pf) (e::es) [] pc) (aHA V cond t):=.i (aHB hH hr hk1 PO ha.o hg hdb he hpl)
end
section
variable {P:Program}{w:World}{K:Frag}{mg:Str->Option Value}{base:Heap}
end
section
variable {X:Cx}{a:Expr}{e tg:Expr}{es:List Expr}{t:DA}{g:DG}{f n cm:Str}{ps:List Str}{sp:DSp}{cond:List D->DM->Prop}{C Cm:Addr}{k1 k2 k j:Nat}{ts:Addr->DS}{b0:Stmt}{suite:List Stmt}{pf pc pa pcm ph pos:Pos}
end
section
variable {X:Cx}
end
section
variable {X:Cx}{pins:List (Addr×Obj)}{σ:L2.St}{H:Hp}{s:Shared}
end
def Cm (M:DM):Nat->D->D->Bool->Prop
 |0,d,d',b=>bB 0 d=true/\bB 0 d'=true/\b=eqD d d'
 |n+1,d,d',b=>match d,d' with
  |.tup xs,.tup ys=>∃e:Nat->Bool,(∀j x y,xs[j]?=some x->ys[j]?=some y->Cm M n x y (e j))/\b=((range (min xs.length ys.length)).all e&&xs.length==ys.length)
  |.ref a,.ref a'=>∃xs ys,M a=some xs/\M a'=some ys/\a≠a'/\(xs.length=ys.length->∃e:Nat->Bool,(∀j x y,xs[j]?=some x->ys[j]?=some y->Cm M n x y (e j))/\b=(range xs.length).all e)/\(xs.length≠ys.length->b=false)
  |d,d'=>bB 0 d=true/\bB 0 d'=true/\b=eqD d d'
section
variable {X:Cx}{pins:List (Addr×Obj)}{σ:L2.St}{H:Hp}{s:Shared}{M:DM}
end
section
variable {X:Cx}
end
noncomputable def aPv (w:World)(kvs:List (Str×D)):List D:=kvs.map λp=>.tup [.int (hashStr w p.1),.str p.1,p.2]
noncomputable def cQ (kvs:List (Str×D))(k:Str)(v:D):List (Str×D):=if kvs.any (λkv=>kv.1=k) then kvs.map (λkv=>if kv.1=k then (kv.1,v) else kv) else kvs++[(k,v)]
section
variable {X:Cx}{pins:List (Addr×Obj)}{σ:L2.St}{H:Hp}{s:Shared}
end
section
variable {X:Cx}{pos:Pos}
end
section
variable {X:Cx}{pins:List (Addr×Obj)}{σ:L2.St}{H:Hp}{s:Shared}
end
section
variable {X:Cx}{pos:Pos}
end
def FK (K:Frag)(x:Str)(f:Addr)(st:Stmt):Prop:=nsIn K mainGlobals x=some (some (.ref f))/\∃fd,L2.Fun K x x st f fd
theorem FK.has {K:Frag}{mg:Str->Option Value}{h:Heap}{x:Str}{f:Addr}{st:Stmt}{ps:List Str}(b:FK K x f st)(X:K.In h)(G:h.Ns mainGlobals mg)(r:∀(kV doc pm:Value)(an:Option Addr) (cdv ct:Value) (us:List Value),us.length=ps.length->bindArgs (fnOf x x (pR st) (fC st) (aJ st) .none kV doc pm an cdv ct) ⟨us,[]⟩=pure (ps.zip us)):bT K mg x st ps :=
 let ⟨a,_,F⟩:=b;⟨_,_,F,mg_of X G a,F.binds r⟩
def aDH (tl:DE)(g:DG)(tb:DS):DS:=λE ρ M=>aDQ tl g tb E ρ M∨aDj tl g tb E ρ M
section
variable {X:Cx}{pos:Pos}{st:Stmt}{t1 t2:DS}{iter tg:Expr}{body:List Stmt}{tl:DE}{g:DG}{tb:DS}
theorem PDS.or (h1:PDS X st t1)(h2:PDS X st t2):PDS X st (λE ρ M=>t1 E ρ M∨t2 E ρ M) :=
 λa b c d e f ⟨ρ,M,Dn,re,hm,q,k⟩=>q.elim (λq=>h1 a b c d e f ⟨ρ,M,Dn,re,hm,q,k⟩) λq=>h2 a b c d e f ⟨ρ,M,Dn,re,hm,q,k⟩
theorem aKu (hp:PassesOwn (model X.prog X.w) X.A X.env X.xe)(hc:X.calm=true)(hi:PDE X iter tl)(hg:PDG X tg g)(hb:lK X body tb)(hs:∀x,foldedSetIterable iter X.env x=pure x:=by intro _;rfl):PDS X (.For tg iter body [] pos) (aDH tl g tb) :=
 PDS.or (aFi hp hc hi hg hb hs) (aFv hp hc hi hg hb hs)
theorem aIF {i:Nat}{ds:List D}{E:gF}{ρ:cO}{M:DM}(h:ρ[i]?=some (some (.tup ds)))(q:dIt none ds g tb E ρ M):aDH (aCl i) g tb E ρ M:=.inl (by unfold aDQ aCl;rw[h];exact q)
theorem aIS {i:Nat}{a:Addr}{ds:List D}{E:gF}{ρ:cO}{M:DM}(h:ρ[i]?=some (some (.ref a)))(ha:M a=some ds)(q:dIt (some a) ds g tb E ρ M):aDH (aCl i) g tb E ρ M:=.inr (by unfold aDj aCl;rw[h];exact⟨ds,ha,q⟩)
def aKL:D2:=λx y M Q=>match x,y with
 |.ref a,.int n=>∃ds,M a=some ds/\ds≠[]/\-(2^62)<=n/\n<2^62/\ds.length*n.toNat<=1000/\∀p:Addr,M p=none->Q (.ref p) (bK M p (replicate n.toNat ds).flatten)
 |_,_=>False
theorem aFe:OpD X (binaryOp .Mult) aKL:=by
 intro pins s σ H x y v u Q I rx ry ⟨dx,dy,M,Q',r1,r2,hm,q,k⟩
 match dx,dy,q with
 |.ref a,.int n,q =>
  obtain⟨ds,ha,ne,h1,h2,hz,q⟩:=q;obtain⟨vs,hu,rs⟩:=hm.l a ds ha;obtain rfl:=bO r1;obtain rfl:=aV r2;cases rx;obtain⟨t,rfl⟩:=ry;obtain⟨z,its,m,rv,hl2,ho⟩:=I.lstM hu;have l1:=rs.length;have l2:=rv.length;have hs:=fZ hz;have he:its.toArray.isEmpty=false:=by
   cases its with
   |nil=>exact absurd (List.length_eq_zero_iff.mp (by rw[l1,l2];rfl)) ne
   |cons a b=>rfl
  have hz':its.toArray.size*n.toNat<=sizeLine:=by rw[size_toArray,<- l2,<- l1];exact Nat.le_of_lt hs
  refine wpAny_binaryOp_repeat_ref (T:="list") (U:="int") (by decide) ⟨_,ho,rfl⟩ (λs'=>typeIs_int s' n t) noFill_list_mul F.fills_int_mul F.slot_int_rmul repeat_list F.slot_int_index.lookup
   (call_meets F.slot_int_rmul (typeIs_int s n t) F.entry_int_rmul (F.args_int_rmul_2 _ _) (int___rmul___int_list n t a its.toArray m) ⟨ho,rfl,⟨_,ho,rfl⟩,?_⟩)
  refine call_meets F.slot_list_mul ⟨_,ho,rfl⟩ F.entry_list_mul (F.args_list_mul_2 _ _) (AutoListH.list___mul___list_int_3 a its.toArray m n t (by simp[Builtin.List.listFitsIndex];omega) (by simp[sizeLine] at hz';simp;omega) (by simp[Builtin.List.listTooLong];exact by simpa using hz')) ⟨ho,?_⟩;rw[he];simp only[Bool.false_eq_true,if_false];have ef:=aBI its n.toNat;rw[show(foldl (λx1 x2=>x1++x2) #[] (replicate n.toNat its.toArray))=(replicate n.toNat its).flatten.toArray from ef];have hl:(replicate n.toNat its).flatten.length<=sizeLine:=by rw[L2.len_rep];rw[size_toArray,Nat.mul_comm] at hz';exact hz'
  exact⟨.ref _,_,I.lnew (t':=s.toks) (aAq rv n.toNat) (by rw[L2.len_rep,l2,<- L2.len_rep];exact hl),rfl,k _ _ ⟨.ref _,_,kR,hm.lnew I.fresh (aAj rs n.toNat),Ext.new I.fresh _,q _ (hm.fresh I.fresh)⟩⟩
end
section
variable {X:Cx}{pos:Pos}{st:Stmt}{t1 t2:DS}{iter tg:Expr}{body:List Stmt}{tl:DE}{g:DG}{tb:DS}
theorem vR (hp:PassesOwn (model X.prog X.w) X.A X.env X.xe)(hc:X.calm=true)(hi:ZE X iter tl)(hg:ZG X tg g)(hb:ZSs X body tb)(hs:∀x,foldedSetIterable iter X.env x=pure x:=by intro _;rfl):ZS X (.For tg iter body [] pos) (aDH tl g tb):=.i (aKu hp hc hi.o hg.o hb.o hs)
end
open Mz
section
variable {prog:Program}{w:World}{A:Around}{I S:Addr}{fp wr:List Addr}{n:Nat}{P:Nat->Value->Prop}{St:Nat->Heap->Prop}{R:Result->Shared->Prop}{dv:Value}
end
section
variable {prog:Program}{w:World}{A:Around}{E:Value->Shared->Prop}{s:Shared}{l:Addr}{xs:Array (Int×Tok)}{dv:Value}
end
section
variable {X:Cx}{pos p kp:Pos}{e d:Expr}{te td:DE}
end
section
variable {X:Cx}{pos:Pos}{iter tg:Expr}{body:List Stmt}{te:DE}
end
section
variable {prog:Program}{w:World}{A:Around}{I S:Addr}{fp wr:List Addr}{n:Nat}{P:Nat->Value->Prop}{St:Nat->Heap->Prop}{R:Result->Shared->Prop}{dv:Value}
end
section
variable {prog:Program}{w:World}{A:Around}{E:Value->Shared->Prop}{s:Shared}{l:Addr}{xs:Array (Int×Tok)}{dv:Value}
end
section
variable {X:Cx}{pos p kp:Pos}{e d:Expr}{te td:DE}
end
section
variable {X:Cx}{pos:Pos}{iter tg:Expr}{body:List Stmt}{te:DE}
end
section
variable {X:Cx}{pos:Pos}{elt iter tg cnd:Expr}{scope:Scope}{N':List Str}{fr:List (Option Nat)}{tl:DE}{oN:List Str}{osc:Scope}{g:DG}{tc:DT}{te:DE}{e:Expr}{t1 t2:DE}
end
section
variable {X:Cx}{pos:Pos}{elt iter tg cnd:Expr}{scope:Scope}{N':List Str}{fr:List (Option Nat)}{tl:DE}{oN:List Str}{osc:Scope}{g:DG}{tc:DT}{te:DE}{e:Expr}{t1 t2:DE}
end
section
variable {X:Cx}{a:Expr}{e:Expr}{es:List Expr}{t:DA}{f n cm:Str}{ps:List Str}{sp:DSp}{cond:List D->DM->Prop}{C Cm:Addr}{k1 k2 k j:Nat}{ts:Addr->DS}{b0:Stmt}{suite:List Stmt}{pf pc pa pcm ph pos:Pos}
end
def aD1 (b:Bool)(j:Nat)(a:Addr):DE:=λρ M Q=>ρ[j]?=some (some (.ref a))/\Q (.bl b) M
section
variable {X:Cx}{n c:Str}{C Cc a:Addr}{o:Obj}{p p1 p2 pos:Pos}{j:Nat}
end
def aM4 (t1 t2:DS):DS:=λE ρ M=>t1 E ρ M∨t2 E ρ M
section
variable {X:Cx}{st:Stmt}{t1 t2:DS}
theorem aOc (h1:PDS X st t1)(h2:PDS X st t2):PDS X st (aM4 t1 t2):=PDS.or h1 h2
end
section
variable {prog:Program}{w:World}{A:Around}{E:Value->Shared->Prop}{s:Shared}
end
section
variable {X:Cx}
end
def aPz (i:Nat)(te:DE):DS:=λE ρ M=>match ρ[i]? with
 |some (some d)=>te ρ M λy M1=>aId d y M1 λr M2=>E.nx (ρ.set i (some r)) M2
 |_=>False
section
variable {X:Cx}{e:Expr}{te:DE}{x:Str}{pos:Pos}
end
section
variable {X:Cx}{a:Expr}{e:Expr}{es:List Expr}{t:DA}{f n cm:Str}{ps:List Str}{sp:DSp}{cond:List D->DM->Prop}{C Cm:Addr}{k1 k2 k j:Nat}{ts:Addr->DS}{b0:Stmt}{suite:List Stmt}{pf pc pa pcm ph pos:Pos}
end
section
variable {X:Cx}{n c:Str}{C Cc a:Addr}{o:Obj}{p p1 p2 pos:Pos}{j:Nat}
end
section
variable {X:Cx}{st:Stmt}{t1 t2:DS}
theorem aEP (h1:ZS X st t1)(h2:ZS X st t2):ZS X st (aM4 t1 t2):=.i (aOc h1.o h2.o)
end
section
variable {prog:Program}{w:World}{A:Around}{E:Value->Shared->Prop}{s:Shared}
end
section
variable {X:Cx}
end
section
variable {X:Cx}{e:Expr}{te:DE}{x:Str}{pos:Pos}
end
section
variable {prog:Program}{w:World}{A:Around}{E:Value->Shared->Prop}{s:Shared}
end
def aPb:DSp:=λds M Q=>match ds with
 |[.tup [.int a,.int b]]=>Q (.int (if b > a then b else a)) M
 |_=>False
section
variable {X:Cx}
end
section
variable {X:Cx}{o e:Expr}{to te:DE}{pos:Pos}
def aIJ (to te:DE):DE:=λρ M Q=>to ρ M λx M1=>match x with
 |.ref p=>(∃ds,M1 p=some ds)/\kZ te pT ρ M1 λys M2=>∃ds y,ys=[y]/\M2 p=some ds/\ds.length<10000000/\Q .non (bK M2 p (ds++[y]))
 |_=>False
def aHN (to te:DE):DE:=λρ M Q=>to ρ M λx M1=>match x with
 |.ref p=>(∃ds,M1 p=some ds)/\kZ te pT ρ M1 λys M2=>∃ds q es,ys=[.ref q]/\M2 p=some ds/\M2 q=some es/\ds.length+es.length<=10000000/\Q .non (bK M2 p (ds++es))
 |_=>False
end
section
variable {X:Cx}{pos:Pos}
def aNo:D2:=λx y M Q=>match x,y with
 |.tup ds,.int k=>-(2^62)<=k/\k<2^62/\ds.length*k.toNat<=10000000/\Q (.tup (replicate k.toNat ds).flatten) M
 |_,_=>False
def aIl:D2:=λx y M Q=>match x,y with
 |.tup xs,.tup ys=>xs.length+ys.length<=10000000/\Q (.tup (xs++ys)) M
 |_,_=>False
end
section
variable {X:Cx}
end
def aME (i:Nat)(te:DE):DS:=λE ρ M=>match ρ[i]? with
 |some (some d)=>te ρ M λy M1=>aIl d y M1 λr M2=>E.nx (ρ.set i (some r)) M2
 |_=>False
section
variable {X:Cx}{e:Expr}{te:DE}{x:Str}{pos:Pos}
end
section
variable {X:Cx}{o e:Expr}{to te:DE}{pos:Pos}
end
section
variable {X:Cx}{pos:Pos}
end
section
variable {X:Cx}
end
section
variable {X:Cx}{e:Expr}{te:DE}{x:Str}{pos:Pos}
end
open PySem.W (InstAt findIn clsIn takerIn mroIn looks_findIn looks_clsIn looks_mroIn)
open PySem.Builtin PySem.Builtin.ObjectAttr
noncomputable def aKw:List Value->Bool
 |.ref _::r=>aKw r
 |l=>l==bmV
theorem yG (self:Value):∀{l:List Value},aKw l = true->refuseLoop self "__setattr__" l=pure ()
 |.ref c::r,e=>by rw[refuseLoop_ref];exact yG self (l:=r) e
 |[],e=>by cases (show(([]:List Value)==bmV)=true from e)
 |.none::r,e=>by cases (show((Value.none::r)==bmV)=true from e)
 |.ellipsis::r,e=>by cases (show((Value.ellipsis::r)==bmV)=true from e)
 |.notImplemented::r,e=>by cases (show((Value.notImplemented::r)==bmV)=true from e)
 |.bool b::r,e=>by cases (show((Value.bool b::r)==bmV)=true from e)
 |.int i t::r,e=>by cases (show((Value.int i t::r)==bmV)=true from e)
 |.float i t::r,e=>by cases (show((Value.float i t::r)==bmV)=true from e)
 |.str i t::r,e=>by cases (show((Value.str i t::r)==bmV)=true from e)
 |.bytes i t::r,e=>by cases (show((Value.bytes i t::r)==bmV)=true from e)
 |.builtin n::r,e=>by cases (show((Value.builtin n::r)==bmV)=true from e)
 |.type n::r,e=>by have z:(Value.type n::r)=bmV:=beq_iff_eq.mp e;rw[z];exact PySem.F.store_ValueError.passes self
structure aBp (K:Frag)(C:Addr)(f:Str):Prop where
 sa:findIn K (.ref C) "__setattr__" = some (some (.builtin "object.__setattr__"))
 cd:∃cd,clsIn K C=some cd/\aKw cd.mro=true/\cd.hasDict=true
 mo:mroIn K C (.type "object")=some true
 no:findIn K (.ref C) f=some none
section
variable {K:Frag}{prog:Program}{w:World}{A:Around}{E:Value->Shared->Prop}{s:Shared}{x C:Addr}{ox:Obj}{name:Str}{v:Value}
theorem aI2 {tk:Tok}{R:Result->Shared->Prop}(X:K.In s.heap)(I:InstAt s.heap x ox C none)(hk:aBp K C name)(h:∀b,wpAny (model prog w) A.in1 (storeInOwnDict (.ref x) (.ref C) (.str name tk) name v b)
   (λfin s'=>match fin with|.done f=>R (.ok f) s'|.again c'=>c'.quiet=true/\codeAny (model prog w) A c' R s') (λe s'=>R (.error e) s') s) :
  codeAny (model prog w) A (.call (.builtin "object.__setattr__") ⟨[.ref x,.str name tk,v],[]⟩) R s:=by
 have SF:=PySem.F.store_object;obtain⟨cd,hc,ho,_⟩:=hk.cd;have sub:PySem.W.Looks (model prog w) s.heap (isInstance (.ref x) (.type "object")) true:=I.type.andThen (looks_mroIn X hk.mo);refine codeAny_call_builtin SF.slot.plain SF.entry (@PySem.W.check_slot (model prog w) _ _ s "object.__setattr__" "object" "__setattr__" (.ref x) [.str name tk,v] [] _ SF.kind SF.split sub (SF.args (.ref x) (.str name tk) v) ?_);have hm:PySem.W.Looks (model prog w) s.heap (mroOf (.ref C)) cd.mro:=(looks_clsIn X hc).andThen .now;rw[PySem.W.osa_eq,refuse_eq];refine wpAny_bind (wpAny_bind (I.type.here (wpAny_bind (hm.here ?_))));rw[yG _ ho];exact wpAny_pure (wpAny_bind (I.type.here (wpAny_bind ((looks_findIn X hk.no).here (wpAny_bind (wpAny_pure (h _)))))))
theorem aMG {Q:Unit->Shared->Prop}(X:K.In s.heap)(I:InstAt s.heap x ox C none)(hk:aBp K C name)(hd:ox.dict=none)(h:∀h' tk oD,h'.get? s.heap.objs.size=some oD->h'.Ns1 s.heap.objs.size (λy=>if y=name then some v else none)->h'.get? x=some { ox with dict:=some s.heap.objs.size }->(∀b o,b≠x->s.heap.get? b=some o->h'.get? b=some o)->Q () { s with heap:=h',toks:=tk }) :
  wpAny (model prog w) A (setAttr (.ref x) name v) Q E s:=by
 refine PySem.W.set_plain X I hk.sa (aI2 (s:={ s with toks:=s.toks+1 }) X I hk λb=>?_);obtain⟨cd,hc,_,hcd⟩:=hk.cd;obtain⟨hx,hcl,hn,-⟩:=I;obtain⟨hh,g,d,t,os⟩:=s;obtain⟨oc,odi,oda,osl⟩:=ox;dsimp only at hcl hd hx h;subst hcl hd;have hxs:x≠hh.objs.size:=Nat.ne_of_lt (Heap.lt_size hx);refine wpAny_bind (wpAny_pure (wpAny_bind (wpAny_bind (wpAny_loadPart hx (wpAny_bind (PySem.W.Looks.here (s:=⟨hh,g,d,t+1,os⟩) (looks_clsIn X hc) ?_))))));rw[hcd];have nc:∀c,oda ≠ .cls c:=λc z=>by unfold PySem.W.notCls at hn;rw[z] at hn;cases hn
 rw[if_neg (by decide)];dsimp only;rw[if_neg (by simp[typeHasDict])];split
 ·exact absurd rfl (nc _)
 have hx1:(hh.push { cls:=.type "dict",data:=.dict #[] }).get? x=some ⟨.ref C,none,oda,osl⟩:=Heap.get?_push_of_some _ hx;refine wpAny_bind (wpAny_alloc' (wpAny_bind (wpAny_update' hx1 (wpAny_pure ?_))));have hgd:((hh.push { cls:=.type "dict",data:=.dict #[] }).update x λo=>{ cls:=o.cls,dict:=some hh.objs.size,data:=o.data,slots:=o.slots }).get? hh.objs.size = some { cls:=.type "dict",data:=.dict #[] } :=
  (Heap.get?_update_ne _ _ _ _ (Ne.symm hxs)).trans (Heap.get?_push_at rfl rfl)
 have hgx:((hh.push { cls:=.type "dict",data:=.dict #[] }).update x λo=>{ cls:=o.cls,dict:=some hh.objs.size,data:=o.data,slots:=o.slots }).get? x=some ⟨.ref C,some hh.objs.size,oda,osl⟩:=by refine Heap.get?_update_self _ hx1 ?_;have hfr:=(Heap.get?_some_iff.mp hx).2;cases oda<;>first|rfl|exact hfr
 have hgb:∀b o,b≠x->hh.get? b = some o->((hh.push { cls:=.type "dict",data:=.dict #[] }).update x λo=>{ cls:=o.cls,dict:=some hh.objs.size,data:=o.data,slots:=o.slots }).get? b=some o:=λb o n e =>
  (Heap.get?_update_ne _ _ _ _ n).trans (Heap.get?_push_of_some _ e)
 generalize (hh.push { cls:=.type "dict",data:=.dict #[] }).update x _=h1 at hgd hgx hgb ⊢;have hnd:h1.Ns hh.objs.size (λ_=>none):=⟨_,#[],_,hgd,rfl,λe he=>absurd he (by simp),λ_=>rfl⟩;show wpAny _ _ (storeInDict hh.objs.size (.str name t) name v) _ _ _;unfold storeInDict newKeyGuard;refine wpAny_bind (wpAny_pure (wpAny_bind (wpAny_nsSet1 (Heap.Ns1.of_empty hnd) λh' hn' hs=>?_)));obtain⟨oD,esD,epD,hoD,hdD,hcD⟩:=hn'.count (PySem.Within.cons name v PySem.Within.nil);refine wpAny_bind (wpAny_lookBehind hoD (by rw[hdD];exact pastItsLine_dict (Nat.le_trans hcD (by rw[length_cons,length_nil,sizeLine_eq];omega))) ?_)
 wp_walk
 exact h h' _ oD hoD hn' ((hs.2 x hxs).trans hgx) λb o n e=>(hs.2 b (Nat.ne_of_lt (Heap.lt_size e))).trans (hgb b o n e)
theorem aOY {expr:Bool}{oD:Obj}{Q:Value->Shared->Prop}(X:K.In s.heap)(I:InstAt s.heap x ox C (some oD))(ek:tV K C)(hk:aBp K C name)(hl:lookIn name oD=some (some v))(hv:handedOut v=pure v)(h:∀tk,Q v { s with toks:=tk }):wpAny (model prog w) A (getAttr (.ref x) name expr) Q E s:=by
 obtain⟨hh,g,d,t,os⟩:=s;obtain⟨cd,hc,_,hcd⟩:=hk.cd;have L0:=I.type (M:=model prog w);have L1:=looks_findIn (M:=model prog w) X ek.ga;unfold getAttr getAttrBy;refine wpAny_bind (wpAny_mkText ?_);refine wpAny_holding (wpAny_bind (L0.at (wpAny_bind (L1.at ?_))));have hx2:(onTheHeap (Value.ref C)&&Value.builtin "BaseException.__getattribute__"==Value.builtin "object.__getattribute__")=false:=by rw[show(Value.builtin "BaseException.__getattribute__"==Value.builtin "object.__getattribute__")=false by decide +kernel,Bool.and_false]
 dsimp only;rw[if_neg (by rw[hx2];exact Bool.false_ne_true)];have f3:=PySem.F.attr_ValueError.ga.bind (.ref x);have L2:=looks_findIn (M:=model prog w) X ek.gn;have L3:=looks_mroIn (M:=model prog w) X ek.mb;have hf:PySem.W.findObj K C (some oD) name=some (.value v):=by unfold PySem.W.findObj PySem.W.ownOf;rw[hc,Option.bind_some,hk.no,Option.bind_some];simp[hcd,hl]
 have L4:=PySem.W.looks_find (M:=model prog w) X I hf;unfold getAttrByItsOwn hookBefore callGetattribute;refine wpAny_bind ?_;rw[if_pos (show onTheHeap (Value.ref C)=true from rfl)];refine L2.at ?_;refine wpAny_bind (wpAny_attempt (wpAny_holding ?_));rw[if_neg (by simp[onTheHeap])];unfold boundAndCalled;rw[f3];refine wpAny_bind (wpAny_pure ?_);dsimp only[cons_append,nil_append];have hk1:builtinKind "BaseException.__getattribute__"=some .slot:=by decide +kernel
 have hsplit:splitId "BaseException.__getattribute__"=some ("BaseException","__getattribute__"):=by decide +kernel
 have ha:=PySem.F.args_bexc_ga (.ref x) (.str name t);refine wpAny_call (codeAny_call_builtin PySem.F.attr_ValueError.ga.plain PySem.F.entry_bexc_ga ?_);simp only[checkBuiltinCall,hk1,hsplit];refine wpAny_bind ?_;unfold isInstance;refine wpAny_bind (L0.at ?_);refine L3.at ?_;simp only[Bool.not_true,Bool.false_eq_true,if_false];repeat (any_goals (first|assumption|(with_reducible refine L0.at ?_)|(with_reducible refine L4.at ?_)|wp_step))
 exact h _
end
noncomputable def nN (C t:Addr)(od:Option Addr):Obj:={ cls:=.ref C,dict:=od,data:=.fields #[.ref t,.none,.none,.none,.bool false,.none] }
def XO (e C:Addr)(od:Option Addr):Heap->Prop:=λh=>∃t,h.get? e=some (nN C t od)
theorem aK0 {P:Program}{w:World}{H:Hp}{h:Heap}{e C:Addr}{od:Option Addr}(x:XO e C od h):gJ P w H h e (.ext (XO e C od)) :=
 ⟨x,let ⟨t,q⟩:=x;⟨_,q⟩,λh1 h2 ⟨t,q⟩ k=>⟨t,k _ q⟩⟩
section
variable {X:Cx}{pins:List (Addr×Obj)}{σ:L2.St}{H:Hp}{s:Shared}{e C:Addr}{f:Str}{y:V}{u:Value}
noncomputable def delH (H:Hp)(e:Addr):Hp:=λb=>if b=e then none else H b
theorem sN:delH H e e=none:=if_pos rfl
theorem kT {b:Addr}(h:b≠e):delH H e b=H b:=if_neg h
theorem _root_.L2.Inv.drop {φ:Heap->Prop}(I:Inv X pins σ H s)(h:H e=some (.ext φ)):Inv X pins σ (delH H e) s:=by
 have out:∀b o,delH H e b=some o->b≠e/\H b=some o:=λb o q=>by
  by_cases z:b=e
  ·rw[z,sN] at q;cases q
  ·rw[kT z] at q;exact⟨z,q⟩
 have sub:∀b,H b=none->delH H e b=none:=λb q=>by
  unfold delH;split
  ·rfl
  ·exact q
 have nt:∀b o,H b=some o->(∀φ,o ≠ .ext φ)->delH H e b=some o:=λb o q n=>by rw[kT (λz=>by rw[z,h] at q;exact n φ (Option.some.inj q).symm)];exact q
 refine⟨I.ok,I.os,I.bare,⟨I.base.keep,I.base.slot,λb o q n hx=>sub b (I.base.free b o q n hx),I.base.there,λb xs q=>nt b _ (I.base.tups b xs q) (λφ z=>by cases z),λb o v q=>nt b _ (I.base.frzs b o v q) (λφ z=>by cases z),λb ps q=>?_⟩,I.loc,I.cell,sub _ I.free,λx c q=>sub c (I.freeC x c q),λp hp=>?_,λb o q=>?_,I.len⟩
 ·obtain⟨m,z⟩:=I.base.tbls b ps q;exact⟨m,nt b _ z λφ z=>by cases z⟩
 ·obtain⟨a1,a2,a3,a4,a5⟩:=I.pin p hp;exact⟨a1,sub _ a2,a3,a4,a5⟩
 ·obtain⟨ne,q⟩:=out b o q;refine(I.hok b o q).stay (λ_ _ _ z=>z) (λc z=>nt c _ z λφ y=>by cases y) λc xs z=>nt c _ z λφ y=>by cases y
theorem aJz {A:Around}{E:Value->Shared->Prop}{Q:Unit->Shared->Prop}(I:Inv X pins σ H s)(h0:H e=some (.ext (XO e C none)))(hk:aBp X.K C f)(ry:cT y u)(h:∀s' dx,H dx=none->dx≠e->Inv X pins σ (upd (upd H dx (.xd [(f,y)])) e (.ext (XO e C (some dx)))) s'->Q () s'):wpAny (model X.prog X.w) A (setAttr (.ref e) f u) Q E s:=by
 obtain⟨⟨t,he⟩,_,_⟩:=I.hok e _ h0;have ia:InstAt s.heap e (nN C t none) C none:=⟨he,rfl,rfl,trivial⟩;refine aMG I.kIn ia hk rfl λh' tk oD hoD hns hx hb=>?_;have hlt:e<s.heap.objs.size:=Heap.lt_size he;have hne:s.heap.objs.size≠e:=Nat.ne_of_gt hlt;have hn:H s.heap.objs.size=none:=I.hok.fresh (Nat.le_refl _);have nf:oD.isFreed=false:=(Heap.get?_some_iff.mp hoD).2;have pg:(s.heap.push oD).get? s.heap.objs.size=some oD:=Heap.get?_push_size _ nf;have n1:(s.heap.push oD).Ns1 s.heap.objs.size (λz=>if z=f then some u else none):=by obtain⟨o',es,ep,q1,q2⟩:=hns;rw[hoD] at q1;cases q1;exact⟨oD,es,ep,pg,q2⟩
 have rel:∀g,aIY (([(f,y)]:List (Str×V)).lookup g) (if g=f then some u else none):=λg=>by
  by_cases z:g=f
  ·subst z;rw[if_pos rfl,lookup_cons,beq_self_eq_true];exact ry
  ·rw[if_neg z,lookup_cons,beq_eq_false_iff_ne.mpr z];exact trivial
 have I1:Inv X pins σ (upd H s.heap.objs.size (.xd [(f,y)])) { s with heap:=s.heap.push oD,toks:=tk } :=
  I.laid (λb v q=>Heap.get?_push_of_some _ q) (Nat.le_refl _) ⟨_,n1,rel⟩
 have e1:upd H s.heap.objs.size (.xd [(f,y)]) e=some (.ext (XO e C none)):=by rw[bS (Ne.symm hne)];exact h0
 have I2:=I1.write (h':=h') (t':=tk) (x:=e) (e:=e) (o:=.ext (XO e C (some s.heap.objs.size))) (by rw[e1];trivial) (.inl rfl) (λb v nb q=>?_) ⟨_,hx⟩ (aK0 ⟨t,hx⟩)
 ·exact h _ _ hn hne I2
 ·by_cases z:b=s.heap.objs.size
  ·rw[z,pg] at q;cases q;rw[z];exact hoD
  ·rw[Heap.get?_push_ne _ _ _ z] at q;exact hb b v nb q
end
open PySem.W (InstAt findIn clsIn takerIn mroIn looks_findIn looks_clsIn looks_mroIn)
def aPs (K:Frag)(ta tv:TE)(f:Str):TS:=λD σ H=>tv σ H λy H1=>ta σ H1 λx H2=>∃e C,x=.ref e/\H2 e=some (.ext (XO e C none))/\aBp K C f/\∀dx,H2 dx=none->dx≠e->D.nx σ (upd (upd H2 dx (.xd [(f,y)])) e (.ext (XO e C (some dx))))
section
variable {X:Cx}{o value:Expr}{f:Str}{pos pos':Pos}{ta tv:TE}
theorem aJE (ha:PE X o ta)(hv:PE X value tv)(hs:swapsWith value (some (.Attribute o f pos')) pos.line X.env=pure false):PS X (.Assign [.Attribute o f pos'] value pos) (aPs X.K ta tv f):=by intro pins s σ H D I h;refine plainObj_wpAny_Assign_Attribute (thn (hv pins s σ H _ I h) λu s1 ⟨y,H1,I1,ry,q⟩=>thn (ha pins s1 σ H1 _ I1 q) λov s2 ⟨x,H2,I2,rx,e,C,ex,ea,fk,q2⟩=>?_) hs;subst ex;obtain rfl:ov=Value.ref e:=rx;exact aJz I2 ea fk ry λs3 dx n1 n2 I3=>⟨σ,_,I3,q2 dx n1 n2⟩
end
def spI (C:Addr)(f:Str):Sp:=λvs H Q _=>∃e y,vs=[.ref e,y]/\H e=some (.ext (XO e C none))/\∀dx,H dx=none->dx≠e->Q .non (upd (upd H dx (.xd [(f,y)])) e (.ext (XO e C (some dx))))
section
variable {P:Program}{w:World}{K:Frag}{mg:Str->Option Value}{base:Heap}
theorem aI8 {x qual a b f:Str}{st:Stmt}{fI C:Addr}{fd:FuncData}{p1 p2 p3 p4:Pos}(F:L2.Fun K x qual st fI fd)(S:aR [a,b] [a,b] (aJ st))(fk:aBp K C f)(hb:fC st=[.Assign [.Attribute (.Name a p1) f p2] (.Name b p3) p4])(va:Vis (aJ st) a)(vb:Vis (aJ st) b)(da:(a==("__debug__":Str))=false)(da':(a==("__classdict__":Str))=false)(db:(b==("__debug__":Str))=false)(db':(b==("__classdict__":Str))=false)(hs:∀env:Env,swapsWith (.Name b p3) (some (.Attribute (.Name a p1) f p2)) p4.line env=pure false)(k:Nat):lP P w K mg base CX0 (k+1) fI fd [a,b] (spI C f):=by refine F.ok S (λvs H Q E ⟨e,y,z,_⟩=>by rw[z];rfl) λcdv A outer s H vs Q E hr ⟨e,y,z,he,q⟩=>?_;subst z;rw[hb];exact⟨_,aFN (aJE (tO (i:=0) rfl va da da') (tO (i:=1) rfl vb db db') (hs _)),_,rfl,_,rfl,e,C,rfl,he,fk,q⟩
end
section
variable {prog:Program}{w:World}{A:Around}{E:Value->Shared->Prop}{s:Shared}{K:Frag}
variable {nm qn:Str}{C N fI:Addr}{bs bm:List Value}{hdct:Bool}{sn:List Str}{sub:List Value}{ab:Bool}{col:Option Bool}{dd:Option Addr}{k0 k1 k2 k3 k5:Option Value}
theorem aJc {us:List Value}{Q:Value->Shared->Prop}(X:K.In s.heap)(T:OwnTail s.heap bmV bm)(cC:s.heap.get? C = some (excClassObj nm qn C N bs bm hdct sn sub ab col dd k0 k1 k2 k3 k5 "ValueError.__new__"))(hi:findIn K (.ref C) "__init__" = some (some (.ref fI)))(hf:typeIn K (.ref fI) = some (.type "function"))(hl:us.length<=sizeLine)(hq:wpAny (model prog w) (A.under (.builtin "type.__call__" ⟨.ref C :: us,[]⟩)) (call (.ref fI) (.ref (s.heap.objs.size+1) :: us)) (λr s'=>r = .none/\Q (.ref (s.heap.objs.size+1)) s') E { s with heap:=(s.heap.push { cls:=.type "tuple",data:=.seq us.toArray }).push (nN C s.heap.objs.size none) }) :
  wpAny (model prog w) A (call (.ref C) us) Q E s:=by
 obtain⟨hh,g,d,t,os⟩:=s;have FB:=PySem.F.excBase_ValueError;have g1:=tc_lookup;have g2:=tc_bind (.ref C);have hT:(⟨hh,g,d,t,os⟩:Shared).TypeIs (.ref C) "type":=⟨_,cC,rfl⟩;refine wpAny_call (codeAny_of_tree ?_);show wpAny _ _ (callAny (.ref C) _) _ _ _;repeat (any_goals (first|assumption|(with_reducible refine wpAny_loadPart_at cC ?_)|wp_step))
 refine⟨rfl,codeAny_call_builtin_at (Code.quiet_builtin _ (by decide +kernel)) entry_typeCall (wpAny_check_type_call_sub cC ?_)⟩;repeat (first|(with_reducible refine wpAny_loadPart_at cC ?_)|(with_reducible refine wpAny_madeBy_exc cC ?_)|wp_step)
 refine codeAny_call_builtin_code (Code.quiet_builtin _ FB.quiet) (wpAny_check_new_subT FB T cC (codeAny_exc_new_subT FB T cC ?_ hl));show wpAny _ _ _ _ _ _;have kp:∀b o,hh.get? b = some o->((hh.push { cls:=.type "tuple",data:=.seq us.toArray }).push (nN C hh.objs.size none)).get? b=some o:=λb o e=>Heap.get?_push_of_some _ (Heap.get?_push_of_some _ e);have X2:K.In ((hh.push { cls:=.type "tuple",data:=.seq us.toArray }).push (nN C hh.objs.size none)):=PySem.W.Frag.In.keeps (h:=hh) X kp;have hg:((hh.push { cls:=.type "tuple",data:=.seq us.toArray }).push (nN C hh.objs.size none)).get? (hh.objs.size+1)=some (nN C hh.objs.size none):=by
  have:=Heap.get?_push_size (hh.push { cls:=.type "tuple",data:=.seq us.toArray }) (o:=nN C hh.objs.size none) rfl
  rwa [Heap.size_push] at this
 have ia:InstAt ((hh.push { cls:=.type "tuple",data:=.seq us.toArray }).push (nN C hh.objs.size none)) (hh.objs.size+1) (nN C hh.objs.size none) C none:=⟨hg,rfl,rfl,trivial⟩;have cC2:=kp _ _ cC;have L0:PySem.W.Looks (model prog w) ((hh.push { cls:=.type "tuple",data:=.seq us.toArray }).push (nN C hh.objs.size none)) (isInstance (.ref (hh.objs.size+1)) (.ref C)) true:=by refine ia.type.andThen ?_;intro A' Q' E' s' k' q';have:=wpAny_isSubtype_exc (M:=model prog w) (A:=A') (E:=E') (g:=s'.gens) (d:=s'.drawn) (t:=s'.toks) (os:=s'.os) (base:=.ref C) (Q:=Q') (k' _ _ cC2) (by rw[show(Value.ref C::bm).contains (.ref C)=true by simp];exact q');exact this
 refine wpAny_bind (PySem.W.Looks.here (s:=⟨(hh.push { cls:=.type "tuple",data:=.seq us.toArray }).push (nN C hh.objs.size none),g,d,t,os⟩) L0 ?_);rw[if_neg (by decide)];refine wpAny_bind (wpAny_holding (PySem.W.special_fn (s:=⟨(hh.push { cls:=.type "tuple",data:=.seq us.toArray }).push (nN C hh.objs.size none),g,d,t,os⟩) X2 ia hi hf (wpAny_mono hq (λr s' ⟨e1,q1⟩=>?_) λe s' z=>z)));subst e1;exact wpAny_pure q1
end
open PySem.W (InstAt findIn clsIn takerIn mroIn looks_findIn looks_clsIn looks_mroIn)
def NwY (od:Option Addr)(h:Heap)(e:Addr)(cls:Value):Prop:=∃oe vs,h.get? e=some oe/\(oe.cls=cls/\oe.dict=od)/\oe.data=.fields vs/\vs[1]?=some Value.none
def TrY (od:Option Addr)(h:Heap)(e:Addr)(cls:Value)(T:Addr)(fl:Value):Prop :=
 ∃oe vs oT ts,h.get? e=some oe/\(oe.cls=cls/\oe.dict=od)/\oe.data=.fields vs/\vs[1]?=some (.ref T)/\T≠e/\h.get? T=some oT/\oT.data=.fields ts/\ts[3]?=some fl
section
variable {X:Cx}{pins:List (Addr×Obj)}{σ:L2.St}{H:Hp}{s:Shared}{M:Model}{A:Around}{E:Value->Shared->Prop}{e T:Addr}{cls:Value}{od:Option Addr}
theorem aAx {oe:Obj}{vs:Array Value}{head:Value}{hadNext:Bool}{Q:Unit->Shared->Prop}(I:Inv X pins σ H s)(hs:X.stack=X.env::X.outer)(hf:X.env.frame=some X.env.locals)(hex:X.ex=[])(hA:A.frames=some X.stack)(he:s.heap.get? e=some oe)(hdi:oe.dict=od)(hd:oe.data=.fields vs)(hsz:1<vs.size)(fe:FpN X pins H e)(h:∀s' T,Inv X pins σ H s'->TrY od s'.heap e oe.cls T (rawInt X.env.locals)->FpN X pins H T->s.heap.get? T=none->Q () s') :
  wpAny M A (do let a <- frameOf X.env;let pl <- entryPlaceOf X.env.locals hadNext;let b <- EntryCells.newEntry head a .none (rawInt X.env.locals) .none pl;setField (.ref e) 1 b) Q E s:=by
 have hfr:A.frames=some (X.env::X.outer):=by rw[hA,hs]
 have hl:s.heap.FunFrames X.base (X.env::X.outer):=hs ▸ I.stack;have hene:e∉(X.env::X.outer).filterMap (·.frame):=λhm=>by obtain⟨_,o,ho,hnf⟩:=hl.mem hm;rw[he] at ho;cases ho;exact hnf vs hd
 have hfs:frs X.stack=(X.env::X.outer).filterMap (·.frame):=by rw[hs];rfl
 refine wpAny_bind (wpAny_frameOf_fun hfr hl hf λh₁ hs₁=>?_);refine wpAny_bind (wpAny_entryPlaceOf λpl hpl=>?_);unfold EntryCells.newEntry newFields;refine wpAny_bind (wpAny_newObj_type ?_ (hpl.sizeOk5 _ _ _ _ _));have he₁:h₁.get? e=some oe:=(hs₁.2.1 e hene).trans he;have he₂:=Heap.get?_push_of_some (h:=h₁) { cls:=.type "traceback",dict:=none,data:=.fields ([head,.ref X.env.locals,.none,rawInt X.env.locals,.none]++(if pl.isEmpty then replicate 6 Value.none else pl)).toArray } he₁;refine wpAny_setField he₂ hd hsz ?_;have hTe:h₁.objs.size≠e:=Nat.ne_of_gt (Heap.lt_size he₁);have hd₃:=Obj.data_mapFields hd (·.setIfInBounds 1 (Value.ref h₁.objs.size));have he₃:=Heap.get?_update_self (Obj.mapFields (·.setIfInBounds 1 (Value.ref h₁.objs.size))) he₂ (Obj.isFreed_of_fields hd₃);have hT₃:=(Heap.get?_update_other (h₁.push { cls:=.type "traceback",dict:=none,data:=.fields ([head,.ref X.env.locals,.none,rawInt X.env.locals,.none]++(if pl.isEmpty then replicate 6 Value.none else pl)).toArray })
  (Obj.mapFields (·.setIfInBounds 1 (Value.ref h₁.objs.size))) (Ne.symm hTe)).trans (Heap.get?_push_size h₁ rfl)
 have hTn:s.heap.get? h₁.objs.size=none:=Heap.get?_none_of_le (by rw[hs₁.1];exact Nat.le_refl _);refine h _ h₁.objs.size (L2.Inv.mark (s:=s) (ch:=[e]) I (λb hb=>by rw[List.mem_singleton.mp hb];exact fe) (λb o hb hc q=>?_) λb o hc q=>?_) ?_ (L2.Inv.fpN (s:=s) I hex hTn (L2.Inv.untr (s:=s) I hTn)) hTn
 ·have hbe:b≠e:=λz=>hc (by simp[z]);rw[Heap.get?_update_other _ _ (Ne.symm hbe)];exact Heap.get?_push_of_some _ ((hs₁.2.1 b (by rw[<- hfs];exact hb)).trans q)
 ·have hbe:b≠e:=λz=>hc (by simp[z]);obtain⟨sl,z⟩:=hs₁.2.2 b o q;exact⟨sl,by rw[Heap.get?_update_other _ _ (Ne.symm hbe)];exact Heap.get?_push_of_some _ z⟩
 ·exact⟨_,_,_,_,he₃,⟨Obj.cls_mapFields _ _,(qQ _ _).trans hdi⟩,hd₃,by simp[hsz],hTe,hT₃,rfl,by first|(simp;done)|(rcases hpl with rfl|⟨_,_,_,_,_,_,_,rfl⟩<;>simp)⟩
theorem aF4 {Q:Unit->Shared->Prop}(I:Inv X pins σ H s)(hs:X.stack=X.env::X.outer)(hf:X.env.frame=some X.env.locals)(hex:X.ex=[])(hA:A.frames=some X.stack)(n:NwY od s.heap e cls)(fe:FpN X pins H e)(h:∀s' T,Inv X pins σ H s'->TrY od s'.heap e cls T (rawInt X.env.locals)->FpN X pins H T->s.heap.get? T=none->Q () s'):wpAny M A (noteFrame (.ref e) X.env) Q E s:=by obtain⟨oe,vs,he,⟨rfl,hdi⟩,hd,h1⟩:=n;unfold noteFrame;simp only[hf];refine wpAny_bind (wpAny_field he hd h1 ?_);rw[if_neg (by decide)];exact aAx I hs hf hex hA he hdi hd (Array.getElem?_eq_some_iff.mp h1).1 fe h
theorem nJ {fl:Value}{Q:Unit->Shared->Prop}(I:Inv X pins σ H s)(t:TrY od s.heap e cls T fl)(fT:FpN X pins H T)(h:∀s',Inv X pins σ H s'->TrY od s'.heap e cls T .none->Q () s'):wpAny M A (setFlight (.ref e) none) Q E s:=by obtain⟨oe,vs,oT,ts,he,hcls,hd,h1,hTe,hT,hdT,h3⟩:=t;have hsz3:3<ts.size:=(Array.getElem?_eq_some_iff.mp h3).1;unfold setFlight;refine wpAny_bind (wpAny_field he hd h1 ?_);rw[if_pos (show(Value.ref T != Value.none)=true from by simp)];refine wpAny_setField hT hdT hsz3 (h _ (zK (ts:=ts) I fT hT) ?_);exact⟨oe,vs,_,_,(Heap.get?_update_other _ _ hTe).trans he,hcls,hd,h1,hTe,Heap.get?_update_self _ hT (Obj.isFreed_of_fields (Obj.data_mapFields hdT _)),Obj.data_mapFields hdT _,by simp[hsz3]⟩
theorem aA4 {Q:Unit->Shared->Prop}(I:Inv X pins σ H s)(hs:X.stack=X.env::X.outer)(hf:X.env.frame=some X.env.locals)(hex:X.ex=[])(hA:A.frames=some X.stack)(t:TrY od s.heap e cls T .none)(fe:FpN X pins H e)(fT:FpN X pins H T)(h:∀s' T',Inv X pins σ H s'->TrY od s'.heap e cls T' (rawInt X.env.locals)->FpN X pins H T'->Q () s'):wpAny M A (noteFrame (.ref e) X.env) Q E s:=by obtain⟨oe,vs,oT,ts,he,⟨rfl,hdi⟩,hd,h1,hTe,hT,hdT,h3⟩:=t;unfold noteFrame;simp only[hf];refine wpAny_bind (wpAny_field he hd h1 ?_);rw[if_pos (show(Value.ref T != Value.none)=true from by simp)];refine wpAny_bind (wpAny_field hT hdT h3 ?_);rw[if_neg (show ¬((Value.none==rawInt X.env.locals)=true) from by simp[rawInt])];refine wpAny_bind (wpAny_setField hT hdT (Array.getElem?_eq_some_iff.mp h3).1 ?_);exact aAx (zK (ts:=ts) I fT hT) hs hf hex hA ((Heap.get?_update_other _ _ hTe).trans he) hdi hd (Array.getElem?_eq_some_iff.mp h1).1 fe λs' T' I' t' f' _=>h s' T' I' t' f'
theorem aEL {Q:Unit->Shared->Prop}(I:Inv X pins σ H s)(hs:X.stack=X.env::X.outer)(hf:X.env.frame=some X.env.locals)(hex:X.ex=[])(hA:A.frames=some X.stack)(n:NwY od s.heap e cls)(fe:FpN X pins H e)(h:∀s' T,Inv X pins σ H s'->TrY od s'.heap e cls T .none->FpN X pins H T->s.heap.get? T=none->Q () s'):wpAny M A (leaving X.env (.ref e)) Q E s:=by unfold leaving;exact wpAny_bind (aF4 I hs hf hex hA n fe λs1 T I1 t1 f1 n1=>nJ I1 t1 f1 λs2 I2 t2=>h s2 T I2 t2 f1 n1)
theorem aEc {Q:Unit->Shared->Prop}(I:Inv X pins σ H s)(hs:X.stack=X.env::X.outer)(hf:X.env.frame=some X.env.locals)(hex:X.ex=[])(hA:A.frames=some X.stack)(t:TrY od s.heap e cls T .none)(fe:FpN X pins H e)(fT:FpN X pins H T)(h:∀s' T',Inv X pins σ H s'->TrY od s'.heap e cls T' .none->FpN X pins H T'->Q () s'):wpAny M A (leaving X.env (.ref e)) Q E s:=by unfold leaving;exact wpAny_bind (aA4 I hs hf hex hA t fe fT λs1 T1 I1 t1 f1=>nJ I1 t1 f1 λs2 I2 t2=>h s2 T1 I2 t2 f1)
end
noncomputable def CXy (P:Program)(w:World):CXT:=λouter H s E e s'=>∃(a:Addr)(cls:Value) (T:Addr) (H':Hp) (od:Option Addr),e=Value.ref a/\s'.os=s.os/\AllBare s'.gens/\Un (frs outer) [] H H' s.heap s'.heap/\HOk P w H' s'.heap /\
 TrY od s'.heap a cls T .none/\s.heap.get? a=none/\s.heap.get? T=none/\H' a=none/\H' T=none/\E cls od H'
structure qD (P:Program)(w:World)(K:Frag)(mg:Str->Option Value)(base:Heap)(x:Str)(C:Addr)(f:Str):Prop where
 nm:mg x=some (.ref C)
 kp:keepIn K (.ref C)=true
 ob:∃M nm qn N bs hdct sn sub ab col dd k0 k1 k2 k3 k5,K.lookup C = some (excClassObj nm qn C N bs (.ref M :: bmV) hdct sn sub ab col dd k0 k1 k2 k3 k5 "ValueError.__new__")/\excIn K M bmV "ValueError.__new__"=true/\∃cdM,clsIn K M=some cdM/\cdM.mro=.ref M::bmV
 init:∃fI fd a b,findIn K (.ref C) "__init__" = some (some (.ref fI))/\typeIn K (.ref fI) = some (.type "function")/\lP P w K mg base CX0 1 fI fd [a,b] (spI C f)/\nW K fd [a,b] []
theorem qD.tail {P:Program}{w:World}{K:Frag}{mg:Str->Option Value}{base h:Heap}{x f:Str}{C:Addr}(c:qD P w K mg base x C f)(X:K.In h) :
  ∃bm nm qn N bs hdct sn sub ab col dd k0 k1 k2 k3 k5,h.get? C = some (excClassObj nm qn C N bs bm hdct sn sub ab col dd k0 k1 k2 k3 k5 "ValueError.__new__")/\OwnTail h bmV bm:=by
 obtain⟨M,nm,qn,N,bs,hdct,sn,sub,ab,col,dd,k0,k1,k2,k3,k5,lk,hq,cdM,hcM,hm⟩:=c.ob;obtain⟨bm,N',nm',qn',bs',hdct',sn',sub',ab',col',dd',l0,l1,l2,l3,l5,mN,hC,hN,hni,T⟩:=aFO X hq;refine⟨_,nm,qn,N,bs,hdct,sn,sub,ab,col,dd,k0,k1,k2,k3,k5,X _ _ lk,?_⟩;have e:bm=bmV:=by
  unfold clsIn at hcM;split at hcM
  ·rename_i q;have z:=(X _ _ q).symm.trans hC;cases hcM;cases z;exact List.cons.inj hm |>.2
  ·cases hcM
 subst e;exact .own hC hN hni T
def aCf (X:Cx)(x:Str)(V:Int->DM->Prop):Prop:=X.calm=true/\X.ex=[]/\∃C f,qD X.prog X.w X.K X.mg X.base x C f /\
 ∀pins σ H s a M' dx i,Inv X pins σ H s->NwY (some dx) s.heap a (.ref C)->FpN X pins H a->cI X.K M' H->H dx=some (.xd [(f,.int i)])->V i M'->X.xe (.ref a) s
def aLD (V:Int->DM->Prop)(ds:List D)(M:DM):Prop:=match ds with
 |[.int i]=>V i M
 |_=>False
def aCS (V:Int->DM->Prop)(te:DE):DS:=λ_ ρ M=>kZ te pT ρ M (aLD V)
theorem aGh {K:Frag}{M:DM}{H H':Hp}(h:cI K M H)(g:∀b o,H b=some o->H' b=some o):cI K M H':=by have ex:Ext H H':=⟨λa ys e=>g a _ e,λa ob u e=>g a _ e⟩;exact⟨λa ds q=>let ⟨xs,z,r⟩:=h.l a ds q;⟨xs,g _ _ z,r.ext ex⟩,λa ds q=>let ⟨xs,z,r⟩:=h.d a ds q;⟨xs,g _ _ z,nZ r ex⟩⟩
section
variable {X:Cx}{pins:List (Addr×Obj)}{σ:L2.St}{H:Hp}{s:Shared}{x f:Str}{C:Addr}{k:Nat}{i:Int}
theorem aH9 {us:List Value}{Q:Value->Shared->Prop}(c:qD X.prog X.w X.K X.mg X.base x C f)(hr:eB k X.A)(hk:2<=k)(hex:X.ex=[])(I:Inv X pins σ H s)(r:cG [V.int i] us)(h:∀s' a t dx H',Inv X pins σ H' s'->s'.heap.get? a=some (nN C t (some dx))->FpN X pins H' a->H' dx=some (.xd [(f,.int i)])->(∀b o,H b=some o->H' b=some o)->Q (.ref a) s') :
  wpAny (model X.prog X.w) X.A (call (.ref C) us) Q X.xe s:=by
 obtain⟨bm,nm,qn,N,bs,hdct,sn,sub,ab,col,dd,k0,k1,k2,k3,k5,hC,T⟩:=c.tail I.kIn;obtain⟨fI,fd,a,b,hi,hf,F,hb⟩:=c.init;have hl:us.length<=sizeLine:=by rw[<- r.length];show 1<=sizeLine;decide
 refine aJc I.kIn T hC hi hf hl ?_;have hg:((s.heap.push { cls:=.type "tuple",data:=.seq us.toArray }).push (nN C s.heap.objs.size none)).get? (s.heap.objs.size+1)=some (nN C s.heap.objs.size none):=by
  have:=Heap.get?_push_size (s.heap.push { cls:=.type "tuple",data:=.seq us.toArray }) (o:=nN C s.heap.objs.size none) rfl
  rwa [Heap.size_push] at this
 have hn:s.heap.get? (s.heap.objs.size+1)=none:=Heap.get?_none_of_le (Nat.le_succ _);have hH:H (s.heap.objs.size+1)=none:=I.untr hn;have I1:Inv X pins σ (upd H (s.heap.objs.size+1) (.ext (XO (s.heap.objs.size+1) C none))) { s with heap:=(s.heap.push { cls:=.type "tuple",data:=.seq us.toArray }).push (nN C s.heap.objs.size none) } :=
  I.laid (t':=s.toks) (λb u q=>Heap.get?_push_of_some _ (Heap.get?_push_of_some _ q)) (Nat.le_succ _) (aK0 ⟨_,hg⟩)
 generalize (s.heap.push { cls:=.type "tuple",data:=.seq us.toArray }).push (nN C s.heap.objs.size none)=h1 at I1 hg ⊢;generalize s.heap.objs.size+1=e at *;have r2:cG (V.ref e::[V.int i]) (Value.ref e::us):=.cons rfl r;have hlen:(Value.ref e::us++[]).length=[a,b].length:=by rw[append_nil,<- r2.length];rfl
 have hsp:spI C f (V.ref e::[V.int i]) (upd H e (.ext (XO e C none))) (λv H2=>v=.non/\∃dx,upd H e (.ext (XO e C none)) dx=none/\dx≠e/\H2=upd (upd (upd H e (.ext (XO e C none))) dx (.xd [(f,.int i)])) e (.ext (XO e C (some dx)))) (λ_ _ _=>False) :=
  ⟨e,.int i,rfl,dN,λdx n1 n2=>⟨rfl,dx,n1,n2,rfl⟩⟩
 have hbb:=hb { s with heap:=h1 } (Value.ref e::us) I1.kIn hlen;rw[append_nil] at hbb;refine wpAny_call (codeAny_mono (F.run _ X.stack _ _ ⟨Value.ref e::us,[]⟩ (Value.ref e::us) _ _ _ ((hr.mono hk).make C us []) (I1.env0.make C us []) hbb r2 hsp) λr s' hq'=>?_);cases r with
 |error ev=>exact False.elim (by exact hq')
 |ok fl =>
  cases fl with
  |ret u =>
   obtain⟨v,H2,I3,rv,ev,dx,n1,n2,e2⟩:=I1.after hq';subst ev e2;refine⟨rv,?_⟩;have he2:upd (upd (upd H e (.ext (XO e C none))) dx (.xd [(f,.int i)])) e (.ext (XO e C (some dx))) e=some (.ext (XO e C (some dx))):=dN;obtain⟨⟨t,ht⟩,_,_⟩:=I3.hok e _ he2;have hdx:H dx=none:=by rw[bS n2] at n1;exact n1
   refine h s' e t dx _ (I3.drop he2) ht (I.fpN hex hn sN) (by rw[kT n2,bS n2];exact dN) λb o q=>?_;have b1:b≠e:=bW q hH;rw[kT b1,bS b1,bS (bW q hdx),bS b1];exact q
  |next=>exact False.elim hq'
  |brk=>exact False.elim hq'
  |cont=>exact False.elim hq'
end
section
variable {X:Cx}{x:Str}{V:Int->DM->Prop}{e:Expr}{te:DE}{np cpos pos:Pos}{k:Nat}
theorem aFU (R:aCf X x V)(hr:eB k X.A)(hk:2<=k)(he:PDE X e te)(hg:Gl X x:=by rfl)(hd:(x==("__debug__":Str))=false:=by decide)(hst:starEach [e] X.env=(false,eval e X.env)::starEach [] X.env:=by rfl)(hpl:(backTo cpos (starEach [] X.env)).any (·.1)=false:=by rfl) :
  PDS X (.Raise (some (.Call (.Name x np) [e] [] cpos)) none pos) (aCS V te):=by
 intro pins s σ H D I ⟨ρ,M,D',re,hm,q,kk⟩;obtain⟨calm,hex,C,f,hc,fly⟩:=R;rw[arm_exec_Raise];refine wpAny_bind (wpAny_standAt ?_);show wpAny _ _ (raiseStmt X.env (some (do let v <- eval (.Call (.Name x np) [e] [] cpos) X.env;standAt pos;pure v)) none) _ _ _;have key:wpAny (model X.prog X.w) X.A (eval (.Call (.Name x np) [e] [] cpos) X.env) (λv s1=>∃a t dx,v=.ref a/\X.K.In s1.heap/\s1.heap.get? a=some (nN C t (some dx))/\X.xe (.ref a) s1) X.xe s:=by
  refine wpAny_Call_Name_kw (iW I hg hc.nm ?_ hd);refine callWith_K (h₀:=X.base) I.ok.mod.kin hc.kp (thn ((zL he aCG hst:PDA X [e] (kZ te pT)) cpos pins s σ H (LA X.K H _) I ⟨ρ,M,aLD V,re,hm,?_,λvs H' z=>z⟩) λus s1 ⟨vs,H1,I1,rv,ds,M1,rs,hm1,ex,q1⟩=>⟨I1.kIn,?_⟩) hst hpl
  ·exact q
  ·match ds,q1 with
   |[.int i],q1 =>
    obtain⟨v,rfl,r1⟩:=jD rs;obtain rfl:=aV r1;refine aH9 hc hr hk hex I1 rv λs' a t dx H' I' ht fe hx mono=>?_;exact⟨a,t,dx,rfl,I'.kIn,ht,fly pins σ H' s' a M1 dx i I' ⟨_,_,ht,⟨rfl,rfl⟩,rfl,rfl⟩ fe (aGh hm1 mono) hx q1⟩
 unfold raiseStmt;refine wpAny_bind (wpAny_bind (wpAny_mono key (λv s1 ⟨a,t,dx,ev,kin,h1,h4⟩=>wpAny_bind (wpAny_standAt (wpAny_pure ?_))) λ_ _ z=>z));subst ev;obtain⟨bm,nm,qn,N,bs,hdct,sn,sub,ab,col,dd,k0,k1,k2,k3,k5,cC,T⟩:=hc.tail kin;have hcB:(Value.ref C :: bm).contains (.type "BaseException")=true:=by rw[List.contains_cons,T.hasType (X:="BaseException") (b:=true) (by decide +kernel),Bool.or_true]
 obtain⟨hh,g,d,tk,os⟩:=s1;dsimp only at cC h1;unfold nN at h1;repeat (first|(with_reducible refine wpAny_loadPart_at h1 ?_)|(with_reducible refine wpAny_loadPart_at cC ?_)|(with_reducible refine wpAny_isSubtype_exc cC ?_;rw[hcB])|wp_step)
 exact wpAny_raiseNew_none (I.ok.hd calm) h4
end
open PySem.W (InstAt findIn clsIn takerIn mroIn looks_findIn looks_clsIn looks_mroIn)
def aMB (K:Frag)(C:Addr)(f:Str)(cond:List D->DM->Int->Prop):Sp:=λvs H _ E=>∃ds M i,cA K H ds vs/\cI K M H/\cond ds M i/\∀M' H' dx,cI K M' H'->aU M M'->H' dx=some (.xd [(f,.int i)])->E (.ref C) (some dx) H'
def fW (P:Program)(w:World)(K:Frag)(mg:Str->Option Value)(base:Heap)(k:Nat)(x:Str)(ps:List Str)(C:Addr)(f:Str)(cond:List D->DM->Int->Prop):Prop :=
 ∃fa fd,lP P w K mg base (CXy P w) k fa fd ps (aMB K C f cond)/\mg x=some (.ref fa)/\keepIn K (.ref fa)=true/\nW K fd ps []
def aFw (X:Cx)(C:Addr)(f:Str)(V:Int->DM->Prop):Prop:=X.ex=[] /\
 ∀pins σ H s a T M' dx i,Inv X pins σ H s->TrY (some dx) s.heap a (.ref C) T .none->FpN X pins H a->FpN X pins H T->cI X.K M' H->H dx=some (.xd [(f,.int i)])->V i M'->X.xe (.ref a) s
def aEz (V:Int->DM->Prop)(cond:List D->DM->Int->Prop)(t:DA):DE:=λρ M _=>t ρ M λds M1=>∃i,cond ds M1 i/\∀M',aU M1 M'->V i M'
noncomputable def XW (K:Frag)(C:Addr)(f:Str)(M1:DM)(i:Int):XK:=λc od H'=>c=.ref C/\∃dx M',od=some dx/\cI K M' H'/\aU M1 M'/\H' dx=some (.xd [(f,.int i)])
section
variable {X:Cx}{e:Expr}{es:List Expr}{t:DA}{fn f:Str}{ps:List Str}{cond:List D->DM->Int->Prop}{C:Addr}{k1 k:Nat}{V:Int->DM->Prop}{pf pc:Pos}
theorem aHj (hH:fW X.prog X.w X.K X.mg X.base k1 fn ps C f cond)(hr:eB k X.A)(hk1:k1<=k)(PO:aFw X C f V)(ha:PDA X (e::es) t)(hg:Gl X fn:=by rfl)(hdb:(fn==("__debug__":Str))=false:=by decide)(he:starEach (e::es) X.env=(false,eval e X.env)::starEach es X.env:=by rfl)(hpl:(backTo pc (starEach es X.env)).any (·.1)=false:=by rfl) :
  PDE X (.Call (.Name fn pf) (e::es) [] pc) (aEz V cond t):=by
 intro pins s σ H Q I ⟨ρ,M,Q',re,hm,q,k'⟩;obtain⟨hex,fly⟩:=PO;obtain⟨f1,fd,F,hmf,hk,hb⟩:=id hH;refine wpAny_Call_Name_kw (iW I hg hmf ?_ hdb);refine callWith_K (h₀:=X.base) I.ok.mod.kin hk (thn (ha pc pins s σ H (LA X.K H _) I ⟨ρ,M,_,re,hm,q,λvs H' z=>z⟩) λus s1 ⟨vs,H1,I1,rv,ds,M1,rs,hm1,ex,i,q1,q2⟩=>⟨I1.kIn,?_⟩) he hpl;have hsp:aMB X.K C f cond vs H1 (λ_ _=>False) (XW X.K C f M1 i):=⟨ds,M1,i,rs,hm1,q1,λM' H' dx a b c=>⟨rfl,dx,M',rfl,a,b,c⟩⟩;have hl:(us++[]).length=ps.length:=by rw[append_nil,<- rv.length];exact F.len _ _ _ _ hsp
 have hbb:=hb s1 us I1.kIn hl;rw[append_nil] at hbb;refine wpAny_call (codeAny_mono (F.run X.A X.stack s1 H1 ⟨us,[]⟩ us vs _ _ (hr.mono hk1) I1.env0 hbb rv hsp) λr s' hq=>?_);cases r with
 |error ev =>
  obtain⟨a,cls,T,H',od,rfl,os,bare,un,hok,tr,na,nT,ha',hT,rfl,dx,M',rfl,hm',sub,hx⟩:=(show CXy X.prog X.w X.stack H1 s1 (XW X.K C f M1 i) ev s' from hq);have I2:Inv X pins σ H' s':=I1.call' (ch:=[]) os un hok bare (λb z=>absurd z (by simp));exact fly pins σ H' s' a T M' dx i I2 tr (I1.fpN hex na ha') (I1.fpN hex nT hT) hm' hx (q2 M' sub)
 |ok fl =>
  cases fl with
  |ret u=>obtain⟨_,_,_,_,_,_,_,z⟩:=(show CE _ _ _ _ _ _ _ _ from hq);exact z.elim
  |next=>exact False.elim hq
  |brk=>exact False.elim hq
  |cont=>exact False.elim hq
end
section
variable {P:Program}{w:World}{K:Frag}{mg:Str->Option Value}{base:Heap}
theorem fW.mkZ {x c f:Str}{C:Addr}{st:Stmt}{N ps:List Str}{k:Nat}{cond:List D->DM->Int->Prop}(h:bT K mg x st ps)(hc:qD P w K mg base c C f)(S:aR N ps (aJ st))(len:∀ds M i,cond ds M i->ds.length=ps.length)(hbody:∀(fa:Addr)(cdv:Value) (A:Around) (outer:List Env) (s:Shared) (H:Hp) (ds:List D) (M:DM) (i:Int) (E:XK),eB k (A.deeper (envOfC x (aJ st) s.heap.objs.size fa cdv))->cond ds M i ->
   aCf (kE (CXy P w) P w K mg base N x (aJ st) fa cdv A outer s H E) c (λj M'=>j=i/\aU M M')->aFw (kE (CXy P w) P w K mg base N x (aJ st) fa cdv A outer s H E) C f (λj M'=>j=i/\aU M M') ->
   ∃t,ZSs (kE (CXy P w) P w K mg base N x (aJ st) fa cdv A outer s H E) (fC st) t/\t { nx:=λ_ _=>False,rt:=λ_ _=>False } (iO N ds) M):fW P w K mg base (k+1) x ps C f cond:=by
 obtain⟨fa,fd,F,hm,hb⟩:=h;refine⟨fa,fd,?_,hm,F.kp,hb⟩;obtain⟨oc,od,kV,doc,pm,an,cdv,ct,osl,rfl,lk,hcd⟩:=F.ex;refine aFd lk hcd S (λvs H Q E ⟨ds,M,i,rs,hm,q,_⟩=>by rw[<- rs.length];exact len ds M i q) λA outer s H vs Q E hr ⟨ds,M,i,rs,hm,q,k'⟩=>?_;have RO:aCf (kE (CXy P w) P w K mg base N x (aJ st) fa cdv A outer s H E) c (λj M'=>j=i/\aU M M') :=
  ⟨rfl,rfl,C,f,hc,λpins σ H' s1 a M' dx j I n fe hm' hx ⟨ej,sub⟩ =>
   aEL (X:=kE (CXy P w) P w K mg base N x (aJ st) fa cdv A outer s H E) I rfl rfl rfl I.ok.frames n fe λs' T I' t' fT _ =>
    ⟨a,.ref C,T,H',some dx,rfl,I'.os,I'.bare,I'.base,I'.hok,t',fe.2.2.1,fT.2.2.1,fe.1,fT.1,k' M' H' dx hm' sub (by rw[<- ej];exact hx)⟩⟩
 have PO:aFw (kE (CXy P w) P w K mg base N x (aJ st) fa cdv A outer s H E) C f (λj M'=>j=i/\aU M M') :=
  ⟨rfl,λpins σ H' s1 a T M' dx j I t fe fT hm' hx ⟨ej,sub⟩ =>
   aEc (X:=kE (CXy P w) P w K mg base N x (aJ st) fa cdv A outer s H E) I rfl rfl rfl I.ok.frames t fe fT λs' T' I' t' fT' =>
    ⟨a,.ref C,T',H',some dx,rfl,I'.os,I'.bare,I'.base,I'.hok,t',fe.2.2.1,fT'.2.2.1,fe.1,fT'.1,k' M' H' dx hm' sub (by rw[<- ej];exact hx)⟩⟩
 obtain⟨t,h1,h2⟩:=hbody fa cdv A outer s H ds M i E hr q RO PO;exact⟨_,h1.o,iO N ds,M,_,oQ rs N,hm,h2,⟨λσ' H' ⟨_,_,_,_,_,z⟩=>z.elim,λv H' ⟨_,_,_,_,_,z⟩=>z.elim,λσ' H' ⟨_,_,_,_,_,z⟩=>z.elim,λσ' H' ⟨_,_,_,_,_,z⟩=>z.elim⟩⟩
theorem fW.never {x c f:Str}{C:Addr}{st:Stmt}{N ps:List Str}(h:bT K mg x st ps)(hc:qD P w K mg base c C f)(S:aR N ps (aJ st))(k:Nat):fW P w K mg base (k+1) x ps C f (λ_ _ _=>False) :=
 fW.mkZ h hc S (λ_ _ _ z=>z.elim) λ_ _ _ _ _ _ _ _ _ _ _ z=>z.elim
theorem fW.imp {x f:Str}{C:Addr}{ps:List Str}{k:Nat}{cond cond':List D->DM->Int->Prop}(h:fW P w K mg base k x ps C f cond)(g:∀ds M i,cond' ds M i->cond ds M i):fW P w K mg base k x ps C f cond':=by obtain⟨fa,fd,F,hm,hk,hb⟩:=h;exact⟨fa,fd,F.imp λvs H Q E ⟨ds,M,i,a,b,c,d⟩=>⟨ds,M,i,a,b,g _ _ _ c,d⟩,hm,hk,hb⟩
end
def ExY (o:Obj)(C dx:Addr):Prop:=o.cls=.ref C/\o.dict=some dx/\∃vs,o.data=.fields vs
noncomputable abbrev Pn (X:Cx)(a:Addr)(o:Obj):Cx:={ X with pn:=(a,o)::X.pn }
section
variable {X:Cx}{pins:List (Addr×Obj)}{σ:L2.St}{H:Hp}{s:Shared}{a e:Addr}{o:Obj}{fs:List (Str×V)}
theorem aEa (I:X.Ok):(Pn X a o).Ok:=⟨I.mod,I.kind,I.glob,I.blt,I.above,I.inj,I.has,I.cab,I.hd,I.frames,I.stk,I.exf,I.bs,I.bsz,I.noex,I.exfs,I.funs,I.frf⟩
theorem aC3 (ok:X.Ok)(I:Inv (Pn X a o) pins σ H s):Inv X pins σ H s :=
 ⟨ok,I.os,I.bare,I.base,I.loc,I.cell,I.free,I.freeC,λp hp=>I.pin p (mem_cons_of_mem _ hp),I.hok,I.len⟩
theorem Ext.delX (h:H e=some (.xd fs)):Ext H (Dd.delH H e) :=
 ⟨λa ys q=>by rw[kT (aAw q h (by intro z;cases z))];exact q,λa ob u q=>by rw[kT (aAw q h (by intro z;cases z))];exact q⟩
theorem aF7 {K:Frag}{M:DM}(h:cI K M H)(hp:H e=some (.xd fs)):cI K M (delH H e) where
 l:=λa ds q=>by obtain⟨xs,z,r⟩:=h.l a ds q;exact⟨xs,by rw[kT (aAw z hp (by intro z;cases z))];exact z,r.ext (Ext.delX hp)⟩
 d:=λa ds q=>by obtain⟨xs,z,r⟩:=h.d a ds q;exact⟨xs,by rw[kT (aAw z hp (by intro z;cases z))];exact z,nZ r (Ext.delX hp)⟩
theorem _root_.L2.Inv.dropX (I:Inv X pins σ H s)(h:H e=some (.xd fs)):Inv X pins σ (delH H e) s:=by
 have out:∀b o,delH H e b=some o->b≠e/\H b=some o:=λb o q=>by
  by_cases z:b=e
  ·rw[z,sN] at q;cases q
  ·rw[kT z] at q;exact⟨z,q⟩
 have sub:∀b,H b=none->delH H e b=none:=λb q=>by
  unfold delH;split
  ·rfl
  ·exact q
 have nt:∀b o,H b=some o->(∀φ,o ≠ .xd φ)->delH H e b=some o:=λb o q n=>by rw[kT (λz=>by rw[z,h] at q;exact n fs (Option.some.inj q).symm)];exact q
 refine⟨I.ok,I.os,I.bare,⟨I.base.keep,I.base.slot,λb o q n hx=>sub b (I.base.free b o q n hx),I.base.there,λb xs q=>nt b _ (I.base.tups b xs q) (λφ z=>by cases z),λb o v q=>nt b _ (I.base.frzs b o v q) (λφ z=>by cases z),λb ps q=>?_⟩,I.loc,I.cell,sub _ I.free,λx c q=>sub c (I.freeC x c q),λp hp=>?_,λb o q=>?_,I.len⟩
 ·obtain⟨m,z⟩:=I.base.tbls b ps q;exact⟨m,nt b _ z λφ z=>by cases z⟩
 ·obtain⟨a1,a2,a3,a4,a5⟩:=I.pin p hp;exact⟨a1,sub _ a2,a3,a4,a5⟩
 ·obtain⟨ne,q⟩:=out b o q;refine(I.hok b o q).stay (λ_ _ _ z=>z) (λc z=>nt c _ z λφ y=>by cases y) λc xs z=>nt c _ z λφ y=>by cases y
theorem aOy (I:Inv X pins σ H s)(h:H e=some (.xd fs)):∃oD,Inv (Pn X e oD) pins σ (delH H e) s/\∀f i,fs=[(f,.int i)]->∃t,lookIn f oD=some (some (.int i t)):=by
 obtain⟨mA,hns,rel⟩:=I.hok e _ h;obtain⟨oD,ho,hl⟩:=aB1 hns;have I':=I.dropX h;have nl:e≠X.env.locals:=λz=>by have:=I.free;rw[<- z,h] at this;cases this
 have nfr:e∉X.fs:=λz=>by
  have m:e∈frs X.stack:=by
   rcases I.ok.stk with q|⟨q,_⟩
   ·rw[q];exact z
   ·rw[q];unfold frs;rw[List.filterMap_cons];split
    ·exact z
    ·exact mem_cons_of_mem _ z
  have:=I.stkFree e m;rw[h] at this;cases this
 refine⟨oD,⟨aEa I'.ok,I'.os,I'.bare,I'.base,I'.loc,I'.cell,I'.free,I'.freeC,λp hp=>?_,I'.hok,I'.len⟩,λf i ef=>?_⟩
 ·rcases List.mem_cons.mp hp with z|z
  ·subst z;refine⟨ho,sN,nl,nfr,λv z=>?_⟩;have:=hl "row";unfold lookIn at this;dsimp only at z;rw[z] at this;cases this
  ·exact I'.pin p z
 ·have:=rel f;rw[ef,lookup_cons,beq_self_eq_true] at this;cases hm:mA f with
  |none=>rw[hm] at this;exact this.elim
  |some u =>
   rw[hm] at this;obtain⟨t,rfl⟩:=(show ∃t,u=Value.int i t from this);exact⟨t,by rw[hl,hm]⟩
end
def aPn (sp:DSp)(cond:List D->DM->Int->Prop)(j:Nat)(t:DA)(nx:gF->D->cO->DM->Prop)(ts:Addr->Int->DS):DS:=λD ρ M=>t ρ M λds M1 =>
 (∃i,cond ds M1 i/\∀a,ts a i (D.un j) (ρ.set j (some (.ref a))) M1)∨sp ds M1 λd M2=>nx D d ρ M2
section
variable {X:Cx}{a:Expr}{e:Expr}{es:List Expr}{t:DA}{x f n cm fl:Str}{ps:List Str}{sp:DSp}{cond:List D->DM->Int->Prop}{C Cm:Addr}{k1 k2 k i j:Nat}{ts:Addr->Int->DS}{b0:Stmt}{suite:List Stmt}{px pf pc pa pcm ph pos:Pos}
theorem aJv {pins:List (Addr×Obj)}{σ:L2.St}{H1:Hp}{s1 s':Shared}{M1:DM}{ρ:cO}{De:gF}{En:sT}{ev:Value}{i:Int}(ok:X.Ok)(hs:X.stack=X.env::X.outer)(hf:X.env.frame=some X.env.locals)(hex:X.ex=[])(hX:∀e s,X.xe e s->False)(hN:X.N.Nodup)(hj:X.N[j]?=some n)(hnl:X.env.scope.names.lookup n=some .local)(hcm:X.mg cm=some (.ref Cm))(hgc:Gl X cm)(hdc:(cm==("__debug__":Str))=false)(hmt:exmOne X.K (.ref C) (.ref Cm)=some true)(hsu:∀a o dx oD t,ExY o C dx->lookIn fl oD=some (some (.int i t))->lK (Exc (Pn X dx oD) a o) (b0::suite) (ts a i))(I1:Inv X pins σ H1 s1)(re:gY X.K H1 ρ σ)(k:lG X.K H1 De En)(q:∀a,ts a i (De.un j) (ρ.set j (some (.ref a))) M1)(h:CXy X.prog X.w X.stack H1 s1 (XW X.K C fl M1 i) ev s') :
  wpAny (model X.prog X.w) X.A (noteFrame ev X.env) (λ_ s₂=>wpAny (model X.prog X.w) X.A (setFlight ev none)
   (λ_ s₃=>wpAny (model X.prog X.w) X.A (handleBy ev X.env [.ExceptHandler (some (.Name cm pcm)) (some n) (b0::suite) ph]) (SP X pins En) X.xe s₃) X.xe s₂) X.xe s':=by
 obtain⟨a,cls,T,H',od,rfl,os,bare,un,hok,tr,na,nT,ha,hT,rfl,dx,M',rfl,hm',sub,hxd⟩:=h;have I2:Inv X pins σ H' s':=I1.call' (ch:=[]) os un hok bare (λb z=>absurd z (by simp));have fa:FpN X pins H' a:=I1.fpN hex na ha;have fT:FpN X pins H' T:=I1.fpN hex nT hT;have ex:Ext H1 H':=⟨un.tups,un.frzs⟩;refine aA4 I2 hs hf hex I2.ok.frames tr fa fT λs3 T3 I3 t3 f3=>?_;refine nJ I3 t3 f3 λs4 I4 t4=>?_;have noF:∀{s:Shared}{oe:Obj} {vs:Array Value},Inv X pins σ H' s->s.heap.get? a=some oe->oe.data=.fields vs->a∉X.fs:=λ{s oe vs} I he hd hb=>by obtain⟨_,o,ho,hnf⟩:=I.funs.mem hb;rw[he] at ho;cases ho;exact hnf vs hd
 have inn:∀{s:Shared}{T fl},Inv X pins σ H' s->TrY (some dx) s.heap a (.ref C) T fl->∃oe,oe.cls=.ref C/\s.heap.get? a=some oe/\Inv (Exc X a oe) pins σ H' s:=λ{s T fl} I t=>by obtain⟨oe,vs,oT,ts,he,hc,hd,_⟩:=t;exact⟨oe,hc.1,he,aCc I he ha fa.2.1 (noF I he hd) λv z=>by rw[hd] at z;cases z⟩
 obtain⟨o4,hc4,he4,J4⟩:=inn I4 t4;refine wpAny_handleBy_cons (codeAny_handlers_test ?_) (by intro z;cases z);refine iW (X:=Exc X a o4) J4 hgc hcm ?_ hdc;have LT:∀M:Model,PySem.W.Looks M s4.heap (typeOf (.ref a)) (.ref C):=λM=>hc4 ▸ (PySem.W.Looks.ld he4).andThen .now;refine(PySem.W.exm_one J4.kIn (LT _) hmt).here ?_;simp only[if_true];refine codeAny_handlers_suite_as ?_;refine nJ I4 t4 f3 λs5 I5 t5=>?_;obtain⟨oe,vs,oT,tts,he5,hc5,hd5,_⟩:=t5;refine xF (v:=.ref a) I5 hN hj (.inl hnl) rfl (λs6 I6 ⟨b,hsb,hb⟩=>?_) (.inr hnl);have hne:a≠b:=by
  rcases hb with hb|hb
  ·rw[hb];exact fa.2.1
  ·exact λz=>fa.2.2.2.1 n b hb z.symm
 have he6:s6.heap.get? a=some oe:=(hsb.2 a hne).trans he5;obtain⟨oD,I7,hlk⟩:=aOy I6 hxd;obtain⟨tk,hlk⟩:=hlk fl i rfl;have ha':delH H' dx a=none:=by
  unfold delH;split
  ·rfl
  ·exact ha
 have J6:Inv (Exc (Pn X dx oD) a oe) pins (σ.set j (some (.ref a))) (delH H' dx) s6:=aCc (X:=Pn X dx oD) I7 he6 ha' fa.2.1 (noF I5 he5 hd5) λv z=>by rw[hd5] at z;cases z
 have ex2:=ex.trans (Ext.delX hxd);have run:=hsu a oe dx oD tk ⟨hc5.1,hc5.2,_,hd5⟩ hlk pins s6 (σ.set j (some (.ref a))) (delH H' dx) (aEV En j) J6 ⟨_,M1,De.un j,(re.ext ex2).set kR j,aF7 (hm'.sub sub) hxd,q a,(k.at ex2).un j⟩;refine wpAny_mono run (λfl s7 h7=>?_) λx s7 h7=>(hX x s7 h7).elim;cases fl with
 |next =>
  obtain⟨σ',H7,I7,q7⟩:=h7;exact jL (aC3 ok (nB (aEa ok) I7)) hN hj hnl λs8 I8=>⟨_,H7,I8,q7⟩
 |brk =>
  obtain⟨σ',H7,I7,q7⟩:=h7;exact jL (aC3 ok (nB (aEa ok) I7)) hN hj hnl λs8 I8=>⟨_,H7,I8,q7⟩
 |cont =>
  obtain⟨σ',H7,I7,q7⟩:=h7;exact jL (aC3 ok (nB (aEa ok) I7)) hN hj hnl λs8 I8=>⟨_,H7,I8,q7⟩
 |ret u =>
  obtain⟨v,σ',H7,I7,r7,q7⟩:=h7;exact jL (aC3 ok (nB (aEa ok) I7)) hN hj hnl λs8 I8=>⟨v,_,H7,I8,r7,q7⟩
theorem aIG {pins:List (Addr×Obj)}{σ:L2.St}{H1:Hp}{s1:Shared}{M1:DM}{ds:List D}{us:List Value}{vs:List V}{Q:Value->Shared->Prop}{E:Value->Shared->Prop}{f':Addr}{Q':DQ}(hH:fW X.prog X.w X.K X.mg X.base k1 f ps C fl cond)(hh:Has X.prog X.w X.K X.mg X.base k2 f ps sp)(hr:eB k X.A)(hk1:k1<=k)(hk2:k2<=k)(hmf:X.mg f=some (.ref f'))(I1:Inv X pins σ H1 s1)(rv:cG vs us)(rs:cA X.K H1 ds vs)(hm1:cI X.K M1 H1)(q:(∃i,cond ds M1 i/\∀ev s',CXy X.prog X.w X.stack H1 s1 (XW X.K C fl M1 i) ev s'->E ev s')∨sp ds M1 Q')(hQ:∀u s',EP X pins σ (LQ X.K H1 Q') u s'->Q u s'):wpAny (model X.prog X.w) X.A (call (.ref f') us) Q E s1:=by
 rcases q with⟨i,q,hE⟩|q
 ·obtain⟨f1,fd,F,hm,_,hb⟩:=hH;have hf:f1=f':=by have:=hm.symm.trans hmf;cases this;rfl
  subst hf;have hsp:aMB X.K C fl cond vs H1 (λ_ _=>False) (XW X.K C fl M1 i):=⟨ds,M1,i,rs,hm1,q,λM' H' dx a b c=>⟨rfl,dx,M',rfl,a,b,c⟩⟩;have hl:(us++[]).length=ps.length:=by rw[append_nil,<- rv.length];exact F.len _ _ _ _ hsp
  have hbb:=hb s1 us I1.kIn hl;rw[append_nil] at hbb;refine wpAny_call (codeAny_mono (F.run X.A X.stack s1 H1 ⟨us,[]⟩ us vs _ _ (hr.mono hk1) I1.env0 hbb rv hsp) λr s' hq=>?_);cases r with
  |error ev=>exact hE ev s' hq
  |ok fl =>
   cases fl with
   |ret u=>obtain⟨_,_,_,_,_,_,_,z⟩:=(show CE _ _ _ _ _ _ _ _ from hq);exact z.elim
   |next=>exact False.elim hq
   |brk=>exact False.elim hq
   |cont=>exact False.elim hq
 ·obtain⟨f1,fd,F,hm,_,hb⟩:=hh;have hf:f1=f':=by have:=hm.symm.trans hmf;cases this;rfl
  subst hf;have hsp:rC X.K sp vs H1 (LQ X.K H1 Q') (λ_ _ _=>False):=⟨ds,M1,Q',rs,hm1,q,λv H' z=>z⟩;have hl:(us++[]).length=ps.length:=by rw[append_nil,<- rv.length];exact F.len _ _ _ _ hsp
  have hbb:=hb s1 us I1.kIn hl;rw[append_nil] at hbb;refine wpAny_call (codeAny_mono (F.run X.A X.stack s1 H1 ⟨us,[]⟩ us vs _ _ (hr.mono hk2) I1.env0 hbb rv hsp) λr s' hq=>?_);cases r with
  |error ev=>exact False.elim hq
  |ok fl =>
   cases fl with
   |ret u=>exact hQ u s' (I1.after hq)
   |next=>exact False.elim hq
   |brk=>exact False.elim hq
   |cont=>exact False.elim hq
end
def aNU (j:Nat)(a:Addr)(i:Int):DE:=λρ M Q=>ρ[j]?=some (some (.ref a))/\Q (.int i) M
section
variable {X:Cx}{n f:Str}{C a dx:Addr}{o oD:Obj}{p pos:Pos}{j:Nat}{i:Int}{tk:Tok}
theorem aNx (ho:ExY o C dx)(hl:lookIn f oD=some (some (.int i tk)))(ek:tV X.K C)(fk:aBp X.K C f)(hj:X.N[j]?=some n:=by rfl)(hnl:Vis X.env.scope n:=by first|exact Or.inl rfl|exact Or.inr (Or.inl rfl)|exact Or.inr (Or.inr rfl))(hd1:(n==("__debug__":Str))=false:=by decide)(hd2:(n==("__classdict__":Str))=false:=by decide)(hb:attributeBase (.Name n p) f X.env (eval (.Name n p) X.env)=eval (.Name n p) X.env:=by rfl) :
  PDE (Exc (Pn X dx oD) a o) (.Attribute (.Name n p) f pos) (aNU j a i):=by
 intro pins s σ H Q I ⟨ρ,M,Q',re,hm,⟨e,q⟩,k⟩;obtain⟨v,e1,rv⟩:=re.get j _ e;obtain rfl:=bO rv;refine aJM (A:=X.A.mark (some (.ref a))) hb (thn (tO (X:=Exc (Pn X dx oD) a o) (i:=j) hj hnl hd1 hd2 pins s σ H (λv H'=>v=.ref a/\H'=H) I ⟨_,e1,rfl,rfl⟩) λu s1 ⟨v',H1,I1,rx,ev,eH⟩=>?_);subst ev eH;obtain rfl:u=Value.ref a:=rx;have p1:=I1.pin (a,o) (mem_append_left _ (mem_cons_self));have p2:=I1.pin (dx,oD) (mem_append_left _ (mem_cons_of_mem _ (mem_cons_self)));obtain⟨h1,h2,vs,h3⟩:=ho;have ia:InstAt s1.heap a o C (some oD):=⟨p1.1,h1,by unfold PySem.W.notCls;rw[h3],by rw[h2];exact p2.1⟩;exact aOY I1.kIn ia ek fk hl rfl λt'=>⟨.int i,H1,I1.tok t',⟨_,rfl⟩,k _ H1 ⟨.int i,M,bU,hm,.refl _,q⟩⟩
end
def aFh (w:World)(K:Frag)(mg:Str->Option Value)(x:Str)(tab:List (Str×Int))(non:List Str):Prop :=
 ∃a es ep,mg x = some (.ref a)/\(a==sysModules) = false/\K.lookup a = some ⟨.type "dict",none,.dict es ep,#[]⟩/\KeysLit w.params es.toList/\(∀k n,tab.lookup k=some n->∃t,nsIn K a k=some (some (.int n t)))/\∀k∈non,nsIn K a k=some none
def aMo (tab:List (Str×Int))(non:List Str)(Q:DQ)(ds:List D)(M1:DM):Prop:=match ds with
 |[.str k]=>(∃n,tab.lookup k=some n/\Q (.int n) M1)∨(k∈non/\Q .non M1)
 |_=>False
def aGD (tab:List (Str×Int))(non:List Str)(te:DE):DE:=λρ M Q=>kZ te pT ρ M (aMo tab non Q)
section
variable {X:Cx}{x:Str}{tab:List (Str×Int)}{non:List Str}{p apos cpos:Pos}{e:Expr}{te:DE}
theorem aJq (T:aFh X.w X.K X.mg x tab non)(he:PDE X e te)(hg:Gl X x:=by rfl)(hd:(x==("__debug__":Str))=false:=by decide)(hbase:attributeBase (.Name x p) "get" X.env (eval (.Name x p) X.env)=eval (.Name x p) X.env:=by rfl)(hfew:((backTo cpos (starEach [e] X.env)).all (λx=>!x.1)&&(backToKw cpos (keywordEach [] X.env)).all (λx=>x.1.isSome)
  &&decide ([e].length+([]:List Keyword).length+(if ([]:List Keyword).isEmpty then 0 else 1)<30))=true:=by rfl)(hline:(apos.endLine==cpos.line)=true:=by rfl)(hs:starEach [e] X.env=(false,eval e X.env)::starEach [] X.env:=by rfl)(hplain:(backTo cpos (starEach [] X.env)).any (·.1)=false:=by rfl) :
  PDE X (.Call (.Attribute (.Name x p) "get" apos) [e] [] cpos) (aGD tab non te):=by
 obtain⟨a,es,ep,hm,hsm,hk,ks,look,nol⟩:=T;intro pins s σ H Q I ⟨ρ,M,Q',re,hm',q,kq⟩;refine wpAny_Call_method_late hbase hfew hline rfl (iW I hg hm ?_ hd);have mo:=mapOf_K (prog:=X.prog) (w:=X.w) I.kIn hk ks;refine⟨"dict","dict.get",PySem.F.plainAttrs_dict,PySem.F.slot_dict_get,PySem.F.type_dict_get,mo.typeIs,?_,?_⟩
 ·intro b e;cases e;exact⟨_,I.kIn _ _ hk,rfl⟩
 ·have hA:=(zL he aCG hs:PDA X [e] (kZ te pT)) cpos pins s σ H (LA X.K H (aMo tab non Q')) I ⟨ρ,M,_,re,hm',q,λvs H' z=>z⟩;rw[hs] at hA ⊢;refine Calls.callWith_builtin (by show(false||(backTo cpos (starEach [] X.env)).any (·.1))=false;rw[hplain]<;>rfl) (Calls.evalArgs_plain (thn hA λus s1 ⟨vs,H1,I1,rv,ds,M1,rs,hm1,ex,q1⟩=>?_))
  match ds,q1 with
  |[.str k],q1 =>
   obtain⟨v,rfl,r1⟩:=jD rs;obtain rfl:=cW r1;obtain⟨u,rfl,ru⟩:=yA rv;obtain⟨t,rfl⟩:=ru;have mo1:=mapOf_K (prog:=X.prog) (w:=X.w) I1.kIn hk ks;refine call_meetsIn PySem.F.slot_dict_get mo1.typeIs PySem.F.entry_dict_get (PySem.F.args_dict_get_2 _ _) (meets_dict_get (PySem.strKind X.prog X.w) a (strKind_is X.prog X.w k t) hsm) ⟨_,mo1,?_⟩;rcases q1 with⟨n,hn,q1⟩|⟨hn,q1⟩
   ·obtain⟨t',hf⟩:=look k n hn;rw[find_K hk hf];exact⟨.int n,H1,I1.tok _,⟨_,rfl⟩,kq _ _ ⟨.int n,M1,bU,hm1,ex,q1⟩⟩
   ·rw[find_K hk (nol k hn)];exact⟨.non,H1,I1.tok _,rfl,kq _ _ ⟨.non,M1,zB,hm1,ex,q1⟩⟩
end
section
variable {X:Cx}{pins:List (Addr×Obj)}{σ:L2.St}{H:Hp}{s:Shared}{M:Model}{A:Around}{E:Value->Shared->Prop}{e T:Addr}{cls:Value}{od:Option Addr}
end
section
variable {X:Cx}{pins:List (Addr×Obj)}{σ:L2.St}{H:Hp}{s:Shared}{x f:Str}{C:Addr}{k:Nat}{i:Int}
end
section
variable {X:Cx}{x:Str}{V:Int->DM->Prop}{e:Expr}{te:DE}{np cpos pos:Pos}{k:Nat}
theorem oW (R:aCf X x V)(hr:eB k X.A)(hk:2<=k)(he:ZE X e te)(hg:Gl X x:=by rfl)(hd:(x==("__debug__":Str))=false:=by decide)(hst:starEach [e] X.env=(false,eval e X.env)::starEach [] X.env:=by rfl)(hpl:(backTo cpos (starEach [] X.env)).any (·.1)=false:=by rfl):ZS X (.Raise (some (.Call (.Name x np) [e] [] cpos)) none pos) (aCS V te):=.i (aFU R hr hk he.o hg hd hst hpl)
end
section
variable {X:Cx}{e:Expr}{es:List Expr}{t:DA}{fn f:Str}{ps:List Str}{cond:List D->DM->Int->Prop}{C:Addr}{k1 k:Nat}{V:Int->DM->Prop}{pf pc:Pos}
theorem wM (hH:fW X.prog X.w X.K X.mg X.base k1 fn ps C f cond)(hr:eB k X.A)(hk1:k1<=k)(PO:aFw X C f V)(ha:ZA X (e::es) t)(hg:Gl X fn:=by rfl)(hdb:(fn==("__debug__":Str))=false:=by decide)(he:starEach (e::es) X.env=(false,eval e X.env)::starEach es X.env:=by rfl)(hpl:(backTo pc (starEach es X.env)).any (·.1)=false:=by rfl):ZE X (.Call (.Name fn pf) (e::es) [] pc) (aEz V cond t):=.i (aHj hH hr hk1 PO ha.o hg hdb he hpl)
end
section
variable {P:Program}{w:World}{K:Frag}{mg:Str->Option Value}{base:Heap}
end
section
variable {X:Cx}{pins:List (Addr×Obj)}{σ:L2.St}{H:Hp}{s:Shared}{a e:Addr}{o:Obj}{fs:List (Str×V)}
end
section
variable {X:Cx}{a:Expr}{e:Expr}{es:List Expr}{t:DA}{x f n cm fl:Str}{ps:List Str}{sp:DSp}{cond:List D->DM->Int->Prop}{C Cm:Addr}{k1 k2 k i j:Nat}{ts:Addr->Int->DS}{b0:Stmt}{suite:List Stmt}{px pf pc pa pcm ph pos:Pos}
end
section
variable {X:Cx}{n f:Str}{C a dx:Addr}{o oD:Obj}{p pos:Pos}{j:Nat}{i:Int}{tk:Tok}
theorem aJk (ho:ExY o C dx)(hl:lookIn f oD=some (some (.int i tk)))(ek:tV X.K C)(fk:aBp X.K C f)(hj:X.N[j]?=some n:=by rfl)(hnl:Vis X.env.scope n:=by first|exact Or.inl rfl|exact Or.inr (Or.inl rfl)|exact Or.inr (Or.inr rfl))(hd1:(n==("__debug__":Str))=false:=by decide)(hd2:(n==("__classdict__":Str))=false:=by decide)(hb:attributeBase (.Name n p) f X.env (eval (.Name n p) X.env)=eval (.Name n p) X.env:=by rfl):ZE (Exc (Pn X dx oD) a o) (.Attribute (.Name n p) f pos) (aNU j a i):=.i (aNx ho hl ek fk hj hnl hd1 hd2 hb)
end
section
variable {X:Cx}{x:Str}{tab:List (Str×Int)}{non:List Str}{p apos cpos:Pos}{e:Expr}{te:DE}
theorem aH5 (T:aFh X.w X.K X.mg x tab non)(he:ZE X e te)(hg:Gl X x:=by rfl)(hd:(x==("__debug__":Str)) = false:=by decide)(hbase:attributeBase (.Name x p) "get" X.env (eval (.Name x p) X.env)=eval (.Name x p) X.env:=by rfl)(hfew:((backTo cpos (starEach [e] X.env)).all (λx=>!x.1)&&(backToKw cpos (keywordEach [] X.env)).all (λx=>x.1.isSome)
  &&decide ([e].length+([]:List Keyword).length+(if ([]:List Keyword).isEmpty then 0 else 1)<30)) = true:=by rfl)(hline:(apos.endLine==cpos.line) = true:=by rfl)(hs:starEach [e] X.env = (false,eval e X.env) :: starEach [] X.env:=by rfl)(hplain:(backTo cpos (starEach [] X.env)).any (·.1) = false:=by rfl):ZE X (.Call (.Attribute (.Name x p) "get" apos) [e] [] cpos) (aGD tab non te):=.i (aJq T he.o hg hd hbase hfew hline hs hplain)
end
def aPp (w:World)(a:Addr)(Q:DQ)(ds:List D)(M2:DM):Prop:=match ds with
 |[.str k,dv]=>∃kvs,M2 (.d a)=some (aPv w kvs)/\(kvs.map (·.1)).Nodup/\Q (((kvs.find? λp=>decide (p.1=k)).map (·.2)).getD dv) M2
 |_=>False
def aPh (w:World)(to te ti:DE):DE:=λρ M Q=>to ρ M λx M1=>match x with
 |.ref a=>(∃kvs,M1 (.d a)=some (aPv w kvs)/\(kvs.map (·.1)).Nodup)/\kZ te (kZ ti pT) ρ M1 (aPp w a Q)
 |_=>False
section
variable {X:Cx}{o e e2:Expr}{to te ti:DE}{apos cpos pos:Pos}
end
section
open PySem.W PySem.Calls
variable {prog:Program}{w:World}{A:Around}{E:Value->Shared->Prop}{s:Shared}{K:Frag}{x C D:Addr}{ox:Obj}{od:Option Obj}
theorem aEy {Q:Option Value->Shared->Prop}(X:K.In s.heap)(I:InstAt s.heap x ox D od)(hga:findIn K (.ref D) "__getattribute__" = some (some (.builtin "BaseException.__getattribute__")))(hgn:findIn K (.ref D) "__getattr__" = some none)(hcl:findIn K (.ref D) "__class__" = some (some (.builtin "object.__class__")))(hcd:(clsIn K D).isSome = true)(hn:specialIn K (.builtin "object.__class__") "__get__" = some (some (.builtin "getset_descriptor.__get__")))(htk:takesIn K (.builtin "object.__class__") = some true)(hm:mroIn K D (.type "object") = some true)(hmb:mroIn K D (.type "BaseException")=some true)(h:Q (some (.ref D)) { s with toks:=s.toks+1 }):wpAny (model prog w) A (getAttr? (.ref x) "__class__") Q E s:=by
 obtain⟨hh,g,d,t,os⟩:=s;have L0:=I.type (M:=model prog w);have L1:=looks_findIn (M:=model prog w) X hga;unfold getAttr? getAttrBy? getAttrBy;refine wpAny_bind (wpAny_mkText (wpAny_bind (wpAny_attempt (wpAny_holding (wpAny_bind (L0.at (wpAny_bind (L1.at ?_))))))));have hx2:(onTheHeap (Value.ref D)&&Value.builtin "BaseException.__getattribute__"==Value.builtin "object.__getattribute__")=false:=by rw[show(Value.builtin "BaseException.__getattribute__"==Value.builtin "object.__getattribute__")=false by decide +kernel,Bool.and_false]
 dsimp only;rw[if_neg (by rw[hx2];exact Bool.false_ne_true)];have f3:=PySem.F.attr_ValueError.ga.bind (.ref x);have L2:=looks_findIn (M:=model prog w) X hgn;have L3:=looks_mroIn (M:=model prog w) X hmb;have hf:findObj K D od "__class__" = some (.bind (.builtin "getset_descriptor.__get__") (.builtin "object.__class__")):=by obtain⟨cd,hc⟩:=Option.isSome_iff_exists.mp hcd;unfold findObj;rw[hc,Option.bind_some,hcl,Option.bind_some];simp[hn,htk]
 have L4:=looks_find (M:=model prog w) X I hf;unfold getAttrByItsOwn hookBefore callGetattribute;refine wpAny_bind ?_;rw[if_pos (show onTheHeap (Value.ref D)=true from rfl)];refine L2.at ?_;refine wpAny_bind (wpAny_attempt (wpAny_holding ?_));rw[if_neg (by simp)];unfold boundAndCalled;rw[f3];refine wpAny_bind (wpAny_pure ?_);dsimp only[cons_append,nil_append];have hk:builtinKind "BaseException.__getattribute__"=some .slot:=by decide +kernel
 have hsplit:splitId "BaseException.__getattribute__"=some ("BaseException","__getattribute__"):=by decide +kernel
 have ha:=PySem.F.args_bexc_ga (.ref x) (.str "__class__" t);refine wpAny_call (codeAny_call_builtin PySem.F.attr_ValueError.ga.plain PySem.F.entry_bexc_ga ?_);simp only[checkBuiltinCall,hk,hsplit];refine wpAny_bind ?_;unfold isInstance;refine wpAny_bind (L0.at ?_);refine L3.at ?_;simp only[Bool.not_true,Bool.false_eq_true,if_false];repeat (any_goals (first|assumption|(with_reducible refine L0.at ?_)|(with_reducible refine L4.at ?_)|wp_step))
 refine class_get (ox:=ox) (od:=od) X I hm ?_;repeat (any_goals (first|assumption|exact h|wp_step))
theorem aF9 {o oD:Obj}{dx:Addr}(e:tV K D)(ho:ExY o D dx):KitX K (.ref x) (.ref D) (λh=>h.get? x=some o/\h.get? dx=some oD) where
 ty:=λ_ _ _ q=>ho.1 ▸ (Looks.ld q.1).andThen .now
 it:=λ_ _ X _=>by
  obtain⟨cdD,hcD⟩:=e.cd;unfold clsIn at hcD;split at hcD
  ·rename_i c' d' cd' sl' hk;intro A' Q' E' s' k q;unfold isType loadHead;exact wpAny_bind (wpAny_loadPart (k _ _ (X _ _ hk)) (wpAny_pure q))
  ·cases hcD
 ne:=λh tp dd its n sl X htp=>by
  obtain⟨cdD,hcD⟩:=e.cd;refine Bool.eq_false_iff.mpr λq=>?_;have ee:D=tp:=Value.ref.inj (beq_iff_eq.mp q);subst ee;unfold clsIn at hcD;split at hcD
  ·rename_i c' d' cd' sl' hk;have z:=(X _ _ hk).symm.trans htp;cases z
  ·cases hcD
 ca:=λ{_ _ _ _ _ s} X q k=>by obtain⟨h1,h2,vs,h3⟩:=ho;have I:InstAt s.heap x o D (some oD):=⟨q.1,h1,by unfold notCls;rw[h3],by rw[h2];exact q.2⟩;exact aEy X I e.ga e.gn e.cl (by obtain⟨cd,z⟩:=e.cd;rw[z];rfl) e.nn e.tk e.mo e.mb k
end
section
variable {X:Cx}{n c:Str}{C Cc a dx:Addr}{o oD:Obj}{p p1 p2 pos:Pos}{j:Nat}
theorem aJU {b:Bool}(ho:ExY o C dx)(ek:tV X.K C)(hcc:X.mg c = some (.ref Cc))(hki:kitOne X.K (.ref C) (.ref Cc) = some b)(hmi:X.mg "isinstance"=none)(hj:X.N[j]?=some n:=by rfl)(hnl:Vis X.env.scope n:=by first|exact Or.inl rfl|exact Or.inr (Or.inl rfl)|exact Or.inr (Or.inr rfl))(hgi:Gl X "isinstance":=by rfl)(hgc:Gl X c:=by rfl)(hd1:(n==("__debug__":Str))=false:=by decide)(hd2:(n==("__classdict__":Str))=false:=by decide)(hd3:(c==("__debug__":Str))=false:=by decide)(hs:∀env:Env,starEach [.Name n p1,.Name c p2] env=(false,eval (.Name n p1) env)::starEach [.Name c p2] env:=by intro _;rfl)(hs2:∀env:Env,starEach [.Name c p2] env=(false,eval (.Name c p2) env)::starEach [] env:=by intro _;rfl)(hpl:(backTo pos (starEach [.Name c p2] X.env)).any (·.1)=false:=by rfl) :
  PDE (Exc (Pn X dx oD) a o) (.Call (.Name "isinstance" p) [.Name n p1,.Name c p2] [] pos) (aD1 b j a):=by
 have hc:mV (Exc (Pn X dx oD) a o) (.builtin "isinstance") λvs H Q=>vs=[.ref a,.ref Cc]/\Q (.bl b) H:=by
  intro pins s σ H xs us Q I rs ⟨e,q⟩;subst e;obtain⟨u1,us1,rfl,r1,rs1⟩:∃u1 us1,us=u1::us1/\cT (.ref a) u1/\cG [.ref Cc] us1:=by cases rs with|cons r t=>exact⟨_,_,rfl,r,t⟩
  obtain⟨u2,us2,rfl,r2,rs2⟩:∃u2 us2,us1=u2::us2/\cT (.ref Cc) u2/\cG [] us2:=by cases rs1 with|cons r t=>exact⟨_,_,rfl,r,t⟩
  obtain rfl:us2=[]:=by cases rs2;rfl
  obtain rfl:u1=Value.ref a:=r1;obtain rfl:u2=Value.ref Cc:=r2;have pn1:=I.pin (a,o) (mem_append_left _ (mem_cons_self));have pn2:=I.pin (dx,oD) (mem_append_left _ (mem_cons_of_mem _ (mem_cons_self)));exact kia_one (aF9 ek ho) I.kIn ⟨pn1.1,pn2.1⟩ hki (λz=>nomatch z) λtk=>⟨.bl b,H,I.tok tk,rfl,q⟩
 refine cY (uY (X:=Exc (Pn X dx oD) a o) hc hgi hmi rfl (pE (tO (X:=Exc (Pn X dx oD) a o) (i:=j) hj hnl hd1 hd2) (pE (aDd (X:=Exc (Pn X dx oD) a o) (v:=.ref Cc) hgc hcc rfl hd3) aC0 (hs2 _)) (hs _)) (by decide) (by decide) (hs _) hpl) λσ H Q ⟨ρ,M,Q',re,hm,⟨e,q⟩,k⟩=>?_;obtain⟨v,e1,rv⟩:=re.get j _ e;obtain rfl:=bO rv;exact⟨_,e1,rfl,k _ H ⟨_,M,eW,hm,.refl H,q⟩⟩
end
theorem aDc.nm {K:Frag}{mg:Str->Option Value}{x:Str}{C:Addr}(h:aDc K mg x C):mg x=some (.ref C):=h.1
def aJF (g:Bool->Bool)(ta:DE)(tn:DA):DE:=λρ M Q=>ta ρ M λx M1=>tn ρ M1 λds M2=>match x,ds with
 |.int k,[.int i,.int j]=>Q (.bl (g (decide (i<=k/\k<j)))) M2
 |_,_=>False
section
variable {X:Cx}{a n m:Expr}{ta:DE}{tn:DA}{pos p pos':Pos}
end
section
variable {X:Cx}{o e e2:Expr}{to te ti:DE}{apos cpos pos:Pos}
end
section
variable {prog:Program}{w:World}{A:Around}{E:Value->Shared->Prop}{s:Shared}{K:Frag}{x C D:Addr}{ox:Obj}{od:Option Obj}
end
section
variable {X:Cx}{n c:Str}{C Cc a dx:Addr}{o oD:Obj}{p p1 p2 pos:Pos}{j:Nat}
theorem zY {b:Bool}(ho:ExY o C dx)(ek:tV X.K C)(hcc:X.mg c = some (.ref Cc))(hki:kitOne X.K (.ref C) (.ref Cc) = some b)(hmi:X.mg "isinstance" = none)(hj:X.N[j]? = some n:=by rfl)(hnl:Vis X.env.scope n:=by first|exact Or.inl rfl|exact Or.inr (Or.inl rfl)|exact Or.inr (Or.inr rfl))(hgi:Gl X "isinstance":=by rfl)(hgc:Gl X c:=by rfl)(hd1:(n==("__debug__":Str))=false:=by decide)(hd2:(n==("__classdict__":Str))=false:=by decide)(hd3:(c==("__debug__":Str)) = false:=by decide)(hs:∀env:Env,starEach [.Name n p1,.Name c p2] env = (false,eval (.Name n p1) env) :: starEach [.Name c p2] env:=by intro _;rfl)(hs2:∀env:Env,starEach [.Name c p2] env = (false,eval (.Name c p2) env) :: starEach [] env:=by intro _;rfl)(hpl:(backTo pos (starEach [.Name c p2] X.env)).any (·.1) = false:=by rfl):ZE (Exc (Pn X dx oD) a o) (.Call (.Name "isinstance" p) [.Name n p1,.Name c p2] [] pos) (aD1 b j a):=.i (aJU ho ek hcc hki hmi hj hnl hgi hgc hd1 hd2 hd3 hs hs2 hpl)
end
section
variable {X:Cx}{a n m:Expr}{ta:DE}{tn:DA}{pos p pos':Pos}
end
end Dd
namespace Ty
open PySem PySem.Builtin PySem.Builtin.Str PySem.StrLaws
noncomputable abbrev cl (x:Str):List Nat:=x.cps.toList
noncomputable abbrev one (c:Nat):Str:=⟨#[c]⟩
theorem ext {x y:Str}(h:cl x=cl y):x=y:=Str.ext' (Array.toList_inj.mp h)
noncomputable def jl (c:Nat):List (List Nat)->List Nat
 |[]=>[]
 |[x]=>x
 |x::y::r=>x++c::jl c (y::r)
end Ty
namespace Dd
open PySem PySem.Spec PyProof.Rows L2 Mz
open PySem.Builtin.Str (glued occurrences partsBetween strSub subAt)
def aPW:D2:=λx y M Q=>match x,y with
 |.str i,.str j=>i.length+j.length<=1000000/\Q (.str (i++j)) M
 |_,_=>False
def aPm:D2:=λx y M Q=>match x,y with
 |.str i,.int n=>(n=0∨n=1)/\Q (.str (if n=1 then i else Str.empty)) M
 |_,_=>False
def aQV:DSp:=λds M Q=>match ds with
 |[.int i]=>i.natAbs.log2<1920/\Q (.str (toString i)) M
 |_=>False
def aOm:DSp:=λds M Q=>match ds with
 |[.str x]=>∃n,PySem.intText? x=some n/\x.length<=640/\Q (.int n) M
 |_=>False
section
variable {X:Cx}
noncomputable def aLT (x y:Str):Bool:=decide (0+y.length<=x.length)&&subAt x y 0
noncomputable def aQu (x:Str):Bool:=x.cps.all (·<128)
noncomputable def aQN (x:Str):Bool:=x.length > 0&&x.cps.all Unicode.isDigit
end
open PySem.Builtin.Str (glued)
section
variable {prog:Program}{w:World}{A:Around}{E:Value->Shared->Prop}{s:Shared}
end
section
variable {X:Cx}{pos:Pos}{e a b o e1 e2 e3:Expr}{es:List Expr}{te ta tb to t1 t2 t3:DE}{apos cpos:Pos}
def aOv (t:DGs):DG:=λd ρ M Q=>match d with
 |.ref a=>∃d0 ds,M a=some (d0::ds)/\∀p:Addr,M p=none->t [d0,.ref p] ρ (bK M p ds) Q
 |_=>False
def aKF (sep:Str)(Q:DQ)(ds:List D)(M2:DM):Prop:=match ds with
 |[.ref a]=>∃ss:List Str,M2 a=some (ss.map D.str)/\(ss.map (·.length)).sum+ss.length*sep.length<=1000000/\Q (.str (glued sep ss)) M2
 |_=>False
def aOM (to te:DE):DE:=λρ M Q=>to ρ M λx M1=>match x with
 |.str sep=>kZ te pT ρ M1 (aKF sep Q)
 |_=>False
def aG1 (y:Str)(Q:DQ)(ds:List D)(M2:DM):Prop:=match ds with
 |[.str z]=>∃c ss,z=Ty.one c/\y=glued (Ty.one c) ss/\ss≠[]/\(∀s∈ss,c∉Ty.cl s)/\c<256/\y.length<=900000/\∀p:Addr,M2 p=none->Q (.ref p) (bK M2 p (ss.map D.str))
 |_=>False
def aNX (to te:DE):DE:=λρ M Q=>to ρ M λx M1=>match x with
 |.str y=>kZ te pT ρ M1 (aG1 y Q)
 |_=>False
def aKW (y:Str)(Q:DQ)(ds:List D)(M2:DM):Prop:=match ds with
 |[.str z]=>∃c,z=Ty.one c/\y.length<=900000/\((c∉Ty.cl y/\Q (.tup [.str y,.str Str.empty,.str Str.empty]) M2)∨(∃a b:Str,Ty.cl y=Ty.cl a++c::Ty.cl b/\c∉Ty.cl a/\Q (.tup [.str a,.str (Ty.one c),.str b]) M2))
 |_=>False
def aON (to te:DE):DE:=λρ M Q=>to ρ M λx M1=>match x with
 |.str y=>kZ te pT ρ M1 (aKW y Q)
 |_=>False
def aHm (y:Str)(Q:DQ)(ds:List D)(M2:DM):Prop:=match ds with
 |[.str z]=>Q (.bl (aLT y z)) M2
 |_=>False
def aLH (to te:DE):DE:=λρ M Q=>to ρ M λx M1=>match x with
 |.str y=>kZ te pT ρ M1 (aHm y Q)
 |_=>False
def aQQ (to:DE):DE:=λρ M Q=>to ρ M λx M1=>match x with
 |.str y=>Q (.bl (aQu y)) M1
 |_=>False
def aQh (to:DE):DE:=λρ M Q=>to ρ M λx M1=>match x with
 |.str y=>Q (.bl (aQN y)) M1
 |_=>False
end
section
variable {X:Cx}{pos p0 p1 p2 p3 p4:Pos}{e e1 e2:Expr}{te t1 t2:DE}{lo hi:Option Expr}{tl th:DO}{c:Str}
def aKU (x:D)(lo hi:Option Int)(M:DM)(Q:DQ):Prop:=match x,lo,hi with
 |.str y,some i,none=>y.length<=1000000/\Q (.str (Txt.slice y (some i) none)) M
 |_,_,_=>False
def aQz (te:DE)(tl th:DO):DE:=λρ M Q=>te ρ M λx M1=>tl ρ M1 λl M2=>th ρ M2 λh M3=>aKU x l h M3 Q
def aQJ (te:DE):DE:=λρ M Q=>te ρ M λx M1=>match x with
 |.int i=>i.natAbs.log2<1920/\Q (.str (toString i)) M1
 |_=>False
def aQq (c:Str)(te:DE):DE:=λρ M Q=>te ρ M λx M1=>match x with
 |.int i=>i.natAbs.log2<1920/\(c++Str.ofString (toString i)).length<=1000000/\Q (.str (c++Str.ofString (toString i))) M1
 |_=>False
def aQS (c:Str)(t1 t2:DE):DE:=λρ M Q=>t1 ρ M λx M1=>match x with
 |.int i=>i.natAbs.log2<1920/\(Str.ofString (toString i)++c).length<=1000000/\t2 ρ M1 λy M2=>match y with
  |.int n=>n.natAbs.log2<1920/\(Str.ofString (toString i)++c++Str.ofString (toString n)).length<=1000000/\Q (.str (Str.ofString (toString i)++c++Str.ofString (toString n))) M2
  |_=>False
 |_=>False
noncomputable def aLJ:D->Bool
 |.non=>true
 |_=>false
def aQc (g:Bool->Bool):D2:=λx y M Q=>match x,y with
 |.non,.ref a=>∃ds,M a=some ds/\ds.all (bB 60)=true/\Q (.bl (g (ds.any aLJ))) M
 |_,_=>False
def aQs (K:Frag)(T1 T2:String)(te:DE):DE:=λρ M Q=>te ρ M λd M1=>∃T k,tyD d=some T/\PySem.W.kitAny K (.type T) [.type T1,.type T2]=some k/\Q (.bl k) M1
end
section
variable {prog:Program}{w:World}{A:Around}{E:Value->Shared->Prop}{s:Shared}
end
section
variable {X:Cx}{pos:Pos}{e a b o e1 e2 e3:Expr}{es:List Expr}{te ta tb to t1 t2 t3:DE}{apos cpos:Pos}
end
section
variable {X:Cx}{pos p0 p1 p2 p3 p4:Pos}{e e1 e2:Expr}{te t1 t2:DE}{lo hi:Option Expr}{tl th:DO}{c:Str}
end
end Dd
namespace Ty
open PySem PySem.Builtin.Str PySem.NumText PyProof.Rows
noncomputable def nt (n:Int):Str:=Str.ofString (toString n)
end Ty
namespace Dd
open PySem PySem.Spec PyProof.Rows L2 Mz
section
variable {prog:Program}{w:World}{A:Around}{E:Value->Shared->Prop}{s:Shared}
end
section
variable {X:Cx}{x:Str}{e:Expr}{te:DE}{pos:Pos}
def aG9:D2:=λx y M Q=>match x,y with
 |.ref l,.ref b=>∃xs zs,M l=some xs/\M b=some zs/\xs.length+zs.length<=1000/\Q (.ref l) (bK M l (xs++zs))
 |_,_=>False
def aPG (i:Nat)(te:DE):DS:=λE ρ M=>match ρ[i]? with
 |some (some z)=>te ρ M λd M1=>aG9 z d M1 λr M2=>E.nx (ρ.set i (some r)) M2
 |_=>False
end
section
variable {prog:Program}{w:World}{A:Around}{E:Value->Shared->Prop}{s:Shared}
end
section
variable {X:Cx}{x:Str}{e:Expr}{te:DE}{pos:Pos}
end
inductive XC where
 |x (C:Addr)
 |y (C:Addr) (f:Str) (i:Int)
abbrev XV:=XC->cO->DM->Prop
def aQO (X:Cx)(H1:Hp)(s1:Shared)(M1:DM)(ev:Value)(s':Shared):XC->Prop
 |.x C=>CXr X.prog X.w X.stack H1 s1 (λc _ H'=>c=.ref C/\∃M',cI X.K M' H'/\aU M1 M') ev s'
 |.y C f i=>CXy X.prog X.w X.stack H1 s1 (XW X.K C f M1 i) ev s'
def XOk (X:Cx)(pins:List (Addr×Obj))(H:Hp)(V:XV)(E':Value->Shared->Prop):Prop :=
 ∀xc σ H1 s1 M1 ρ ev s',Inv X pins σ H1 s1->gY X.K H1 ρ σ->Ext H H1->V xc ρ M1->aQO X H1 s1 M1 ev s' xc->E' ev s'
theorem XOk.at {X:Cx}{pins:List (Addr×Obj)}{H H':Hp}{V:XV}{E':Value->Shared->Prop}(h:XOk X pins H V E')(e:Ext H H'):XOk X pins H' V E' :=
 λxc σ H1 s1 M1 ρ ev s' I re ex v y=>h xc σ H1 s1 M1 ρ ev s' I re (e.trans ex) v y
def aPS (X:Cx)(t:XV->DS)(pins:List (Addr×Obj))(En:sT)(E':Value->Shared->Prop)(σ:L2.St)(H:Hp):Prop :=
 ∃ρ M De V,gY X.K H ρ σ/\cI X.K M H/\t V De ρ M/\lG X.K H De En/\XOk X pins H V E'
def PBt (X:Cx)(st:Stmt)(t:XV->DS):Prop:=∀pins s σ H En (E':Value->Shared->Prop),Inv X pins σ H s->aPS X t pins En E' σ H->wpAny (model X.prog X.w) X.A (exec st X.env) (SP X pins En) E' s
def aBt (X:Cx)(sts:List Stmt)(t:XV->DS):Prop:=∀pins s σ H En (E':Value->Shared->Prop),Inv X pins σ H s->aPS X t pins En E' σ H->wpAny (model X.prog X.w) X.A (execs sts X.env) (SP X pins En) E' s
@[irreducible] def ZBt (X:Cx)(st:Stmt)(t:XV->DS):Prop:=PBt X st t
theorem ZBt.o {X:Cx}{e:Stmt}{t:XV->DS}(h:ZBt X e t):PBt X e t:=by unfold ZBt at h;exact h
theorem ZBt.i {X:Cx}{e:Stmt}{t:XV->DS}(h:PBt X e t):ZBt X e t:=by unfold ZBt;exact h
@[irreducible] def wX (X:Cx)(st:List Stmt)(t:XV->DS):Prop:=aBt X st t
theorem wX.o {X:Cx}{e:List Stmt}{t:XV->DS}(h:wX X e t):aBt X e t:=by unfold wX at h;exact h
theorem wX.i {X:Cx}{e:List Stmt}{t:XV->DS}(h:aBt X e t):wX X e t:=by unfold wX;exact h
def aMM (t:DS):XV->DS:=λ_=>t
def aHq (t u:XV->DS):XV->DS:=λV E ρ M=>t V { E with nx:=u V E } ρ M
def aLf (tc:DT)(t u:XV->DS):XV->DS:=λV E ρ M=>tc ρ M λc M1=>if c=true then t V E ρ M1 else u V E ρ M1
def kY (X:Cx)(k:Nat)(f:Str)(ps:List Str)(ds:List D)(M1:DM):XC->Prop
 |.x C=>∃k1 cond,k1<=k/\iS X.prog X.w X.K X.mg X.base k1 f ps C cond/\cond ds M1
 |.y C fl i=>∃k1 cond,k1<=k/\fW X.prog X.w X.K X.mg X.base k1 f ps C fl cond/\cond ds M1 i
def aE4 (R:List D->DM->XC->Prop)(sp:DSp)(t:DA)(nx:gF->D->cO->DM->Prop):XV->DS:=λV D ρ M=>t ρ M λds M1=>(∃xc,R ds M1 xc/\V xc ρ M1)∨sp ds M1 λd M2=>nx D d ρ M2
def aPL (i:Nat):gF->D->cO->DM->Prop:=λD d ρ M=>D.nx (ρ.set i (some d)) M
def aIk:gF->D->cO->DM->Prop:=λD d _ M=>D.rt d M
section
variable {X:Cx}{st:Stmt}{cP a b:List Stmt}{t:DS}{tb ub:XV->DS}{c:Expr}{tc:DT}{pos:Pos}
theorem aJb:aBt X [] (aMM aDC):=λpins s σ H En E' I ⟨ρ,M,De,V,re,hm,q,k,_⟩=>wpAny_execs_nil ⟨σ,H,I,k.nx σ H ⟨ρ,M,re,hm,.refl H,q⟩⟩
theorem aJn (h:PBt X st tb):aBt X [st] tb:=λpins s σ H En E' I hq=>by
 refine wpAny_execs_cons (thn (h pins s σ H En E' I hq) λf s1 q=>?_);cases f with
 |next=>exact wpAny_execs_nil q
 |ret v=>exact q
 |brk=>exact q
 |cont=>exact q
theorem aHo (h1:PBt X st tb)(h2:aBt X cP ub):aBt X (st::cP) (aHq tb ub):=λpins s σ H En E' I ⟨ρ,M,De,V,re,hm,q,k,xo⟩=>by
 refine wpAny_execs_cons (thn (h1 pins s σ H { En with nx:=λσ' H'=>LN X.K H (ub V De) σ' H' } E' I ⟨ρ,M,{ De with nx:=ub V De },V,re,hm,q,⟨λσ' H' z=>z,k.rt,k.bk,k.ct⟩,xo⟩) λf s1 q=>?_);cases f with
 |next =>
  obtain⟨σ',H',I',ρ',M',re',hm',ex,q'⟩:=q;exact h2 pins s1 σ' H' En E' I' ⟨ρ',M',De,V,re',hm',q',k.at ex,xo.at ex⟩
 |ret v=>exact q
 |brk=>exact q
 |cont=>exact q
theorem aO7 (hc:PDT X c tc)(ha:aBt X a tb)(hb:aBt X b ub)(hX:∀e s,X.xe e s->False:=by exact λ_ _ z=>z):PBt X (.If c a b pos) (aLf tc tb ub):=λpins s σ H En E' I ⟨ρ,M,De,V,re,hm,q,k,xo⟩=>by
 refine wpAny_If (wpAny_mono (hc pins s σ H (LT X.K H _) I ⟨ρ,M,_,re,hm,q,λ_ _ z=>z⟩) (λd s1 ⟨H1,I1,M1,hm1,ex,q1⟩=>?_) λev s' z=>(hX ev s' z).elim);cases d with
 |true=>exact ha pins s1 σ H1 En E' I1 ⟨ρ,M1,De,V,re.ext ex,hm1,q1,k.at ex,xo.at ex⟩
 |false=>exact hb pins s1 σ H1 En E' I1 ⟨ρ,M1,De,V,re.ext ex,hm1,q1,k.at ex,xo.at ex⟩
end
section
variable {X:Cx}{e:Expr}{es:List Expr}{t:DA}{x f:Str}{ps:List Str}{sp:DSp}{R:List D->DM->XC->Prop}{k2 k i:Nat}{px pf pc pa:Pos}
theorem aI0 {pins:List (Addr×Obj)}{σ:L2.St}{H1:Hp}{s1:Shared}{M1:DM}{ds:List D}{us:List Value}{vs:List V}{Q:Value->Shared->Prop}{E:Value->Shared->Prop}{f':Addr}{Q':DQ}(hh:Has X.prog X.w X.K X.mg X.base k2 f ps sp)(hr:eB k X.A)(hk2:k2<=k)(hmf:X.mg f=some (.ref f'))(I1:Inv X pins σ H1 s1)(rv:cG vs us)(rs:cA X.K H1 ds vs)(hm1:cI X.K M1 H1)(q:sp ds M1 Q')(hQ:∀u s',EP X pins σ (LQ X.K H1 Q') u s'->Q u s'):wpAny (model X.prog X.w) X.A (call (.ref f') us) Q E s1:=by
 obtain⟨f1,fd,F,hm,_,hb⟩:=hh;have hf:f1=f':=by have:=hm.symm.trans hmf;cases this;rfl
 subst hf;have hsp:rC X.K sp vs H1 (LQ X.K H1 Q') (λ_ _ _=>False):=⟨ds,M1,Q',rs,hm1,q,λv H' z=>z⟩;have hl:(us++[]).length=ps.length:=by rw[append_nil,<- rv.length];exact F.len _ _ _ _ hsp
 have hbb:=hb s1 us I1.kIn hl;rw[append_nil] at hbb;refine wpAny_call (codeAny_mono (F.run X.A X.stack s1 H1 ⟨us,[]⟩ us vs _ _ (hr.mono hk2) I1.env0 hbb rv hsp) λr s' hq=>?_);cases r with
 |error ev=>exact False.elim hq
 |ok fl =>
  cases fl with
  |ret u=>exact hQ u s' (I1.after hq)
  |next=>exact False.elim hq
  |brk=>exact False.elim hq
  |cont=>exact False.elim hq
theorem aN7 {pins:List (Addr×Obj)}{σ:L2.St}{H H1:Hp}{s1:Shared}{M1:DM}{ds:List D}{us:List Value}{vs:List V}{ρ:cO}{V:XV}{Q:Value->Shared->Prop}{E':Value->Shared->Prop}{f':Addr}{Q':DQ}(hR:∀ds M1 xc,R ds M1 xc->kY X k f ps ds M1 xc)(hh:Has X.prog X.w X.K X.mg X.base k2 f ps sp)(hr:eB k X.A)(hk2:k2<=k)(hmf:X.mg f=some (.ref f'))(I1:Inv X pins σ H1 s1)(re:gY X.K H1 ρ σ)(ex:Ext H H1)(rv:cG vs us)(rs:cA X.K H1 ds vs)(hm1:cI X.K M1 H1)(xo:XOk X pins H V E')(q:(∃xc,R ds M1 xc/\V xc ρ M1)∨sp ds M1 Q')(hQ:∀u s',EP X pins σ (LQ X.K H1 Q') u s'->Q u s'):wpAny (model X.prog X.w) X.A (call (.ref f') us) Q E' s1:=by
 rcases q with⟨xc,hr1,v⟩|q
 ·cases xc with
  |x C =>
   obtain⟨k1,cond,hk1,hH,hc⟩:=hR _ _ _ hr1;exact aKf hH hh hr hk1 hk2 hmf I1 rv rs hm1 (Q':=λ_ _=>False) (.inl ⟨hc,λev s' y=>xo (.x C) σ H1 s1 M1 ρ ev s' I1 re ex v y⟩) λu s' ⟨_,_,_,_,_,_,_,_,_,z⟩=>z.elim
  |y C fl j =>
   obtain⟨k1,cond,hk1,hH,hc⟩:=hR _ _ _ hr1;exact aIG hH hh hr hk1 hk2 hmf I1 rv rs hm1 (Q':=λ_ _=>False) (.inl ⟨j,hc,λev s' y=>xo (.y C fl j) σ H1 s1 M1 ρ ev s' I1 re ex v y⟩) λu s' ⟨_,_,_,_,_,_,_,_,_,z⟩=>z.elim
 ·exact aI0 hh hr hk2 hmf I1 rv rs hm1 q hQ
theorem aNc (hR:∀ds M1 xc,R ds M1 xc->kY X k f ps ds M1 xc)(hh:Has X.prog X.w X.K X.mg X.base k2 f ps sp)(hr:eB k X.A)(hk2:k2<=k)(ha:PDA X (e::es) t)(hX:∀e s,X.xe e s->False:=by exact λ_ _ z=>z)(hg:Gl X f:=by rfl)(hdb:(f==("__debug__":Str))=false:=by decide)(he:starEach (e::es) X.env=(false,eval e X.env)::starEach es X.env:=by rfl)(hpl:(backTo pc (starEach es X.env)).any (·.1)=false:=by rfl) :
  PBt X (.Return (some (.Call (.Name f pf) (e::es) [] pc)) pa) (aE4 R sp t aIk):=λpins s σ H En E' I ⟨ρ,M,De,V,re,hm,q,k',xo⟩=>by
 obtain⟨f',fd,F,hmf,hk,hb⟩:=id hh;refine wpAny_Return_some (wpAny_Call_Name_kw (iW I hg hmf ?_ hdb));refine callWith_K (h₀:=X.base) I.ok.mod.kin hk (wpAny_mono (ha pc pins s σ H (LA X.K H _) I ⟨ρ,M,_,re,hm,q,λvs H' z=>z⟩) (λus s1 ⟨vs,H1,I1,rv,ds,M1,rs,hm1,ex,q1⟩=>⟨I1.kIn,?_⟩) λev s' z=>(hX ev s' z).elim) he hpl;exact aN7 hR hh hr hk2 hmf I1 (re.ext ex) ex rv rs hm1 xo q1 λu s' ⟨v,H2,I2,rr,d,M2,rd,hm2,ex2,q2⟩=>⟨v,σ,H2,I2,rr,k'.rt v H2 ⟨d,M2,rd,hm2,ex.trans ex2,q2⟩⟩
end
def aGZ (tb:XV->DS)(v:gF->XV):DS:=λDe ρ M=>tb (v De) De ρ M
section
variable {X:Cx}{n cm f1 f2:Str}{CX C1 C2 Cm:Addr}{j:Nat}{tX:Addr->DS}{t1 t2:Addr->Int->DS}{body suite:List Stmt}{b0:Stmt}{tb:XV->DS}{pcm ph pos:Pos}
theorem aIs {e:Expr}:PDE X e (λ_ _ _=>False):=λ_ _ _ _ _ _ ⟨_,_,_,_,_,z,_⟩=>z.elim
end
section
variable {X:Cx}{o e:Expr}{to te:DE}
def aHy (p:Addr)(Q:DQ)(ys:List D)(M2:DM):Prop:=match ys with
 |[.bl k]=>∃bs:List Bool,M2 p=some (bs.map D.bl)/\Q (.int ((bs.countP (·==k):Nat):Int)) M2
 |_=>False
def aLl (to te:DE):DE:=λρ M Q=>to ρ M λx M1=>match x with
 |.ref p=>(∃ds,M1 p=some ds)/\kZ te pT ρ M1 (aHy p Q)
 |_=>False
end
noncomputable def xV2 (CX:Addr)(C1:Addr)(f1:Str)(j:Nat)(tX:Addr->DS)(t1:Addr->Int->DS)(De:gF):XV:=λxc ρ M=>match xc with
 |.x C=>C=CX/\∀a,tX a (De.un j) (ρ.set j (some (.ref a))) M
 |.y C f i=>C=C1/\f=f1/\∀a,t1 a i (De.un j) (ρ.set j (some (.ref a))) M
section
variable {X:Cx}{n cm f1:Str}{CX C1 Cm:Addr}{j:Nat}{tX:Addr->DS}{t1:Addr->Int->DS}{body suite:List Stmt}{b0:Stmt}{tb:XV->DS}{pcm ph pos:Pos}
theorem aIM (hb:aBt X body tb)(hN:X.N.Nodup)(hcm:X.mg cm=some (.ref Cm))(hmX:exmOne X.K (.ref CX) (.ref Cm)=some true)(hm1:exmOne X.K (.ref C1) (.ref Cm)=some true)(hsX:∀a o,ExO o CX->lK (Exc X a o) (b0::suite) (tX a))(hs1:∀i a o dx oD t,ExY o C1 dx->lookIn f1 oD=some (some (.int i t))->lK (Exc (Pn X dx oD) a o) (b0::suite) (t1 a i))(hj:X.N[j]?=some n:=by rfl)(hnl:X.env.scope.names.lookup n=some .local:=by rfl)(hs:X.stack=X.env::X.outer:=by rfl)(hf:X.env.frame=some X.env.locals:=by rfl)(hex:X.ex=[]:=by rfl)(hX:∀e s,X.xe e s->False:=by exact λ_ _ z=>z)(hgc:Gl X cm:=by rfl)(hdc:(cm==("__debug__":Str))=false:=by decide) :
  PDS X (.Try body [.ExceptHandler (some (.Name cm pcm)) (some n) (b0::suite) ph] [] [] pos) (aGZ tb (xV2 CX C1 f1 j tX t1)):=by
 intro pins s σ H En I ⟨ρ,M,De,re,hm,q,k'⟩;refine wpAny_Try_except ?_;refine wpAny_mono (hb pins s σ H En _ I ⟨ρ,M,De,_,re,hm,q,k',?_⟩) (λf s1 z=>?_) λ_ _ z=>z
 ·intro xc σ' H1 s1 M1 ρ' ev s' I1 re1 ex v y;cases xc with
  |x C =>
   obtain⟨rfl,v⟩:=v;exact aLQ I.ok hs hf hex hX hN hj hnl hcm hgc hdc hmX hsX I1 re1 (k'.at ex) v y
  |y C f i =>
   obtain⟨rfl,rfl,v⟩:=v;exact aJv I.ok hs hf hex hX hN hj hnl hcm hgc hdc hm1 (hs1 i) I1 re1 (k'.at ex) v y
 ·cases f with
  |next=>exact wpAny_execs_nil z
  |ret v=>exact z
  |brk=>exact z
  |cont=>exact z
end
def rX (C:Addr)(cond:List D->DM->Prop):List D->DM->XC->Prop:=λds M xc=>xc=.x C/\cond ds M
def rY (C:Addr)(f:Str)(cond:List D->DM->Int->Prop):List D->DM->XC->Prop:=λds M xc=>∃i,xc=.y C f i/\cond ds M i
def rOr (R1 R2:List D->DM->XC->Prop):List D->DM->XC->Prop:=λds M xc=>R1 ds M xc∨R2 ds M xc
section
variable {X:Cx}{f fl:Str}{ps:List Str}{C:Addr}{k k1:Nat}{R1 R2:List D->DM->XC->Prop}
theorem aDT {cond:List D->DM->Prop}(h:iS X.prog X.w X.K X.mg X.base k1 f ps C cond)(hk:k1<=k):∀ds M1 xc,rX C cond ds M1 xc->kY X k f ps ds M1 xc:=λds M1 xc ⟨e,hc⟩=>by subst e;exact⟨k1,cond,hk,h,hc⟩
theorem aAm {cond:List D->DM->Int->Prop}(h:fW X.prog X.w X.K X.mg X.base k1 f ps C fl cond)(hk:k1<=k):∀ds M1 xc,rY C fl cond ds M1 xc->kY X k f ps ds M1 xc:=λds M1 xc ⟨i,e,hc⟩=>by subst e;exact⟨k1,cond,hk,h,hc⟩
theorem aBL (h1:∀ds M1 xc,R1 ds M1 xc->kY X k f ps ds M1 xc)(h2:∀ds M1 xc,R2 ds M1 xc->kY X k f ps ds M1 xc):∀ds M1 xc,rOr R1 R2 ds M1 xc->kY X k f ps ds M1 xc:=λds M1 xc h=>h.elim (h1 ds M1 xc) (h2 ds M1 xc)
end
section
variable {X:Cx}{n c:Str}{C Cc a:Addr}{o:Obj}{p p1 p2 pos:Pos}{j:Nat}
theorem aJt {b:Bool}(ho:ExO o C)(ek:tV X.K C)(hcc:X.mg c = some (.ref Cc))(hki:kitOne X.K (.ref C) (.ref Cc) = some b)(hmi:X.mg "isinstance"=none)(hj:X.N[j]?=some n:=by rfl)(hnl:Vis X.env.scope n:=by first|exact Or.inl rfl|exact Or.inr (Or.inl rfl)|exact Or.inr (Or.inr rfl))(hgi:Gl X "isinstance":=by rfl)(hgc:Gl X c:=by rfl)(hd1:(n==("__debug__":Str))=false:=by decide)(hd2:(n==("__classdict__":Str))=false:=by decide)(hd3:(c==("__debug__":Str))=false:=by decide)(hs:∀env:Env,starEach [.Name n p1,.Name c p2] env=(false,eval (.Name n p1) env)::starEach [.Name c p2] env:=by intro _;rfl)(hs2:∀env:Env,starEach [.Name c p2] env=(false,eval (.Name c p2) env)::starEach [] env:=by intro _;rfl)(hpl:(backTo pos (starEach [.Name c p2] X.env)).any (·.1)=false:=by rfl) :
  PDE (Exc X a o) (.Call (.Name "isinstance" p) [.Name n p1,.Name c p2] [] pos) (aD1 b j a):=by
 have hc:mV (Exc X a o) (.builtin "isinstance") λvs H Q=>vs=[.ref a,.ref Cc]/\Q (.bl b) H:=by
  intro pins s σ H xs us Q I rs ⟨e,q⟩;subst e;obtain⟨u1,us1,rfl,r1,rs1⟩:∃u1 us1,us=u1::us1/\cT (.ref a) u1/\cG [.ref Cc] us1:=by cases rs with|cons r t=>exact⟨_,_,rfl,r,t⟩
  obtain⟨u2,us2,rfl,r2,rs2⟩:∃u2 us2,us1=u2::us2/\cT (.ref Cc) u2/\cG [] us2:=by cases rs1 with|cons r t=>exact⟨_,_,rfl,r,t⟩
  obtain rfl:us2=[]:=by cases rs2;rfl
  obtain rfl:u1=Value.ref a:=r1;obtain rfl:u2=Value.ref Cc:=r2;have pn:=I.pin (a,o) (mem_append_left _ (mem_cons_self));exact kia_one (aHu ek ho) I.kIn pn.1 hki (λz=>nomatch z) λtk=>⟨.bl b,H,I.tok tk,rfl,q⟩
 refine cY (uY (X:=Exc X a o) hc hgi hmi rfl (pE (tO (X:=Exc X a o) (i:=j) hj hnl hd1 hd2) (pE (aDd (X:=Exc X a o) (v:=.ref Cc) hgc hcc rfl hd3) aC0 (hs2 _)) (hs _)) (by decide) (by decide) (hs _) hpl) λσ H Q ⟨ρ,M,Q',re,hm,⟨e,q⟩,k⟩=>?_;obtain⟨v,e1,rv⟩:=re.get j _ e;obtain rfl:=bO rv;exact⟨_,e1,rfl,k _ H ⟨_,M,eW,hm,.refl H,q⟩⟩
end
section
variable {X:Cx}{st:Stmt}{cP a b:List Stmt}{t:DS}{tb ub:XV->DS}{c:Expr}{tc:DT}{pos:Pos}
theorem aDl :wX X [] (aMM aDC):=.i (aJb)
theorem aA6 (h:ZBt X st tb):wX X [st] tb:=.i (aJn h.o)
theorem aBT (h1:ZBt X st tb)(h2:wX X cP ub):wX X (st::cP) (aHq tb ub):=.i (aHo h1.o h2.o)
theorem aG3 (hc:ZT X c tc)(ha:wX X a tb)(hb:wX X b ub)(hX:∀e s,X.xe e s->False:=by exact λ_ _ z=>z):ZBt X (.If c a b pos) (aLf tc tb ub):=.i (aO7 hc.o ha.o hb.o hX)
end
section
variable {X:Cx}{e:Expr}{es:List Expr}{t:DA}{x f:Str}{ps:List Str}{sp:DSp}{R:List D->DM->XC->Prop}{k2 k i:Nat}{px pf pc pa:Pos}
theorem aCC (hR:∀ds M1 xc,R ds M1 xc->kY X k f ps ds M1 xc)(hh:Has X.prog X.w X.K X.mg X.base k2 f ps sp)(hr:eB k X.A)(hk2:k2<=k)(ha:ZA X (e::es) t)(hX:∀e s,X.xe e s->False:=by exact λ_ _ z=>z)(hg:Gl X f:=by rfl)(hdb:(f==("__debug__":Str))=false:=by decide)(he:starEach (e::es) X.env=(false,eval e X.env)::starEach es X.env:=by rfl)(hpl:(backTo pc (starEach es X.env)).any (·.1)=false:=by rfl):ZBt X (.Return (some (.Call (.Name f pf) (e::es) [] pc)) pa) (aE4 R sp t aIk):=.i (aNc hR hh hr hk2 ha.o hX hg hdb he hpl)
end
section
variable {X:Cx}{n cm f1 f2:Str}{CX C1 C2 Cm:Addr}{j:Nat}{tX:Addr->DS}{t1 t2:Addr->Int->DS}{body suite:List Stmt}{b0:Stmt}{tb:XV->DS}{pcm ph pos:Pos}
theorem aF2 {e:Expr}:ZE X e (λ_ _ _=>False):=.i (aIs)
end
section
variable {X:Cx}{o e:Expr}{to te:DE}
end
section
variable {X:Cx}{n cm f1:Str}{CX C1 Cm:Addr}{j:Nat}{tX:Addr->DS}{t1:Addr->Int->DS}{body suite:List Stmt}{b0:Stmt}{tb:XV->DS}{pcm ph pos:Pos}
theorem aGk (hb:wX X body tb)(hN:X.N.Nodup)(hcm:X.mg cm=some (.ref Cm))(hmX:exmOne X.K (.ref CX) (.ref Cm)=some true)(hm1:exmOne X.K (.ref C1) (.ref Cm)=some true)(hsX:∀a o,ExO o CX->ZSs (Exc X a o) (b0::suite) (tX a))(hs1:∀i a o dx oD t,ExY o C1 dx->lookIn f1 oD=some (some (.int i t))->ZSs (Exc (Pn X dx oD) a o) (b0::suite) (t1 a i))(hj:X.N[j]?=some n:=by rfl)(hnl:X.env.scope.names.lookup n=some .local:=by rfl)(hs:X.stack=X.env::X.outer:=by rfl)(hf:X.env.frame=some X.env.locals:=by rfl)(hex:X.ex=[]:=by rfl)(hX:∀e s,X.xe e s->False:=by exact λ_ _ z=>z)(hgc:Gl X cm:=by rfl)(hdc:(cm==("__debug__":Str))=false:=by decide):ZS X (.Try body [.ExceptHandler (some (.Name cm pcm)) (some n) (b0::suite) ph] [] [] pos) (aGZ tb (xV2 CX C1 f1 j tX t1)):=.i (aIM hb.o hN hcm hmX hm1 (λa o h=>(hsX a o h).o) (λi a o dx oD t h1 h2=>(hs1 i a o dx oD t h1 h2).o) hj hnl hs hf hex hX hgc hdc)
end
section
variable {X:Cx}{f fl:Str}{ps:List Str}{C:Addr}{k k1:Nat}{R1 R2:List D->DM->XC->Prop}
end
section
variable {X:Cx}{n c:Str}{C Cc a:Addr}{o:Obj}{p p1 p2 pos:Pos}{j:Nat}
theorem aAp {b:Bool}(ho:ExO o C)(ek:tV X.K C)(hcc:X.mg c = some (.ref Cc))(hki:kitOne X.K (.ref C) (.ref Cc) = some b)(hmi:X.mg "isinstance" = none)(hj:X.N[j]? = some n:=by rfl)(hnl:Vis X.env.scope n:=by first|exact Or.inl rfl|exact Or.inr (Or.inl rfl)|exact Or.inr (Or.inr rfl))(hgi:Gl X "isinstance":=by rfl)(hgc:Gl X c:=by rfl)(hd1:(n==("__debug__":Str))=false:=by decide)(hd2:(n==("__classdict__":Str))=false:=by decide)(hd3:(c==("__debug__":Str)) = false:=by decide)(hs:∀env:Env,starEach [.Name n p1,.Name c p2] env = (false,eval (.Name n p1) env) :: starEach [.Name c p2] env:=by intro _;rfl)(hs2:∀env:Env,starEach [.Name c p2] env = (false,eval (.Name c p2) env) :: starEach [] env:=by intro _;rfl)(hpl:(backTo pos (starEach [.Name c p2] X.env)).any (·.1) = false:=by rfl):ZE (Exc X a o) (.Call (.Name "isinstance" p) [.Name n p1,.Name c p2] [] pos) (aD1 b j a):=.i (aJt ho ek hcc hki hmi hj hnl hgi hgc hd1 hd2 hd3 hs hs2 hpl)
end
section
variable {prog:Program}{w:World}{A:Around}{I S:Addr}{fp wr:List Addr}{n:Nat}{P:Nat->Value->Prop}{St:Nat->Heap->Prop}{R:Result->Shared->Prop}{dv:Value}
end
section
variable {prog:Program}{w:World}{A:Around}{E:Value->Shared->Prop}{s:Shared}{l:Addr}{xs:Array (Int×Tok)}{dv:Value}
end
section
variable {X:Cx}{pos p kp:Pos}{e d:Expr}{te td:DE}
def aPr (te td:DE):DE:=λρ M Q=>te ρ M λx M1=>td ρ M1 λy M2=>match x,y with
 |.ref a,.int k=>∃ns:List Int,M2 a=some (ns.map D.int)/\∀m:Int,(ns=[]->m=k)->(∀n∈ns,n<=m)->Q (.int m) M2
 |_,_=>False
end
section
variable {prog:Program}{w:World}{A:Around}{I S:Addr}{fp wr:List Addr}{n:Nat}{P:Nat->Value->Prop}{St:Nat->Heap->Prop}{R:Result->Shared->Prop}{dv:Value}
end
section
variable {prog:Program}{w:World}{A:Around}{E:Value->Shared->Prop}{s:Shared}{l:Addr}{xs:Array (Int×Tok)}{dv:Value}
end
section
variable {X:Cx}{pos p kp:Pos}{e d:Expr}{te td:DE}
end
def aOp:DSp:=λds M Q=>match ds with
 |[.int i]=>i.natAbs.log2<1920/\Q (.str (toString i)) M
 |[.str x]=>Q (.str x) M
 |_=>False
section
variable {X:Cx}
end
section
variable {X:Cx}{n cm fl:Str}{C Cm:Addr}{j:Nat}{ts:Addr->Int->DS}{b0:Stmt}{suite:List Stmt}{pcm ph pos:Pos}
end
section
variable {X:Cx}{n c1 c2 f1 f2:Str}{C1 C2 D1 D2:Addr}{j:Nat}{t1 t2:Addr->Int->DS}{body s1 s2:List Stmt}{b1 b2:Stmt}{h3:ExceptHandler}{tb:XV->DS}{p1 p2 ph1 ph2 pos:Pos}
end
section
variable {X:Cx}{n cm fl:Str}{C Cm:Addr}{j:Nat}{ts:Addr->Int->DS}{b0:Stmt}{suite:List Stmt}{pcm ph pos:Pos}
end
section
variable {X:Cx}{n c1 c2 f1 f2:Str}{C1 C2 D1 D2:Addr}{j:Nat}{t1 t2:Addr->Int->DS}{body s1 s2:List Stmt}{b1 b2:Stmt}{h3:ExceptHandler}{tb:XV->DS}{p1 p2 ph1 ph2 pos:Pos}
end
end Dd
namespace L2
open PySem PySem.Spec PyProof.Rows
section
variable {prog:Program}{w:World}{A:Around}{E:Value->Shared->Prop}{s:Shared}
theorem aH8 {b q:Addr}{k:Nat}{us:Array Value}{y:Value}{Q:Value->Shared->Prop}(hb:s.heap.IsTupleIter b q k)(hq:s.heap.IsTuple q us)(hy:us[k]?=some y)(hQ:∀h',h'.IsTupleIter b q (k+1)->Heap.SameBut b s.heap h'->Q y { s with heap:=h' }):wpAny (model prog w) A (Builtin.SmallTypes.nextOf (.ref b)) Q E s:=by obtain⟨ob,gb,cb,db⟩:=id hb;obtain⟨oq,gq,_,nq,dq⟩:=hq;unfold Builtin.SmallTypes.nextOf;refine wpAny_bind (wpAny_callSpecial?_slot (name:=Str.ofString "__next__") hb.typeIs F.slot_tuple_iterator_next (wpAny_call_entry F.slot_tuple_iterator_next hb.typeIs F.entry_tuple_iterator_next ?_ (F.args_tuple_iterator_next_1 _)));show wpAny _ _ (field (.ref b) 0 >>= _) _ _ s;refine wpAny_bind (wpAny_field gb db (x:=.ref q) rfl ?_);show wpAny _ _ (if (Value.ref q==Value.none)=true then _ else _) _ _ s;rw[if_neg (show ¬((Value.ref q==Value.none)=true) from Bool.false_ne_true)];show wpAny _ _ (field (.ref b) 1 >>= _) _ _ s;refine wpAny_bind (wpAny_field gb db (x:=.int k 0) rfl ?_);show wpAny _ _ (seqItems? (.ref q) >>= _) _ _ s;refine wpAny_bind (wpAny_seqItems gq dq ?_);simp only[Int.toNat_natCast,hy];refine wpAny_bind (wpAny_setField gb db (by simp) (wpAny_pure ⟨y,rfl,wpAny_pure (hQ _ ?_ (Heap.SameBut.update ..))⟩));exact⟨_,Heap.get?_update_self _ gb (Obj.isFreed_of_fields (Obj.data_mapFields db _)),(Obj.cls_mapFields ..).trans cb,by rw[Obj.data_mapFields db];simp[rawInt]⟩
theorem aFu {b q:Addr}{k:Nat}{us:Array Value}{Q:Value->Shared->Prop}(h0:A.handled=none)(hb:s.heap.IsTupleIter b q k)(hq:s.heap.IsTuple q us)(hy:us[k]?=none)(hE:∀h' e,Heap.ExtBut b s.heap h'->(∃o,h'.get? e = some o/\o.cls = .type "StopIteration")->E (.ref e) { s with heap:=h' }):wpAny (model prog w) A (Builtin.SmallTypes.nextOf (.ref b)) Q E s:=by obtain⟨ob,gb,cb,db⟩:=id hb;obtain⟨oq,gq,_,nq,dq⟩:=hq;unfold Builtin.SmallTypes.nextOf;refine wpAny_bind (wpAny_callSpecial?_slot (name:=Str.ofString "__next__") hb.typeIs F.slot_tuple_iterator_next (wpAny_call_entry F.slot_tuple_iterator_next hb.typeIs F.entry_tuple_iterator_next ?_ (F.args_tuple_iterator_next_1 _)));show wpAny _ _ (field (.ref b) 0 >>= _) _ _ s;refine wpAny_bind (wpAny_field gb db (x:=.ref q) rfl ?_);show wpAny _ _ (if (Value.ref q==Value.none)=true then _ else _) _ _ s;rw[if_neg (show ¬((Value.ref q==Value.none)=true) from Bool.false_ne_true)];show wpAny _ _ (field (.ref b) 1 >>= _) _ _ s;refine wpAny_bind (wpAny_field gb db (x:=.int k 0) rfl ?_);show wpAny _ _ (seqItems? (.ref q) >>= _) _ _ s;refine wpAny_bind (wpAny_seqItems gq dq ?_);simp only[Int.toNat_natCast,hy];refine wpAny_bind (wpAny_rule (wpAny_bind (wpAny_setField gb db (by simp) ?_)));refine wpAny_bind (m:=newExc (.type "StopIteration") []) ?_;simp only[newExc,newTuple];refine wpAny_bind (wpAny_newObj_type ?_ (by size_fits));refine wpAny_bind (m:=firstArgMember _ _) (wpAny_of_eq (a:=Value.none) (by first|rfl|(unfold firstArgMember;rfl)) ?_);refine wpAny_newObj_type ?_ (by size_fits);simp only[raiseNew];refine wpAny_bind (wpAny_handled ?_);rw[show A.in1.handled=none from h0];refine wpAny_bind (wpAny_pure (wpAny_throw (hE _ _ (((Heap.SameBut.update ..).extBut.push _).push _) ⟨_,Heap.get?_push_size _ rfl,rfl⟩)))
theorem drT {b q:Addr}(h0:A.handled=none)(ne:q≠b)(us:Array Value):Draws prog w A b [b,q] us.size (λi v=>us[i]?=some v) (λi h=>h.IsTupleIter b q i/\h.IsTuple q us) where
 live:=λ_ _ st=>let ⟨o,ho,_⟩:=st.1;⟨o,ho⟩
 frame:=λ_ _ _ st hk=>by obtain⟨⟨o,ho,r⟩,⟨o2,ho2,r2⟩⟩:=st;exact⟨⟨o,hk b (by simp) _ ho,r⟩,⟨o2,hk q (by simp) _ ho2,r2⟩⟩
 item:=λi s Q E hi st hQ=>aH8 st.1 st.2 (y:=us[i]) (by simp[hi]) λh' a c=>hQ _ h' s.toks (by simp[hi]) ⟨a,st.2.extBut c.extBut ne⟩ c
 done:=λs Q E st hE=>aFu h0 st.1 st.2 (by simp) hE
set_option maxHeartbeats 1000000 in
theorem aQH (q:Addr)(us:Array Value)(n:Nat)(dct:Option Addr)(sl:Array (Option Value)) :
  Meets (Builtin.«enumerate.__new__» ⟨[.type "enumerate",.ref q],[]⟩) (λ_ R s=>s.heap.get? q = some { cls:=.type "tuple",dict:=dct,data:=.seq us n,slots:=sl } /\
   R (.ok (.ret (.ref (s.heap.push { cls:=.type "tuple_iterator",data:=.fields #[.ref q,.int 0 0] }).objs.size)))
    { s with heap:=(s.heap.push { cls:=.type "tuple_iterator",data:=.fields #[.ref q,.int 0 0] }).push { cls:=.type "enumerate",data:=.fields #[.none,.bool false,.ref s.heap.objs.size,rawInt 0,.none,.none] } }) :=
 .of_wp λprog w A R s h=>by
  obtain⟨hh,gg,dd,tt,oo⟩:=s;obtain⟨gq,h⟩:=h;have hsub:=sub_enumerate;have hT:Heap.IsTuple (Shared.heap ⟨hh,gg,dd,tt,oo⟩) q us:=⟨_,gq,rfl,n,rfl⟩
  wp_walk using wpAny_loadPart' gq
  refine wpAny_stack_any λst=>wpAny_pure ?_;split
  ·rename_i c _ _ _ _ _;cases (c==Value.type "enumerate")
   ·wp_walk using wpAny_loadPart' gq,wpAny_pyIter_tuple hT
    exact⟨_,rfl,h⟩
   ·wp_walk using wpAny_loadPart' gq,wpAny_pyIter_tuple hT
    exact⟨_,rfl,h⟩
  ·wp_walk using wpAny_loadPart' gq,wpAny_pyIter_tuple hT
   exact⟨_,rfl,h⟩
theorem aN4 {q:Addr}{us:Array Value}{Q:Value->Shared->Prop}(hq:s.heap.IsTuple q us)(h:∀h',IsEnum h' (s.heap.objs.size+1) s.heap.objs.size 0 .none->h'.IsTupleIter s.heap.objs.size q 0->h'.objs.size=s.heap.objs.size+2 ->
   (∀b o,s.heap.get? b=some o->h'.get? b=some o)->Q (.ref (s.heap.objs.size+1)) { s with heap:=h' }) :
  wpAny (model prog w) A (call (.type "enumerate") [.ref q]) Q E s:=by
 obtain⟨⟨c,dct,dt,sl⟩,gq,hc,n,hd⟩:=hq;obtain rfl:c = .type "tuple":=hc;obtain rfl:dt=.seq us n:=hd;refine callType_new F.called_enumerate (by decide) (F.typeCall_enumerate_1 _) (F.newCall_enumerate_1 _) (λobj=>F.args_object_init_2 obj _) F.entry_enumerate_new (aQH q us n dct sl) ⟨gq,?_⟩;have hz:(s.heap.push { cls:=.type "tuple_iterator",data:=.fields #[.ref q,.int 0 0] }).objs.size=s.heap.objs.size+1:=Heap.size_push ..;show _/\_;rw[hz];have he:IsEnum ((s.heap.push { cls:=.type "tuple_iterator",data:=.fields #[.ref q,.int 0 0] }).push { cls:=.type "enumerate",data:=.fields #[.none,.bool false,.ref s.heap.objs.size,rawInt 0,.none,.none] }) (s.heap.objs.size+1) s.heap.objs.size 0 .none:=by have:=Heap.get?_push_size (s.heap.push { cls:=.type "tuple_iterator",data:=.fields #[.ref q,.int 0 0] }) (o:={ cls:=.type "enumerate",data:=.fields #[.none,.bool false,.ref s.heap.objs.size,rawInt 0,.none,.none] }) rfl;rw[hz] at this;exact this
 exact⟨⟨_,he,rfl⟩,h _ he ⟨_,Heap.get?_push_of_some _ (Heap.get?_push_size _ rfl),rfl,rfl⟩ (by rw[Heap.size_push,hz]) λb o x=>Heap.get?_push_of_some _ (Heap.get?_push_of_some _ x)⟩
end
noncomputable def aOf (K:Frag)(q:Addr):It :=
 ⟨
  λi H=>∃xs x,SqT K H q xs/\xs[i]?=some x,
  λi H v H'=>∃p x,v=.ref p/\H p=none/\H'=upd H p (.tup [.int i,x])/\∀xs,SqT K H q xs->xs[i]?=some x,
  λi H=>∃xs,SqT K H q xs/\xs.length<=i⟩
theorem aED {P:Program}{w:World}{K:Frag}{elts:List Expr}{kk:Nat}{tpos:Pos}{e it q:Addr}(ne:e≠it) :
  aGG P w K (.Tuple elts kk tpos) (aOf K q) [e,it] e (λi h=>(∃old,IsEnum h e it i old)/\h.IsTupleIter it q i) where
 mem:=by simp
 obj:=λi h st b hb=>by
  obtain⟨⟨old,he⟩,⟨o1,e1,c1,d1⟩⟩:=st;simp only[mem_cons,not_mem_nil,or_false] at hb;rcases hb with rfl|rfl
  ·exact⟨_,he,λv z=>by cases z⟩
  ·exact⟨o1,e1,λv z=>by rw[d1] at z;cases z⟩
 keep:=λi h h' st k=>by obtain⟨⟨old,he⟩,t1⟩:=st;exact⟨⟨old,k e (by simp) _ he⟩,t1.at λo x=>k it (by simp) o x⟩
 item:=by
  intro X hP hw hK hc i pins s σ H E I hf st hg;subst hP hw hK;obtain⟨xs,x,hq,hx⟩:=hg;obtain⟨⟨old,he⟩,t1⟩:=st;obtain⟨its,rv,p,hz⟩:=I.tuple hq;obtain⟨u,hu,ru⟩:=rv.get hx;have hT:s.heap.IsTuple q its.toArray:=p;have nq:q≠it:=λz=>by obtain⟨o1,g1,c1,_⟩:=t1;obtain⟨o2,g2,c2,_⟩:=hT;rw[z,g1] at g2;cases g2;rw[c1] at c2;exact absurd (Value.type.inj c2) (by decide)
  have nqe:e≠q:=λz=>by obtain⟨o2,g2,c2,_⟩:=hT;rw[<- z,show s.heap.get? e=_ from he] at g2;cases g2;exact absurd (Value.type.inj c2) (by decide)
  have il:i<its.toArray.size:=by have:=(List.getElem?_eq_some_iff.mp hu).1;simpa using this
  refine wpAny_pyNext_enum_itemD (drT (A:=X.A.in1) (show X.A.in1.handled=none from I.ok.hd hc) nq its.toArray) he ⟨t1,hT⟩ il ne (by simp[ne,nqe]) λy h' tk hy a1 a2 a3 a4 a5=>?_;obtain rfl:y=u:=by have hy:its.toArray[i]?=some y:=hy;rw[List.getElem?_toArray,hu] at hy;cases hy;rfl
  refine⟨_,rfl,wpAny_letOwnedTupleGo_enum (s:={ s with heap:=h',toks:=tk+1 }) a1 λh2 b1 b2=>?_⟩;have lte:=Heap.lt_size he;have nz:s.heap.objs.size≠e:=Nat.ne_of_gt lte;have k2:∀b o,b∉[e,it]->s.heap.get? b=some o->h2.get? b=some o:=λb o hb z=>b2.extBut _ _ (λq=>hb (by simp[q])) (a5 b o (λq=>hb (by simp[q])) (λq=>hb (by simp[q])) z);have e1:h2.IsTupleIter it q (i+1):=a2.1.extBut b2.extBut (Ne.symm ne);have I2:Inv X pins σ (upd H s.heap.objs.size (.tup [.int i,x])) { s with heap:=h2 }:=I.turnedT (its:=[.int i tk,y]) k2 hf (Nat.le_refl _) (by show 2<=sizeLine;decide) (.cons ⟨_,rfl⟩ (.cons ru .nil)) ⟨_,b2.extBut _ _ nz a3,rfl,_,rfl⟩ λb hb=>by
   simp only[mem_cons,not_mem_nil,or_false] at hb;rcases hb with rfl|rfl
   ·exact⟨_,b1⟩
   ·obtain⟨o,e,_⟩:=e1;exact⟨o,e⟩
  have I3:=I2.kept (t':=tk+1) (h':=h2) λb u z=>z;refine⟨.ref s.heap.objs.size,_,I3,rfl,⟨_,x,rfl,I.hok.fresh (Nat.le_refl _),rfl,λxs' q1=>by rw[I.tuple_inj q1 hq];exact hx⟩,⟨⟨_,b1⟩,e1⟩,λb hb=>?_⟩;rw[bS]
  ·exact(hf b hb).1
  ·intro z;subst z;simp only[mem_cons,not_mem_nil,or_false] at hb;obtain⟨o1,g1,_⟩:=t1;rcases hb with z|z
   ·exact nz z
   ·exact absurd (Heap.lt_size g1) (by rw[<- z];exact Nat.lt_irrefl _)
 done:=by intro X hP hw hK hc i pins s σ H E I hf st hg;subst hP hw hK;obtain⟨xs,hq,hend⟩:=hg;obtain⟨⟨old,he⟩,t1⟩:=st;obtain⟨its,rv,p,hz⟩:=I.tuple hq;have w1:=rv.length;have hT:s.heap.IsTuple q its.toArray:=p;have T:s.TypeIs (.ref e) "enumerate":=⟨_,he,rfl⟩;unfold pyNext;refine wpAny_bind (wpAny_attempt (wpAny_callSpecial?_slot (name:=Str.ofString "__next__") T F.slot_enumerate_next (wpAny_call_entry F.slot_enumerate_next T F.entry_enumerate_next ?_ (F.args_enumerate_next_1 _))));show wpAny _ _ (field (.ref e) 2 >>= _) _ _ _;refine wpAny_bind (wpAny_field he rfl (x:=.ref it) rfl ?_);refine wpAny_bind (aFu (I.ok.hd hc) t1 hT (by simp;omega) λh' x' he' hx'=>?_);obtain⟨o,ho,hc'⟩:=hx';refine wpAny_bind (wpAny_isInstance (T:="StopIteration") (b:=true) ⟨o,ho,hc'⟩ isSubtype_stop ?_);exact wpAny_pure ⟨rfl,I.turnedL (λb o hb z=>he' b o (λq=>hb (by simp[q])) z) hf⟩
 self:=λ_ _ _ _ _ st h=>by obtain⟨⟨old,he⟩,_⟩:=st;exact wpAny_pyIter_enum he h
noncomputable def aMP (K:Frag)(ta:TA):TI:=λσ H R=>ta σ H λvs H1=>∃a xs,vs=[.ref a]/\SqT K H1 a xs/\R (aOf K a) H1
theorem aGI {X:Cx}{elts:List Expr}{kk:Nat}{tpos:Pos}{a:Expr}{ta:TA}{p pos:Pos}(hg:Gl X "enumerate")(hm:X.mg "enumerate"=none)(ha:PA X [a] ta)(hs:starEach [a] X.env=[(false,eval a X.env)]:=by rfl) :
  PI X (.Tuple elts kk tpos) (.Call (.Name "enumerate" p) [a] [] pos) (aMP X.K ta):=by
 intro pins s σ H R I h;refine Call_ (xL I hg hm (show bootBuiltins "enumerate" = some (.type "enumerate") from rfl) (PyProof.Rows.callWith_type1 (thn (ha pos pins s σ H _ I h) λus s1 ⟨vs,H1,I1,r1,q1⟩=>?_) (by rw[hs];rfl) (by rfl)));obtain⟨l,xs,rfl,hq,q⟩:=q1;obtain⟨u1,rfl,e1⟩:=r1.one;cases e1;obtain⟨its,rv,p,hz⟩:=I1.tuple hq;refine aN4 (show s1.heap.IsTuple l its.toArray from p) λh' b1 b2 b3 b4=>?_;refine wpAny_pyIter_enum (s:={ s1 with heap:=h' }) b1 ?_;refine⟨s1.heap.objs.size+1,[s1.heap.objs.size+1,s1.heap.objs.size],_,_,H1,rfl,I1.kept (t':=s1.toks) b4,aED (q:=l) (Nat.succ_ne_self _),⟨⟨_,b1⟩,b2⟩,λb hb=>?_,q⟩;have hb':s1.heap.objs.size<=b:=by simp only[mem_cons,not_mem_nil,or_false] at hb;rcases hb with rfl|rfl<;>omega
 exact I1.fpOk hb' (I1.hok.fresh hb')
end L2
namespace Dd
open PySem PySem.Spec PyProof.Rows L2
section
variable {X:Cx}{pos:Pos}{body:List Stmt}{g:DG}{tb:DS}{ta:DA}
def aP5 (ds:List D)(g:DG)(tb:DS):DS:=λE ρ M=>∃Pv:Nat->cO->DM->Prop,Pv 0 ρ M /\
 (∀i d ρ M,ds[i]?=some d->Pv i ρ M->g (.tup [.int i,d]) ρ M λρ2 M2=>tb { E with nx:=Pv (i+1),ct:=Pv (i+1),bk:=E.nx } ρ2 M2)/\∀ρ M,Pv ds.length ρ M->E.nx ρ M
def aEp (ta:DA)(g:DG)(tb:DS):DS:=λE ρ M=>ta ρ M λds M1=>match ds with
 |[.tup xs]=>aP5 xs g tb E ρ M1
 |_=>False
theorem aIR {elts:List Expr}{kk:Nat}{tpos:Pos}{a:Expr}{p pos':Pos}(hp:PassesOwn (model X.prog X.w) X.A X.env X.xe)(hc:X.calm = true)(hmg:X.mg "enumerate" = none)(ha:PDA X [a] ta)(hg:PDG X (.Tuple elts kk tpos) g)(hb:lK X body tb)(hgl:Gl X "enumerate":=by rfl)(hse:starEach [a] X.env=[(false,eval a X.env)]:=by rfl)(hs:∀x,foldedSetIterable (.Call (.Name "enumerate" p) [a] [] pos') X.env x = pure x:=by intro _;rfl):PDS X (.For (.Tuple elts kk tpos) (.Call (.Name "enumerate" p) [a] [] pos') body [] pos) (aEp ta g tb) :=
 kK (aAy hp hc (aGI hgl hmg ha hse) hg hb hs) λE σ H ⟨ρ,M,Dn,re,hm,q,k⟩=>⟨ρ,M,_,re,hm,q,λvs H1 ⟨ds,M1,rs,hm1,ex,q1⟩=>by
  match ds,q1 with
  |[.tup xs],q1 =>
   obtain⟨v1,rfl,rv1⟩:=jD rs;obtain⟨l,us,rfl,hu,r1⟩:=cJ rv1;have n1:=r1.length;refine⟨l,us,rfl,hu,?_⟩;obtain⟨Pv,p0,step,done⟩:=q1;refine⟨λi m σ' H'=>∃ρ' M',gY X.K H' ρ' σ'/\cI X.K M' H'/\Ext H1 H'/\m=xs.length-i/\i<=xs.length/\Pv i ρ' M',⟨xs.length,ρ,M1,re.ext ex,hm1,.refl H1,rfl,Nat.zero_le _,p0⟩,?_⟩;rintro i m σ1 H2 ⟨ρ1,M2,re1,hm2,e1,rfl,hi,w1⟩;have hu2:=mX e1 hu;by_cases hlt:i<xs.length
   ·refine .inr ⟨⟨us,us[i]'(by omega),hu2,by simp⟩,λσ' H'=>∃ρ' M',gY X.K H' ρ' σ'/\cI X.K M' H'/\Ext H1 H'/\Pv (i+1) ρ' M',λσ' H' ⟨ρ',M',a,b,c,d⟩=>⟨xs.length-(i+1),by omega,ρ',M',a,b,c,rfl,hlt,d⟩,λx H' y=>?_⟩;obtain⟨pp,vx,rfl,hn,rfl,all⟩:=y;have ey:Ext H2 (upd H2 pp (.tup [.int i,vx])):=Ext.new hn _;obtain⟨dx,hdx,rdx⟩:=r1.getV (all us hu2);have rd:Rep X.K (upd H2 pp (.tup [.int i,vx])) (.tup [.int i,dx]) (.ref pp):=cH (.of dN) (cK bU (cK ((rdx.ext e1).ext ey) dG));refine⟨_,ρ1,M2,_,rd,re1.ext ey,hm2.new hn _,step i dx ρ1 M2 hdx w1,λσ2 H3 ⟨ρ2,M3,re2,hm3,e2,q2⟩=>⟨ρ2,M3,_,re2,hm3,q2,?_⟩⟩;have exx:=(e1.trans ey).trans e2;exact⟨λσ' H' ⟨ρ',M',a,b,c,d⟩=>⟨ρ',M',a,b,exx.trans c,d⟩,λv H' z=>k.rt v H' (z.back (ex.trans exx)),λσ' H' z=>k.nx σ' H' (z.back (ex.trans exx)),λσ' H' ⟨ρ',M',a,b,c,d⟩=>⟨ρ',M',a,b,exx.trans c,d⟩⟩
   ·have e:i=xs.length:=by omega
    subst e;exact .inl ⟨⟨us,hu2,by omega⟩,k.nx σ1 H2 ⟨ρ1,M2,re1,hm2,ex.trans e1,done ρ1 M2 w1⟩⟩⟩
end
section
variable {X:Cx}{pos:Pos}{body:List Stmt}{g:DG}{tb:DS}{ta:DA}
theorem aGA {elts:List Expr}{kk:Nat}{tpos:Pos}{a:Expr}{p pos':Pos}(hp:PassesOwn (model X.prog X.w) X.A X.env X.xe)(hc:X.calm = true)(hmg:X.mg "enumerate" = none)(ha:ZA X [a] ta)(hg:ZG X (.Tuple elts kk tpos) g)(hb:ZSs X body tb)(hgl:Gl X "enumerate":=by rfl)(hse:starEach [a] X.env = [(false,eval a X.env)]:=by rfl)(hs:∀x,foldedSetIterable (.Call (.Name "enumerate" p) [a] [] pos') X.env x = pure x:=by intro _;rfl):ZS X (.For (.Tuple elts kk tpos) (.Call (.Name "enumerate" p) [a] [] pos') body [] pos) (aEp ta g tb):=.i (aIR hp hc hmg ha.o hg.o hb.o hgl hse hs)
end
end Dd
namespace Lw
open PySem PySem.Spec PyProof.Rows L2 Dd Mz
local macro_rules | `(tactic|ac_rfl) => `(tactic|exact ⟨rfl,rfl,rfl,by decide +kernel,rfl,by decide +kernel,by decide +kernel⟩)
local macro_rules|`(tactic|ac_nf)=>do
 let l←("aEp aOp aPr aGZ aMM aHq aLf aE4 aPL aIk aLl aHy aPG aG9 aPW aPm aQV aOm aKF aOM aG1 aNX aKW aON aHm aLH aQQ aQh aOv aQz aKU aQJ aQq aQS aQc aQs aPh aPp aJF aCS aLD aEz aPn aNU aGD aMo aM4 aIJ aHN aNo aIl aME aPb aD1 aPz iO aEv gF.un aLx List.map List.length_cons List.length_nil Nat.reduceAdd Nat.reduceSub List.reduceReplicate List.cons_append List.nil_append List.set_cons_zero List.set_cons_succ List.getElem?_cons_zero List.getElem?_cons_succ gCn gN gNl aL7 aMU aOq aN2 aOs aPF aPl aOk aPt aIX aI4 aIZ aHw aLh aJ2 aJf aKp aJp aKB aJg aJd aHU aNY aN5 aPq aO4 aPD ixT ixF aQB aPg aPc aOg aO2 aNI qI kZ pT dOp aCl dC d2I d2J aOt yK aMz dOr aNz aIO aM1 aGS aL4 aLZ aLg aDC aM0 aIL aMh aE6 aGf aMq aHd aKl aLP aDj aHH aIW aLv aKt aKd aNa aNj goC aPk aLz aBi Option.join_some aP3 aMb aNL dPt aPa dSl aLm aMA aKI aNm aEA aHA aKO aId aPI aOA aDe xQ aPd aHb aPw aQm aNH aJQ aHr isV aMm aMW aNQ aMK aNh aMs aMw aK9 aLF aMv aLL aMV aNE aN1 aLc aM5 aNe aMY aLX aNM aMX aLs aNl aNC aM2 aLM aMg".splitOn " ").toArray.mapM λx=>`(Lean.Parser.Tactic.simpLemma|$(Lean.mkIdent x.toName):term)
 `(tactic|try dsimp only[$l,*])
local macro_rules|`(tactic|simp_arith)=>do
 let l←("aCp aIK aMZ cU aO id decide_eq_true_eq Bool.not_eq_true' decide_eq_false_iff_not".splitOn " ").toArray.mapM λx=>`(Lean.Parser.Tactic.simpLemma|$(Lean.mkIdent x.toName):term)
 `(tactic|try simp only[$l,*])
noncomputable def top (i:Nat):Stmt:=PySem.Challenge.pw_arcmill_k93_programs_changed.main.body.getD i (.Pass ⟨0,0,0,0⟩)
section
variable {P:Program}{w:World}{K:Frag}{mg:Str->Option Value}{base:Heap}
noncomputable abbrev jC:Stmt:=top 6
theorem lQ:aR ["one","other"] ["one","other"] (aJ jC):=by ac_rfl
theorem qN (hF:bT K mg "greatest_divisor" jC ["one","other"])(oH:mg "abs" = none):Has P w K mg base 101 "greatest_divisor" ["one","other"] eG:=by
 refine Has.mkZ hF lQ (λds M Q ⟨a,b,e,_⟩=>by rw[e];rfl) λf cdv A outer s H ds M Q E hr h=>?_;obtain⟨a,b,rfl,q⟩:=h;refine⟨_,(aF (iH PassesOwn.never (aQ (qG hr) (aB 1) aC) (aE (sE (i:=0) (j:=1) rfl lQ.nd (aA (aB 1) (aA (aK cZ (aB 0) (aB 1)) aD)))))
  (aE (aN (bI aAu oH (aA (aB 0) aD))))),?_⟩
 refine jN (λm ρ M'=>M'=M/\∃x y:Int,ρ=[some (.int x),some (.int y)]/\m=y.natAbs/\Int.gcd x y=Int.gcd a b) _ ⟨rfl,a,b,rfl,rfl,rfl⟩ ?_;rintro m ρ M' ⟨rfl,x,y,rfl,rfl,g⟩;refine⟨rfl,rfl,aPu (λc=>?_) (λc=>?_)⟩
 ·have c:y≠0:=by simpa[eqD] using c
  exact⟨c,_,aB7 c,rfl,y,x.fmod y,rfl,rfl,(aAf x y).trans g⟩
 ·have c:y=0:=by simpa[eqD] using c
  subst c;refine⟨M',.refl _,?_⟩;have e:(if x<0 then -x else x)=(Int.gcd a b:Int):=by rw[<- g,Int.gcd_zero_right];split<;>omega
  rw[e];exact q
noncomputable abbrev aEJ:Stmt:=top 7
theorem uW:aR ["one","other","shared","part","top","left"] ["one","other"] (aJ aEJ):=by ac_rfl
theorem aH6 (hF:bT K mg "plus" aEJ ["one","other"])(bD:Has P w K mg base 101 "greatest_divisor" ["one","other"] eG):Has P w K mg base 102 "plus" ["one","other"] aCm:=by
 refine Has.mkZ hF uW vN λf cdv A outer s H ds M Q E hr h=>?_;obtain⟨p,r,m,n,rfl,_,h1,h2,l,q⟩:=h;refine⟨_,(aF (aP (i:=2) uW.nd (aG bD hr (by decide) (aA (aH (aB 0) aC) (aA (aH (aB 1) aC) aD))))
  (aF (aP (i:=3) uW.nd (aK dZ (aH (aB 0) aC) (aB 2)))
  (aF (aP (i:=4) uW.nd (aK cB (aK bN (aH (aB 0) aC) (aK dZ (aH (aB 1) aC) (aB 2))) (aK bN (aH (aB 1) aC) (aB 3))))
  (aF (aP (i:=5) uW.nd (aG bD hr (by decide) (aA (aB 4) (aA (aB 2) aD))))
  (aE (aN (aM (aA (aK dZ (aB 4) (aB 5)) (aA (aK bN (aB 3) (aK dZ (aH (aB 1) aC) (aB 5))) aD))))))))),?_⟩
 obtain⟨g0,l0,gd,ld,e1,e2⟩:=aQv p r _ _ _ _ rfl rfl rfl rfl;have gr:(Int.gcd p.den r.den:Int)∣(r.den:Int):=Int.gcd_dvd_right _ _;have bg:Bd m (Int.gcd p.den r.den:Int):=h1.2.dvd gd (eX p);refine⟨_,_,rfl,yX h1.2 (by omega) gd (eX p) g0,yX h1.2 (by omega) gd (eX p) g0,dB h1.1 (h2.2.fdiv gr) (by omega),dB h2.1 (h1.2.fdiv gd) (by omega),_,_,rfl,?_⟩;refine⟨yX bg (by omega) ld g0 l0,yX bg (by omega) ld g0 l0,dB (h1.2.fdiv gd) (h2.2.fdiv (Int.dvd_trans ld gr)) (by omega),by show(2:Nat)<=1000;decide,M,.refl _,?_⟩;have q':Q (.tup [.int (p+r).num,.int ((p+r).den:Int)]) M:=q;rw[<- e1,<- e2] at q';exact q'
noncomputable abbrev zH:Stmt:=top 8
theorem oI:aR ["one","other","falling","rising"] ["one","other"] (aJ zH):=by ac_rfl
theorem aGg (hF:bT K mg "times" zH ["one","other"])(bD:Has P w K mg base 101 "greatest_divisor" ["one","other"] eG):Has P w K mg base 102 "times" ["one","other"] aD8:=by
 refine Has.mkZ hF oI vN λf cdv A outer s H ds M Q E hr h=>?_;obtain⟨p,r,m,n,rfl,_,h1,h2,l,q⟩:=h;refine⟨_,(aF (aP (i:=2) oI.nd (aG bD hr (by decide) (aA (aH (aB 0) aC) (aA (aH (aB 1) aC) aD))))
  (aF (aP (i:=3) oI.nd (aG bD hr (by decide) (aA (aH (aB 1) aC) (aA (aH (aB 0) aC) aD))))
  (aE (aN (aM (aA (aK bN (aK dZ (aH (aB 0) aC) (aB 2)) (aK dZ (aH (aB 1) aC) (aB 3))) (aA (aK bN (aK dZ (aH (aB 0) aC) (aB 3)) (aK dZ (aH (aB 1) aC) (aB 2))) aD))))))),?_⟩
 obtain⟨f0,r0,fd,rd,e1,e2⟩:=aPC p r _ _ rfl rfl;have fl:(Int.gcd p.num r.den:Int)∣p.num:=Int.gcd_dvd_left _ _;have rl:(Int.gcd r.num p.den:Int)∣r.num:=Int.gcd_dvd_left _ _;refine⟨_,_,rfl,_,_,rfl,yX h2.2 (by omega) fd (eX r) f0,yX h1.2 (by omega) rd (eX p) r0,dB (h1.1.fdiv fl) (h2.1.fdiv rl) (by omega),yX h1.2 (by omega) rd (eX p) r0,yX h2.2 (by omega) fd (eX r) f0,dB (h1.2.fdiv rd) (h2.2.fdiv fd) (by omega),by show(2:Nat)<=1000;decide,M,.refl _,?_⟩;have q':Q (.tup [.int (p*r).num,.int ((p*r).den:Int)]) M:=q;rw[<- e1,<- e2] at q';exact q'
noncomputable abbrev aCh:Stmt:=top 9
theorem aIx:aR ["one","other"] ["one","other"] (aJ aCh):=by ac_rfl
theorem aGi (hF:bT K mg "below" aCh ["one","other"]):Has P w K mg base 101 "below" ["one","other"] aDP:=by refine Has.mkZ hF aIx vN λf cdv A outer s H ds M Q E hr h=>?_;obtain⟨p,r,m,n,rfl,_,h1,h2,l,q⟩:=h;refine⟨_,(aE (aN (cN kH (aK bN (aH (aB 0) aC) (aH (aB 1) aC)) (aK bN (aH (aB 1) aC) (aH (aB 0) aC))))),?_⟩;refine⟨dB h1.1 h2.2 (by omega),dB h2.1 h1.2 (by omega),M,.refl _,?_⟩;have e:decide (p.num*(r.den:Int)<r.num*(p.den:Int))=decide (p<r):=decide_eq_decide.mpr (ltQ p r);show Q (.bl (decide (p.num*(r.den:Int)<r.num*(p.den:Int)))) M;rw[e];exact q
noncomputable def oD (x y:Rat):Int:=if (x.den:Int)=(y.den:Int) then (x.den:Int) else (x.den:Int)*(y.den:Int)
noncomputable def oX (x y:Rat):Int:=if (x.den:Int)=(y.den:Int) then x.num else x.num*(y.den:Int)
noncomputable def oY (x y:Rat):Int:=if (x.den:Int)=(y.den:Int) then y.num else y.num*(x.den:Int)
theorem aEw (x y:Rat):0<oD x y:=by
 have h1:(0:Int)<x.den:=by have:=x.den_pos;omega
 have h2:(0:Int)<y.den:=by have:=y.den_pos;omega
 unfold oD;split
 ·exact h1
 ·exact Int.mul_pos h1 h2
theorem aKH (x y:Rat):((oX x y:Int):Rat)=x*(oD x y:Int):=by
 have e:=iP x;unfold oX oD;split
 ·rw[e]
 ·rw[Rat.intCast_mul,Rat.intCast_mul,e];grind
theorem aK2 (x y:Rat):((oY x y:Int):Rat)=y*(oD x y:Int):=by
 have e:=iP y;unfold oY oD;split
 ·rename_i h;rw[e,h]
 ·rw[Rat.intCast_mul,Rat.intCast_mul,e];grind
theorem aF5 {x y:Rat}{n:Nat}(hx:BQ n x)(hy:BQ n y):Bd (n+n) (oX x y)/\Bd (n+n) (oY x y)/\Bd (n+n) (oD x y):=by
 unfold oX oY oD;refine⟨?_,?_,?_⟩
 ·split
  ·exact hx.1.mono (by omega)
  ·exact hx.1.mul hy.2
 ·split
  ·exact hy.1.mono (by omega)
  ·exact hy.1.mul hx.2
 ·split
  ·exact hx.2.mono (by omega)
  ·exact hx.2.mul hy.2
def kN:DSp:=λds M Q=>∃x y n,ds=[PQ x y]/\BQ n x/\BQ n y/\n<=8998/\Q (.tup [.int (oX x y),.int (oY x y),.int (oD x y)]) M
noncomputable abbrev lE:Stmt:=top 12
theorem kM:aR ["p","x","y"] ["p"] (aJ lE):=by ac_rfl
theorem vQ (hF:bT K mg "on_one_bottom" lE ["p"]):Has P w K mg base 101 "on_one_bottom" ["p"] kN:=by
 refine Has.mkZ hF kM (λds M Q ⟨x,y,n,e,_⟩=>by rw[e];rfl) λf cdv A outer s H ds M Q E hr h=>?_;obtain⟨x,y,n,rfl,hx,hy,hn,q⟩:=h;refine⟨_,(aF (iU (aB 0) (gS (n:=2) rfl (bJ (aX (i:=1) kM.nd) (bJ (aX (i:=2) kM.nd) fE))))
  (aF (aW (aQ (cD hr) (aH (aB 1) aC) (aH (aB 2) aC)) (aE (aN (aM (aA (aH (aB 1) aC) (aA (aH (aB 2) aC) (aA (aH (aB 1) aC) aD)))))) aS)
  (aE (aN (aM (aA (aK bN (aH (aB 1) aC) (aH (aB 2) aC)) (aA (aK bN (aH (aB 2) aC) (aH (aB 1) aC)) (aA (aK bN (aH (aB 1) aC) (aH (aB 2) aC)) aD)))))))),?_⟩
 unfold oX oY oD at q;ac_nf;rw[cU];refine⟨rfl,dif (λc=>?_) (λc=>?_)⟩
 ·rw[if_pos c,if_pos c,if_pos c] at q;exact⟨by decide,M,.refl _,q⟩
 ·rw[if_neg c,if_neg c,if_neg c] at q;exact⟨dB hx.1 hy.2 (by omega),dB hy.1 hx.2 (by omega),dB hx.2 hy.2 (by omega),by decide,M,.refl _,q⟩
def aCA:DSp:=λds M Q=>∃i,ds=[.int i]/\Q (.int (if 0<i then 1 else if i=0 then 0 else -1)) M
noncomputable abbrev aEn:Stmt:=top 13
theorem aKm:aR ["number"] ["number"] (aJ aEn):=by ac_rfl
theorem aHG (hF:bT K mg "sign" aEn ["number"]):Has P w K mg base 101 "sign" ["number"] aCA:=by
 refine Has.mkZ hF aKm (λds M Q ⟨x,e,_⟩=>by rw[e];rfl) λf cdv A outer s H ds M Q E hr h=>?_;obtain⟨i,rfl,q⟩:=h;refine⟨_,(aF (aW (aQ gA (aB 0) aC) (aE (aN aC)) aS)
  (aE (aN (iK (aQ (cD hr) (aB 0) aC) aC (eL aC))))),?_⟩
 ac_nf;refine dif (λc=>?_) (λc=>?_)
 ·rw[if_pos c] at q;exact⟨M,.refl _,q⟩
 ·rw[if_neg c] at q;rw[cU];refine dif (λd=>?_) (λd=>?_)
  ·rw[if_pos d] at q;exact⟨M,.refl _,q⟩
  ·rw[if_neg d] at q;exact⟨M,.refl _,q⟩
noncomputable def fS (cx cy px py:Rat):Int:=(oX px py*oD cx cy-oX cx cy*oD px py)*(oX px py*oD cx cy-oX cx cy*oD px py)+(oY px py*oD cx cy-oY cx cy*oD px py)*(oY px py*oD cx cy-oY cx cy*oD px py)
theorem aK4 (cx cy px py:Rat):((fS cx cy px py:Int):Rat)=((px-cx)*(px-cx)+(py-cy)*(py-cy))*(((oD cx cy:Int):Rat)*((oD px py:Int):Rat))*(((oD cx cy:Int):Rat)*((oD px py:Int):Rat)):=by unfold fS;simp only[Rat.intCast_add,Rat.intCast_mul,Rat.intCast_sub];rw[aKH,aKH,aK2,aK2];grind
def sW:DSp:=λds M Q=>∃cx cy px py n,ds=[PQ cx cy,PQ px py]/\BQ n cx/\BQ n cy/\BQ n px/\BQ n py/\n<=4000/\Q (.tup [.int (fS cx cy px py),.int (oD px py)]) M
noncomputable abbrev pV:Stmt:=top 15
theorem dM:aR ["c","p","cx","cy","cd","px","py","pd","x","y"] ["c","p"] (aJ pV):=by ac_rfl
theorem zX (hF:bT K mg "scaled_far" pV ["c","p"])(iY:Has P w K mg base 101 "on_one_bottom" ["p"] kN):Has P w K mg base 102 "scaled_far" ["c","p"] sW:=by
 refine Has.mkZ hF dM (λds M Q ⟨cx,cy,px,py,n,e,_⟩=>by rw[e];rfl) λf cdv A outer s H ds M Q E hr h=>?_;obtain⟨cx,cy,px,py,n,rfl,h1,h2,h3,h4,hn,q⟩:=h;refine⟨_,(aF (iU (aG iY hr (by decide) (aA (aB 0) aD)) (gS (n:=3) rfl (bJ (aX (i:=2) dM.nd) (bJ (aX (i:=3) dM.nd) (bJ (aX (i:=4) dM.nd) fE)))))
  (aF (iU (aG iY hr (by decide) (aA (aB 1) aD)) (gS (n:=3) rfl (bJ (aX (i:=5) dM.nd) (bJ (aX (i:=6) dM.nd) (bJ (aX (i:=7) dM.nd) fE)))))
  (aF (aP (i:=8) dM.nd (aK jW (aK bN (aB 5) (aB 4)) (aK bN (aB 2) (aB 7))))
  (aF (aP (i:=9) dM.nd (aK jW (aK bN (aB 6) (aB 4)) (aK bN (aB 3) (aB 7))))
  (aE (aN (aM (aA (aK cB (aK bN (aB 8) (aB 8)) (aK bN (aB 9) (aB 9))) (aA (aB 7) aD))))))))),?_⟩
 ac_nf;obtain⟨a1,a2,a3⟩:=aF5 h1 h2;obtain⟨b1,b2,b3⟩:=aF5 h3 h4;have dX:Bd (n+n+(n+n)+1) (oX px py*oD cx cy-oX cx cy*oD px py):=(b1.mul a3).sub (a1.mul b3);have dY:Bd (n+n+(n+n)+1) (oY px py*oD cx cy-oY cx cy*oD px py):=(b2.mul a3).sub (a2.mul b3);refine⟨cx,cy,n,rfl,h1,h2,by omega,?_⟩;ac_nf;refine⟨rfl,px,py,n,rfl,h3,h4,by omega,?_⟩;ac_nf;exact⟨rfl,dB b1 a3 (by omega),dB a1 b3 (by omega),dB b2 a3 (by omega),dB a2 b3 (by omega),dB dX dX (by omega),dB dY dY (by omega),by decide,M,.refl _,q⟩
noncomputable def iC (cx cy px py:Rat):Rat:=(px-cx)*(px-cx)+(py-cy)*(py-cy)
theorem aKZ {cx cy px py:Rat}{n:Nat}(h1:BQ n cx)(h2:BQ n cy)(h3:BQ n px)(h4:BQ n py):Bd (8*n+3) (fS cx cy px py):=by obtain⟨a1,a2,a3⟩:=aF5 h1 h2;obtain⟨b1,b2,b3⟩:=aF5 h3 h4;have dX:Bd (n+n+(n+n)+1) (oX px py*oD cx cy-oX cx cy*oD px py):=(b1.mul a3).sub (a1.mul b3);have dY:Bd (n+n+(n+n)+1) (oY px py*oD cx cy-oY cx cy*oD px py):=(b2.mul a3).sub (a2.mul b3);exact((dX.mul dX).add (dY.mul dY)).mono (by omega)
theorem aKi (cx cy px py qx qy:Rat):(0<fS cx cy px py*oD qx qy*oD qx qy-fS cx cy qx qy*oD px py*oD px py↔iC cx cy qx qy<iC cx cy px py) /\
  (fS cx cy px py*oD qx qy*oD qx qy-fS cx cy qx qy*oD px py*oD px py=0↔iC cx cy px py=iC cx cy qx qy):=by
 have e:((fS cx cy px py*oD qx qy*oD qx qy-fS cx cy qx qy*oD px py*oD px py:Int):Rat)=(iC cx cy px py-iC cx cy qx qy)*((((oD cx cy:Int):Rat)*((oD px py:Int):Rat)*((oD qx qy:Int):Rat))*(((oD cx cy:Int):Rat)*((oD px py:Int):Rat)*((oD qx qy:Int):Rat))):=by simp only[Rat.intCast_mul,Rat.intCast_sub];rw[aK4,aK4];unfold iC;grind
 have c1:(0:Rat)<((oD cx cy:Int):Rat):=Rat.intCast_pos.mpr (aEw _ _);have c2:(0:Rat)<((oD px py:Int):Rat):=Rat.intCast_pos.mpr (aEw _ _);have c3:(0:Rat)<((oD qx qy:Int):Rat):=Rat.intCast_pos.mpr (aEw _ _);have k0:(0:Rat)<(((oD cx cy:Int):Rat)*((oD px py:Int):Rat)*((oD qx qy:Int):Rat))*(((oD cx cy:Int):Rat)*((oD px py:Int):Rat)*((oD qx qy:Int):Rat)):=Rat.mul_pos (Rat.mul_pos (Rat.mul_pos c1 c2) c3) (Rat.mul_pos (Rat.mul_pos c1 c2) c3);generalize (((oD cx cy:Int):Rat)*((oD px py:Int):Rat)*((oD qx qy:Int):Rat))*(((oD cx cy:Int):Rat)*((oD px py:Int):Rat)*((oD qx qy:Int):Rat))=κ at e k0;generalize fS cx cy px py*oD qx qy*oD qx qy-fS cx cy qx qy*oD px py*oD px py=z at e ⊢;generalize iC cx cy px py=u at e ⊢;generalize iC cx cy qx qy=v at e ⊢;constructor
 ·rw[<- Rat.intCast_pos,e];constructor
  ·intro h;by_cases c:v<u
   ·exact c
   ·have:u-v<=0:=by grind
    have:=Rat.mul_nonneg (a:=v-u) (b:=κ) (by grind) (by grind);grind
  ·intro h;exact Rat.mul_pos (by grind) k0
 ·constructor
  ·intro h;rw[h] at e;have:=(Rat.mul_eq_zero.mp e.symm).resolve_right (by grind);grind
  ·intro h;have:(z:Rat)=0:=by rw[e,h];grind
   exact Rat.intCast_eq_zero_iff.mp this
noncomputable def aHt (cx cy px py qx qy:Rat):Int:=if iC cx cy qx qy<iC cx cy px py then 1 else if iC cx cy px py=iC cx cy qx qy then 0 else -1
def aAZ:DSp:=λds M Q=>∃cx cy px py qx qy n,ds=[PQ cx cy,PQ px py,PQ qx qy]/\BQ n cx/\BQ n cy/\BQ n px/\BQ n py/\BQ n qx/\BQ n qy/\n<=4000/\Q (.int (aHt cx cy px py qx qy)) M
noncomputable abbrev wO:Stmt:=top 14
theorem mD:aR ["c","p","q","p_square","pd","q_square","qd"] ["c","p","q"] (aJ wO):=by ac_rfl
theorem aDV (hF:bT K mg "farther" wO ["c","p","q"])(lV:Has P w K mg base 102 "scaled_far" ["c","p"] sW)(aEM:Has P w K mg base 101 "sign" ["number"] aCA):Has P w K mg base 103 "farther" ["c","p","q"] aAZ:=by
 refine Has.mkZ hF mD (λds M Q ⟨cx,cy,px,py,qx,qy,n,e,_⟩=>by rw[e];rfl) λf cdv A outer s H ds M Q E hr h=>?_;obtain⟨cx,cy,px,py,qx,qy,n,rfl,h1,h2,h3,h4,h5,h6,hn,q⟩:=h;refine⟨_,(aF (iU (aG lV hr (by decide) (aA (aB 0) (aA (aB 1) aD))) (gS (n:=2) rfl (bJ (aX (i:=3) mD.nd) (bJ (aX (i:=4) mD.nd) fE))))
  (aF (iU (aG lV hr (by decide) (aA (aB 0) (aA (aB 2) aD))) (gS (n:=2) rfl (bJ (aX (i:=5) mD.nd) (bJ (aX (i:=6) mD.nd) fE))))
  (aE (aN (aG aEM hr (by decide) (aA (aK jW (aK bN (aK bN (aB 3) (aB 6)) (aB 6)) (aK bN (aK bN (aB 5) (aB 4)) (aB 4))) aD)))))),?_⟩
 ac_nf;have bP:=aKZ h1 h2 h3 h4;have bQ:=aKZ h1 h2 h5 h6;have dP:=(aF5 h3 h4).2.2;have dQ:=(aF5 h5 h6).2.2;refine⟨cx,cy,px,py,n,rfl,h1,h2,h3,h4,hn,?_⟩;ac_nf;refine⟨rfl,cx,cy,qx,qy,n,rfl,h1,h2,h5,h6,hn,?_⟩;ac_nf;refine⟨rfl,dB bP dQ (by omega),dB (bP.mul dQ) dQ (by omega),dB bQ dP (by omega),dB (bQ.mul dP) dP (by omega),_,rfl,M,.refl _,?_⟩;obtain⟨e1,e2⟩:=aKi cx cy px py qx qy;have e:(if 0<fS cx cy px py*oD qx qy*oD qx qy-fS cx cy qx qy*oD px py*oD px py then 1 else if fS cx cy px py*oD qx qy*oD qx qy-fS cx cy qx qy*oD px py*oD px py=0 then 0 else -1:Int)=aHt cx cy px py qx qy:=by
  unfold aHt;by_cases c:iC cx cy qx qy<iC cx cy px py
  ·rw[if_pos c,if_pos (e1.mpr c)]
  ·rw[if_neg c,if_neg (λz=>c (e1.mp z))];by_cases d:iC cx cy px py=iC cx cy qx qy
   ·rw[if_pos d,if_pos (e2.mpr d)]
   ·rw[if_neg d,if_neg (λz=>d (e2.mp z))]
 rw[e];exact q
def aDn:DSp:=λds M Q=>ds=[]/\Q (FR 0 0 0 1 1) M
noncomputable abbrev aCw:Stmt:=top 30
theorem aGN:aR [] [] (aJ aCw):=by ac_rfl
theorem aGo (hF:bT K mg "first" aCw [])(bH:gG K mg "MIDDLE" uU)(mK:gG K mg "ONE" aEY):Has P w K mg base 101 "first" [] aDn:=by refine Has.mkZ hF aGN (λds M Q ⟨e,_⟩=>by rw[e];rfl) λf cdv A outer s H ds M Q E hr h=>?_;obtain⟨rfl,q⟩:=h;refine⟨_,(aE (aN (aM (aA (bG bH) (aA aC (aA aC (aA (bG mK) aD))))))),?_⟩;ac_nf;exact⟨by decide,M,.refl _,q⟩
def iI:DSp:=λds M Q=>∃t b,ds=[.int t,.int b]/\0<b/\Bd 8999 b/\Q (FQ ((t:Rat)/(b:Rat))) M
noncomputable abbrev mY:Stmt:=top 76
theorem iE:aR ["_law_top","_law_bottom","_law_one","_law_other"] ["_law_top","_law_bottom"] (aJ mY):=by ac_rfl
theorem aBe (hF:bT K mg "_law_ratio" mY ["_law_top","_law_bottom"])(oH:mg "abs" = none):Has P w K mg base 101 "_law_ratio" ["_law_top","_law_bottom"] iI:=by
 refine Has.mkZ hF iE (λds M Q ⟨a,b,e,_⟩=>by rw[e];rfl) λf cdv A outer s H ds M Q E hr h=>?_;obtain⟨t,b,rfl,hb,hB,q⟩:=h;refine⟨_,(aF (sE (i:=2) (j:=3) rfl iE.nd (aA (bI aAu oH (aA (aB 0) aD)) (aA (aB 1) aD)))
  (aF (iH PassesOwn.never (aQ gA (aB 3) aC) (aE (sE (i:=2) (j:=3) rfl iE.nd (aA (aB 3) (aA (aK cZ (aB 2) (aB 3)) aD)))))
  (aE (aN (aM (aA (aK dZ (aB 0) (aB 2)) (aA (aK dZ (aB 1) (aB 2)) aD))))))),?_⟩
 have hb0:b≠0:=by omega
 refine jN (λm ρ M'=>M'=M/\∃x y:Int,ρ=[some (.int t),some (.int b),some (.int x),some (.int y)]/\m=y.natAbs/\0<=x/\0<=y/\Int.gcd x y=Int.gcd t b) _ ⟨rfl,_,_,rfl,rfl,by split<;>omega,by omega,by split<;>simp[Int.neg_gcd]⟩ ?_
 rintro m ρ M' ⟨rfl,x,y,rfl,rfl,hx,hy,g⟩;ac_nf;refine dif (λc=>?_) (λc=>?_)
 ·have hy':y≠0:=by omega
  exact⟨hy',_,aB7 hy',rfl,y,x.fmod y,rfl,rfl,hy,Int.fmod_nonneg_of_pos _ (by omega),(aAf x y).trans g⟩
 ·have hy':y=0:=by omega
  subst hy';have e:x=(Int.gcd t b:Int):=by rw[<- g,Int.gcd_zero_right];omega
  have fin:Q (.tup [.int (fT t b),.int (fB t b)]) M':=by rw[aFx hb0];exact q
  unfold fT fB at fin;have s1:=aK5 (t:=t) hb0;have s2:=(hB.sg (t:=t) hb0).log (by decide);unfold sg at fin s1 s2;rw[if_neg (by omega),<- e] at fin s1 s2;exact⟨⟨s1,Nat.lt_succ_of_lt s2⟩,⟨s1,Nat.lt_succ_of_lt s2⟩,by decide,M',.refl _,fin⟩
def rG:DSp:=aCm
noncomputable abbrev uO:Stmt:=top 77
theorem aDs:aR ["_law_one","_law_other"] ["_law_one","_law_other"] (aJ uO):=by ac_rfl
theorem aCe (hF:bT K mg "_law_plus" uO ["_law_one","_law_other"])(bX:Has P w K mg base 101 "_law_ratio" ["_law_top","_law_bottom"] iI):Has P w K mg base 102 "_law_plus" ["_law_one","_law_other"] rG:=by refine Has.mkZ hF aDs vN λf cdv A outer s H ds M Q E hr h=>?_;obtain⟨p,r,m,n,rfl,_,h1,h2,l,q⟩:=h;refine⟨_,(aE (aN (aG bX hr (by decide) (aA (aK cB (aK bN (aH (aB 0) aC) (aH (aB 1) aC)) (aK bN (aH (aB 1) aC) (aH (aB 0) aC))) (aA (aK bN (aH (aB 0) aC) (aH (aB 1) aC)) aD))))),?_⟩;ac_nf;exact⟨dB h1.1 h2.2 (by omega),dB h2.1 h1.2 (by omega),dB h1.2 h2.2 (by omega),_,_,rfl,Int.mul_pos (den_pos p) (den_pos r),(h1.2.mul h2.2).mono (by omega),M,.refl _,by rw[aOQ];exact q⟩
def jY:DSp:=aD8
noncomputable abbrev mW:Stmt:=top 78
theorem vD:aR ["_law_one","_law_other"] ["_law_one","_law_other"] (aJ mW):=by ac_rfl
theorem aBD (hF:bT K mg "_law_times" mW ["_law_one","_law_other"])(bX:Has P w K mg base 101 "_law_ratio" ["_law_top","_law_bottom"] iI):Has P w K mg base 102 "_law_times" ["_law_one","_law_other"] jY:=by refine Has.mkZ hF vD vN λf cdv A outer s H ds M Q E hr h=>?_;obtain⟨p,r,m,n,rfl,_,h1,h2,l,q⟩:=h;refine⟨_,(aE (aN (aG bX hr (by decide) (aA (aK bN (aH (aB 0) aC) (aH (aB 1) aC)) (aA (aK bN (aH (aB 0) aC) (aH (aB 1) aC)) aD))))),?_⟩;ac_nf;exact⟨dB h1.1 h2.1 (by omega),dB h1.2 h2.2 (by omega),_,_,rfl,Int.mul_pos (den_pos p) (den_pos r),(h1.2.mul h2.2).mono (by omega),M,.refl _,by rw[aMi];exact q⟩
theorem aHO {a b:Rat}(ha:0<a)(hb:0<b):0<a/b:=by
 have e:a/b*b=a:=by grind
 rcases (show a/b<0∨a/b=0∨0<a/b by grind) with c|c|c
 ·have:=Rat.mul_pos (show 0 < -(a/b) by grind) hb;grind
 ·rw[c] at e;grind
 ·exact c
theorem aDq {x:Int}(h1:-10000000<=x)(h2:x<=10000000):Bd 24 x:=by unfold Bd;omega
theorem aGR {t b:Int}(h0:0<b)(h1:-10000000<=t)(h2:t<=10000000)(h3:b<=10000000):BQ 24 ((t:Rat)/(b:Rat)):=.make (by omega) (aDq h1 h2) (aDq (by omega) h3)
def Wh (q:Rat):Prop:=∃z:Int,q=(z:Rat)/\-20<=z/\z<=20
def DrR (a b:Int)(q:Rat):Prop:=(b.fmod 5=4/\q=(((a*7).fmod 1999999-999999:Int):Rat)/((1+(b*13).fmod 999999:Int):Rat))∨(b.fmod 5≠4/\∃k:Int,atI [D.int 1,.int 1,.int 9] (b.fmod 3)=some (.int k)/\q=((a.fmod 41-20:Int):Rat)/((1+(a.fdiv 41).fmod k:Int):Rat))
theorem DrR.det {a b:Int}{q q':Rat}(h:DrR a b q)(h':DrR a b q'):q=q':=by
 rcases h with⟨c,e⟩|⟨c,k,hk,e⟩
 ·rcases h' with⟨_,e'⟩|⟨c',_⟩
  ·rw[e,e']
  ·exact absurd c c'
 ·rcases h' with⟨c',_⟩|⟨_,k',hk',e'⟩
  ·exact absurd c' c
  ·rw[hk] at hk';cases hk';rw[e,e']
def oU:DSp:=λds M Q=>∃a b,ds=[.int a,.int b]/\∀q,BQ 24 q->(b.fmod 5≠4->b.fmod 3≠2->Wh q)->DrR a b q->Q (FQ q) M
noncomputable abbrev rB:Stmt:=top 79
theorem aDb:aR ["_law_one","_law_other"] ["_law_one","_law_other"] (aJ rB):=by ac_rfl
theorem aBv (hF:bT K mg "_law_drawn" rB ["_law_one","_law_other"])(bX:Has P w K mg base 101 "_law_ratio" ["_law_top","_law_bottom"] iI):Has P w K mg base 102 "_law_drawn" ["_law_one","_law_other"] oU:=by
 refine Has.mkZ hF aDb (λds M Q ⟨a,b,e,_⟩=>by rw[e];rfl) λf cdv A outer s H ds M Q E hr h=>?_;obtain⟨a,b,rfl,q⟩:=h;refine⟨_,(aF (aW (aQ (cD hr) (aK cZ (aB 1) aC) aC) (aE (aN (aG bX hr (by decide) (aA (aK jW (aK cZ (aK bN (aB 0) aC) aC) aC) (aA (aK cB aC (aK cZ (aK bN (aB 1) aC) aC)) aD))))) aS)
  (aE (aN (aG bX hr (by decide) (aA (aK jW (aK cZ (aB 0) aC) aC) (aA (aK cB aC (aK cZ (aK dZ (aB 0) aC) (aH (bR (aA aC (aA aC (aA aC aD)))) (aK cZ (aB 1) aC)))) aD)))))),?_⟩
 ac_nf;simp_arith;refine⟨by decide,?_⟩;by_cases c:b.fmod 5=4
 ·rw[if_pos c];have h1:=Int.fmod_nonneg_of_pos (a*7) (show(0:Int)<1999999 by decide);have h2:=Int.fmod_lt_of_pos (a*7) (show(0:Int)<1999999 by decide);have h3:=Int.fmod_nonneg_of_pos (b*13) (show(0:Int)<999999 by decide);have h4:=Int.fmod_lt_of_pos (b*13) (show(0:Int)<999999 by decide);exact⟨uP (by unfold Bd;decide),by decide,uP (by unfold Bd;decide),by decide,_,_,rfl,by omega,(aDq (by omega) (by omega)).mono (by decide),M,.refl _,q _ (aGR (by omega) (by omega) (by omega) (by omega)) (λn=>absurd c n) (.inl ⟨c,rfl⟩)⟩
 ·rw[if_neg c];refine⟨by decide,⟨by decide,by decide +kernel⟩,by decide,λp hp=>⟨by decide,?_⟩⟩;have s1:=aU.new hp [.int 1,.int 1,.int 9];have h1:=Int.fmod_nonneg_of_pos a (show(0:Int)<41 by decide);have h2:=Int.fmod_lt_of_pos a (show(0:Int)<41 by decide);obtain⟨k,hk,k0,k1,kw⟩:∃k:Int,atI [D.int 1,.int 1,.int 9] (b.fmod 3)=some (.int k)/\0<k/\k<=9/\(b.fmod 3≠2->k=1):=by
   have h1:=Int.fmod_nonneg_of_pos b (show(0:Int)<3 by decide);have h2:=Int.fmod_lt_of_pos b (show(0:Int)<3 by decide);have:b.fmod 3=0∨b.fmod 3=1∨b.fmod 3=2:=by omega
   rcases this with e|e|e<;>rw[e]
   ·exact⟨1,rfl,by decide,by decide,λ_=>rfl⟩
   ·exact⟨1,rfl,by decide,by decide,λ_=>rfl⟩
   ·exact⟨9,rfl,by decide,by decide,λn=>absurd rfl n⟩
  refine⟨_,_,aI,hk,?_⟩;ac_nf;have h3:=Int.fmod_nonneg_of_pos (a.fdiv 41) k0;have h4:=Int.fmod_lt_of_pos (a.fdiv 41) k0;refine⟨by omega,_,_,rfl,by omega,(aDq (by omega) (by omega)).mono (by decide),M,s1,q _ (aGR (by omega) (by omega) (by omega) (by omega)) (λ_ n=>⟨a.fmod 41-20,?_,by omega,by omega⟩) (.inr ⟨c,k,hk,rfl⟩)⟩;rw[show 1+(a.fdiv 41).fmod k=1 by have:=kw n;omega];show _/(1:Rat)=_;grind
theorem bqz:BQ 1 0:=⟨by unfold Bd;decide,by unfold Bd;decide⟩
theorem aGq {cx cy px py qx qy:Rat}:aHt cx cy px py qx qy=0↔iC cx cy px py=iC cx cy qx qy:=by
 unfold aHt;by_cases c:iC cx cy qx qy<iC cx cy px py
 ·rw[if_pos c];exact⟨λz=>absurd z (by decide),λz=>by rw[z] at c;exact absurd c Rat.lt_irrefl⟩
 ·rw[if_neg c];by_cases d:iC cx cy px py=iC cx cy qx qy
  ·rw[if_pos d];exact⟨λ_=>d,λ_=>rfl⟩
  ·rw[if_neg d];exact⟨λz=>absurd z (by decide),λz=>absurd z d⟩
inductive Pl where
 |go (a:Rat)|side (a b:Rat)|skip (a:Rat)|dot|left|right|rnd|mirror|grow (a:Rat)|quarter (a:Rat)|half (a:Rat)|arc (a b c d:Rat)
noncomputable def plD:Pl->D
 |.go a=>.tup [.str "go",FQ a]
 |.side a b=>.tup [.str "side",FQ a,FQ b]
 |.skip a=>.tup [.str "skip",FQ a]
 |.dot=>.tup [.str "dot"]
 |.left=>.tup [.str "left"]
 |.right=>.tup [.str "right"]
 |.rnd=>.tup [.str "round"]
 |.mirror=>.tup [.str "mirror"]
 |.grow a=>.tup [.str "grow",FQ a]
 |.quarter a=>.tup [.str "quarter",FQ a]
 |.half a=>.tup [.str "half",FQ a]
 |.arc a b c d=>.tup [.str "arc",FQ a,FQ b,FQ c,FQ d]
def plB (B:Nat):Pl->Prop
 |.go a=>BQ B a
 |.side a b=>BQ B a/\BQ B b
 |.skip a=>BQ B a
 |.grow a=>BQ B a/\0<a
 |.quarter a=>BQ B a/\a≠0
 |.half a=>BQ B a/\a≠0
 |.arc a b c d=>BQ B a/\BQ B b/\BQ B c/\BQ B d/\¬(a=0/\b=0)/\¬(a=c/\b=d)/\iC a b 0 0=iC a b c d
 |_=>True
inductive Lg where
 |st (x y u v:Rat)|bd (a b c d e f:Rat) (w:Int)
noncomputable def lgD:Lg->D
 |.st x y u v=>.tup [.str "straight",PQ x y,PQ u v]
 |.bd a b c d e f w=>.tup [.str "bend",PQ a b,PQ c d,PQ e f,.int w]
noncomputable def aCN:Pl->Option Lg
 |.go a=>some (.st 0 0 a 0)
 |.side a b=>some (.st 0 0 a b)
 |.dot=>some (.st 0 0 0 0)
 |.quarter a=>if 0<a then some (.bd 0 a 0 0 a a 1) else some (.bd 0 a 0 0 (-a) a (-1))
 |.half a=>some (.bd 0 a 0 0 0 (a+a) (if 0<a then 1 else -1))
 |.arc a b c d=>some (.bd a b 0 0 c d 1)
 |_=>none
noncomputable def aHE:Pl->Fm
 |.go a=>⟨a,0,0,1,1⟩
 |.side a b=>⟨a,b,0,1,1⟩
 |.skip a=>⟨a,0,0,1,1⟩
 |.dot=>⟨0,0,0,1,1⟩
 |.left=>⟨0,0,1,1,1⟩
 |.right=>⟨0,0,3,1,1⟩
 |.rnd=>⟨0,0,2,1,1⟩
 |.mirror=>⟨0,0,0,-1,1⟩
 |.grow a=>⟨0,0,0,1,a⟩
 |.quarter a=>if 0<a then ⟨a,a,1,1,1⟩ else ⟨-a,a,3,1,1⟩
 |.half a=>⟨0,a+a,2,1,1⟩
 |.arc _ _ c d=>⟨c,d,0,1,1⟩
noncomputable def lgO:Option Lg->D
 |none=>.non
 |some l=>lgD l
inductive Rw where
 |pl (p:Pl)|ag (n:Nat) (rs:List Rw)|kp (rs:List Rw)|ev (rs:List Rw)
mutual
noncomputable def rwD:Rw->D
 |.pl p=>plD p
 |.ag n rs=>.tup [.str "again",.int (n:Int),.tup (bA rs)]
 |.kp rs=>.tup [.str "keep",.tup (bA rs)]
 |.ev rs=>.tup [.str "ever",.tup (bA rs)]
noncomputable def bA:List Rw->List D
 |[]=>[]
 |r::rs=>rwD r::bA rs
end
theorem eS:∀rs:List Rw,bA rs=rs.map rwD
 |[]=>rfl
 |r::rs=>by rw[bA,eS rs,map_cons]
def Dp:Nat->Rw->Prop
 |_,.pl _=>True
 |0,_=>False
 |d+1,.ag n rs=>(n:Int)<2^60/\rs.length<=1000/\∀r∈rs,Dp d r
 |d+1,.kp rs=>rs.length<=1000/\∀r∈rs,Dp d r
 |d+1,.ev rs=>rs.length<=1000/\∀r∈rs,Dp d r
def DpS:Nat->List Rw->Prop
 |0,_=>False
 |d+1,rs=>rs.length<=1000/\∀r∈rs,Dp d r
theorem oB {d n:Nat}{rs:List Rw}(h:Dp d (.ag n rs)):(n:Int)<2^60/\DpS d rs:=by
 cases d with
 |zero=>exact h.elim
 |succ d=>exact⟨h.1,h.2.1,h.2.2⟩
theorem tI {d:Nat}{rs:List Rw}(h:Dp d (.kp rs)):DpS d rs:=by
 cases d with
 |zero=>exact h.elim
 |succ d=>exact h
theorem tE {d:Nat}{rs:List Rw}(h:Dp d (.ev rs)):DpS d rs:=by
 cases d with
 |zero=>exact h.elim
 |succ d=>exact h
theorem dL:∀{d d':Nat}{r:Rw},Dp d r->d<=d'->Dp d' r
 |_,0,.pl _,_,_=>trivial
 |_,_+1,.pl _,_,_=>trivial
 |0,_,.ag _ _,h,_=>h.elim
 |0,_,.kp _,h,_=>h.elim
 |0,_,.ev _,h,_=>h.elim
 |d+1,0,_,_,l=>absurd l (by omega)
 |d+1,d'+1,.ag n rs,h,l=>⟨h.1,h.2.1,λr hr=>dL (h.2.2 r hr) (by omega)⟩
 |d+1,d'+1,.kp rs,h,l=>⟨h.1,λr hr=>dL (h.2 r hr) (by omega)⟩
 |d+1,d'+1,.ev rs,h,l=>⟨h.1,λr hr=>dL (h.2 r hr) (by omega)⟩
noncomputable def inR:Rw->D
 |.pl _=>.non
 |.ag _ rs=>.tup (bA rs)
 |.kp rs=>.tup (bA rs)
 |.ev rs=>.tup (bA rs)
mutual
noncomputable def nmR:Rw->Int
 |.pl _=>1
 |.ag _ rs=>2+nmS rs
 |.kp rs=>2+nmS rs
 |.ev rs=>2+nmS rs
noncomputable def nmS:List Rw->Int
 |[]=>0
 |r::rs=>nmR r+nmS rs
end
mutual
noncomputable def dnR:Rw->Nat
 |.pl _=>1
 |.ag n rs=>dnS rs*n
 |.kp rs=>dnS rs
 |.ev rs=>dnS rs
noncomputable def dnS:List Rw->Nat
 |[]=>0
 |r::rs=>dnR r+dnS rs
end
noncomputable abbrev LR:=Lg×Int×List Int
structure Ed where
 f:Fm
 a:Int
 rd:List Int
 ls:List LR
theorem bE {Q:DQ}{d:D}{M:DM}(q:Q d M):Dn Q d M:=⟨M,.refl _,q⟩
theorem gZ {rs:List Rw}{i:Nat}{d:D}(h:(bA rs)[i]?=some d):∃r,rs[i]?=some r/\d=rwD r:=by rw[eS,getElem?_map] at h;obtain⟨r,e,z⟩:=Option.map_eq_some_iff.mp h;exact⟨r,e,z.symm⟩
theorem bF (rs:List Rw):(bA rs).length=rs.length:=by rw[eS,length_map]
theorem fA {α:Type}{rs:List α}{i:Nat}{r:α}(h:rs[i]?=some r):rs.take (i+1)=rs.take i++[r]:=by have hl:=(List.getElem?_eq_some_iff.mp h).1;have e:rs[i]=r:=(List.getElem?_eq_some_iff.mp h).2;rw[List.take_succ_eq_append_getElem hl,e]
theorem eU:∀xs ys:List Rw,dnS (xs++ys)=dnS xs+dnS ys
 |[],ys=>by rw[nil_append,dnS,Nat.zero_add]
 |x::xs,ys=>by rw[cons_append,dnS,dnS,eU xs ys,Nat.add_assoc]
theorem aFa:∀rs:List Rw,nmS rs=(rs.map nmR).sum
 |[]=>rfl
 |r::rs=>by rw[nmS,aFa rs,map_cons,List.sum_cons]
noncomputable def lrD (x:LR):D:=.tup [lgD x.1,.int x.2.1,.tup (x.2.2.map D.int)]
def EdR (M M':DM)(d:D)(e:Ed):Prop:=∃q:Addr,d=.tup [FmD e.f,.int e.a,.tup (e.rd.map D.int),.ref q]/\M q=none/\M' q=some (e.ls.map lrD)
structure aFH (M M':DM)(ps pe:Addr)(L Es:List D)(ls:List LR)(es:List Ed):Prop where
 s:M' ps=some (L++ls.map lrD)
 e:∃Es',M' pe=some (Es++Es')/\Paired (EdR M M') Es' es
 o:∀k:AK,k ≠ .l ps->k ≠ .l pe->∀o,M k=some o->M' k=some o
theorem aFc {α β:Type}{F:α->β->Prop}:∀{l₁:List α}{l₂:List β} {m₁:List α} {m₂:List β},Paired F l₁ l₂->Paired F m₁ m₂->Paired F (l₁++m₁) (l₂++m₂)
 |_,_,_,_,.nil,h=>h
 |_,_,_,_,.cons h₁ t,h=>.cons h₁ (aFc t h)
theorem aFH.trans {M M1 M2:DM}{ps pe:Addr}{L Es Es1:List D}{ls ls2:List LR}{es es2:List Ed}(a1:M ps=some L)(a2:M pe=some Es)(h:aFH M M1 ps pe L Es ls es)(e1:M1 pe=some Es1)(h2:aFH M1 M2 ps pe (L++ls.map lrD) Es1 ls2 es2):aFH M M2 ps pe L Es (ls++ls2) (es++es2):=by
 obtain⟨Es',e,pr⟩:=h.e;obtain⟨Es2,e2,pr2⟩:=h2.e;have eq:Es1=Es++Es':=by rw[e] at e1;exact(Option.some.inj e1).symm
 subst eq;refine⟨by rw[map_append,<- append_assoc];exact h2.s,⟨Es'++Es2,by rw[<- append_assoc];exact e2,?_⟩,λk n1 n2 o q=>h2.o k n1 n2 o (h.o k n1 n2 o q)⟩;refine aFc (Paired.mapP pr λd x ⟨q,z,f,l⟩=>⟨q,z,f,?_⟩) (Paired.mapP pr2 λd x ⟨q,z,f,l⟩=>⟨q,z,?_,l⟩)
 ·have n1:(AK.l q) ≠ .l ps:=λz=>by rw[z,a1] at f;cases f
  have n2:(AK.l q) ≠ .l pe:=λz=>by rw[z,a2] at f;cases f
  exact h2.o _ n1 n2 _ l
 ·cases c:M q with
  |none=>rfl
  |some o =>
   have n1:(AK.l q) ≠ .l ps:=λz=>by rw[z,h.s] at f;cases f
   have n2:(AK.l q) ≠ .l pe:=λz=>by rw[z,e] at f;cases f
   have:=h.o _ n1 n2 _ c;rw[f] at this;cases this
def oG:DSp:=λds M Q=>∃(p r:Rat)(m n:Nat),ds=[FQ p,FQ r]/\(p≠0/\r≠0)/\BQ m p/\BQ n r/\(m<=4400∨n<=4400)/\m+n<=1000000/\Q (FQ (p*r)) M
theorem aEC {p:Rat}(h:p≠0):p.num≠0:=λz=>h (Rat.num_eq_zero.mp z)
theorem aF6 (hF:bT K mg "times" zH ["one","other"])(bD:Has P w K mg base 101 "greatest_divisor" ["one","other"] eG):Has P w K mg base 102 "times" ["one","other"] oG:=by
 refine Has.mkZ hF oI (λds M Q ⟨_,_,_,_,z,_⟩=>by rw[z];rfl) λf cdv A outer s H ds M Q E hr h=>?_;obtain⟨p,r,m,n,rfl,⟨p0,r0'⟩,h1,h2,sm,l,q⟩:=h;refine⟨_,(aF (aP (i:=2) oI.nd (aG bD hr (by decide) (aA (aH (aB 0) aC) (aA (aH (aB 1) aC) aD))))
  (aF (aP (i:=3) oI.nd (aG bD hr (by decide) (aA (aH (aB 1) aC) (aA (aH (aB 0) aC) aD))))
  (aE (aN (aM (aA (aK bN (aK dZ (aH (aB 0) aC) (aB 2)) (aK dZ (aH (aB 1) aC) (aB 3))) (aA (aK bN (aK dZ (aH (aB 0) aC) (aB 3)) (aK dZ (aH (aB 1) aC) (aB 2))) aD))))))),?_⟩
 obtain⟨f0,r0,fd,rd,e1,e2⟩:=aPC p r _ _ rfl rfl;have fl:(Int.gcd p.num r.den:Int)∣p.num:=Int.gcd_dvd_left _ _;have rl:(Int.gcd r.num p.den:Int)∣r.num:=Int.gcd_dvd_left _ _;have cf:∀x,CFd x (Int.gcd p.num r.den:Int):=λx=>by
  rcases sm with z|z
  ·exact yX h1.1 (by omega) fl (aEC p0) f0
  ·exact yX h2.2 (by omega) fd (eX r) f0
 have cr:∀x,CFd x (Int.gcd r.num p.den:Int):=λx=>by
  rcases sm with z|z
  ·exact yX h1.2 (by omega) rd (eX p) r0
  ·exact yX h2.1 (by omega) rl (aEC r0') r0
 refine⟨_,_,rfl,_,_,rfl,cf _,cr _,dB (h1.1.fdiv fl) (h2.1.fdiv rl) (by omega),cr _,cf _,dB (h1.2.fdiv rd) (h2.2.fdiv fd) (by omega),by show(2:Nat)<=1000;decide,M,.refl _,?_⟩;have q':Q (.tup [.int (p*r).num,.int ((p*r).den:Int)]) M:=q;rw[<- e1,<- e2] at q';exact q'
def tD:DSp:=λds M Q=>∃t b:Int,ds=[.int t,.int b]/\0<b/\Bd 8999 (Int.gcd t b:Int)/\Q (FQ ((t:Rat)/(b:Rat))) M
theorem aBq (hF:bT K mg "_law_ratio" mY ["_law_top","_law_bottom"])(oH:mg "abs" = none):Has P w K mg base 101 "_law_ratio" ["_law_top","_law_bottom"] tD:=by
 refine Has.mkZ hF iE (λds M Q ⟨a,b,e,_⟩=>by rw[e];rfl) λf cdv A outer s H ds M Q E hr h=>?_;obtain⟨t,b,rfl,hb,hB,q⟩:=h;refine⟨_,(aF (sE (i:=2) (j:=3) rfl iE.nd (aA (bI aAu oH (aA (aB 0) aD)) (aA (aB 1) aD)))
  (aF (iH PassesOwn.never (aQ gA (aB 3) aC) (aE (sE (i:=2) (j:=3) rfl iE.nd (aA (aB 3) (aA (aK cZ (aB 2) (aB 3)) aD)))))
  (aE (aN (aM (aA (aK dZ (aB 0) (aB 2)) (aA (aK dZ (aB 1) (aB 2)) aD))))))),?_⟩
 have hb0:b≠0:=by omega
 refine jN (λm ρ M'=>M'=M/\∃x y:Int,ρ=[some (.int t),some (.int b),some (.int x),some (.int y)]/\m=y.natAbs/\0<=x/\0<=y/\Int.gcd x y=Int.gcd t b) _ ⟨rfl,_,_,rfl,rfl,by split<;>omega,by omega,by split<;>simp[Int.neg_gcd]⟩ ?_
 rintro m ρ M' ⟨rfl,x,y,rfl,rfl,hx,hy,g⟩;ac_nf;refine dif (λc=>?_) (λc=>?_)
 ·have hy':y≠0:=by omega
  exact⟨hy',_,aB7 hy',rfl,y,x.fmod y,rfl,rfl,hy,Int.fmod_nonneg_of_pos _ (by omega),(aAf x y).trans g⟩
 ·have hy':y=0:=by omega
  subst hy';have e:x=(Int.gcd t b:Int):=by rw[<- g,Int.gcd_zero_right];omega
  have fin:Q (.tup [.int (fT t b),.int (fB t b)]) M':=by rw[aFx hb0];exact q
  unfold fT fB at fin;have s1:=aK5 (t:=t) hb0;have s2:x.natAbs.log2<8999:=by rw[e];exact hB.log (by decide)
  unfold sg at fin s1;rw[if_neg (by omega),<- e] at fin s1;exact⟨⟨s1,Nat.lt_succ_of_lt s2⟩,⟨s1,Nat.lt_succ_of_lt s2⟩,by decide,M',.refl _,fin⟩
theorem aGy (p r:Rat):Int.gcd (p.num*r.num) ((p.den:Int)*(r.den:Int))∣r.den*r.num.natAbs:=by
 have h1:Nat.gcd p.num.natAbs p.den=1:=p.reduced;have h2:Nat.gcd r.num.natAbs r.den=1:=r.reduced;have e:Int.gcd (p.num*r.num) ((p.den:Int)*(r.den:Int))=Nat.gcd (p.num.natAbs*r.num.natAbs) (p.den*r.den):=by rw[Int.gcd_eq_natAbs_gcd_natAbs,Int.natAbs_mul,Int.natAbs_mul,Int.natAbs_natCast,Int.natAbs_natCast]
 rw[e];have k1:Nat.gcd (p.num.natAbs*r.num.natAbs) (p.den*r.den)∣Nat.gcd (p.num.natAbs*r.num.natAbs) p.den*Nat.gcd (p.num.natAbs*r.num.natAbs) r.den:=Nat.gcd_mul_right_dvd_mul_gcd _ _ _;refine Nat.dvd_trans k1 ?_;rw[Nat.mul_comm r.den];refine Nat.mul_dvd_mul ?_ (Nat.gcd_dvd_right _ _);have g1:=Nat.gcd_dvd_left (p.num.natAbs*r.num.natAbs) p.den;have g2:=Nat.gcd_dvd_right (p.num.natAbs*r.num.natAbs) p.den;have co:Nat.Coprime (Nat.gcd (p.num.natAbs*r.num.natAbs) p.den) p.num.natAbs:=Nat.Coprime.coprime_dvd_left g2 (Nat.Coprime.symm h1);exact co.dvd_of_dvd_mul_left g1
theorem aGY {p r:Rat}{n:Nat}(h:BQ n r)(r0:r≠0)(l:n+n<=8999):Bd 8999 (Int.gcd (p.num*r.num) ((p.den:Int)*(r.den:Int)):Int):=by have rp:0<r.num.natAbs:=Int.natAbs_pos.mpr (aEC r0);have le:=Nat.le_of_dvd (Nat.mul_pos r.den_pos rp) (aGy p r);have b:Bd (n+n) ((r.den:Int)*r.num):=h.2.mul h.1;refine Bd.mono ?_ l;show(Int.gcd (p.num*r.num) ((p.den:Int)*(r.den:Int)):Int).natAbs<2^(n+n);have b:((r.den:Int)*r.num).natAbs<2^(n+n):=b;rw[Int.natAbs_mul,Int.natAbs_natCast] at b;rw[Int.natAbs_natCast];omega
theorem aBy (hF:bT K mg "_law_times" mW ["_law_one","_law_other"])(w_law_ratio:Has P w K mg base 101 "_law_ratio" ["_law_top","_law_bottom"] tD):Has P w K mg base 102 "_law_times" ["_law_one","_law_other"] oG:=by
 refine Has.mkZ hF vD (λds M Q ⟨_,_,_,_,z,_⟩=>by rw[z];rfl) λf cdv A outer s H ds M Q E hr h=>?_;obtain⟨p,r,m,n,rfl,⟨p0,r0⟩,h1,h2,sm,l,q⟩:=h;have bX:=w_law_ratio;refine⟨_,(aE (aN (aG bX hr (by decide) (aA (aK bN (aH (aB 0) aC) (aH (aB 1) aC)) (aA (aK bN (aH (aB 0) aC) (aH (aB 1) aC)) aD))))),?_⟩;ac_nf;refine⟨dB h1.1 h2.1 (by omega),dB h1.2 h2.2 (by omega),_,_,rfl,Int.mul_pos (den_pos p) (den_pos r),?_,M,.refl _,by rw[aMi];exact q⟩;rcases sm with z|z
 ·have:=aGY (p:=r) h1 p0 (by omega);rw[Int.mul_comm r.num,Int.mul_comm (r.den:Int)] at this;exact this
 ·exact aGY h2 r0 (by omega)
def uE (M:DM)(x:D)(rs:List Rw):Prop:=x=.tup (bA rs) ∨ ∃a:Addr,x=.ref a/\M a=some (bA rs)
theorem sL {i:Nat}{x:D}{rs:List Rw}{g:DG}{tb:DS}{E:gF}{ρ:cO}{M:DM}(h:ρ[i]?=some (some x))(ra:uE M x rs)(q:∀at':Option Addr,(∀a,at'=some a->M a=some (bA rs))->dIt at' (bA rs) g tb E ρ M):aDH (aCl i) g tb E ρ M:=by
 rcases ra with rfl|⟨a,rfl,ha⟩
 ·exact aIF h (q none λa e=>by cases e)
 ·exact aIS h ha (q (some a) λb e=>by cases e;exact ha)
theorem aFj (p:Pl):∃w cP,plD p = .tup (.str w :: cP)/\w ≠ "again"/\w ≠ "keep"/\w ≠ "ever":=by cases p<;>exact⟨_,_,rfl,by decide,by decide,by decide⟩
theorem aAd {d:D}{r:List D}:atI (d::r) 0=some d:=by unfold atI ixN;rw[if_pos (by decide),if_pos (by rw[length_cons];omega)];rfl
def jG (d:Nat):DSp:=λds M Q=>∃x rs,ds=[x]/\uE M x rs/\DpS d rs/\Q (.int (dnS rs:Int)) M
noncomputable abbrev uQ:Stmt:=top 85
theorem hW:aR ["_law_rows_here","_law_many_here","_law_row_here"] ["_law_rows_here"] (aJ uQ):=by ac_rfl
theorem aCs (hF:bT K mg "_law_done" uQ ["_law_rows_here"]):Has P w K mg base 118 "_law_done" ["_law_rows_here"] (jG 8):=by
 have all:∀d,Has P w K mg base (110+d) "_law_done" ["_law_rows_here"] (jG d):=λd=>by
  induction d with
  |zero=>exact(Has.never hF hW 109).imp λds M Q ⟨_,rs,_,_,z,_⟩=>z
  |succ d cX =>
   refine Has.mkZ (k:=110+d) hF hW (λds M Q ⟨a,_,z,_⟩=>by rw[z];rfl) λf cdv A outer s H ds M Q E hr h=>?_;obtain⟨x,rs,rfl,ra,dp,q⟩:=h;refine⟨_,(aF (aP (i:=1) hW.nd aC)
  (aF (vR PassesOwn.never rfl (aB 0) (aX (i:=2) hW.nd) (aE (aW (aQ (cD hr) (aH (aB 2) aC) aL) (aE (aP (i:=1) hW.nd (aK cB (aB 1) (aK bN (aH (aB 2) aC) (aG cX hr (by omega) (aA (aH (aB 2) aC) aD)))))) (aE (aW (aQ yB (aH (aB 2) aC) (bR (aA aL (aA aL aD))) rfl) (aE (aP (i:=1) hW.nd (aK cB (aB 1) (aG cX hr (by omega) (aA (aH (aB 2) aC) aD))))) (aE (aP (i:=1) hW.nd (aK cB (aB 1) aC))))))))
  (aE (aN (aB 1))))),?_⟩
   ac_nf;refine sL rfl ra λat' hat=>?_;refine⟨λi ρ M'=>aU M M'/\∃o1,ρ=[some x,some (.int (dnS (rs.take i):Int)),o1],⟨.refl _,_,rfl⟩,λi ρ M' _ h a e=>h.1 _ _ (hat a e),?_,?_⟩
   ·rintro i d1 ρ M1 hd ⟨sub,o1,rfl⟩;obtain⟨r,hr',rfl⟩:=gZ hd;have dr:=dp.2 r (mem_of_getElem? hr');ac_nf;have fin:dnS (rs.take (i+1))=dnS (rs.take i)+dnR r:=by rw[fA hr',eU,dnS,dnS,Nat.add_zero]
    rw[fin];cases r with
    |pl p =>
     obtain⟨w0,cP,e,w1,w2,w3⟩:=aFj p;dsimp only[dnR,rwD];rw[e];ac_nf;rw[aAd];ac_nf;rw[aO];refine ifF (decide_eq_false w1) ⟨by decide,λa ha=>⟨["keep","ever"],aI,ifF (by simp[Ne.symm w2,Ne.symm w3]) ?_⟩⟩;exact⟨sub.trans (aU.new ha _),_,rfl⟩
    |ag n ws =>
     obtain⟨hn,dw⟩:=oB dr;dsimp only[dnR,rwD];ac_nf;rw[aO];refine ifT (by decide) ⟨_,ws,rfl,.inl rfl,dw,rR (by unfold Bd;omega),?_⟩;rw[Int.natCast_add,Int.natCast_mul,Int.mul_comm (dnS ws:Int)];exact⟨sub,_,rfl⟩
    |kp ws =>
     have dw:=tI dr;dsimp only[dnR,rwD];ac_nf;rw[aO];refine ifF (by decide) ⟨by decide,λa ha=>⟨["keep","ever"],aI,ifT (by decide) ⟨_,ws,rfl,.inl rfl,dw,?_⟩⟩⟩;exact⟨sub.trans (aU.new ha _),_,rfl⟩
    |ev ws =>
     have dw:=tE dr;dsimp only[dnR,rwD];ac_nf;rw[aO];refine ifF (by decide) ⟨by decide,λa ha=>⟨["keep","ever"],aI,ifT (by decide) ⟨_,ws,rfl,.inl rfl,dw,?_⟩⟩⟩;exact⟨sub.trans (aU.new ha _),_,rfl⟩
   ·rintro ρ M' ⟨sub,o1,rfl⟩;rw[bF,take_length];exact⟨M,sub,q⟩
 exact all 8
mutual
noncomputable def drR:Rw->Bool
 |.pl p=>(aCN p).isSome
 |.ag n rs=>n != 0&&drS rs
 |.kp rs=>drS rs
 |.ev rs=>drS rs
noncomputable def drS:List Rw->Bool
 |[]=>false
 |r::rs=>drR r||drS rs
end
theorem aFK:∀xs ys:List Rw,drS (xs++ys)=(drS xs||drS ys)
 |[],ys=>by rw[nil_append,drS,Bool.false_or]
 |x::xs,ys=>by rw[cons_append,drS,drS,aFK xs ys,Bool.or_assoc]
theorem aFo (p:Pl)(n:Nat):bB (n+3) (plD p)=true:=by cases p<;>rfl
theorem vJ:∀(d:Nat)(r:Rw) (k:Nat),Dp d r->bB (k+2*d+3) (rwD r)=true
 |_,.pl p,k,_=>by rw[rwD];exact aFo p _
 |d+1,.ag n ws,k,h=>by
  have hw:∀x∈bA ws,bB (k+2*d+3) x=true:=λx hx=>by rw[eS] at hx;obtain⟨r,hr,rfl⟩:=List.mem_map.mp hx;exact vJ d r k (h.2.2 r hr)
  rw[rwD,show k+2*(d+1)+3=(k+2*d+3)+1+1 by omega];show([D.str "again",.int (n:Int),.tup (bA ws)].all (bB (k+2*d+3+1)))=true;rw[all_cons,all_cons,all_cons];show(true&&(true&&(((bA ws).all (bB (k+2*d+3)))&&true)))=true;rw[List.all_eq_true.mpr hw];rfl
 |d+1,.kp ws,k,h=>by
  have hw:∀x∈bA ws,bB (k+2*d+3) x=true:=λx hx=>by rw[eS] at hx;obtain⟨r,hr,rfl⟩:=List.mem_map.mp hx;exact vJ d r k (h.2 r hr)
  rw[rwD,show k+2*(d+1)+3=(k+2*d+3)+1+1 by omega];show([D.str "keep",.tup (bA ws)].all (bB (k+2*d+3+1)))=true;rw[all_cons,all_cons];show(true&&(((bA ws).all (bB (k+2*d+3)))&&true))=true;rw[List.all_eq_true.mpr hw];rfl
 |d+1,.ev ws,k,h=>by
  have hw:∀x∈bA ws,bB (k+2*d+3) x=true:=λx hx=>by rw[eS] at hx;obtain⟨r,hr,rfl⟩:=List.mem_map.mp hx;exact vJ d r k (h.2 r hr)
  rw[rwD,show k+2*(d+1)+3=(k+2*d+3)+1+1 by omega];show([D.str "ever",.tup (bA ws)].all (bB (k+2*d+3+1)))=true;rw[all_cons,all_cons];show(true&&(((bA ws).all (bB (k+2*d+3)))&&true))=true;rw[List.all_eq_true.mpr hw];rfl
theorem aD9 {d:Nat}{ws:List Rw}(h:DpS d ws)(l:d<=9):bB 60 (.tup (bA ws))=true:=by
 cases d with
 |zero=>exact h.elim
 |succ d =>
  show(bA ws).all (bB 59)=true;rw[all_eq_true];intro x hx;rw[eS] at hx;obtain⟨r,hr,rfl⟩:=List.mem_map.mp hx;have:=vJ d r (56-2*d) (h.2 r hr);rw[show 56-2*d+2*d+3=59 by omega] at this;exact this
theorem aG4 (p:Pl):∃w cP,plD p = .tup (.str w :: cP)/\(w ≠ "again"/\w ≠ "keep"/\w ≠ "ever")/\id ((["go","side","dot","quarter","half","arc"]:List Str).any λx=>x==w)=(aCN p).isSome:=by
 cases p with
 |quarter a=>exact⟨_,_,rfl,by decide,by dsimp only[aCN];split<;>rfl⟩
 |_=>exact⟨_,_,rfl,by decide,by first|rfl|(dsimp only[aCN];decide)⟩
theorem aEQ {w:Str}(h:w ≠ "again"/\w ≠ "keep"/\w ≠ "ever"):id ((["again","keep","ever"]:List Str).any λx=>x==w)=false:=by simp[Ne.symm h.1,Ne.symm h.2.1,Ne.symm h.2.2]
def jV (d:Nat):DSp:=λds M Q=>∃x rs,ds=[x]/\uE M x rs/\DpS d rs/\Q (.bl (drS rs)) M
noncomputable abbrev rL:Stmt:=top 83
theorem iG:aR ["_law_rows_here","_law_many_here","_law_row_here"] ["_law_rows_here"] (aJ rL):=by ac_rfl
theorem aBj (hF:bT K mg "_law_draws" rL ["_law_rows_here"]):Has P w K mg base 118 "_law_draws" ["_law_rows_here"] (jV 8):=by
 have all:∀d,d<=8->Has P w K mg base (110+d) "_law_draws" ["_law_rows_here"] (jV d):=λd=>by
  induction d with
  |zero=>exact λ_=>(Has.never hF iG 109).imp λds M Q ⟨_,rs,_,_,z,_⟩=>z
  |succ d ih =>
   intro ld;have dO:=ih (by omega);refine Has.mkZ (k:=110+d) hF iG (λds M Q ⟨a,_,z,_⟩=>by rw[z];rfl) λf cdv A outer s H ds M Q E hr h=>?_;obtain⟨x,rs,rfl,ra,dp,q⟩:=h;refine⟨_,(aF (aP (i:=1) iG.nd aC)
  (aF (vR PassesOwn.never rfl (aB 0) (aX (i:=2) iG.nd) (aF (aW (aQ yB (aH (aB 2) aC) (bR (aA aL (aA aL (aA aL (aA aL (aA aL (aA aL aD))))))) rfl) (aE (aP (i:=1) iG.nd (aK cB (aB 1) aC))) aS)
  (aE (aW (fY (fU (aQ yB (aH (aB 2) aC) (bR (aA aL (aA aL (aA aL aD)))) rfl) (fU (aQ (qG hr) (aH (aB 2) aC) aC) (fF (dD (aG dO hr (by omega) (aA (aH (aB 2) (eL aC)) aD))))))) (aE (aP (i:=1) iG.nd (aK cB (aB 1) aC))) aS))))
  (aE (aN (cN gA (aB 1) aC))))),?_⟩
   ac_nf;refine sL rfl ra λat' hat=>?_;refine⟨λi ρ M'=>aU M M'/\∃(c:Nat)(o1:Option D),(0<c↔drS (rs.take i)=true)/\ρ=[some x,some (.int (c:Int)),o1],⟨.refl _,0,_,by rw[take_zero,drS];simp,rfl⟩,λi ρ M' _ h a e=>h.1 _ _ (hat a e),?_,?_⟩
   ·rintro i d1 ρ M1 hd ⟨sub,c,o1,hc,rfl⟩;obtain⟨r,hr',rfl⟩:=gZ hd;have dr:=dp.2 r (mem_of_getElem? hr');ac_nf;have fin:drS (rs.take (i+1))=(drS (rs.take i)||drR r):=by rw[fA hr',aFK,drS,drS,Bool.or_false]
    rw[fin];cases r with
    |pl p =>
     obtain⟨w0,cP,e,wb,wl⟩:=aG4 p;dsimp only[drR,rwD];rw[e];ac_nf;rw[aAd];ac_nf;refine⟨by decide,λa ha=>⟨["go","side","dot","quarter","half","arc"],aI,?_⟩⟩;rw[wl];have s1:=sub.trans (aU.new ha [D.str "go",.str "side",.str "dot",.str "quarter",.str "half",.str "arc"]);generalize bK M1 a _=M2 at s1 ⊢;cases hg:(aCN p).isSome with
     |true =>
      refine ifT rfl ⟨by decide,λa2 ha2=>⟨["again","keep","ever"],aI,ifF (aEQ wb) ?_⟩⟩;exact⟨s1.trans (aU.new ha2 _),c+1,_,by simp,rfl⟩
     |false =>
      refine ifF rfl ⟨by decide,λa2 ha2=>⟨["again","keep","ever"],aI,ifF (aEQ wb) ?_⟩⟩;exact⟨s1.trans (aU.new ha2 _),c,_,by simpa using hc,rfl⟩
    |ag n ws =>
     have dw:=(oB dr).2;dsimp only[drR,rwD];ac_nf;refine⟨by decide,λa ha=>⟨["go","side","dot","quarter","half","arc"],aI,ifF (by decide) ?_⟩⟩;have s1:=sub.trans (aU.new ha [D.str "go",.str "side",.str "dot",.str "quarter",.str "half",.str "arc"]);generalize bK M1 a _=M2 at s1 ⊢;refine⟨by decide,λa2 ha2=>⟨["again","keep","ever"],aI,ifT (by decide) ?_⟩⟩;have s2:=s1.trans (aU.new ha2 [D.str "again",.str "keep",.str "ever"]);generalize bK M2 a2 _=M3 at s2 ⊢;rw[cU];by_cases n0:n=0
     ·subst n0;refine ifF rfl (ifF rfl ⟨s2,c,_,by simpa using hc,rfl⟩)
     ·refine ifT (by rw[decide_eq_false (by omega)];rfl) ⟨_,ws,rfl,.inl rfl,dw,?_⟩;cases hg:drS ws with
      |true=>exact ifT rfl ⟨s2,c+1,_,by simp[n0],rfl⟩
      |false=>exact ifF rfl ⟨s2,c,_,by simpa using hc,rfl⟩
    |kp ws =>
     have dw:=tI dr;dsimp only[drR,rwD];ac_nf;refine⟨by decide,λa ha=>⟨["go","side","dot","quarter","half","arc"],aI,ifF (by decide) ?_⟩⟩;have s1:=sub.trans (aU.new ha [D.str "go",.str "side",.str "dot",.str "quarter",.str "half",.str "arc"]);generalize bK M1 a _=M2 at s1 ⊢;refine⟨by decide,λa2 ha2=>⟨["again","keep","ever"],aI,ifT (by decide) ?_⟩⟩;have s2:=s1.trans (aU.new ha2 [D.str "again",.str "keep",.str "ever"]);generalize bK M2 a2 _=M3 at s2 ⊢;refine⟨aD9 dw (by omega),rfl,?_⟩;refine ifT rfl ⟨_,ws,rfl,.inl rfl,dw,?_⟩;cases hg:drS ws with
     |true=>exact ifT rfl ⟨s2,c+1,_,by simp,rfl⟩
     |false=>exact ifF rfl ⟨s2,c,_,by simpa using hc,rfl⟩
    |ev ws =>
     have dw:=tE dr;dsimp only[drR,rwD];ac_nf;refine⟨by decide,λa ha=>⟨["go","side","dot","quarter","half","arc"],aI,ifF (by decide) ?_⟩⟩;have s1:=sub.trans (aU.new ha [D.str "go",.str "side",.str "dot",.str "quarter",.str "half",.str "arc"]);generalize bK M1 a _=M2 at s1 ⊢;refine⟨by decide,λa2 ha2=>⟨["again","keep","ever"],aI,ifT (by decide) ?_⟩⟩;have s2:=s1.trans (aU.new ha2 [D.str "again",.str "keep",.str "ever"]);generalize bK M2 a2 _=M3 at s2 ⊢;refine⟨aD9 dw (by omega),rfl,?_⟩;refine ifT rfl ⟨_,ws,rfl,.inl rfl,dw,?_⟩;cases hg:drS ws with
     |true=>exact ifT rfl ⟨s2,c+1,_,by simp,rfl⟩
     |false=>exact ifF rfl ⟨s2,c,_,by simpa using hc,rfl⟩
   ·rintro ρ M' ⟨sub,c,o1,hc,rfl⟩;rw[bF,take_length] at hc;ac_nf;have e:decide ((0:Int)<(c:Int))=drS rs:=by
     cases hg:drS rs with
     |true=>exact decide_eq_true (by have:=hc.mpr hg;omega)
     |false=>exact decide_eq_false λz=>by rw[hc.mp (by omega)] at hg;cases hg
    rw[e];exact⟨M,sub,q⟩
 exact all 8 (by decide)
def Sz (k:Nat)(x:Rat):Prop:=∃t b:Nat,(0<t/\t<=12^k)/\(0<b/\b<=12^k)/\x*(b:Rat)=(t:Rat)
theorem Sz.one:Sz 0 1:=⟨1,1,by decide,by decide,Rat.one_mul _⟩
theorem Sz.mul {j k:Nat}{x y:Rat}(h:Sz j x)(h2:Sz k y):Sz (j+k) (x*y):=by
 obtain⟨t,b,⟨t0,t1⟩,⟨b0,b1⟩,e⟩:=h;obtain⟨u,c,⟨u0,u1⟩,⟨c0,c1⟩,e2⟩:=h2;refine⟨t*u,b*c,⟨Nat.mul_pos t0 u0,?_⟩,⟨Nat.mul_pos b0 c0,?_⟩,?_⟩
 ·rw[Nat.pow_add];exact Nat.mul_le_mul t1 u1
 ·rw[Nat.pow_add];exact Nat.mul_le_mul b1 c1
 ·rw[Rat.natCast_mul,Rat.natCast_mul,<- e,<- e2];grind
theorem Sz.mono {j k:Nat}{x:Rat}(h:Sz j x)(l:j<=k):Sz k x:=by obtain⟨t,b,⟨t0,t1⟩,⟨b0,b1⟩,e⟩:=h;have:=Nat.pow_le_pow_right (n:=12) (by decide) l;exact⟨t,b,⟨t0,by omega⟩,⟨b0,by omega⟩,e⟩
theorem Sz.pow {j:Nat}{x:Rat}(h:Sz j x):∀n,Sz (j*n) (x^n)
 |0=>by rw[Rat.pow_zero];exact Sz.one
 |n+1=>by rw[Rat.pow_succ,Nat.mul_succ];exact(h.pow n).mul h
theorem Sz.bq {k:Nat}{x:Rat}(h:Sz k x):BQ (4*k+1) x:=by
 obtain⟨t,b,⟨t0,t1⟩,⟨b0,b1⟩,e⟩:=h;have p1:12^k<=16^k:=Nat.pow_le_pow_left (by decide) k;have p2:16^k=2^(4*k):=by rw[Nat.pow_mul]
 have p3:2^(4*k)<2^(4*k+1):=Nat.pow_lt_pow_right (by decide) (by omega);have n0:((b:Int):Rat)≠0:=by have:=aEg (show(0:Int)<(b:Int) by omega);grind
 have es:x=((t:Int):Rat)/((b:Int):Rat):=by simp only[Rat.intCast_natCast] at n0 ⊢;grind
 rw[es];exact .make (by omega) (by unfold Bd;show t<_;omega) (by unfold Bd;show b<_;omega)
mutual
noncomputable def szR:Rw->Rat
 |.pl (.grow a)=>a
 |.pl _=>1
 |.ag n rs=>szS rs^n
 |.kp _=>1
 |.ev _=>1
noncomputable def szS:List Rw->Rat
 |[]=>1
 |r::rs=>szR r*szS rs
end
theorem zC:∀xs ys:List Rw,szS (xs++ys)=szS xs*szS ys
 |[],ys=>by rw[nil_append,szS,Rat.one_mul]
 |x::xs,ys=>by rw[cons_append,szS,szS,zC xs ys,Rat.mul_assoc]
mutual
def gwR (N:Nat):Rw->Prop
 |.pl (.grow a)=>Sz 1 a
 |.pl _=>True
 |.ag _ rs=>dnS rs<=N/\gwS N rs
 |.kp rs=>dnS rs<=N/\gwS N rs
 |.ev rs=>(1<=dnS rs/\dnS rs<=N)/\gwS N rs
def gwS (N:Nat):List Rw->Prop
 |[]=>True
 |r::rs=>gwR N r/\gwS N rs
end
theorem aFP {N:Nat}:∀{rs:List Rw}{r:Rw},gwS N rs->r∈rs->gwR N r
 |x::xs,r,h,m=>by
  rw[gwS] at h;rcases List.mem_cons.mp m with rfl|z
  ·exact h.1
  ·exact aFP h.2 z
theorem iV {N:Nat}:∀{xs ys:List Rw},gwS N (xs++ys)↔gwS N xs/\gwS N ys
 |[],ys=>by rw[nil_append,gwS];simp
 |x::xs,ys=>by rw[cons_append,gwS,gwS,iV,and_assoc]
mutual
theorem aHW {N:Nat}:∀r:Rw,gwR N r->Sz (dnR r) (szR r)
 |.pl p,h=>by
  cases p with
  |grow a=>rw[gwR] at h;rw[dnR,szR];exact h
  |_ =>
      rw[dnR,szR];· exact Sz.one.mono (by decide)
      all_goals (intro _ z;cases z)
 |.ag n rs,h=>by rw[gwR] at h;rw[dnR,szR];exact(aCK rs h.2).pow n
 |.kp rs,h=>by rw[szR];exact Sz.one.mono (Nat.zero_le _)
 |.ev rs,h=>by rw[szR];exact Sz.one.mono (Nat.zero_le _)
theorem aCK {N:Nat}:∀rs:List Rw,gwS N rs->Sz (dnS rs) (szS rs)
 |[],_=>by rw[dnS,szS];exact Sz.one
 |r::rs,h=>by rw[gwS] at h;rw[dnS,szS];exact(aHW r h.1).mul (aCK rs h.2)
end
theorem aCR (p:Pl):(∃a,p = .grow a) ∨ ∃w cP,plD p = .tup (.str w :: cP)/\w ≠ "grow"/\w ≠ "again"/\szR (.pl p)=1:=by
 cases p with
 |grow a=>exact .inl ⟨a,rfl⟩
 |_=>refine .inr ⟨_,_,rfl,by decide,by decide,?_⟩;rw[szR];intro _ z;cases z
def sD (d:Nat):DSp:=λds M Q=>∃x rs,ds=[x]/\uE M x rs/\DpS d rs/\dnS rs<=704/\gwS 704 rs/\Q (FQ (szS rs)) M
theorem aKJ {p r:Rat}{j k:Nat}{M:DM}{Q:DQ}(h1:Sz j p)(h2:Sz k r)(l:j+k<=2200)(q:Q (FQ (p*r)) M):jY [FQ p,FQ r] M Q:=⟨_,_,_,_,rfl,trivial,h1.bq,h2.bq,by omega,q⟩
noncomputable abbrev pG:Stmt:=top 82
theorem cM:aR ["_law_rows_here","_law_size_here","_law_row_here","_law_once","_law_turn"] ["_law_rows_here"] (aJ pG):=by ac_rfl
theorem aC2 (hF:bT K mg "_law_size" pG ["_law_rows_here"])(iX:mg "range" = none)(cL:Has P w K mg base 102 "_law_times" ["_law_one","_law_other"] jY):Has P w K mg base 118 "_law_size" ["_law_rows_here"] (sD 8):=by
 have all:∀d,Has P w K mg base (110+d) "_law_size" ["_law_rows_here"] (sD d):=λd=>by
  induction d with
  |zero=>exact(Has.never hF cM 109).imp λds M Q ⟨_,rs,_,_,z,_⟩=>z
  |succ d gI =>
   refine Has.mkZ (k:=110+d) hF cM (λds M Q ⟨a,_,z,_⟩=>by rw[z];rfl) λf cdv A outer s H ds M Q E hr h=>?_;obtain⟨x,rs,rfl,ra,dp,dn,gw,q⟩:=h;refine⟨_,(aF (aP (i:=1) cM.nd (aM (aA aC (aA aC aD))))
  (aF (vR PassesOwn.never rfl (aB 0) (aX (i:=2) cM.nd) (aF (aW (aQ (cD hr) (aH (aB 2) aC) aL) (aE (aP (i:=1) cM.nd (aG cL hr (by omega) (aA (aB 1) (aA (aH (aB 2) aC) aD))))) aS)
  (aE (aW (aQ (cD hr) (aH (aB 2) aC) aL) (aF (aP (i:=3) cM.nd (aG gI hr (by omega) (aA (aH (aB 2) aC) aD)))
  (aE (aAM PassesOwn.never rfl iX (aA (aH (aB 2) aC) aD) (aX (i:=4) cM.nd) (aE (aP (i:=1) cM.nd (aG cL hr (by omega) (aA (aB 1) (aA (aB 3) aD)))))))) aS))))
  (aE (aN (aB 1))))),?_⟩
   ac_nf;refine⟨by decide,?_⟩;refine sL rfl ra λat' hat=>?_;refine⟨λi ρ M'=>M'=M/\∃o1 o2 o3,ρ=[some x,some (FQ (szS (rs.take i))),o1,o2,o3],⟨rfl,_,_,_,rfl⟩,λi ρ M' _ h a e=>by rw[h.1];exact hat a e,?_,?_⟩
   ·rintro i d1 ρ M1 hd ⟨rfl,o1,o2,o3,rfl⟩;obtain⟨r,hr',rfl⟩:=gZ hd;have dr:=dp.2 r (mem_of_getElem? hr');have gr:=aFP gw (mem_of_getElem? hr');have gt:gwS 704 (rs.take i):=(iV.mp (by rw[take_append_drop];exact gw)).1;have zt:=aCK _ gt;have zr:=aHW r gr;have fin:szS (rs.take (i+1))=szS (rs.take i)*szR r:=by rw[fA hr',zC,szS,szS,Rat.mul_one]
    have fdn:dnS (rs.take (i+1))=dnS (rs.take i)+dnR r:=by rw[fA hr',eU,dnS,dnS,Nat.add_zero]
    have ldn:dnS (rs.take (i+1))<=dnS rs:=by have:=eU (rs.take (i+1)) (rs.drop (i+1));rw[take_append_drop] at this;omega
    ac_nf;rw[fin];cases r with
    |pl p =>
     rcases aCR p with⟨a,rfl⟩|⟨w0,cP,e,w1,w2,e1⟩
     ·dsimp only[rwD,plD];rw[dnR,szR] at zr;rw[szR];rw[dnR] at fdn;ac_nf;rw[aO];refine ifT (by decide) (aKJ zt zr (by omega) ?_);ac_nf;rw[aO];exact ifF (by decide) ⟨rfl,_,_,_,rfl⟩
     ·dsimp only[rwD];rw[e,e1,Rat.mul_one];ac_nf;rw[aAd];ac_nf;rw[aO];refine ifF (decide_eq_false w1) ?_;rw[aO];exact ifF (decide_eq_false w2) ⟨rfl,_,_,_,rfl⟩
    |ag n ws =>
     obtain⟨hn,dw⟩:=oB dr;rw[gwR] at gr;have zw:=aCK _ gr.2;rw[dnR] at fdn;rw[szR];dsimp only[rwD];ac_nf;rw[aO];refine ifF (by decide) ?_;rw[aO];refine ifT (by decide) ⟨_,ws,rfl,.inl rfl,dw,gr.1,gr.2,?_⟩;ac_nf;refine⟨⟨by omega,by omega⟩,?_⟩;rw[Int.toNat_natCast];refine⟨λj ρ M'=>M' = M1/\∃o3,ρ = [some x,some (FQ (szS (rs.take i)*szS ws^j)),some (.tup [.str "again",.int (n:Int),.tup (bA ws)]),some (FQ (szS ws)),o3],⟨rfl,_,by rw[Rat.pow_zero,Rat.mul_one]⟩,?_,?_⟩
     ·rintro j ρ M' hj ⟨rfl,o3,rfl⟩;ac_nf;have m1:dnS ws*(j+1)<=dnS ws*n:=Nat.mul_le_mul_left _ hj;rw[Nat.mul_succ] at m1;have e:szS (rs.take i)*szS ws^(j+1)=szS (rs.take i)*szS ws^j*szS ws:=by rw[Rat.pow_succ,Rat.mul_assoc]
      refine aKJ (zt.mul (zw.pow j)) zw (by omega) ?_;rw[<- e];exact⟨rfl,_,rfl⟩
     ·rintro ρ M' ⟨rfl,o3,rfl⟩;exact⟨rfl,_,_,_,rfl⟩
    |kp ws =>
     rw[szR,Rat.mul_one];dsimp only[rwD];ac_nf;rw[aO];refine ifF (by decide) ?_;rw[aO];exact ifF (by decide) ⟨rfl,_,_,_,rfl⟩
    |ev ws =>
     rw[szR,Rat.mul_one];dsimp only[rwD];ac_nf;rw[aO];refine ifF (by decide) ?_;rw[aO];exact ifF (by decide) ⟨rfl,_,_,_,rfl⟩
   ·rintro ρ M' ⟨rfl,o1,o2,o3,rfl⟩;rw[bF,take_length];exact bE q
 exact all 8
noncomputable def enB (rs:List Rw):Bool:=decide (dnS rs<=300)&&((decide (szS rs=1)||decide (4*(szS rs).num<=3*((szS rs).den:Int)))&&drS rs)
def mU:DSp:=λds M Q=>∃x rs,ds=[x]/\uE M x rs/\DpS 8 rs/\gwS 704 rs/\Q (.bl (enB rs)) M
noncomputable abbrev iF:Stmt:=top 84
theorem gX:aR ["_law_rows_here","_law_size_here"] ["_law_rows_here"] (aJ iF):=by ac_rfl
theorem uI (hF:bT K mg "_law_is_endless" iF ["_law_rows_here"])(cX:Has P w K mg base 118 "_law_done" ["_law_rows_here"] (jG 8))(gI:Has P w K mg base 118 "_law_size" ["_law_rows_here"] (sD 8))(dO:Has P w K mg base 118 "_law_draws" ["_law_rows_here"] (jV 8)):Has P w K mg base 119 "_law_is_endless" ["_law_rows_here"] mU:=by
 refine Has.mkZ hF gX (λds M Q ⟨_,_,z,_⟩=>by rw[z];rfl) λf cdv A outer s H ds M Q E hr h=>?_;obtain⟨x,rs,rfl,ra,dp,gw,q⟩:=h;refine⟨_,(aF (aW (aQ gA (aG cX hr (by decide) (aA (aB 0) aD)) aC) (aE (aN lM)) aS)
  (aF (aP (i:=1) gX.nd (aG gI hr (by decide) (aA (aB 0) aD)))
  (aE (aN (fP (zQ (cN (cD hr) (aB 1) (aM (aA aC (aA aC aD)))) (eV (cN sZ (aK bN aC (aH (aB 1) aC)) (aK bN aC (aH (aB 1) aC))))) (eV (aG dO hr (by decide) (aA (aB 0) aD)))))))),?_⟩
 ac_nf;refine⟨x,rs,rfl,ra,dp,?_⟩;ac_nf;unfold enB at q;by_cases c:dnS rs<=300
 ·refine ifF (decide_eq_false (by omega)) ⟨x,rs,rfl,ra,dp,by omega,gw,?_⟩;rw[decide_eq_true c,Bool.true_and] at q;ac_nf;refine⟨by decide,?_⟩;rw[show(D.tup [.int 1,.int 1])=FQ 1 from rfl,aCp];by_cases c1:szS rs=1
  ·rw[decide_eq_true c1,Bool.true_or,Bool.true_and] at q;refine ifT (decide_eq_true c1) (ifT rfl ⟨x,rs,rfl,ra,dp,bE q⟩)
  ·rw[decide_eq_false c1,Bool.false_or] at q;refine ifF (decide_eq_false c1) ⟨rR (by unfold Bd;decide),rR (by unfold Bd;decide),?_⟩;by_cases c2:4*(szS rs).num<=3*((szS rs).den:Int)
   ·rw[decide_eq_true c2,Bool.true_and] at q;exact ifT (decide_eq_true c2) ⟨x,rs,rfl,ra,dp,bE q⟩
   ·rw[decide_eq_false c2,Bool.false_and] at q;exact ifF (decide_eq_false c2) (bE q)
 ·refine ifT (decide_eq_true (by omega)) ?_;rw[decide_eq_false c,Bool.false_and] at q;exact bE q
mutual
def wR:Rw->Prop
 |.pl (.grow a)=>Sz 1 a
 |.pl _=>True
 |.ag n ws=>wS ws/\dnS ws<=20000/\(∀r∈ws,dnR r<=1090∨dnS ws<=dnR r+1090)/\(n<=1∨dnS ws<=1090)
 |.kp _=>True
 |.ev _=>True
def wS:List Rw->Prop
 |[]=>True
 |r::rs=>wR r/\wS rs
end
def loS (rs:List Rw):Prop:=wS rs/\dnS rs<=20000/\∀r∈rs,dnR r<=1090∨dnS rs<=dnR r+1090
theorem aEK:∀{rs:List Rw}{r:Rw},wS rs->r∈rs->wR r
 |x::xs,r,h,m=>by
  rw[wS] at h;rcases List.mem_cons.mp m with rfl|z
  ·exact h.1
  ·exact aEK h.2 z
theorem aCU:∀{xs ys:List Rw},wS (xs++ys)↔wS xs/\wS ys
 |[],ys=>by rw[nil_append,wS,true_and]
 |x::xs,ys=>by rw[cons_append,wS,wS,aCU,and_assoc]
mutual
theorem aGT:∀r:Rw,wR r->Sz (dnR r) (szR r)
 |.pl p,h=>by
  cases p with
  |grow a=>rw[wR] at h;rw[dnR,szR];exact h
  |_ =>
      rw[dnR,szR];· exact Sz.one.mono (by decide)
      all_goals (intro _ z;cases z)
 |.ag n rs,h=>by rw[wR] at h;rw[dnR,szR];exact(aAb rs h.1).pow n
 |.kp rs,h=>by rw[szR];exact Sz.one.mono (Nat.zero_le _)
 |.ev rs,h=>by rw[szR];exact Sz.one.mono (Nat.zero_le _)
theorem aAb:∀rs:List Rw,wS rs->Sz (dnS rs) (szS rs)
 |[],_=>by rw[dnS,szS];exact Sz.one
 |r::rs,h=>by rw[wS] at h;rw[dnS,szS];exact(aGT r h.1).mul (aAb rs h.2)
end
theorem aIe {n:Nat}{ws:List Rw}(h:wR (.ag n ws)):loS ws:=by rw[wR] at h;exact⟨h.1,h.2.1,h.2.2.1⟩
theorem Sz.pos' {k:Nat}{x:Rat}(h:Sz k x):0<x:=by obtain⟨t,b,⟨t0,_⟩,⟨b0,_⟩,e⟩:=h;have h1:=aEg (show(0:Int)<(t:Int) by omega);have h2:=aEg (show(0:Int)<(b:Int) by omega);simp only[Rat.intCast_natCast] at h1 h2;rw[<- e] at h1;exact Rat.lt_of_mul_lt_mul_right (by rw[Rat.zero_mul];exact h1) (Rat.le_of_lt h2)
theorem aJy {p r:Rat}{j k:Nat}{M:DM}{Q:DQ}(h1:Sz j p)(h2:Sz k r)(sm:j<=1095∨k<=1095)(l:j+k<=200000)(q:Q (FQ (p*r)) M):oG [FQ p,FQ r] M Q :=
 ⟨_,_,_,_,rfl,⟨λz=>by have:=h1.pos';rw[z] at this;exact absurd this (by decide),λz=>by have:=h2.pos';rw[z] at this;exact absurd this (by decide)⟩,h1.bq,h2.bq,by omega,by omega,q⟩
def pO (d:Nat):DSp:=λds M Q=>∃x rs,ds=[x]/\uE M x rs/\DpS d rs/\loS rs/\Q (FQ (szS rs)) M
theorem aC9 (hF:bT K mg "_law_size" pG ["_law_rows_here"])(iX:mg "range" = none)(w_law_times:Has P w K mg base 102 "_law_times" ["_law_one","_law_other"] oG):Has P w K mg base 118 "_law_size" ["_law_rows_here"] (pO 8):=by
 have cL:=w_law_times;have all:∀d,Has P w K mg base (110+d) "_law_size" ["_law_rows_here"] (pO d):=λd=>by
  induction d with
  |zero=>exact(Has.never hF cM 109).imp λds M Q ⟨_,rs,_,_,z,_⟩=>z
  |succ d gI =>
   refine Has.mkZ (k:=110+d) hF cM (λds M Q ⟨a,_,z,_⟩=>by rw[z];rfl) λf cdv A outer s H ds M Q E hr h=>?_;obtain⟨x,rs,rfl,ra,dp,⟨gw,dn,one⟩,q⟩:=h;refine⟨_,(aF (aP (i:=1) cM.nd (aM (aA aC (aA aC aD))))
  (aF (vR PassesOwn.never rfl (aB 0) (aX (i:=2) cM.nd) (aF (aW (aQ (cD hr) (aH (aB 2) aC) aL) (aE (aP (i:=1) cM.nd (aG cL hr (by omega) (aA (aB 1) (aA (aH (aB 2) aC) aD))))) aS)
  (aE (aW (aQ (cD hr) (aH (aB 2) aC) aL) (aF (aP (i:=3) cM.nd (aG gI hr (by omega) (aA (aH (aB 2) aC) aD)))
  (aE (aAM PassesOwn.never rfl iX (aA (aH (aB 2) aC) aD) (aX (i:=4) cM.nd) (aE (aP (i:=1) cM.nd (aG cL hr (by omega) (aA (aB 1) (aA (aB 3) aD)))))))) aS))))
  (aE (aN (aB 1))))),?_⟩
   ac_nf;refine⟨by decide,?_⟩;refine sL rfl ra λat' hat=>?_;refine⟨λi ρ M'=>M'=M/\∃o1 o2 o3,ρ=[some x,some (FQ (szS (rs.take i))),o1,o2,o3],⟨rfl,_,_,_,rfl⟩,λi ρ M' _ h a e=>by rw[h.1];exact hat a e,?_,?_⟩
   ·rintro i d1 ρ M1 hd ⟨rfl,o1,o2,o3,rfl⟩;obtain⟨r,hr',rfl⟩:=gZ hd;have dr:=dp.2 r (mem_of_getElem? hr');have gr:=aEK gw (mem_of_getElem? hr');have on:=one r (mem_of_getElem? hr');have gt:wS (rs.take i):=(aCU.mp (by rw[take_append_drop];exact gw)).1;have zt:=aAb _ gt;have zr:=aGT r gr;have fin:szS (rs.take (i+1))=szS (rs.take i)*szR r:=by rw[fA hr',zC,szS,szS,Rat.mul_one]
    have fdn:dnS (rs.take (i+1))=dnS (rs.take i)+dnR r:=by rw[fA hr',eU,dnS,dnS,Nat.add_zero]
    have ldn:dnS (rs.take (i+1))<=dnS rs:=by have:=eU (rs.take (i+1)) (rs.drop (i+1));rw[take_append_drop] at this;omega
    ac_nf;rw[fin];cases r with
    |pl p =>
     rcases aCR p with⟨a,rfl⟩|⟨w0,cP,e,w1,w2,e1⟩
     ·dsimp only[rwD,plD];rw[dnR,szR] at zr;rw[szR];rw[dnR] at fdn;ac_nf;rw[aO];refine ifT (by decide) (aJy zt zr (.inr (by decide)) (by omega) ?_);ac_nf;rw[aO];exact ifF (by decide) ⟨rfl,_,_,_,rfl⟩
     ·dsimp only[rwD];rw[e,e1,Rat.mul_one];ac_nf;rw[aAd];ac_nf;rw[aO];refine ifF (decide_eq_false w1) ?_;rw[aO];exact ifF (decide_eq_false w2) ⟨rfl,_,_,_,rfl⟩
    |ag n ws =>
     obtain⟨hn,dw⟩:=oB dr;have lg:=aIe gr;rw[wR] at gr;have zw:=aAb _ gr.1;rw[dnR] at fdn on;rw[szR];dsimp only[rwD];ac_nf;rw[aO];refine ifF (by decide) ?_;rw[aO];refine ifT (by decide) ⟨_,ws,rfl,.inl rfl,dw,lg,?_⟩;ac_nf;refine⟨⟨by omega,by omega⟩,?_⟩;rw[Int.toNat_natCast];refine⟨λj ρ M'=>M' = M1/\∃o3,ρ = [some x,some (FQ (szS (rs.take i)*szS ws^j)),some (.tup [.str "again",.int (n:Int),.tup (bA ws)]),some (FQ (szS ws)),o3],⟨rfl,_,by rw[Rat.pow_zero,Rat.mul_one]⟩,?_,?_⟩
     ·rintro j ρ M' hj ⟨rfl,o3,rfl⟩;ac_nf;have m1:dnS ws*(j+1)<=dnS ws*n:=Nat.mul_le_mul_left _ hj;rw[Nat.mul_succ] at m1;have e:szS (rs.take i)*szS ws^(j+1)=szS (rs.take i)*szS ws^j*szS ws:=by rw[Rat.pow_succ,Rat.mul_assoc]
      have sm:dnS (rs.take i)+dnS ws*j<=1095∨dnS ws<=1095:=by
       rcases gr.2.2.2 with z|z
       ·obtain⟨rfl,rfl⟩:j=0/\n=1:=by omega
        rw[Nat.mul_one] at fdn on;rw[Nat.mul_zero];omega
       ·exact .inr (by omega)
      refine aJy (zt.mul (zw.pow j)) zw sm (by omega) ?_;rw[<- e];exact⟨rfl,_,rfl⟩
     ·rintro ρ M' ⟨rfl,o3,rfl⟩;exact⟨rfl,_,_,_,rfl⟩
    |kp ws =>
     rw[szR,Rat.mul_one];dsimp only[rwD];ac_nf;rw[aO];refine ifF (by decide) ?_;rw[aO];exact ifF (by decide) ⟨rfl,_,_,_,rfl⟩
    |ev ws =>
     rw[szR,Rat.mul_one];dsimp only[rwD];ac_nf;rw[aO];refine ifF (by decide) ?_;rw[aO];exact ifF (by decide) ⟨rfl,_,_,_,rfl⟩
   ·rintro ρ M' ⟨rfl,o1,o2,o3,rfl⟩;rw[bF,take_length];exact bE q
 exact all 8
def uJ:DSp:=λds M Q=>∃x rs,ds=[x]/\uE M x rs/\DpS 8 rs/\(dnS rs<=300->loS rs)/\Q (.bl (enB rs)) M
theorem uR (hF:bT K mg "_law_is_endless" iF ["_law_rows_here"])(cX:Has P w K mg base 118 "_law_done" ["_law_rows_here"] (jG 8))(w_law_size:Has P w K mg base 118 "_law_size" ["_law_rows_here"] (pO 8))(dO:Has P w K mg base 118 "_law_draws" ["_law_rows_here"] (jV 8)):Has P w K mg base 119 "_law_is_endless" ["_law_rows_here"] uJ:=by
 refine Has.mkZ hF gX (λds M Q ⟨_,_,z,_⟩=>by rw[z];rfl) λf cdv A outer s H ds M Q E hr h=>?_;obtain⟨x,rs,rfl,ra,dp,gw,q⟩:=h;have gI:=w_law_size;refine⟨_,(aF (aW (aQ gA (aG cX hr (by decide) (aA (aB 0) aD)) aC) (aE (aN lM)) aS)
  (aF (aP (i:=1) gX.nd (aG gI hr (by decide) (aA (aB 0) aD)))
  (aE (aN (fP (zQ (cN (cD hr) (aB 1) (aM (aA aC (aA aC aD)))) (eV (cN sZ (aK bN aC (aH (aB 1) aC)) (aK bN aC (aH (aB 1) aC))))) (eV (aG dO hr (by decide) (aA (aB 0) aD)))))))),?_⟩
 ac_nf;refine⟨x,rs,rfl,ra,dp,?_⟩;ac_nf;unfold enB at q;by_cases c:dnS rs<=300
 ·refine ifF (decide_eq_false (by omega)) ⟨x,rs,rfl,ra,dp,gw c,?_⟩;rw[decide_eq_true c,Bool.true_and] at q;ac_nf;refine⟨by decide,?_⟩;rw[show(D.tup [.int 1,.int 1])=FQ 1 from rfl,aCp];by_cases c1:szS rs=1
  ·rw[decide_eq_true c1,Bool.true_or,Bool.true_and] at q;refine ifT (decide_eq_true c1) (ifT rfl ⟨x,rs,rfl,ra,dp,bE q⟩)
  ·rw[decide_eq_false c1,Bool.false_or] at q;refine ifF (decide_eq_false c1) ⟨rR (by unfold Bd;decide),rR (by unfold Bd;decide),?_⟩;by_cases c2:4*(szS rs).num<=3*((szS rs).den:Int)
   ·rw[decide_eq_true c2,Bool.true_and] at q;exact ifT (decide_eq_true c2) ⟨x,rs,rfl,ra,dp,bE q⟩
   ·rw[decide_eq_false c2,Bool.false_and] at q;exact ifF (decide_eq_false c2) (bE q)
 ·refine ifT (decide_eq_true (by omega)) ?_;rw[decide_eq_false c,Bool.false_and] at q;exact bE q
structure En where
 wd:Str
 n:Nat
 a:Addr
 rs:List Rw
noncomputable def enD (e:En):D:=.tup [.str e.wd,.int (e.n:Int),.ref e.a]
def hG (M M':DM)(as:List Addr):Prop:=∀k:AK,(∀a∈as,k ≠ .l a)->∀x,M k=some x->M' k=some x
theorem hG.refl {M:DM}{as:List Addr}:hG M M as:=λ_ _ _ e=>e
theorem hG.sub {M M' M'':DM}{as:List Addr}(h:hG M M' as)(s:aU M' M''):hG M M'' as:=λk n x e=>s _ _ (h k n x e)
theorem hG.put {M M':DM}{as:List Addr}{a:Addr}{L:List D}(h:hG M M' as)(m:a∈as):hG M (bK M' a L) as:=λk n x e=>by rw[zP (n a m)];exact h k n x e
theorem hG.mono {M M':DM}{as bs:List Addr}(h:hG M M' as)(s:∀a∈as,a∈bs):hG M M' bs:=λk n x e=>h k (λa m=>n a (s a m)) x e
noncomputable def eM (rs:List Rw):List Rw:=rs++replicate (if drS rs then 0 else 1) (.pl .dot)
noncomputable def cS (rs:List Rw):List Rw:=eM rs++replicate (if enB (eM rs) then 0 else 1) (.pl (.grow (1/12)))
noncomputable def clE (wd:Str)(n:Nat)(rs:List Rw):Rw:=if wd = "again" then .ag (if 90<n*dnS rs then 1 else n) rs else if wd = "ever" then (if enB (cS rs) then .ev (cS rs) else .kp (cS rs)) else .kp rs
theorem Dp.up:∀{d:Nat}{r:Rw},Dp d r->Dp (d+1) r
 |_,.pl _,_=>trivial
 |d+1,.ag n rs,h=>⟨h.1,h.2.1,λr hr=>Dp.up (h.2.2 r hr)⟩
 |d+1,.kp rs,h=>⟨h.1,λr hr=>Dp.up (h.2 r hr)⟩
 |d+1,.ev rs,h=>⟨h.1,λr hr=>Dp.up (h.2 r hr)⟩
theorem DpS.up {d:Nat}{rs:List Rw}(h:DpS d rs):DpS (d+1) rs:=by
 cases d with
 |zero=>exact h.elim
 |succ d=>exact⟨h.1,λr hr=>Dp.up (h.2 r hr)⟩
theorem lZ (xs ys:List Rw):bA (xs++ys)=bA xs++bA ys:=by rw[eS,eS,eS,map_append]
theorem aGt (r:Rw)(n:Nat):bA (replicate n r)=replicate n (rwD r):=by rw[eS,map_replicate]
theorem aQE:rwD (.pl (.grow (1/12))) = D.tup [.str "grow",.tup [.int 1,.int 12]]:=by show D.tup [.str "grow",FQ (1/12)]=_;unfold FQ;rw[show(1/12:Rat).num=1 by decide +kernel,show(1/12:Rat).den=12 by decide +kernel];rfl
theorem aP2 {p:Addr}{d:D}{r:Rw}{b:Bool}{M:DM}{Q:DQ}(hp:M p=some [d])(hr:rwD r=d)(q:∀p2:Addr,M p2=none->Q (.ref p2) (bK M p2 (bA (replicate (if b then 0 else 1) r)))):aKL (.ref p) (.int (if (!b)=true then 1 else 0)) M Q:=by
 refine⟨_,hp,by simp,by split<;>decide,by split<;>decide,by split<;>simp,λp2 hp2=>?_⟩;have:=q p2 hp2;rw[aGt,hr] at this;cases b with
 |true=>exact this
 |false=>exact this
theorem aC8 {N n:Nat}{r:Rw}(h:gwR N r):gwS N (replicate n r):=by
 induction n with
 |zero=>rw[replicate_zero,gwS];trivial
 |succ n ih=>rw[replicate_succ,gwS];exact⟨h,ih⟩
theorem aFM {d N:Nat}{xs ys:List Rw}(h:DpS (d+1) xs)(l:(xs++ys).length<=N)(hy:∀r∈ys,Dp d r)(lN:N<=1000:=by decide):DpS (d+1) (xs++ys) :=
 ⟨by omega,λr hr=>(List.mem_append.mp hr).elim (h.2 r) (hy r)⟩
theorem aCW {xs:List D}{d:D}:atI (xs++[d]) (-1)=some d:=by unfold atI ixN;rw[if_neg (by decide),if_pos (by rw[length_append,length_cons,length_nil];omega)];rw[length_append,length_cons,length_nil];show(xs++[d])[((-1:Int)+((xs.length+(0+1):Nat):Int)).toNat]?=some d;rw[show((-1:Int)+((xs.length+(0+1):Nat):Int)).toNat=xs.length by omega];simp
def pP:DSp:=λds M Q=>∃(st:Addr)(es:List En) (u e:En),ds = [.ref st]/\M st = some ((es++[u,e]).map enD)/\es.length<=20/\(st≠u.a/\st≠e.a/\u.a≠e.a)/\M u.a = some (bA u.rs)/\M e.a = some (bA e.rs)/\(e.wd = "again"∨e.wd = "keep"∨e.wd = "ever")/\e.n<=12/\DpS 7 e.rs/\gwS 704 e.rs/\u.rs.length<=900/\e.rs.length<=900/\dnS e.rs<=2000 /\
 ∀M',M' st=some ((es++[u]).map enD)->M' u.a=some (bA (u.rs++[clE e.wd e.n e.rs]))->hG M M' [st,u.a]->Q .non M'
noncomputable abbrev qP:Stmt:=top 86
theorem eK:aR ["_law_stack","_law_word","_law_many_here","_law_rows_here","_law_block"] ["_law_stack"] (aJ qP):=by ac_rfl
theorem aBh (hF:bT K mg "_law_close" qP ["_law_stack"])(lS:mg "int" = none)(dA:mg "tuple" = none)(cX:Has P w K mg base 118 "_law_done" ["_law_rows_here"] (jG 8))(iJ:Has P w K mg base 119 "_law_is_endless" ["_law_rows_here"] mU)(dO:Has P w K mg base 118 "_law_draws" ["_law_rows_here"] (jV 8)):Has P w K mg base 120 "_law_close" ["_law_stack"] pP:=by
 refine Has.mkZ hF eK (λds M Q ⟨_,_,_,_,z,_⟩=>by rw[z];rfl) λf cdv A outer s H ds M Q E hr h=>?_;obtain⟨st,es,u,e,rfl,hst,les,⟨n1,n2,n3⟩,hu,he,hw,hn,dp,gw,lu,le,dn,q⟩:=h;refine⟨_,(aF (iU (zG (aB 0)) (gS (n:=3) rfl (bJ (aX (i:=1) eK.nd) (bJ (aX (i:=2) eK.nd) (bJ (aX (i:=3) eK.nd) fE)))))
  (hJ (aW (aQ (cD hr) (aB 1) aL) (aF (aP (i:=3) eK.nd (aK cB (aB 3) (aK aFe (bR (aA (aM (aA aL aD)) aD)) (eE tJ lS (aA (vU (aG dO hr (by decide) (aA (aB 3) aD))) aD)))))
  (aF (aP (i:=3) eK.nd (aK cB (aB 3) (aK aFe (bR (aA (aM (aA aL (aA (aM (aA aC (aA aC aD))) aD))) aD)) (eE tJ lS (aA (vU (aG iJ hr (by decide) (aA (aB 3) aD))) aD)))))
  (aE (aP (i:=1) eK.nd (aH (bR (aA aL (aA aL aD))) (eE tJ lS (aA (aG iJ hr (by decide) (aA (aB 3) aD)) aD))))))) aS)
  (aF (aP (i:=4) eK.nd (aM (aA (aB 1) (aA (eE rE dA (aA (aB 3) aD)) aD))))
  (hJ (aW (aQ (cD hr) (aB 1) aL) (aE (aP (i:=4) eK.nd (aM (aA (aB 1) (aA (aH (bR (aA (aB 2) (aA aC aD))) (eE tJ lS (aA (cN gA (aK bN (aB 2) (aG cX hr (by decide) (aA (aB 3) aD))) aC) aD))) (aA (eE rE dA (aA (aB 3) aD)) aD)))))) aS)
  (aE (dR (fM (aH (aH (aB 0) (eL aC)) aC) (aB 4)))))))),?_⟩
 ac_nf;have el:((es++[u,e]).map enD)=(es++[u]).map enD++[enD e]:=by simp
 have ll:((es++[u,e]).map enD)[((es++[u,e]).map enD).length-1]?=some (enD e):=by rw[el];simp
 have ld:((es++[u,e]).map enD).dropLast=(es++[u]).map enD:=by rw[el];simp
 refine⟨_,_,hst,ll,?_⟩;rw[ld];rw[show enD e=.tup [.str e.wd,.int (e.n:Int),.ref e.a] from rfl];ac_nf;have k0:hG M (bK M st ((es++[u]).map enD)) [st]:=hG.refl.put (List.mem_singleton.mpr rfl);have st0:bK M st ((es++[u]).map enD) st=some ((es++[u]).map enD):=aI;have he0:bK M st ((es++[u]).map enD) e.a=some (bA e.rs):=by rw[bV (Ne.symm n2)];exact he
 have hu0:bK M st ((es++[u]).map enD) u.a=some (bA u.rs):=by rw[bV (Ne.symm n1)];exact hu
 generalize bK M st ((es++[u]).map enD)=M0 at k0 st0 he0 hu0;refine⟨rfl,λρ' M'=>∃(wd2:Str)(la:Addr) (rs2:List Rw),ρ' = [some (.ref st),some (.str wd2),some (.int (e.n:Int)),some (.ref la),none]/\M' la = some (bA rs2)/\M' st = some ((es++[u]).map enD)/\M' u.a = some (bA u.rs)/\hG M M' [st]/\(e.wd = "ever"->rs2=cS e.rs/\wd2=if enB (cS e.rs) then ("ever":Str) else "keep")/\(e.wd ≠ "ever"->rs2=e.rs/\wd2=e.wd),?_,?_⟩
 ·rw[aO];by_cases ce:e.wd = "ever"
  ·refine ifT (decide_eq_true ce) ⟨by decide,by decide,λp hp=>?_⟩;have s1:=aU.new hp [D.tup [D.str "dot"]];refine⟨_,e.rs,rfl,.inr ⟨_,rfl,s1 _ _ he0⟩,DpS.up dp,?_⟩;ac_nf;refine aP2 aI (r:=.pl .dot) rfl λp2 hp2=>?_;have s2:=s1.trans (aU.new hp2 (bA (replicate (if drS e.rs then 0 else 1) (.pl .dot))));have hp2':bK (bK M0 p [D.tup [D.str "dot"]]) p2 (bA (replicate (if drS e.rs then 0 else 1) (.pl .dot))) p2=some (bA (replicate (if drS e.rs then 0 else 1) (.pl .dot))):=aI;generalize bK (bK M0 p [D.tup [D.str "dot"]]) p2 _=M2 at s2 hp2' ⊢;ac_nf;have l1:(eM e.rs).length<=901:=by unfold eM;rw[length_append,length_replicate];split<;>omega
   refine⟨_,_,s2 _ _ he0,hp2',by rw[bF,bF,length_replicate];split<;>omega,λp3 hp3=>?_⟩;rw[<- lZ,show e.rs++replicate (if drS e.rs then 0 else 1) (.pl .dot)=eM e.rs from rfl];have s3:=s2.trans (aU.new hp3 (bA (eM e.rs)));have h3:bK M2 p3 (bA (eM e.rs)) p3=some (bA (eM e.rs)):=aI;generalize bK M2 p3 _=M3 at s3 h3 ⊢;refine⟨by decide,by decide,by decide,λp4 hp4=>?_⟩;have s4:=aU.new hp4 [D.tup [D.str "grow",D.tup [D.int 1,D.int 12]]];have d1:DpS 8 (eM e.rs):=aFM (DpS.up dp) l1 λr hr=>by rw[(List.mem_replicate.mp hr).2];trivial
   have g1:gwS 704 (eM e.rs):=iV.mpr ⟨gw,aC8 (by rw[gwR];trivial;intro _ z;cases z)⟩;refine⟨_,eM e.rs,rfl,.inr ⟨_,rfl,s4 _ _ h3⟩,d1,g1,?_⟩;ac_nf;refine aP2 aI (r:=.pl (.grow (1/12))) aQE λp5 hp5=>?_;have s5:=s4.trans (aU.new hp5 (bA (replicate (if enB (eM e.rs) then 0 else 1) (.pl (.grow (1/12))))));have h5:bK (bK M3 p4 [D.tup [D.str "grow",D.tup [D.int 1,D.int 12]]]) p5 (bA (replicate (if enB (eM e.rs) then 0 else 1) (.pl (.grow (1/12))))) p5=some (bA (replicate (if enB (eM e.rs) then 0 else 1) (.pl (.grow (1/12))))):=aI;generalize bK (bK M3 p4 [D.tup [D.str "grow",D.tup [D.int 1,D.int 12]]]) p5 _=M5 at s5 h5 ⊢;ac_nf;have l2:(cS e.rs).length<=902:=by unfold cS;rw[length_append,length_replicate];split<;>omega
   refine⟨_,_,s5 _ _ h3,h5,by rw[bF,bF,length_replicate];split<;>omega,λp6 hp6=>?_⟩;rw[<- lZ,show eM e.rs++replicate (if enB (eM e.rs) then 0 else 1) (.pl (.grow (1/12)))=cS e.rs from rfl];have s6:=s5.trans (aU.new hp6 (bA (cS e.rs)));have h6:bK M5 p6 (bA (cS e.rs)) p6=some (bA (cS e.rs)):=aI;generalize bK M5 p6 _=M6 at s6 h6 ⊢;refine⟨by decide,λp7 hp7=>?_⟩;have s7:=aU.new hp7 [D.str "keep",D.str "ever"];have h7:bK M6 p7 [D.str "keep",D.str "ever"] p7 = some [D.str "keep",D.str "ever"]:=aI;generalize bK M6 p7 _=M7 at s7 h7 ⊢;have d2:DpS 8 (cS e.rs):=aFM d1 l2 λr hr=>by rw[(List.mem_replicate.mp hr).2];trivial
   have g2:gwS 704 (cS e.rs):=iV.mpr ⟨g1,aC8 (by rw[gwR];exact⟨1,12,by decide,by decide,by decide +kernel⟩)⟩;refine⟨_,cS e.rs,rfl,.inr ⟨_,rfl,s7 _ _ h6⟩,d2,g2,?_⟩;ac_nf;have fs:aU M0 M7:=(s3.trans s6).trans s7;cases hb:enB (cS e.rs) with
   |true=>exact⟨_,_,h7,rfl,_,_,_,rfl,s7 _ _ h6,fs _ _ st0,fs _ _ hu0,k0.sub fs,λ_=>⟨rfl,by rw[if_pos rfl]⟩,λz=>absurd ce z⟩
   |false=>exact⟨_,_,h7,rfl,_,_,_,rfl,s7 _ _ h6,fs _ _ st0,fs _ _ hu0,k0.sub fs,λ_=>⟨rfl,by rw[if_neg (by decide)]⟩,λz=>absurd ce z⟩
  ·exact ifF (decide_eq_false ce) ⟨_,_,_,rfl,he0,st0,hu0,k0,λz=>absurd z ce,λ_=>⟨rfl,rfl⟩⟩
 rintro ρ' M1 ⟨wd2,la,rs2,rfl,hla,hst1,hu1,k1,ev1,ne1⟩;ac_nf;refine⟨_,hla,by decide,λρ' M'=>∃o1 o2 o3 b,ρ'=[some (.ref st),o1,o2,o3,some b]/\b=rwD (clE e.wd e.n e.rs)/\M' st=some ((es++[u]).map enD)/\M' u.a=some (bA u.rs)/\hG M M' [st],?_,?_⟩
 ·rw[aO];by_cases ca:wd2 = "again"
  ·have ea:e.wd = "again":=by
    by_cases ce:e.wd = "ever"
    ·have:=(ev1 ce).2;rw[ca] at this;cases hb:enB (cS e.rs)<;>rw[hb] at this<;>exact absurd this (by decide)
    ·rw[<- (ne1 ce).2];exact ca
   obtain⟨rfl,_⟩:=ne1 (by rw[ea];decide);refine ifT (decide_eq_true ca) ⟨by decide,λp hp=>?_⟩;have s1:=aU.new hp [D.int (e.n:Int),.int 1];refine⟨_,e.rs,rfl,.inr ⟨_,rfl,s1 _ _ hla⟩,DpS.up dp,rR (by unfold Bd;omega),?_⟩;have ec:clE e.wd e.n e.rs=.ag (if 90<e.n*dnS e.rs then 1 else e.n) e.rs:=by unfold clE;rw[if_pos ea]
   have em:(90:Int)<(e.n:Int)*(dnS e.rs:Int)↔90<e.n*dnS e.rs:=by have:((e.n*dnS e.rs:Nat):Int)=(e.n:Int)*(dnS e.rs:Int):=Int.natCast_mul _ _;omega
   by_cases c:90<e.n*dnS e.rs
   ·rw[if_pos (decide_eq_true (em.mpr c))];refine⟨_,_,aI,rfl,_,s1 _ _ hla,by decide,_,_,_,_,rfl,?_,s1 _ _ hst1,s1 _ _ hu1,k1.sub s1⟩;rw[ec,if_pos c,ca];rfl
   ·rw[if_neg (by rw[decide_eq_false λz=>c (em.mp z)];decide)];refine⟨_,_,aI,rfl,_,s1 _ _ hla,by decide,_,_,_,_,rfl,?_,s1 _ _ hst1,s1 _ _ hu1,k1.sub s1⟩;rw[ec,if_neg c,ca];rfl
  ·refine ifF (decide_eq_false ca) ⟨_,_,_,_,rfl,?_,hst1,hu1,k1⟩;by_cases ce:e.wd = "ever"
   ·obtain⟨rfl,rfl⟩:=ev1 ce;have ec:clE e.wd e.n e.rs=if enB (cS e.rs) then .ev (cS e.rs) else .kp (cS e.rs):=by unfold clE;rw[if_neg (show ¬e.wd = "again" by rw[ce];decide),if_pos ce]
    rw[ec];cases hb:enB (cS e.rs)<;>rfl
   ·obtain⟨rfl,rfl⟩:=ne1 ce;have ek:e.wd = "keep":=by
     rcases hw with z|z|z
     ·exact absurd z ca
     ·exact z
     ·exact absurd z ce
    unfold clE;rw[if_neg ca,if_neg ce,ek];rfl
 ·rintro ρ' M2 ⟨o1,o2,o3,_,rfl,rfl,h1,h2,k2⟩;ac_nf;have al:atI ((es++[u]).map enD) (-1)=some (enD u):=by rw[map_append];exact aCW
  refine⟨_,_,h1,al,?_⟩;rw[show enD u=.tup [.str u.wd,.int (u.n:Int),.ref u.a] from rfl];ac_nf;refine⟨⟨_,h2⟩,_,_,rfl,h2,by rw[bF];omega,bE (q _ ?_ ?_ ?_)⟩
  ·rw[bV n1];exact h1
  ·rw[lZ];exact aI
  ·exact(k2.mono λa m=>by rw[List.mem_singleton.mp m];exact mem_cons_self ..).put (mem_cons_of_mem _ (List.mem_singleton.mpr rfl))
noncomputable def Fc (m:Nat):Nat:=if m<=2 then m else if m=3 then 12 else if m=4 then 24 else 18*m
theorem aKg {m n:Nat}(h:m<=n):Fc m<=Fc n:=by
 unfold Fc
 repeat' split
 all_goals omega
theorem aHf (m n:Nat):Fc m+Fc n<=Fc (m+n):=by
 unfold Fc
 repeat' split
 all_goals omega
theorem aLb (m:Nat):Fc m+2<=Fc (m+2):=by
 unfold Fc
 repeat' split
 all_goals omega
theorem aKQ {m:Nat}:Fc m<=18*m:=by
 unfold Fc
 repeat' split
 all_goals omega
theorem aIm {m n d:Nat}(hd:d<=Fc m)(hn:n<=12)(h:n*d<=90):n*d<=Fc (m+2):=by
 have h1:n*d<=12*d:=Nat.mul_le_mul_right _ hn;unfold Fc at *
 repeat' split
 all_goals (try omega)
 all_goals (repeat' split at hd)
 all_goals omega
mutual
def alR (F:Pl->Prop):Rw->Prop
 |.pl p=>F p
 |.ag _ rs=>alS F rs
 |.kp rs=>alS F rs
 |.ev rs=>alS F rs
def alS (F:Pl->Prop):List Rw->Prop
 |[]=>True
 |r::rs=>alR F r/\alS F rs
end
theorem sH {F:Pl->Prop}:∀{xs ys:List Rw},alS F (xs++ys)↔alS F xs/\alS F ys
 |[],ys=>by rw[nil_append,alS];simp
 |x::xs,ys=>by rw[cons_append,alS,alS,sH,and_assoc]
mutual
theorem aJi {F G:Pl->Prop}(k:∀p,F p->G p):∀r:Rw,alR F r->alR G r
 |.pl p,h=>by rw[alR] at *;exact k p h
 |.ag _ rs,h=>by rw[alR] at *;exact wJ k rs h
 |.kp rs,h=>by rw[alR] at *;exact wJ k rs h
 |.ev rs,h=>by rw[alR] at *;exact wJ k rs h
theorem wJ {F G:Pl->Prop}(k:∀p,F p->G p):∀rs:List Rw,alS F rs->alS G rs
 |[],_=>by rw[alS];trivial
 |r::rs,h=>by rw[alS] at *;exact⟨aJi k r h.1,wJ k rs h.2⟩
end
mutual
noncomputable def hmR:Rw->Nat
 |.pl _=>1
 |.ag _ rs=>1+hmS rs
 |.kp rs=>1+hmS rs
 |.ev rs=>1+hmS rs
noncomputable def hmS:List Rw->Nat
 |[]=>0
 |r::rs=>hmR r+hmS rs
end
theorem fR:∀xs ys:List Rw,hmS (xs++ys)=hmS xs+hmS ys
 |[],ys=>by rw[nil_append,hmS,Nat.zero_add]
 |x::xs,ys=>by rw[cons_append,hmS,hmS,fR xs ys,Nat.add_assoc]
mutual
def ltR:Rw->Prop
 |.pl _=>True
 |.ag n rs=>n<=12/\ltS rs
 |.kp rs=>ltS rs
 |.ev rs=>ltS rs
def ltS:List Rw->Prop
 |[]=>True
 |r::rs=>ltR r/\ltS rs
end
theorem sQ:∀{xs ys:List Rw},ltS (xs++ys)↔ltS xs/\ltS ys
 |[],ys=>by rw[nil_append,ltS];simp
 |x::xs,ys=>by rw[cons_append,ltS,ltS,sQ,and_assoc]
theorem xT {n:Nat}{p:Pl}:ltS (replicate n (.pl p))/\hmS (replicate n (.pl p))=n:=by
 induction n with
 |zero=>rw[replicate_zero,ltS,hmS];exact⟨trivial,rfl⟩
 |succ n ih=>rw[replicate_succ,ltS,ltR,hmS,hmR,ih.2];exact⟨⟨trivial,ih.1⟩,by omega⟩
mutual
theorem aNS {N N':Nat}(l:N<=N'):∀r:Rw,gwR N r->gwR N' r
 |.pl p,h=>by
  cases p with
  |grow a=>rw[gwR] at h ⊢;exact h
  |_ =>
      rw[gwR];· trivial
      all_goals (intro _ z;cases z)
 |.ag n rs,h=>by rw[gwR] at h ⊢;exact⟨Nat.le_trans h.1 l,aAS l rs h.2⟩
 |.kp rs,h=>by rw[gwR] at h ⊢;exact⟨Nat.le_trans h.1 l,aAS l rs h.2⟩
 |.ev rs,h=>by rw[gwR] at h ⊢;exact⟨⟨h.1.1,Nat.le_trans h.1.2 l⟩,aAS l rs h.2⟩
theorem aAS {N N':Nat}(l:N<=N'):∀rs:List Rw,gwS N rs->gwS N' rs
 |[],_=>by rw[gwS];trivial
 |r::rs,h=>by rw[gwS] at h ⊢;exact⟨aNS l r h.1,aAS l rs h.2⟩
end
structure aBc (F:Pl->Prop)(i m:Nat)(rs:List Rw):Prop where
 dp:∀r∈rs,Dp (4-i) r
 len:rs.length<=m
 dn:dnS rs<=Fc m
 gw:gwS 690 rs
 al:alS F rs
 lt:ltS rs/\hmS rs<=3*m
theorem aBc.row {F:Pl->Prop}{i m:Nat}{rs:List Rw}(h:aBc F i m rs){p:Pl}(hp:F p)(hg:gwR 690 (.pl p)):aBc F i (m+1) (rs++[.pl p]):=by
 refine⟨λr hr=>?_,by rw[length_append];have:=h.len;show rs.length+1<=m+1;omega,?_,iV.mpr ⟨h.gw,by rw[gwS,gwS];exact⟨hg,trivial⟩⟩,sH.mpr ⟨h.al,by rw[alS,alS,alR];exact⟨hp,trivial⟩⟩,sQ.mpr ⟨h.lt.1,by rw[ltS,ltS,ltR];exact⟨trivial,trivial⟩⟩,by rw[fR,hmS,hmS,hmR];have:=h.lt.2;omega⟩
 ·rcases List.mem_append.mp hr with z|z
  ·exact h.dp r z
  ·rw[List.mem_singleton.mp z];unfold Dp;trivial
 ·rw[eU,dnS,dnS,dnR];have:=h.dn;have:=aHf m 1;have:Fc 1=1:=rfl;omega
theorem aGK {F:Pl->Prop}{n:Nat}{r:Rw}(h:alR F r):alS F (replicate n r):=by
 induction n with
 |zero=>rw[replicate_zero,alS];trivial
 |succ n ih=>rw[replicate_succ,alS];exact⟨h,ih⟩
theorem aIP {n:Nat}{p:Pl}:dnS (replicate n (.pl p))=n:=by
 induction n with
 |zero=>rw[replicate_zero,dnS]
 |succ n ih=>rw[replicate_succ,dnS,ih,dnR];omega
mutual
theorem aNW:∀r:Rw,drR r=true->1<=dnR r
 |.pl p,_=>by rw[dnR];exact Nat.le_refl _
 |.ag n rs,h=>by
  rw[drR,Bool.and_eq_true] at h;have:=aA2 rs h.2;have n0:0<n:=by have:=h.1;simp at this;omega
  rw[dnR];exact Nat.mul_pos this n0
 |.kp rs,h=>by rw[drR] at h;rw[dnR];exact aA2 rs h
 |.ev rs,h=>by rw[drR] at h;rw[dnR];exact aA2 rs h
theorem aA2:∀rs:List Rw,drS rs=true->1<=dnS rs
 |[],h=>by rw[drS] at h;cases h
 |r::rs,h=>by
  rw[drS,Bool.or_eq_true] at h;rw[dnS];rcases h with z|z
  ·have:=aNW r z;omega
  ·have:=aA2 rs z;omega
end
theorem aNv {rs:List Rw}(h:enB rs=true):drS rs=true:=by unfold enB at h;rw[Bool.and_eq_true,Bool.and_eq_true] at h;exact h.2.2
theorem aI6 {F:Pl->Prop}{i m:Nat}{rs:List Rw}(h:aBc F i m rs)(fd:F .dot)(fg:F (.grow (1/12))):(∀r∈cS rs,Dp (4-i) r)/\(cS rs).length<=m+2/\dnS (cS rs)<=Fc m+2/\gwS 690 (cS rs)/\alS F (cS rs)/\ltS (cS rs)/\hmS (cS rs)<=3*m+2:=by
 have one:∀b:Bool,(if b=true then 0 else 1)<=1:=λb=>by cases b<;>decide
 have pl:∀{d:Nat}{p:Pl},Dp d (.pl p):=λ{d p}=>by unfold Dp;trivial
 unfold cS eM;have o1:=one (drS rs);generalize (if drS rs=true then 0 else 1)=k1 at o1 ⊢;have o2:=one (enB (rs++replicate k1 (.pl .dot)));generalize (if enB (rs++replicate k1 (.pl .dot))=true then 0 else 1)=k2 at o2 ⊢;refine⟨λr hr=>?_,?_,?_,iV.mpr ⟨iV.mpr ⟨h.gw,aC8 (by rw[gwR];trivial;intro _ z;cases z)⟩,aC8 (by rw[gwR];exact⟨1,12,by decide,by decide,by decide +kernel⟩)⟩,sH.mpr ⟨sH.mpr ⟨h.al,aGK (by rw[alR];exact fd)⟩,aGK (by rw[alR];exact fg)⟩,sQ.mpr ⟨sQ.mpr ⟨h.lt.1,xT.1⟩,xT.1⟩,by rw[fR,fR,xT.2,xT.2];have:=h.lt.2;omega⟩
 ·rcases List.mem_append.mp hr with z|z
  ·rcases List.mem_append.mp z with y|y
   ·exact h.dp r y
   ·rw[(List.mem_replicate.mp y).2];exact pl
  ·rw[(List.mem_replicate.mp z).2];exact pl
 ·rw[length_append,length_append,length_replicate,length_replicate];have:=h.len;omega
 ·rw[eU,eU,aIP,aIP];have:=h.dn;omega
theorem aPE {F:Pl->Prop}{i m n:Nat}{rs:List Rw}{wd:Str}(h:aBc F (i+1) m rs)(hi:i+1<=4)(hm:m<=38)(hn:n<=12)(fd:F .dot)(fg:F (.grow (1/12))):Dp (4-i) (clE wd n rs)/\dnR (clE wd n rs)<=Fc (m+2)/\gwR 690 (clE wd n rs)/\alR F (clE wd n rs)/\ltR (clE wd n rs)/\hmR (clE wd n rs)<=3*(m+2):=by
 obtain⟨e1,e2,e3,e4,e5,e6,e7⟩:=aI6 h fd fg;obtain⟨t1,t2⟩:=h.lt;have d4:4-i=(4-(i+1))+1:=by omega
 have f2:=aLb m;have fl:=aKQ (m:=m);have hl:=h.len;have hd:=h.dn;have fm:=aKg (show m<=m+2 by omega);unfold clE;rw[d4];by_cases c1:wd = "again"
 ·rw[if_pos c1];refine⟨⟨?_,by omega,h.dp⟩,?_,by rw[gwR];exact⟨by omega,h.gw⟩,by rw[alR];exact h.al,by rw[ltR];exact⟨by split<;>omega,t1⟩,by rw[hmR];omega⟩
  ·split<;>omega
  ·rw[dnR];by_cases c:90<n*dnS rs
   ·rw[if_pos c];omega
   ·rw[if_neg c,Nat.mul_comm];exact aIm hd hn (by omega)
 ·rw[if_neg c1];by_cases c2:wd = "ever"
  ·rw[if_pos c2];cases hb:enB (cS rs) with
   |true=>exact⟨⟨by omega,e1⟩,by show dnR (.ev _)<=_;rw[dnR];omega,by show gwR _ (.ev _);rw[gwR];exact⟨⟨aA2 _ (aNv hb),by omega⟩,e4⟩,by show alR _ (.ev _);rw[alR];exact e5,by show ltR (.ev _);rw[ltR];exact e6,by show hmR (.ev _)<=_;rw[hmR];omega⟩
   |false=>exact⟨⟨by omega,e1⟩,by show dnR (.kp _)<=_;rw[dnR];omega,by show gwR _ (.kp _);rw[gwR];exact⟨by omega,e4⟩,by show alR _ (.kp _);rw[alR];exact e5,by show ltR (.kp _);rw[ltR];exact e6,by show hmR (.kp _)<=_;rw[hmR];omega⟩
  ·rw[if_neg c2];exact⟨⟨by omega,h.dp⟩,by rw[dnR];omega,by rw[gwR];exact⟨by omega,h.gw⟩,by rw[alR];exact h.al,by rw[ltR];exact t1,by rw[hmR];omega⟩
theorem aBc.blk {F:Pl->Prop}{i m k:Nat}{us:List Rw}{r:Rw}(h:aBc F i m us)(k0:0<k)(b1:Dp (4-i) r)(b2:dnR r<=Fc k)(b3:gwR 690 r)(b4:alR F r)(b5:ltR r)(b6:hmR r<=3*k):aBc F i (m+k) (us++[r]):=by
 refine⟨λx hx=>?_,by rw[length_append];have:=h.len;show us.length+1<=m+k;omega,?_,iV.mpr ⟨h.gw,by rw[gwS,gwS];exact⟨b3,trivial⟩⟩,sH.mpr ⟨h.al,by rw[alS,alS];exact⟨b4,trivial⟩⟩,sQ.mpr ⟨h.lt.1,by rw[ltS,ltS];exact⟨b5,trivial⟩⟩,by rw[fR,hmS,hmS];have:=h.lt.2;omega⟩
 ·rcases List.mem_append.mp hx with z|z
  ·exact h.dp x z
  ·rw[List.mem_singleton.mp z];exact b1
 ·rw[eU,dnS,dnS];have:=h.dn;have:=aHf m k;omega
noncomputable abbrev Es:=List (En×Nat)
noncomputable def esD (es:Es):List D:=es.map λx=>enD x.1
def wd3 (w:Str):Prop:=w = "again"∨w = "keep"∨w = "ever"
structure SI (F:Pl->Prop)(B M:DM)(st:Addr)(es:Es)(c:Nat):Prop where
 sub:aU B M
 new:B st=none
 hst:M st=some (esD es)
 len:es.length<=5
 sum:(es.map (·.2)).sum+es.length<=c+1
 ent:∀(i:Nat) x,es[i]?=some x->(aBc F i x.2 x.1.rs/\M x.1.a=some (bA x.1.rs)/\B x.1.a=none)/\st≠x.1.a/\x.1.n<=12/\(0<i->wd3 x.1.wd)
 nod:(es.map (·.1.a)).Nodup
theorem wD {B M M':DM}{as:List Addr}(s:aU B M)(k:hG M M' as)(n:∀a∈as,B a=none):aU B M':=λa x e=>k a (λb hb z=>by rw[z,n b hb] at e;cases e) x (s _ _ e)
theorem wF {α:Type}{xs:List α}{y:α}{i:Nat}{x:α}(h:(xs++[y])[i]?=some x):xs[i]?=some x∨(i=xs.length/\x=y):=by
 rw[List.getElem?_append] at h;split at h
 ·exact .inl h
 ·rename_i l;have:i-xs.length=0:=by
   cases hk:i-xs.length with
   |zero=>rfl
   |succ k=>rw[hk] at h;simp at h
  rw[this] at h;simp at h;exact .inr ⟨by omega,h.symm⟩
theorem SI.top {F:Pl->Prop}{B M M':DM}{st:Addr}{es:Es}{u:En}{m m' c c':Nat}{rs':List Rw}(h:SI F B M st (es++[(u,m)]) c)(hs:M' st=some (esD (es++[(u,m)])))(hu:M' u.a=some (bA rs'))(k:hG M M' [st,u.a])(ok:aBc F es.length m' rs')(hc:(es.map (·.2)).sum+m'+es.length<=c'):SI F B M' st (es++[({ u with rs:=rs' },m')]) c':=by
 have hend:(es++[(u,m)])[es.length]?=some (u,m):=by rw[getElem?_append_right (Nat.le_refl _)];simp
 have hu0:=h.ent _ _ hend;refine⟨wD h.sub k λa ha=>?_,h.new,?_,?_,?_,λi x hx=>?_,?_⟩
 ·rcases List.mem_cons.mp ha with rfl|z
  ·exact h.new
  ·rw[List.mem_singleton.mp z];exact hu0.1.2.2
 ·rw[hs];unfold esD;rw[map_append,map_append];rfl
 ·have:=h.len;rw[length_append] at *;exact this
 ·rw[map_append,sum_append,length_append];simp;omega
 ·rcases wF hx with z|⟨rfl,rfl⟩
  ·have hi:=(List.getElem?_eq_some_iff.mp z).1;have hx0:(es++[(u,m)])[i]?=some x:=by rw[getElem?_append_left hi];exact z
   obtain⟨⟨a1,a2,a3⟩,a4,a5⟩:=h.ent i x hx0;refine⟨⟨a1,k _ (λb hb y=>?_) _ a2,a3⟩,a4,a5⟩;rcases List.mem_cons.mp hb with rfl|z2
   ·cases y;exact a4 rfl
   ·rw[List.mem_singleton.mp z2] at y;have nd:=h.nod;rw[map_append,nodup_append] at nd;have:=nd.2.2 x.1.a (List.mem_map.mpr ⟨x,mem_of_getElem? z,rfl⟩) u.a (by simp);exact this (by injection y)
  ·exact⟨⟨ok,hu,hu0.1.2.2⟩,hu0.2.1,hu0.2.2.1,hu0.2.2.2⟩
 ·have nd:=h.nod;rw[map_append] at *;exact nd
theorem SI.push {F:Pl->Prop}{B M M':DM}{st a:Addr}{es:Es}{wd:Str}{n c c':Nat}(h:SI F B M st es c)(hl:es.length<5)(ha:M a=none)(hs:M' st=some (esD (es++[(⟨wd,n,a,[]⟩,0)])))(hu:M' a=some [])(k:hG M M' [st,a])(hw:wd3 wd)(hn:n<=12)(hc:c+1<=c'):SI F B M' st (es++[(⟨wd,n,a,[]⟩,0)]) c':=by
 have fresh:∀b:Addr,(∃x,M b=some x)->b≠a:=λb ⟨x,e⟩ z=>by rw[z,ha] at e;cases e
 have ba:B a=none:=by
  cases e:B a with
  |none=>rfl
  |some x=>rw[h.sub _ _ e] at ha;cases ha
 refine⟨wD h.sub k λb hb=>?_,h.new,hs,by rw[length_append];exact hl,?_,λi x hx=>?_,?_⟩
 ·rcases List.mem_cons.mp hb with rfl|z
  ·exact h.new
  ·rw[List.mem_singleton.mp z];exact ba
 ·have:=h.sum;rw[map_append,sum_append,length_append];simp;omega
 ·rcases wF hx with z|⟨rfl,rfl⟩
  ·obtain⟨⟨a1,a2,a3⟩,a4,a5⟩:=h.ent i x z;refine⟨⟨a1,k _ (λb hb y=>?_) _ a2,a3⟩,a4,a5⟩;rcases List.mem_cons.mp hb with rfl|z2
   ·exact a4 (by injection y with y;exact y.symm)
   ·rw[List.mem_singleton.mp z2] at y;exact fresh _ ⟨_,a2⟩ (by injection y)
  ·refine⟨⟨⟨(λr hr=>nomatch hr),Nat.le_refl _,(by show dnS []<=_;rw[dnS];exact Nat.zero_le _),(by show gwS _ [];rw[gwS];trivial),(by show alS _ [];rw[alS];trivial),(by show ltS [];rw[ltS];trivial),(by show hmS []<=_;rw[hmS];exact Nat.zero_le _)⟩,hu,ba⟩,fresh _ ⟨_,h.hst⟩,hn,λ_=>hw⟩
 ·rw[map_append,nodup_append];refine⟨h.nod,by simp,λb hb d hd=>?_⟩;rw[List.mem_singleton.mp hd];obtain⟨x,hx,rfl⟩:=List.mem_map.mp hb;obtain⟨i,hi⟩:=List.mem_iff_getElem?.mp hx;exact fresh _ ⟨_,(h.ent i x hi).1.2.1⟩
theorem SI.close {F:Pl->Prop}{B M M':DM}{st:Addr}{es:Es}{u e:En}{m m' c:Nat}(h:SI F B M st (es++[(u,m),(e,m')]) c)(hs:M' st=some (esD (es++[(u,m)])))(hu:M' u.a=some (bA (u.rs++[clE e.wd e.n e.rs])))(kp:hG M M' [st,u.a])(fd:F .dot)(fg:F (.grow (1/12)))(hc:c<=39):SI F B M' st (es++[({ u with rs:=u.rs++[clE e.wd e.n e.rs] },m+(m'+2))]) (c+1):=by
 have spl:es++[(u,m),(e,m')]=(es++[(u,m)])++[(e,m')]:=by simp
 rw[spl] at h;have he:((es++[(u,m)])++[(e,m')])[(es++[(u,m)]).length]?=some (e,m'):=by rw[getElem?_append_right (Nat.le_refl _)];simp
 have he0:=h.ent _ _ he;have hun:((es++[(u,m)])++[(e,m')])[es.length]?=some (u,m):=by rw[getElem?_append_left (by rw[length_append];show _<_+1;omega),getElem?_append_right (Nat.le_refl _)];simp
 have hu0:=h.ent _ _ hun;have sm:=h.sum;have ln:=h.len;rw[map_append,map_append,sum_append,sum_append,length_append,length_append] at sm;simp at sm;rw[length_append,length_append] at ln;simp at ln;have l1:(es++[(u,m)]).length=es.length+1:=by rw[length_append];rfl
 rw[l1] at he0;obtain⟨b1,b2,b3,b4,b5,b6⟩:=aPE (wd:=e.wd) (n:=e.n) he0.1.1 (by omega) (by show m'<=38;omega) he0.2.2.1 fd fg;have ok:=hu0.1.1.blk (k:=m'+2) (by omega) b1 b2 b3 b4 b5 b6;refine⟨wD h.sub kp λa ha=>?_,h.new,?_,by rw[length_append];show es.length+1<=5;omega,?_,λi x hx=>?_,?_⟩
 ·rcases List.mem_cons.mp ha with rfl|z
  ·exact h.new
  ·rw[List.mem_singleton.mp z];exact hu0.1.2.2
 ·rw[hs];unfold esD;rw[map_append,map_append];rfl
 ·rw[map_append,sum_append,length_append];simp;omega
 ·rcases wF hx with z|⟨rfl,rfl⟩
  ·have hi:=(List.getElem?_eq_some_iff.mp z).1;have hx0:((es++[(u,m)])++[(e,m')])[i]?=some x:=by rw[getElem?_append_left (by rw[l1];omega),getElem?_append_left hi];exact z
   obtain⟨⟨a1,a2,a3⟩,a4,a5⟩:=h.ent i x hx0;refine⟨⟨a1,kp _ (λb hb y=>?_) _ a2,a3⟩,a4,a5⟩;rcases List.mem_cons.mp hb with rfl|z2
   ·exact a4 (by injection y with y;exact y.symm)
   ·rw[List.mem_singleton.mp z2] at y;have nd:=h.nod;rw[map_append,nodup_append,map_append,nodup_append] at nd;exact nd.1.2.2 x.1.a (List.mem_map.mpr ⟨x,mem_of_getElem? z,rfl⟩) u.a (by simp) (by injection y)
  ·exact⟨⟨ok,hu,hu0.1.2.2⟩,hu0.2.1,hu0.2.2.1,hu0.2.2.2⟩
 ·have nd:=h.nod;rw[map_append,nodup_append] at nd;have:=nd.1;rw[map_append] at *;exact this
noncomputable def aDM:D:=.tup [.int 0,.int 1]
def fH:DSp:=λds M Q=>∃x y t,ds=[PQ x y,.int t]/\Q (FR x y t 1 1) M
noncomputable abbrev tW:Stmt:=top 33
theorem aDL:aR ["place","turns"] ["place","turns"] (aJ tW):=by ac_rfl
theorem aCn (hF:bT K mg "at_place" tW ["place","turns"])(mK:gG K mg "ONE" aEY):Has P w K mg base 101 "at_place" ["place","turns"] fH:=by refine Has.mkZ hF aDL (λds M Q ⟨a,b,c,z,_⟩=>by rw[z];rfl) λf cdv A outer s H ds M Q E hr h=>?_;obtain⟨x,y,t,rfl,q⟩:=h;refine⟨_,(aE (aN (aM (aA (aB 0) (aA (aB 1) (aA aC (aA (bG mK) aD))))))),?_⟩;ac_nf;exact⟨by decide,M,.refl _,q⟩
def iL (B:Nat)(ok:Pl->Prop):DSp:=λds M Q=>∃p,ds=[plD p]/\ok p/\plB B p/\Q (.tup [lgO (aCN p),FmD (aHE p)]) M
theorem gK {B:Nat}{ok:Pl->Prop}(ds:List D)(M:DM)(Q:DQ)(h:iL B ok ds M Q):ds.length=1:=by obtain⟨p,rfl,_⟩:=h;rfl
def pK:DSp:=λds M Q=>∃(x:Str)(a b:Rat),ds=[.tup [.str x,FQ a,FQ b]]/\Q (.tup [lgD (.st 0 0 a b),FmD ⟨a,b,0,1,1⟩]) M
noncomputable abbrev rF:Stmt:=top 35
theorem vK:aR ["row","place"] ["row"] (aJ rF):=by ac_rfl
theorem aBk (hF:bT K mg "side_deed" rF ["row"])(bH:gG K mg "MIDDLE" uU)(bM:Has P w K mg base 101 "at_place" ["place","turns"] fH):Has P w K mg base 102 "side_deed" ["row"] pK:=by
 refine Has.mkZ hF vK (λds M Q ⟨a,b,c,z,_⟩=>by rw[z];rfl) λf cdv A outer s H ds M Q E hr h=>?_;obtain⟨x,a,b,rfl,q⟩:=h;refine⟨_,(aF (aP (i:=1) vK.nd (aM (aA (aH (aB 0) aC) (aA (aH (aB 0) aC) aD))))
  (aE (aN (aM (aA (aM (aA aL (aA (bG bH) (aA (aB 1) aD)))) (aA (aG bM hr (by decide) (aA (aB 1) (aA aC aD))) aD)))))),?_⟩
 ac_nf;refine⟨by decide,by decide,a,b,0,rfl,?_⟩;ac_nf;exact⟨by decide,M,.refl _,q⟩
def aAJ:DSp:=iL 900 λp=>∃a,p=.go a
noncomputable abbrev xU:Stmt:=top 34
theorem aER:aR ["row"] ["row"] (aJ xU):=by ac_rfl
theorem aDm (hF:bT K mg "go_deed" xU ["row"])(dW:gG K mg "NOTHING" aDM)(jO:Has P w K mg base 102 "side_deed" ["row"] pK):Has P w K mg base 103 "go_deed" ["row"] aAJ:=by refine Has.mkZ hF aER gK λf cdv A outer s H ds M Q E hr h=>?_;obtain⟨p,rfl,⟨a,rfl⟩,b,q⟩:=h;refine⟨_,(aE (aN (aG jO hr (by decide) (aA (aM (aA aL (aA (aH (aB 0) aC) (aA (bG dW) aD)))) aD)))),?_⟩;dsimp only[plD];ac_nf;refine⟨by decide,"side",a,0,rfl,?_⟩;exact⟨M,.refl _,q⟩
def vA:DSp:=iL 900 λp=>∃a,p=.skip a
noncomputable abbrev qY:Stmt:=top 36
theorem aC7:aR ["row"] ["row"] (aJ qY):=by ac_rfl
theorem aBl (hF:bT K mg "skip_deed" qY ["row"])(dW:gG K mg "NOTHING" aDM)(bM:Has P w K mg base 101 "at_place" ["place","turns"] fH):Has P w K mg base 103 "skip_deed" ["row"] vA:=by refine Has.mkZ hF aC7 gK λf cdv A outer s H ds M Q E hr h=>?_;obtain⟨p,rfl,⟨a,rfl⟩,b,q⟩:=h;refine⟨_,(aE (aN (aM (aA fV (aA (aG bM hr (by decide) (aA (aM (aA (aH (aB 0) aC) (aA (bG dW) aD))) (aA aC aD))) aD))))),?_⟩;dsimp only[plD];ac_nf;refine⟨by decide,a,0,0,rfl,?_⟩;ac_nf;exact⟨by decide,M,.refl _,q⟩
def yE:DSp:=iL 900 λp=>p=.dot
noncomputable abbrev uG:Stmt:=top 37
theorem aEi:aR ["row"] ["row"] (aJ uG):=by ac_rfl
theorem aCZ (hF:bT K mg "dot_deed" uG ["row"])(bH:gG K mg "MIDDLE" uU)(aCx:Has P w K mg base 101 "first" [] aDn):Has P w K mg base 103 "dot_deed" ["row"] yE:=by refine Has.mkZ hF aEi gK λf cdv A outer s H ds M Q E hr h=>?_;obtain⟨p,rfl,rfl,b,q⟩:=h;refine⟨_,(aE (aN (aM (aA (aM (aA aL (aA (bG bH) (aA (bG bH) aD)))) (aA (aEO aCx hr (by decide)) aD))))),?_⟩;ac_nf;refine⟨by decide,rfl,?_⟩;ac_nf;exact⟨by decide,M,.refl _,q⟩
def wB:DSp:=iL 900 λp=>p=.left
noncomputable abbrev qU:Stmt:=top 38
theorem aC5:aR ["row"] ["row"] (aJ qU):=by ac_rfl
theorem aBf (hF:bT K mg "left_deed" qU ["row"])(bH:gG K mg "MIDDLE" uU)(bM:Has P w K mg base 101 "at_place" ["place","turns"] fH):Has P w K mg base 103 "left_deed" ["row"] wB:=by refine Has.mkZ hF aC5 gK λf cdv A outer s H ds M Q E hr h=>?_;obtain⟨p,rfl,rfl,b,q⟩:=h;refine⟨_,(aE (aN (aM (aA fV (aA (aG bM hr (by decide) (aA (bG bH) (aA aC aD))) aD))))),?_⟩;ac_nf;refine⟨0,0,1,rfl,?_⟩;ac_nf;exact⟨by decide,M,.refl _,q⟩
def sY:DSp:=iL 900 λp=>p=.rnd
noncomputable abbrev oV:Stmt:=top 39
theorem aBr:aR ["row"] ["row"] (aJ oV):=by ac_rfl
theorem aAI (hF:bT K mg "round_deed" oV ["row"])(bH:gG K mg "MIDDLE" uU)(bM:Has P w K mg base 101 "at_place" ["place","turns"] fH):Has P w K mg base 103 "round_deed" ["row"] sY:=by refine Has.mkZ hF aBr gK λf cdv A outer s H ds M Q E hr h=>?_;obtain⟨p,rfl,rfl,b,q⟩:=h;refine⟨_,(aE (aN (aM (aA fV (aA (aG bM hr (by decide) (aA (bG bH) (aA aC aD))) aD))))),?_⟩;ac_nf;refine⟨0,0,2,rfl,?_⟩;ac_nf;exact⟨by decide,M,.refl _,q⟩
def sX:DSp:=iL 900 λp=>p=.right
noncomputable abbrev qB:Stmt:=top 40
theorem aBE:aR ["row"] ["row"] (aJ qB):=by ac_rfl
theorem aAc (hF:bT K mg "right_deed" qB ["row"])(bH:gG K mg "MIDDLE" uU)(bM:Has P w K mg base 101 "at_place" ["place","turns"] fH):Has P w K mg base 103 "right_deed" ["row"] sX:=by refine Has.mkZ hF aBE gK λf cdv A outer s H ds M Q E hr h=>?_;obtain⟨p,rfl,rfl,b,q⟩:=h;refine⟨_,(aE (aN (aM (aA fV (aA (aG bM hr (by decide) (aA (bG bH) (aA aC aD))) aD))))),?_⟩;ac_nf;refine⟨0,0,3,rfl,?_⟩;ac_nf;exact⟨by decide,M,.refl _,q⟩
def qT:DSp:=iL 900 λp=>p=.mirror
noncomputable abbrev nL:Stmt:=top 41
theorem aAU:aR ["row"] ["row"] (aJ nL):=by ac_rfl
theorem yW (hF:bT K mg "mirror_deed" nL ["row"])(bH:gG K mg "MIDDLE" uU)(mK:gG K mg "ONE" aEY):Has P w K mg base 103 "mirror_deed" ["row"] qT:=by refine Has.mkZ hF aAU gK λf cdv A outer s H ds M Q E hr h=>?_;obtain⟨p,rfl,rfl,b,q⟩:=h;refine⟨_,(aE (aN (aM (aA fV (aA (aM (aA (bG bH) (aA aC (aA (eL aC) (aA (bG mK) aD))))) aD))))),?_⟩;ac_nf;exact⟨by decide,by decide,M,.refl _,q⟩
def vB:DSp:=iL 900 λp=>∃a,p=.grow a
noncomputable abbrev rH:Stmt:=top 42
theorem aCg:aR ["row"] ["row"] (aJ rH):=by ac_rfl
theorem aBu (hF:bT K mg "grow_deed" rH ["row"])(bH:gG K mg "MIDDLE" uU):Has P w K mg base 103 "grow_deed" ["row"] vB:=by refine Has.mkZ hF aCg gK λf cdv A outer s H ds M Q E hr h=>?_;obtain⟨p,rfl,⟨a,rfl⟩,b,q⟩:=h;refine⟨_,(aE (aN (aM (aA fV (aA (aM (aA (bG bH) (aA aC (aA aC (aA (aH (aB 0) aC) aD))))) aD))))),?_⟩;dsimp only[plD];ac_nf;exact⟨by decide,by decide,M,.refl _,q⟩
theorem nA {a:Rat}:0<a.num↔0<a:=by rw[Rat.lt_iff];simp
def qC:DSp:=iL 900 λp=>∃a,p=.quarter a
noncomputable abbrev mI:Stmt:=top 43
theorem lI:aR ["row","a","place"] ["row"] (aJ mI):=by ac_rfl
theorem xA (hF:bT K mg "quarter_deed" mI ["row"])(bH:gG K mg "MIDDLE" uU)(dW:gG K mg "NOTHING" aDM)(bM:Has P w K mg base 101 "at_place" ["place","turns"] fH):Has P w K mg base 103 "quarter_deed" ["row"] qC:=by
 refine Has.mkZ hF lI gK λf cdv A outer s H ds M Q E hr h=>?_;obtain⟨p,rfl,⟨a,rfl⟩,b,q⟩:=h;refine⟨_,(aF (aP (i:=1) lI.nd (aH (aB 0) aC))
  (aF (aW (aQ gA (aH (aB 1) aC) aC) (aE (aN (aM (aA (aM (aA aL (aA (aM (aA (bG dW) (aA (aB 1) aD))) (aA (bG bH) (aA (aM (aA (aB 1) (aA (aB 1) aD))) (aA aC aD)))))) (aA (aG bM hr (by decide) (aA (aM (aA (aB 1) (aA (aB 1) aD))) (aA aC aD))) aD))))) aS)
  (aF (aP (i:=2) lI.nd (aM (aA (aM (aA (eL (aH (aB 1) aC)) (aA (aH (aB 1) aC) aD))) (aA (aB 1) aD))))
  (aE (aN (aM (aA (aM (aA aL (aA (aM (aA (bG dW) (aA (aB 1) aD))) (aA (bG bH) (aA (aB 2) (aA (eL aC) aD)))))) (aA (aG bM hr (by decide) (aA (aB 2) (aA aC aD))) aD)))))))),?_⟩
 dsimp only[plD];ac_nf;dsimp only[aCN,aHE] at q;by_cases c:0<a
 ·rw[if_pos c,if_pos c] at q;refine ifT (decide_eq_true (nA.mpr c)) ⟨by decide,by decide,by decide,by decide,a,a,1,rfl,?_⟩;ac_nf;exact⟨by decide,M,.refl _,q⟩
 ·rw[if_neg c,if_neg c] at q;refine ifF (decide_eq_false λz=>c (nA.mp z)) ⟨by decide,by decide,by decide,by decide,?_⟩;rw[aJT];refine⟨-a,a,3,rfl,?_⟩;ac_nf;exact⟨by decide,M,.refl _,q⟩
def vL:DSp:=iL 900 λp=>∃a,p=.half a
noncomputable abbrev qM:Stmt:=top 44
theorem uS:aR ["row","place"] ["row"] (aJ qM):=by ac_rfl
theorem aBo (hF:bT K mg "half_deed" qM ["row"])(bH:gG K mg "MIDDLE" uU)(dW:gG K mg "NOTHING" aDM)(aEW:Has P w K mg base 102 "plus" ["one","other"] aCm)(bM:Has P w K mg base 101 "at_place" ["place","turns"] fH):Has P w K mg base 103 "half_deed" ["row"] vL:=by
 refine Has.mkZ hF uS gK λf cdv A outer s H ds M Q E hr h=>?_;obtain⟨p,rfl,⟨a,rfl⟩,b,q⟩:=h;refine⟨_,(aF (aP (i:=1) uS.nd (aM (aA (bG dW) (aA (aG aEW hr (by decide) (aA (aH (aB 0) aC) (aA (aH (aB 0) aC) aD))) aD))))
  (aE (aN (aM (aA (aM (aA aL (aA (aM (aA (bG dW) (aA (aH (aB 0) aC) aD))) (aA (bG bH) (aA (aB 1) (aA (iK (aQ gA (aH (aH (aB 0) aC) aC) aC) aC (eL aC)) aD)))))) (aA (aG bM hr (by decide) (aA (aB 1) (aA aC aD))) aD)))))),?_⟩
 dsimp only[plD];ac_nf;dsimp only[aCN,aHE] at q;refine⟨a,a,900,900,rfl,trivial,b.1,b.1,by decide,by decide,by decide,?_⟩;ac_nf;by_cases c:0<a
 ·rw[if_pos c] at q;refine ifT (decide_eq_true (nA.mpr c)) ⟨by decide,0,a+a,2,rfl,?_⟩;ac_nf;exact⟨by decide,M,.refl _,q⟩
 ·rw[if_neg c] at q;refine ifF (decide_eq_false λz=>c (nA.mp z)) ⟨by decide,0,a+a,2,rfl,?_⟩;ac_nf;exact⟨by decide,M,.refl _,q⟩
def yF:DSp:=iL 900 λp=>∃a b c d,p=.arc a b c d
noncomputable abbrev uD:Stmt:=top 45
theorem yO:aR ["row","place"] ["row"] (aJ uD):=by ac_rfl
theorem aCP (hF:bT K mg "arc_deed" uD ["row"])(bH:gG K mg "MIDDLE" uU)(bM:Has P w K mg base 101 "at_place" ["place","turns"] fH):Has P w K mg base 103 "arc_deed" ["row"] yF:=by
 refine Has.mkZ hF yO gK λf cdv A outer s H ds M Q E hr h=>?_;obtain⟨p,rfl,⟨a,b,c,d,rfl⟩,bb,q⟩:=h;refine⟨_,(aF (aP (i:=1) yO.nd (aM (aA (aH (aB 0) aC) (aA (aH (aB 0) aC) aD))))
  (aE (aN (aM (aA (aM (aA aL (aA (aM (aA (aH (aB 0) aC) (aA (aH (aB 0) aC) aD))) (aA (bG bH) (aA (aB 1) (aA aC aD)))))) (aA (aG bM hr (by decide) (aA (aB 1) (aA aC aD))) aD)))))),?_⟩
 dsimp only[plD];ac_nf;refine⟨by decide,by decide,by decide,c,d,0,rfl,?_⟩;ac_nf;exact⟨by decide,M,.refl _,q⟩
noncomputable def aN9:List (Str×Str):=[("go","go_deed"),("skip","skip_deed"),("side","side_deed"),("dot","dot_deed"),("left","left_deed"),("right","right_deed"),("round","round_deed"),("mirror","mirror_deed"),("grow","grow_deed"),("quarter","quarter_deed"),("half","half_deed"),("arc","arc_deed")]
def aAC:DSp:=iL 900 λ_=>True
noncomputable abbrev xK:Stmt:=top 47
theorem aA3:aR ["row","deed"] ["row"] (aJ xK):=by ac_rfl
theorem aDS (hF:bT K mg "deed_of" xK ["row"])(aCF:aJ5 w K mg "DEEDS" aN9)(xO:Has P w K mg base 103 "go_deed" ["row"] aAJ)(jO:Has P w K mg base 102 "side_deed" ["row"] pK)(qV:Has P w K mg base 103 "skip_deed" ["row"] vA)(tU:Has P w K mg base 103 "dot_deed" ["row"] yE)(qX:Has P w K mg base 103 "left_deed" ["row"] wB)(pB:Has P w K mg base 103 "round_deed" ["row"] sY)(oS:Has P w K mg base 103 "right_deed" ["row"] sX)(nR:Has P w K mg base 103 "mirror_deed" ["row"] qT)(rW:Has P w K mg base 103 "grow_deed" ["row"] vB)(mQ:Has P w K mg base 103 "quarter_deed" ["row"] qC)(sA:Has P w K mg base 103 "half_deed" ["row"] vL)(uM:Has P w K mg base 103 "arc_deed" ["row"] yF):Has P w K mg base 104 "deed_of" ["row"] aAC:=by
 refine Has.mkZ hF aA3 gK λf cdv A outer s H ds M Q E hr h=>?_;obtain⟨p,rfl,_,b,q⟩:=h;refine⟨_,(aF (aP (i:=1) aA3.nd (aJH aCF (aH (aB 0) aC)))
  (aE (aN (aFT (j:=103) (aB 1) hr (by decide) (aA (aB 0) aD))))),?_⟩
 have q':=bE q;cases p with
 |go a=>exact⟨"go_deed",rfl,λf hf=>⟨_,_,_,hf,xO,_,rfl,⟨a,rfl⟩,b,q'⟩⟩
 |side a c=>exact⟨"side_deed",rfl,λf hf=>⟨_,_,_,hf,jO.mono (by decide),_,a,c,rfl,q'⟩⟩
 |skip a=>exact⟨"skip_deed",rfl,λf hf=>⟨_,_,_,hf,qV,_,rfl,⟨a,rfl⟩,b,q'⟩⟩
 |dot=>exact⟨"dot_deed",rfl,λf hf=>⟨_,_,_,hf,tU,_,rfl,rfl,b,q'⟩⟩
 |left=>exact⟨"left_deed",rfl,λf hf=>⟨_,_,_,hf,qX,_,rfl,rfl,b,q'⟩⟩
 |right=>exact⟨"right_deed",rfl,λf hf=>⟨_,_,_,hf,oS,_,rfl,rfl,b,q'⟩⟩
 |rnd=>exact⟨"round_deed",rfl,λf hf=>⟨_,_,_,hf,pB,_,rfl,rfl,b,q'⟩⟩
 |mirror=>exact⟨"mirror_deed",rfl,λf hf=>⟨_,_,_,hf,nR,_,rfl,rfl,b,q'⟩⟩
 |grow a=>exact⟨"grow_deed",rfl,λf hf=>⟨_,_,_,hf,rW,_,rfl,⟨a,rfl⟩,b,q'⟩⟩
 |quarter a=>exact⟨"quarter_deed",rfl,λf hf=>⟨_,_,_,hf,mQ,_,rfl,⟨a,rfl⟩,b,q'⟩⟩
 |half a=>exact⟨"half_deed",rfl,λf hf=>⟨_,_,_,hf,sA,_,rfl,⟨a,rfl⟩,b,q'⟩⟩
 |arc a c d e=>exact⟨"arc_deed",rfl,λf hf=>⟨_,_,_,hf,uM,_,rfl,⟨a,c,d,e,rfl⟩,b,q'⟩⟩
def cV:DSp:=λds M Q=>∃r,ds=[rwD r]/\Q (inR r) M
noncomputable abbrev kQ:Stmt:=top 48
theorem qS:aR ["row"] ["row"] (aJ kQ):=by ac_rfl
theorem yV (hF:bT K mg "rows_within" kQ ["row"]):Has P w K mg base 101 "rows_within" ["row"] cV:=by
 refine Has.mkZ hF qS (λds M Q ⟨a,z,_⟩=>by rw[z];rfl) λf cdv A outer s H ds M Q E hr h=>?_;obtain⟨r,rfl,q⟩:=h;refine⟨_,(aF (aW (aQ (cD hr) (aH (aB 0) aC) aL) (aE (aN (aH (aB 0) aC))) aS)
  (aE (aN (iK (fY (kL (aQ (cD hr) (aH (aB 0) aC) aL) (iB (aQ (cD hr) (aH (aB 0) aC) aL)))) (aH (aB 0) aC) fV)))),?_⟩
 have q':=bE q;cases r with
 |pl p =>
  cases p<;>(dsimp only[rwD,plD];ac_nf;rw[aO];refine ifF (by decide) ?_;rw[aO];refine ifF (by decide) ?_;rw[aO];exact ifF (by decide) q')
 |ag n rs =>
  dsimp only[rwD];ac_nf;rw[aO];exact ifT (by decide) q'
 |kp rs =>
  dsimp only[rwD];ac_nf;rw[aO];refine ifF (by decide) ?_;rw[aO];exact ifT (by decide) q'
 |ev rs =>
  dsimp only[rwD];ac_nf;rw[aO];refine ifF (by decide) ?_;rw[aO];refine ifF (by decide) ?_;rw[aO];exact ifT (by decide) q'
def aCY (d:Nat):DSp:=λds M Q=>∃rs,ds=[.tup (bA rs)]/\DpS d rs/\Q (.int (dnS rs:Int)) M
noncomputable abbrev lD:Stmt:=top 52
theorem dI:aR ["rows","many","row","within"] ["rows"] (aJ lD):=by ac_rfl
theorem vS (hF:bT K mg "how_many_done" lD ["rows"])(aT:Has P w K mg base 101 "rows_within" ["row"] cV):Has P w K mg base 118 "how_many_done" ["rows"] (aCY 8):=by
 have all:∀d,Has P w K mg base (110+d) "how_many_done" ["rows"] (aCY d):=λd=>by
  induction d with
  |zero=>exact(Has.never hF dI 109).imp λds M Q ⟨rs,_,z,_⟩=>z
  |succ d gL =>
   refine Has.mkZ (k:=110+d) hF dI (λds M Q ⟨a,z,_⟩=>by rw[z];rfl) λf cdv A outer s H ds M Q E hr h=>?_;obtain⟨rs,rfl,dp,q⟩:=h;refine⟨_,(aF (aP (i:=1) dI.nd aC)
  (aF (kX PassesOwn.never rfl (aB 0) (aX (i:=2) dI.nd) (aF (aP (i:=3) dI.nd (aG aT hr (by omega) (aA (aB 2) aD)))
  (aE (aW (aQ aHK (aB 3) fV) (aE (nX (i:=1) aAE dI.nd aC)) (aE (nX (i:=1) aAE dI.nd (aK bN (aG gL hr (by omega) (aA (aB 3) aD)) (iK (aQ (cD hr) (aH (aB 2) aC) aL) (aH (aB 2) aC) aC))))))))
  (aE (aN (aB 1))))),?_⟩
   ac_nf;refine⟨λi ρ M'=>M'=M/\∃o1 o2,ρ=[some (.tup (bA rs)),some (.int (dnS (rs.take i):Int)),o1,o2],⟨rfl,_,_,rfl⟩,λi ρ M' _ _ a e=>(by cases e),?_,?_⟩
   ·rintro i d1 ρ M' hd ⟨rfl,o1,o2,rfl⟩;obtain⟨r,hr',rfl⟩:=gZ hd;have dr:=dp.2 r (mem_of_getElem? hr');ac_nf;refine⟨r,rfl,?_⟩;have fin:dnS (rs.take (i+1))=dnS (rs.take i)+dnR r:=by rw[fA hr',eU,dnS,dnS,Nat.add_zero]
    rw[fin];cases r with
    |pl p =>
     dsimp only[inR,dnR];ac_nf;exact ifT rfl ⟨rfl,_,_,rfl⟩
    |ag n ws =>
     obtain⟨hn,dw⟩:=oB dr;dsimp only[inR,dnR,rwD];ac_nf;refine ifF rfl ⟨ws,rfl,dw,?_⟩;ac_nf;rw[aO];refine ifT (by decide) ⟨uP (by unfold Bd;omega),?_⟩;rw[Int.natCast_add,Int.natCast_mul];exact⟨rfl,_,_,rfl⟩
    |kp ws =>
     have dw:=tI dr;dsimp only[inR,dnR,rwD];ac_nf;refine ifF rfl ⟨ws,rfl,dw,?_⟩;ac_nf;rw[aO];refine ifF (by decide) ⟨uP (by unfold Bd;decide),?_⟩;rw[Int.natCast_add,Int.mul_one];exact⟨rfl,_,_,rfl⟩
    |ev ws =>
     have dw:=tE dr;dsimp only[inR,dnR,rwD];ac_nf;refine ifF rfl ⟨ws,rfl,dw,?_⟩;ac_nf;rw[aO];refine ifF (by decide) ⟨uP (by unfold Bd;decide),?_⟩;rw[Int.natCast_add,Int.mul_one];exact⟨rfl,_,_,rfl⟩
   ·rintro ρ M' ⟨rfl,o1,o2,rfl⟩;rw[bF,take_length];exact bE q
 exact all 8
def gH (d:Nat):DSp:=λds M Q=>∃rs,ds=[.tup (bA rs)]/\DpS d rs/\Q (.int (nmS rs)) M
def wU (d:Nat):DSp:=λds M Q=>∃r,ds=[rwD r]/\Dp d r/\Q (.int (nmR r)) M
noncomputable abbrev eT:Stmt:=top 49
theorem lR:aR ["row","rows"] ["row"] (aJ eT):=by ac_rfl
theorem kG {d:Nat}(hF:bT K mg "how_many_numbers" eT ["row"])(aT:Has P w K mg base 101 "rows_within" ["row"] cV)(aY:Has P w K mg base (110+2*d) "numbers_of_rows" ["rows"] (gH d)):Has P w K mg base (110+2*d+1) "how_many_numbers" ["row"] (wU d):=by
 refine Has.mkZ hF lR (λds M Q ⟨a,z,_⟩=>by rw[z];rfl) λf cdv A outer s H ds M Q E hr h=>?_;obtain⟨r,rfl,dp,q⟩:=h;refine⟨_,(aF (aP (i:=1) lR.nd (aG aT hr (by omega) (aA (aB 0) aD)))
  (aF (aW (aQ aHK (aB 1) fV) (aE (aN aC)) aS)
  (aE (aN (aK cB aC (aG aY hr (by omega) (aA (aB 1) aD))))))),?_⟩
 ac_nf;refine⟨r,rfl,?_⟩;have q':=bE q;cases r with
 |pl p =>
  dsimp only[inR];ac_nf;exact ifT rfl q'
 |ag n ws =>
  dsimp only[inR];ac_nf;exact ifF rfl ⟨ws,rfl,(oB dp).2,q'⟩
 |kp ws =>
  dsimp only[inR];ac_nf;exact ifF rfl ⟨ws,rfl,tI dp,q'⟩
 |ev ws =>
  dsimp only[inR];ac_nf;exact ifF rfl ⟨ws,rfl,tE dp,q'⟩
noncomputable abbrev gR:Stmt:=top 50
theorem mJ:aR ["rows"] ["rows"] (aJ gR):=by ac_rfl
theorem sS (hF:bT K mg "numbers_of_rows" gR ["rows"])(hF_how_many_numbers:bT K mg "how_many_numbers" eT ["row"])(aT:Has P w K mg base 101 "rows_within" ["row"] cV)(aHe:mg "sum" = none):Has P w K mg base 126 "numbers_of_rows" ["rows"] (gH 8):=by
 have all:∀d,Has P w K mg base (110+2*d) "numbers_of_rows" ["rows"] (gH d):=λd=>by
  induction d with
  |zero=>exact(Has.never hF mJ 109).imp λds M Q ⟨rs,_,z,_⟩=>z
  |succ d ih =>
   have eO:=kG hF_how_many_numbers aT ih;refine Has.mkZ (k:=110+2*d+1) hF mJ (λds M Q ⟨a,z,_⟩=>by rw[z];rfl) λf cdv A outer s H ds M Q E hr h=>?_;obtain⟨rs,rfl,dp,q⟩:=h;refine⟨_,(aE (aN (bI (aNr rfl) aHe (aA (aFm (⟨rfl,by decide +kernel,by decide +kernel,by decide +kernel,rfl,by decide +kernel⟩:aCV ["rows"] (aJ gR) ["row"] [none] _) rfl (aB 0) (λ_ _ _ _ _=>(aX (i:=0) (show Nodup (["row"]:List Str) by decide +kernel))) (λ_ _ _ _ _=>(aG eO hr (by omega) (aA (aB 0) aD)))) aD)))),?_⟩;ac_nf;refine⟨by rw[bF];exact dp.1,λi ys M'=>M'=M/\ys=((rs.take i).map nmR).map D.int,⟨rfl,rfl⟩,λi ys M' _ _ a e=>(by cases e),?_,?_⟩
   ·rintro i d1 ys M' hd ⟨rfl,rfl⟩;obtain⟨r,hr',rfl⟩:=gZ hd;ac_nf;refine⟨r,rfl,dp.2 r (mem_of_getElem? hr'),rfl,?_⟩;rw[fA hr'];simp
   ·rintro ys M' hl ⟨rfl,rfl⟩ p hp;refine⟨rs.map nmR,?_,?_⟩
    ·rw[aI,bF,take_length]
    ·rw[<- aFa];exact⟨_,aU.new hp _,q⟩
 exact all 8
theorem rP (hF:bT K mg "how_many_numbers" eT ["row"])(aT:Has P w K mg base 101 "rows_within" ["row"] cV)(aY:Has P w K mg base 126 "numbers_of_rows" ["rows"] (gH 8)):Has P w K mg base 127 "how_many_numbers" ["row"] (wU 8):=by exact kG (d:=8) hF aT aY
theorem aB0 {a b c d:Rat}:iC a b c d=0↔a=c/\b=d:=by
 unfold iC;constructor
 ·intro h;have s1:∀x:Rat,0<=x*x:=λx=>by
   rcases (show 0<=x∨0<=-x by grind) with z|z
   ·exact Rat.mul_nonneg z z
   ·have:=Rat.mul_nonneg z z;grind
  have h1:=s1 (c-a);have h2:=s1 (d-b);have e1:(c-a)*(c-a)=0:=by grind
  have e2:(d-b)*(d-b)=0:=by grind
  rcases Rat.mul_eq_zero.mp e1 with z|z<;>rcases Rat.mul_eq_zero.mp e2 with y|y<;>constructor<;>grind
 ·rintro⟨rfl,rfl⟩;grind
def Dv (D:Nat)(x:Rat):Prop:=∃z:Int,x*(D:Rat)=(z:Rat)
theorem Dv.add {D:Nat}{x y:Rat}(h:Dv D x)(h2:Dv D y):Dv D (x+y):=by obtain⟨a,ha⟩:=h;obtain⟨b,hb⟩:=h2;exact⟨a+b,by rw[Rat.intCast_add,<- ha,<- hb];grind⟩
theorem Dv.up {D:Nat}{x:Rat}(h:Dv D x)(k:Nat):Dv (D*k) x:=by obtain⟨a,ha⟩:=h;refine⟨a*(k:Int),?_⟩;rw[Rat.intCast_mul,<- ha,Rat.natCast_mul,Rat.intCast_natCast];grind
theorem Dv.up' {D:Nat}{x:Rat}(h:Dv D x)(k:Nat):Dv (k*D) x:=by rw[Nat.mul_comm];exact h.up k
theorem Dv.zero {D:Nat}:Dv D 0:=⟨0,by grind⟩
theorem Dv.own (x:Rat):Dv x.den x:=⟨x.num,by have:=iP x;rw[this];rfl⟩
def Ab (B:Nat)(x:Rat):Prop:=-(B:Rat)<=x/\x<=(B:Rat)
theorem aMa (n:Nat):(0:Rat)<=(n:Rat):=by
 have:((0:Nat):Rat)<=(n:Rat):=by exact_mod_cast Nat.zero_le n
 exact this
theorem Ab.mono {B C:Nat}{x:Rat}(h:Ab B x)(l:B<=C):Ab C x:=by
 have:(B:Rat)<=(C:Rat):=by exact_mod_cast l
 exact⟨by have:=h.1;grind,by have:=h.2;grind⟩
theorem Ab.add {B C:Nat}{x y:Rat}(h:Ab B x)(h2:Ab C y):Ab (B+C) (x+y):=by obtain⟨a,b⟩:=h;obtain⟨c,d⟩:=h2;constructor<;>rw[Rat.natCast_add]<;>grind
theorem Ab.mul {B C:Nat}{x y:Rat}(h:Ab B x)(h2:Ab C y):Ab (B*C) (x*y):=by obtain⟨a,b⟩:=h;obtain⟨c,d⟩:=h2;have p1:=Rat.mul_nonneg (show 0<=(B:Rat)-x by grind) (show 0<=(C:Rat)+y by grind);have p2:=Rat.mul_nonneg (show 0<=(B:Rat)+x by grind) (show 0<=(C:Rat)-y by grind);have p3:=Rat.mul_nonneg (show 0<=(B:Rat)-x by grind) (show 0<=(C:Rat)-y by grind);have p4:=Rat.mul_nonneg (show 0<=(B:Rat)+x by grind) (show 0<=(C:Rat)+y by grind);constructor<;>rw[Rat.natCast_mul]<;>grind
theorem Ab.zero {B:Nat}:Ab B 0:=⟨by have:=aMa B;grind,aMa B⟩
theorem yN {n:Nat}{x:Rat}(h:BQ n x):Ab (2^n) x:=by
 have e:=iP x;have d1:(1:Rat)<=((x.den:Int):Rat):=by
  have:((1:Int):Rat)<=((x.den:Int):Rat):=by exact_mod_cast (show(1:Int)<=(x.den:Int) by have:=x.den_pos;omega)
  exact this
 have hb:x.num.natAbs<2^n:=h.1;have n1:((x.num:Int):Rat)<=((2^n:Nat):Rat):=by
  have:x.num<=((2^n:Nat):Int):=by omega
  have:((x.num:Int):Rat)<=(((2^n:Nat):Int):Rat):=by exact_mod_cast this
  rw[Rat.intCast_natCast] at this;exact this
 have n2:-((2^n:Nat):Rat)<=((x.num:Int):Rat):=by
  have:-((2^n:Nat):Int)<=x.num:=by omega
  have:((-((2^n:Nat):Int):Int):Rat)<=((x.num:Int):Rat):=by exact_mod_cast this
  rw[Rat.intCast_neg,Rat.intCast_natCast] at this;exact this
 have z:=aMa (2^n);clear hb;unfold Ab;generalize ((2^n:Nat):Rat)=P at *;generalize ((x.den:Int):Rat)=d at *;rw[e] at n1 n2;constructor
 ·rcases (show 0<=x∨0<=-x by grind) with c|c
  ·grind
  ·have:=Rat.mul_nonneg c (show 0<=d-1 by grind);grind
 ·rcases (show 0<=x∨0<=-x by grind) with c|c
  ·have:=Rat.mul_nonneg c (show 0<=d-1 by grind);grind
  ·grind
structure Gf (A W k:Nat)(f:Fm):Prop where
 ok:f.Ok
 pos:0<f.s
 ex:∃N T:Nat,(0<N/\N<=12^k)/\(0<T/\T<=12^k)/\f.s*(N:Rat)=(T:Rat)/\Dv (N*A) f.px/\Dv (N*A) f.py
 ax:Ab (k*12^k*W) f.px
 ay:Ab (k*12^k*W) f.py
theorem Gf.one {A W:Nat}:Gf A W 0 .one:=⟨Fm.ok_one,by decide,⟨1,1,by decide,by decide,(by show(1:Rat)*((1:Nat):Rat)=((1:Nat):Rat);rw[Rat.one_mul]),Dv.zero,Dv.zero⟩,Ab.zero,Ab.zero⟩
def plG (A W:Nat):Pl->Prop
 |.go a=>Dv A a/\Ab W a
 |.side a b=>(Dv A a/\Ab W a)/\Dv A b/\Ab W b
 |.skip a=>Dv A a/\Ab W a
 |.grow a=>∃t b:Nat,(0<t/\t<=12)/\(0<b/\b<=12)/\a*(b:Rat)=(t:Rat)
 |.quarter a=>Dv A a/\Ab W a
 |.half a=>Dv A a/\Ab W a/\Ab W (a+a)
 |.arc a b c d=>((Dv A a/\Ab W a)/\Dv A b/\Ab W b)/\(Dv A c/\Ab W c)/\Dv A d/\Ab W d
 |_=>True
theorem plG.up {A W:Nat}{p:Pl}(m:Nat)(h:plG A W p):plG (A*m) W p:=by
 cases p with
 |go a=>exact⟨h.1.up m,h.2⟩
 |side a b=>exact⟨⟨h.1.1.up m,h.1.2⟩,h.2.1.up m,h.2.2⟩
 |skip a=>exact⟨h.1.up m,h.2⟩
 |grow a=>exact h
 |quarter a=>exact⟨h.1.up m,h.2⟩
 |half a=>exact⟨h.1.up m,h.2⟩
 |arc a b c d=>exact⟨⟨⟨h.1.1.1.up m,h.1.1.2⟩,h.1.2.1.up m,h.1.2.2⟩,⟨h.2.1.1.up m,h.2.1.2⟩,h.2.2.1.up m,h.2.2.2⟩
 |_=>trivial
section
variable {A W K k:Nat}{f:Fm}
end
inductive vW (c:Int):Nat->Int->List D->Prop
 |z1 (h:(if c<0 then -c else c)<(10:Int)^Int.toNat 18):vW c 0 (c.fmod 2147483647+1) []
 |z2 (h:¬(if c<0 then -c else c)<(10:Int)^Int.toNat 18):vW c 0 c []
 |s1 {i z L} (h:(if c<0 then -c else c)<(10:Int)^Int.toNat 18) (r:vW c i z L):vW c (i+1) ((z*48271).fmod 2147483647) (L++[.int (((((z*48271).fmod 2147483647*(z*48271).fmod 2147483647+69621*(z*48271).fmod 2147483647+(0+(i:Int))).fmod 2147483629).fdiv 7).fmod ((10:Int)^Int.toNat 6))])
 |s2 {i z L} (h:¬(if c<0 then -c else c)<(10:Int)^Int.toNat 18) (r:vW c i z L):vW c (i+1) (z.fdiv ((10:Int)^Int.toNat 6)) (L++[.int (z.fmod ((10:Int)^Int.toNat 6))])
theorem vW.det {c:Int}:∀{i:Nat}{z z':Int} {L L':List D},vW c i z L->vW c i z' L'->z=z'/\L=L':=by
 intro i
 induction i with
 |zero =>
  intro z z' L L' a b;cases a<;>cases b
  ·exact⟨rfl,rfl⟩
  ·rename_i h1 h2;exact absurd h1 h2
  ·rename_i h1 h2;exact absurd h2 h1
  ·exact⟨rfl,rfl⟩
 |succ i ih =>
  intro z z' L L' a b;cases a with
  |s1 h r =>
   cases b with
   |s1 h2 r2=>obtain⟨rfl,rfl⟩:=ih r r2;exact⟨rfl,rfl⟩
   |s2 h2 r2=>exact absurd h h2
  |s2 h r =>
   cases b with
   |s1 h2 r2=>exact absurd h2 h
   |s2 h2 r2=>obtain⟨rfl,rfl⟩:=ih r r2;exact⟨rfl,rfl⟩
def aBx (c:Int)(n:Nat)(L:List D):Prop:=∃z,vW c n z L
theorem aBx.det {c:Int}{n:Nat}{L L':List D}(a:aBx c n L)(b:aBx c n L'):L=L':=by obtain⟨_,a⟩:=a;obtain⟨_,b⟩:=b;exact(a.det b).2
def mM:DSp:=λds M Q=>∃c many,ds=[.int c,.int many]/\0<=many/\many<=100/\∀(p:Addr) L,M p=none->mO many.toNat L->aBx c many.toNat L->Q (.ref p) (bK M p L)
theorem aAV {n:Nat}{L:List D}(h:mO n L){z:Int}(h0:0<=z)(h1:z<1000000):mO (n+1) (L++[.int z]):=by
 refine⟨by rw[length_append,h.1];rfl,λd hd=>?_⟩;rcases List.mem_append.mp hd with e|e
 ·exact h.2 d e
 ·exact⟨z,List.mem_singleton.mp e,h0,h1⟩
noncomputable abbrev xP:Stmt:=top 75
theorem iZ:aR ["_law_cell","_law_many_here","_law_found","_law_number","_law_k"] ["_law_cell","_law_many_here"] (aJ xP):=by ac_rfl
theorem aDp (hF:bT K mg "_law_row" xP ["_law_cell","_law_many_here"])(oH:mg "abs" = none)(iX:mg "range" = none):Has P w K mg base 101 "_law_row" ["_law_cell","_law_many_here"] mM:=by
 refine Has.mkZ hF iZ (λds M Q ⟨a,b,e,_⟩=>by rw[e];rfl) λf cdv A outer s H ds M Q E hr h=>?_;obtain⟨c,many,rfl,m0,m1,q⟩:=h;refine⟨_,(aF (aP (i:=2) iZ.nd (bR aD))
  (aF (aP (i:=3) iZ.nd (aB 0))
  (aF (aW (aQ kH (bI aAu oH (aA (aB 0) aD)) (aK aAO aC aC)) (aE (aP (i:=3) iZ.nd (aK cB (aK cZ (aB 0) aC) aC))) aS)
  (aF (aAM PassesOwn.never rfl iX (aA (aB 1) aD) (aX (i:=4) iZ.nd) (aE (aW (aQ kH (bI aAu oH (aA (aB 0) aD)) (aK aAO aC aC)) (aF (aP (i:=3) iZ.nd (aK cZ (aK bN (aB 3) aC) aC))
  (aE (dR (fM (aB 2) (aK cZ (aK dZ (aK cZ (aK cB (aK cB (aK bN (aB 3) (aB 3)) (aK bN aC (aB 3))) (aB 4)) aC) aC) (aK aAO aC aC)))))) (aF (dR (fM (aB 2) (aK cZ (aB 3) (aK aAO aC aC))))
  (aE (aP (i:=3) iZ.nd (aK dZ (aB 3) (aK aAO aC aC))))))))
  (aE (aN (aB 2))))))),?_⟩
 ac_nf;refine⟨by decide,λp hp=>?_⟩;have k6:(10:Int)^Int.toNat 6=1000000:=by decide
 have small:∀z:Int,0<=z.fmod 1000000/\z.fmod 1000000<1000000:=λz=>⟨Int.fmod_nonneg_of_pos _ (by decide),Int.fmod_lt_of_pos _ (by decide)⟩;refine⟨⟨by decide,by decide,by decide⟩,dif (λc1=>?A) (λc1=>?B)⟩
 case' A =>
  have c2:(if c<0 then -c else c)<(10:Int)^Int.toNat 18->0<=c.fmod 2147483647+1/\c.fmod 2147483647+1<2147483649:=λ_=>by have:=Int.fmod_nonneg_of_pos c (show(0:Int)<2147483647 by decide);have:=Int.fmod_lt_of_pos c (show(0:Int)<2147483647 by decide);omega
  refine⟨by decide,?_⟩;have rz:vW c 0 (c.fmod 2147483647+1) []:=.z1 c1;generalize c.fmod 2147483647+1=z0 at c2 rz
 case' B =>
  have c2:(if c<0 then -c else c)<(10:Int)^Int.toNat 18->0<=c/\c<2147483649:=λz=>absurd z c1;obtain⟨z0,hz0⟩:∃z0,z0=c:=⟨c,rfl⟩;have rz:vW c 0 z0 []:=by rw[hz0];exact .z2 c1
  have c2:(if c<0 then -c else c)<(10:Int)^Int.toNat 18->0<=z0/\z0<2147483649:=by rw[hz0];exact c2
  rw[show(some (D.int c)::some (.int many)::some (.ref p)::some (.int c)::[none]:cO)=[some (.int c),some (.int many),some (.ref p),some (.int z0),none] by rw[hz0]]
 all_goals
  refine⟨⟨by omega,by omega⟩,λi ρ M'=>∃L,M'=bK M p L/\mO i L/\∃(z:Int)(o:Option D),vW c i z L/\((if c<0 then -c else c)<(10:Int)^Int.toNat 18->0<=z/\z<2147483649)/\ρ=[some (.int c),some (.int many),some (.ref p),some (.int z),o],⟨[],rfl,⟨rfl,λd h=>nomatch h⟩,z0,none,rz,c2,rfl⟩,?_,?_⟩
  ·rintro i ρ M' hi ⟨L,rfl,hL,z,o,rz,hz,rfl⟩;have hi2:i<100:=by omega
   have lL:L.length<1000:=by rw[hL.1];omega
   ac_nf;refine⟨⟨by decide,by decide,by decide⟩,dif (λd1=>?_) (λd1=>?_)⟩
   ·obtain⟨z1,z2⟩:=hz d1;have hn0:=Int.fmod_nonneg_of_pos (z*48271) (show(0:Int)<2147483647 by decide);have hn1:=Int.fmod_lt_of_pos (z*48271) (show(0:Int)<2147483647 by decide);refine⟨uP (by unfold Bd;decide),by decide,⟨_,aI⟩,?_⟩;have rn:=vW.s1 d1 rz;generalize (z*48271).fmod 2147483647=nn at hn0 hn1 rn;have bn:Bd 63 nn:=Bd.of (by omega) (by omega);refine⟨rR bn,uP bn,by decide,⟨by decide,by decide +kernel⟩,⟨by decide,by decide,by decide⟩,by rw[k6];decide,_,_,rfl,aI,lL,_,by rw[aBQ],aAV hL ?_ ?_,nn,_,rn,λ_=>⟨by omega,by omega⟩,rfl⟩
    ·rw[k6];exact(small _).1
    ·rw[k6];exact(small _).2
   ·refine⟨⟨_,aI⟩,⟨by decide,by decide,by decide⟩,by rw[k6];decide,_,_,rfl,aI,lL,⟨by decide,by decide,by decide⟩,⟨by rw[k6];decide,by rw[k6];decide +kernel⟩,_,by rw[aBQ],aAV hL ?_ ?_,_,_,.s2 d1 rz,λz=>absurd z d1,rfl⟩
    ·rw[k6];exact(small _).1
    ·rw[k6];exact(small _).2
  ·rintro ρ M' ⟨L,rfl,hL,z,o,rz,hz,rfl⟩;ac_nf;exact⟨_,.refl _,q p L hp hL ⟨z,rz⟩⟩
noncomputable def mt (px py:Rat)(t h:Int)(s:Rat):D:=.tup [.tup [FQ ((rq 1 0 t.toNat).1*s),FQ ((rq 1 0 t.toNat).2*s),FQ ((rq 0 (h:Rat) t.toNat).1*s),FQ ((rq 0 (h:Rat) t.toNat).2*s)],PQ px py]
theorem uH {p r:Rat}{m n:Nat}{M:DM}{Q:DQ}(h1:BQ m p)(h2:BQ n r)(l:m+n<=8998)(q:Q (FQ (p*r)) M):jY [FQ p,FQ r] M Q:=⟨_,_,_,_,rfl,trivial,h1,h2,l,q⟩
theorem aFr {p r:Rat}{m n:Nat}{M:DM}{Q:DQ}(h1:BQ m p)(h2:BQ n r)(l:m+n<=8998)(q:Q (FQ (p+r)) M):rG [FQ p,FQ r] M Q:=⟨_,_,_,_,rfl,trivial,h1,h2,l,q⟩
def Un (u:Rat):Prop:=u=0∨u=1∨u = -1
theorem aNf:(D.tup [.int (-1),.int 1])=FQ (-1):=rfl
theorem aMR {p q:Int}(h:p≠0∨q≠0):0<q*q+p*p:=by
 have n:∀z:Int,0<=z*z:=λz=>by
  rcases Int.le_total 0 z with c|c
  ·exact Int.mul_nonneg c c
  ·exact Int.mul_nonneg_of_nonpos_of_nonpos c c
 have k:∀z:Int,z≠0->z*z≠0:=λz hz=>Int.mul_ne_zero hz hz;have h1:=n p;have h2:=n q;rcases h with h|h
 ·have:=k p h;omega
 ·have:=k q h;omega
theorem aO1 {p q:Int}(h:0<q*q+p*p){uu vv:Rat}(hu:((q*q-p*p:Int):Rat)/((q*q+p*p:Int):Rat)=uu)(hv:((2*p*q:Int):Rat)/((q*q+p*p:Int):Rat)=vv):uu*uu+vv*vv=1:=by
 have n0:((q*q+p*p:Int):Rat)≠0:=by have:=aEg h;grind
 rw[<- hu,<- hv];rw[Rat.intCast_sub,Rat.intCast_add,Rat.intCast_mul,Rat.intCast_mul,Rat.intCast_mul,Rat.intCast_mul] at *;rw[show(((2:Int)):Rat)=2 from rfl];generalize (p:Rat)=a at *;generalize (q:Rat)=b at *;grind
theorem aNZ {x y uu vv:Rat}(c:uu*uu+vv*vv=1)(nz:¬(x=0/\y=0)):¬(x=x+(uu*(x * -1)+vv*y)/\y=y+(vv*(x * -1)+uu*(y * -1)))/\iC x y 0 0=iC x y (x+(uu*(x * -1)+vv*y)) (y+(vv*(x * -1)+uu*(y * -1))):=by
 have e:iC x y 0 0=iC x y (x+(uu*(x * -1)+vv*y)) (y+(vv*(x * -1)+uu*(y * -1))):=by
  unfold iC;have:(x+(uu*(x * -1)+vv*y)-x)*(x+(uu*(x * -1)+vv*y)-x)+(y+(vv*(x * -1)+uu*(y * -1))-y)*(y+(vv*(x * -1)+uu*(y * -1))-y)=(uu*uu+vv*vv)*(x*x+y*y):=by grind
  rw[this,c];grind
 refine⟨λz=>?_,e⟩;rw[aB0.mpr z] at e;exact nz (aB0.mp e)
theorem Wh.dv {D:Nat}{x:Rat}(h:Wh x):Dv D x:=by obtain⟨z,rfl,_,_⟩:=h;exact⟨z*(D:Int),by rw[Rat.intCast_mul,Rat.intCast_natCast]⟩
theorem Wh.ab {x:Rat}(h:Wh x):Ab 20 x:=by
 obtain⟨z,rfl,h1,h2⟩:=h;have a:(((-20:Int)):Rat)<=(z:Rat):=by exact_mod_cast h1
 have b:(z:Rat)<=((20:Int):Rat):=by exact_mod_cast h2
 exact⟨a,b⟩
theorem Wh.neg {x:Rat}(h:Wh x):Wh (x * -1):=by obtain⟨z,rfl,h1,h2⟩:=h;exact⟨-z,by rw[Rat.intCast_neg];grind,by omega,by omega⟩
theorem Wh.mul {D:Nat}{x y:Rat}(h:Wh x)(d:Dv D y):Dv D (y*x):=by obtain⟨z,rfl,h1,h2⟩:=h;obtain⟨a,ha⟩:=d;exact⟨a*z,by rw[Rat.intCast_mul,<- ha];grind⟩
theorem aGF {x y uu vv:Rat}{pp qq:Int}(wx:Wh x)(wy:Wh y)(pos:0<qq*qq+pp*pp)(bd:Bd 9 (qq*qq+pp*pp))(hu:((qq*qq-pp*pp:Int):Rat)/((qq*qq+pp*pp:Int):Rat)=uu)(hv:((2*pp*qq:Int):Rat)/((qq*qq+pp*pp:Int):Rat)=vv)(bu:BQ 9 uu)(bv:BQ 10 vv):∃A:Nat,0<A/\A<=2^48/\plG A (2^25) (.arc x y (x+(uu*(x * -1)+vv*y)) (y+(vv*(x * -1)+uu*(y * -1)))):=by
 generalize qq*qq+pp*pp=c at *;have c0:(c:Rat)≠0:=by have:=aEg pos;grind
 have ec:((c.toNat:Nat):Rat)=(c:Rat):=by rw[<- Rat.intCast_natCast,Int.toNat_of_nonneg (by omega)]
 have du:Dv c.toNat uu:=⟨_,by rw[ec,<- hu];exact Rat.div_mul_cancel c0⟩;have dv:Dv c.toNat vv:=⟨_,by rw[ec,<- hv];exact Rat.div_mul_cancel c0⟩;have au:=yN bu;have av:=yN bv;have hc:c.natAbs<2^9:=bd;have k {z:Rat} (h:Wh z):Dv c.toNat z/\Ab (2^25) z:=⟨h.dv,h.ab.mono (by decide)⟩;exact⟨c.toNat,by omega,by omega,⟨k wx,k wy⟩,⟨wx.dv.add ((wx.neg.mul du).add (wy.mul dv)),(wx.ab.add ((au.mul wx.neg.ab).add (av.mul wy.ab))).mono (by decide)⟩,wy.dv.add ((wx.neg.mul dv).add (wy.neg.mul du)),(wy.ab.add ((av.mul wx.neg.ab).add (au.mul wy.neg.ab))).mono (by decide)⟩
def aFR (L:List D)(x y u v:Rat):Prop:=∃(z0 z1 z2 z3 z4:Int)(y0:Rat) (pp qq:Int) (uu vv:Rat),(atI L 0=some (.int z0)/\atI L 1=some (.int z1)/\atI L 2=some (.int z2)/\atI L 3=some (.int z3)/\atI L 4=some (.int z4))/\DrR z0 0 x/\DrR z1 1 y0/\(y=if x.num=0/\y0.num=0 then 2 else y0)/\atI [D.tup [.int 1,.int 0],.tup [.int 0,.int 1],.tup [.int (z2.fmod 19-9),.int (1+z3.fmod 9)]] (if z4.fmod 8<2 then z4.fmod 8 else 2)=some (.tup [.int pp,.int qq])/\((qq*qq-pp*pp:Int):Rat)/((qq*qq+pp*pp:Int):Rat)=uu/\((2*pp*qq:Int):Rat)/((qq*qq+pp*pp:Int):Rat)=vv/\u=x+(uu*(x * -1)+vv*y)/\v=y+(vv*(x * -1)+uu*(y * -1))
theorem aFR.det {L:List D}{x y u v x' y' u' v':Rat}(h:aFR L x y u v)(h':aFR L x' y' u' v'):x=x'/\y=y'/\u=u'/\v=v':=by obtain⟨z0,z1,z2,z3,z4,y0,pp,qq,uu,vv,⟨a0,a1,a2,a3,a4⟩,d0,d1,ey,ek,hu,hv,eu,ev⟩:=h;obtain⟨w0,w1,w2,w3,w4,y1,pp',qq',uu',vv',⟨b0,b1,b2,b3,b4⟩,f0,f1,ey',ek',hu',hv',eu',ev'⟩:=h';rw[a0] at b0;cases b0;rw[a1] at b1;cases b1;rw[a2] at b2;cases b2;rw[a3] at b3;cases b3;rw[a4] at b4;cases b4;obtain rfl:=d0.det f0;obtain rfl:=d1.det f1;rw[ek] at ek';cases ek';rw[hu] at hu';rw[hv] at hv';subst hu' hv';rw[<- ey] at ey';subst ey';exact⟨rfl,rfl,by rw[eu,eu'],by rw[ev,ev']⟩
def aAg:DSp:=λds M Q=>∃(a:Addr)(n:Nat) (L:List D),ds=[.ref a]/\M a=some L/\mO n L/\5<=n/\∀x y u v,BQ 100 x->BQ 100 y->BQ 100 u->BQ 100 v->¬(x=0/\y=0)->¬(x=u/\y=v)->iC x y 0 0=iC x y u v->(∃A:Nat,0<A/\A<=2^48/\plG A (2^25) (.arc x y u v))->aFR L x y u v->Q (.tup [FQ x,FQ y,FQ u,FQ v]) M
noncomputable abbrev wQ:Stmt:=top 80
theorem fN:aR ["_law_row_here","_law_x","_law_y","_law_p","_law_q","_law_u","_law_v","_law_back","_law_right","_law_up"] ["_law_row_here"] (aJ wQ):=by ac_rfl
theorem aDx (hF:bT K mg "_law_bow" wQ ["_law_row_here"])(gE:Has P w K mg base 102 "_law_drawn" ["_law_one","_law_other"] oU)(bX:Has P w K mg base 101 "_law_ratio" ["_law_top","_law_bottom"] iI)(kI:Has P w K mg base 102 "_law_plus" ["_law_one","_law_other"] rG)(cL:Has P w K mg base 102 "_law_times" ["_law_one","_law_other"] jY)(aHY:mg "min" = none):Has P w K mg base 103 "_law_bow" ["_law_row_here"] aAg:=by
 refine Has.mkZ hF fN (λds M Q ⟨a,n,L,e,_⟩=>by rw[e];rfl) λf cdv A outer s H ds M Q E hr h=>?_;obtain⟨a,n,L,rfl,ha,hL,hn,q⟩:=h;refine⟨_,(aF (sE (i:=1) (j:=2) rfl fN.nd (aA (aG gE hr (by decide) (aA (aH (aB 0) aC) (aA aC aD))) (aA (aG gE hr (by decide) (aA (aH (aB 0) aC) (aA aC aD))) aD)))
  (hJ (aW (fY (fU (aQ (cD hr) (aH (aB 1) aC) aC) (fF (aQ (cD hr) (aH (aB 2) aC) aC)))) (aE (aP (i:=2) fN.nd (aM (aA aC (aA aC aD))))) aS)
  (aF (iU (aH (bR (aA (aM (aA aC (aA aC aD))) (aA (aM (aA aC (aA aC aD))) (aA (aM (aA (aK jW (aK cZ (aH (aB 0) aC) aC) aC) (aA (aK cB aC (aK cZ (aH (aB 0) aC) aC)) aD))) aD)))) (bI (aMl rfl) aHY (aA aC (aA (aK cZ (aH (aB 0) aC) aC) aD)))) (gS (n:=2) rfl (bJ (aX (i:=3) fN.nd) (bJ (aX (i:=4) fN.nd) fE))))
  (aF (aP (i:=5) fN.nd (aG bX hr (by decide) (aA (aK jW (aK bN (aB 4) (aB 4)) (aK bN (aB 3) (aB 3))) (aA (aK cB (aK bN (aB 4) (aB 4)) (aK bN (aB 3) (aB 3))) aD))))
  (aF (aP (i:=6) fN.nd (aG bX hr (by decide) (aA (aK bN (aK bN aC (aB 3)) (aB 4)) (aA (aK cB (aK bN (aB 4) (aB 4)) (aK bN (aB 3) (aB 3))) aD))))
  (aF (aP (i:=7) fN.nd (aM (aA (eL aC) (aA aC aD))))
  (aF (aP (i:=8) fN.nd (aG kI hr (by decide) (aA (aG cL hr (by decide) (aA (aB 5) (aA (aG cL hr (by decide) (aA (aB 1) (aA (aB 7) aD))) aD))) (aA (aG cL hr (by decide) (aA (aB 6) (aA (aB 2) aD))) aD))))
  (aF (aP (i:=9) fN.nd (aG kI hr (by decide) (aA (aG cL hr (by decide) (aA (aB 6) (aA (aG cL hr (by decide) (aA (aB 1) (aA (aB 7) aD))) aD))) (aA (aG cL hr (by decide) (aA (aB 5) (aA (aG cL hr (by decide) (aA (aB 2) (aA (aB 7) aD))) aD))) aD))))
  (aE (aN (aM (aA (aB 1) (aA (aB 2) (aA (aG kI hr (by decide) (aA (aB 1) (aA (aB 8) aD))) (aA (aG kI hr (by decide) (aA (aB 2) (aA (aB 9) aD))) aD))))))))))))))),?_⟩
 ac_nf;obtain⟨z0,e0,_⟩:=hL.at (i:=0) (by omega);obtain⟨z1,e1,_⟩:=hL.at (i:=1) (by omega);obtain⟨z2,e2,_⟩:=hL.at (i:=2) (by omega);obtain⟨z3,e3,_⟩:=hL.at (i:=3) (by omega);obtain⟨z4,e4,_⟩:=hL.at (i:=4) (by omega);refine⟨_,_,ha,e0,_,_,rfl,λx hx wx dx=>?_⟩;ac_nf;refine⟨_,_,ha,e1,_,_,rfl,λy hy wy dy=>?_⟩;ac_nf;refine⟨λρ' M'=>M=M'/\∃y:Rat,ρ'=[some (.ref a),some (FQ x),some (FQ y),none,none,none,none,none,none,none]/\BQ 24 y/\¬(x=0/\y=0)/\((1:Int).fmod 5≠4->(1:Int).fmod 3≠2->Wh y)/\∃y0,DrR z1 1 y0/\(y=if x.num=0/\y0.num=0 then 2 else y0),?_,?_⟩
 ·rw[cU];refine dif (λc1=>?_) (λc1=>?_)
  ·rw[cU];refine dif (λc2=>?_) (λc2=>?_)
   ·exact⟨by decide,rfl,2,rfl,⟨by unfold Bd;decide,by unfold Bd;decide⟩,(λz=>absurd z.2 (by decide)),(λ_ _=>⟨2,rfl,by decide,by decide⟩),y,dy,by rw[if_pos ⟨c1,c2⟩]⟩
   ·exact⟨rfl,y,rfl,hy,(λz=>c2 (by rw[z.2];rfl)),wy,y,dy,by rw[if_neg (λz=>c2 z.2)]⟩
  ·exact ifF rfl ⟨rfl,y,rfl,hy,(λz=>c1 (by rw[z.1];rfl)),wy,y,dy,by rw[if_neg (λz=>c1 z.1)]⟩
 ·clear hy wy dy y;rintro _ _ ⟨rfl,y,rfl,hy,nz,wy,y0,dy,ey⟩;ac_nf;refine⟨by decide,by decide,_,_,ha,e2,?_⟩;ac_nf;refine⟨by decide,_,_,ha,e3,?_⟩;ac_nf;refine⟨by decide,by decide,by decide,λp hp=>?_⟩;refine⟨_,_,by rw[bV (aEe ha hp)];exact ha,e4,?_⟩;ac_nf;have a1:=Int.fmod_nonneg_of_pos z2 (show(0:Int)<19 by decide);have a2:=Int.fmod_lt_of_pos z2 (show(0:Int)<19 by decide);have a3:=Int.fmod_nonneg_of_pos z3 (show(0:Int)<9 by decide);have a4:=Int.fmod_lt_of_pos z3 (show(0:Int)<9 by decide);obtain⟨pp,qq,ek,p0,p1,q0,q1,np⟩:∃pp qq:Int,atI [D.tup [.int 1,.int 0],.tup [.int 0,.int 1],.tup [.int (z2.fmod 19-9),.int (1+z3.fmod 9)]] (if z4.fmod 8<2 then z4.fmod 8 else 2)=some (.tup [.int pp,.int qq])/\-10<=pp/\pp<=10/\-10<=qq/\qq<=10/\(pp≠0∨qq≠0):=by
   have b1:=Int.fmod_nonneg_of_pos z4 (show(0:Int)<8 by decide);by_cases c:z4.fmod 8<2
   ·rw[if_pos c];have:z4.fmod 8=0∨z4.fmod 8=1:=by omega
    rcases this with e|e<;>rw[e]
    ·exact⟨1,0,rfl,by decide,by decide,by decide,by decide,.inl (by decide)⟩
    ·exact⟨0,1,rfl,by decide,by decide,by decide,by decide,.inr (by decide)⟩
   ·rw[if_neg c];exact⟨_,_,rfl,by omega,by omega,by omega,by omega,.inr (by omega)⟩
  have s1:=aU.new hp [D.tup [.int 1,.int 0],.tup [.int 0,.int 1],.tup [.int (z2.fmod 19-9),.int (1+z3.fmod 9)]];have bp:Bd 4 pp:=Bd.of (by omega) (by omega);have bq:Bd 4 qq:=Bd.of (by omega) (by omega);refine⟨by decide,_,_,aI,ek,?_⟩;ac_nf;have pos:0<qq*qq+pp*pp:=aMR np;have bu:BQ 9 (((qq*qq-pp*pp:Int):Rat)/((qq*qq+pp*pp:Int):Rat)):=.make (by omega) (bq.mul bq |>.sub (bp.mul bp)) (bq.mul bq |>.add (bp.mul bp));have bv:BQ 10 (((2*pp*qq:Int):Rat)/((qq*qq+pp*pp:Int):Rat)):=.make (by omega) (((Bd.mul (m:=2) (x:=2) (by unfold Bd;decide) bp).mul bq)) ((bq.mul bq |>.add (bp.mul bp)).mono (by decide));have bd:Bd 9 (qq*qq+pp*pp):=bq.mul bq |>.add (bp.mul bp)
  generalize hu:((qq*qq-pp*pp:Int):Rat)/((qq*qq+pp*pp:Int):Rat)=uu at bu;generalize hv:((2*pp*qq:Int):Rat)/((qq*qq+pp*pp:Int):Rat)=vv at bv;have m1:BQ 2 (-1):=⟨by unfold Bd;decide,by unfold Bd;decide⟩;refine⟨rfl,dB bq bq,dB bp bp,dB bq bq,dB bp bp,_,_,rfl,pos,bd.mono (by decide),rR (by unfold Bd;decide),dB ((Bd.mul (m:=2) (x:=2) (by unfold Bd;decide) bp)) bq,dB bq bq,dB bp bp,_,_,rfl,pos,bd.mono (by decide),?_⟩;rw[hu,hv,aNf];have w3:=hx.mul m1;have w4:=bu.mul w3;have w5:=bv.mul hy;have w8:=bv.mul w3;have w9:=hy.mul m1;have w10:=bu.mul w9;have bk:=aNZ (x:=x) (y:=y) (aO1 pos hu hv) nz;exact⟨by decide,uH hx m1 (by decide) (uH bu w3 (by decide) (uH bv hy (by decide) (aFr w4 w5 (by decide) (uH hx m1 (by decide) (uH bv w3 (by decide) (uH hy m1 (by decide) (uH bu w9 (by decide) (aFr w8 w10 (by decide) (aFr hx (w4.add w5) (by decide) (aFr hy (w8.add w10) (by decide) ⟨by decide,M,s1,q _ _ _ _ (hx.mono (by decide)) (hy.mono (by decide)) ((hx.add (w4.add w5)).mono (by decide)) ((hy.add (w8.add w10)).mono (by decide)) nz bk.1 bk.2 (aGF (wx (by decide) (by decide)) (wy (by decide) (by decide)) pos bd hu hv bu bv) ⟨z0,z1,z2,z3,z4,y0,pp,qq,uu,vv,⟨e0,e1,e2,e3,e4⟩,dx,dy,ey,ek,hu,hv,rfl,rfl⟩⟩))))))))))⟩
theorem aJe {n:Nat}{L:List D}(h:mO n L)(lo hi:Nat)(l:lo<=hi)(r:hi<=n):mO (hi-lo) (Dd.cutD L (some (lo:Int)) (some (hi:Int))):=by unfold Dd.cutD;rw[h.1,HT.sIx_nat,HT.sIx_nat,Nat.min_eq_left (by omega),Nat.min_eq_left (by omega)];exact⟨by rw[length_take,length_drop,h.1];omega,λd hd=>h.2 d (List.mem_of_mem_drop (List.mem_of_mem_take hd))⟩
theorem e13:FQ (1/3:Rat)=D.tup [.int 1,.int 3]:=by unfold FQ;rw[show(1/3:Rat).num=1 by decide +kernel,show(1/3:Rat).den=3 by decide +kernel];rfl
theorem g1 {a:Rat}(h:BQ 24 a):∃A:Nat,0<A/\A<=2^48/\Dv A a/\Ab (2^25) a :=
 ⟨a.den,a.den_pos,Nat.le_trans (Nat.le_of_lt (show a.den<2^24 from h.2)) (by decide),.own a,(yN h).mono (by decide)⟩
theorem gh {a:Rat}(h:BQ 24 a):∃A:Nat,0<A/\A<=2^48/\Dv A a/\Ab (2^25) a/\Ab (2^25) (a+a) :=
 ⟨a.den,a.den_pos,Nat.le_trans (Nat.le_of_lt (show a.den<2^24 from h.2)) (by decide),.own a,(yN h).mono (by decide),((yN h).add (yN h)).mono (by decide)⟩
theorem g2 {a b:Rat}(h:BQ 24 a)(h2:BQ 24 b):∃A:Nat,0<A/\A<=2^48/\(Dv A a/\Ab (2^25) a)/\Dv A b/\Ab (2^25) b :=
 ⟨a.den*b.den,Nat.mul_pos a.den_pos b.den_pos,Nat.le_trans (Nat.mul_le_mul (Nat.le_of_lt (show a.den<2^24 from h.2)) (Nat.le_of_lt (show b.den<2^24 from h2.2))) (by decide),⟨(Dv.own a).up _,(yN h).mono (by decide)⟩,(Dv.own b).up' _,(yN h2).mono (by decide)⟩
theorem g3 {t b:Int}(t0:0<t)(t1:t<=12)(b0:0<b)(b1:b<=12):plG 1 (2^25) (.grow ((t:Rat)/(b:Rat))):=by
 have c0:(b:Rat)≠0:=by have:=aEg b0;grind
 refine⟨t.toNat,b.toNat,by omega,by omega,?_⟩;rw[<- Rat.intCast_natCast,<- Rat.intCast_natCast,Int.toNat_of_nonneg (by omega),Int.toNat_of_nonneg (by omega)];exact Rat.div_mul_cancel c0
theorem b13:BQ 24 (1/3):=⟨by unfold Bd;decide +kernel,by unfold Bd;decide +kernel⟩
def PlR (L:List D)(p:Pl):Prop:=∃(z0 z1 z2 z3 z4:Int)(wd:Str) (one:Rat),(atI L 0 = some (.int z0)/\atI L 1 = some (.int z1)/\atI L 2 = some (.int z2)/\atI L 3 = some (.int z3)/\atI L 4 = some (.int z4))/\atI [D.str "go",.str "go",.str "side",.str "quarter",.str "half",.str "arc",.str "dot",.str "skip",.str "left",.str "right",.str "round",.str "mirror",.str "grow",.str "side",.str "quarter",.str "arc"] (z0.fmod 16)=some (.str wd)/\DrR z1 z2 one /\
 ((((wd = "go"/\p = .go one)∨(wd = "skip"/\p = .skip one))∨(wd = "side"/\∃two,DrR z3 z4 two/\p = .side one two)∨(wd = "grow"/\p=.grow (((1+z1.fmod 12:Int):Rat)/((1+z2.fmod 12:Int):Rat)))) ∨
 (((wd = "quarter"/\p = .quarter (if one.num = 0 then 1/3 else one))∨(wd = "half"/\p = .half (if one.num = 0 then 1/3 else one)))∨(wd = "arc"/\∃x y u v,aFR (Dd.cutD L (some (3:Int)) (some (8:Int))) x y u v/\p=.arc x y u v)) ∨
 (((wd = "dot"/\p = .dot)∨(wd = "left"/\p = .left))∨(wd = "right"/\p = .right)∨(wd = "round"/\p = .rnd)∨(wd = "mirror"/\p=.mirror)))
def PlF (wd:Str)(one:Rat)(z1 z2 z3 z4:Int)(L:List D)(p:Pl):Prop :=
 ((((wd = "go"/\p = .go one)∨(wd = "skip"/\p = .skip one))∨(wd = "side"/\∃two,DrR z3 z4 two/\p = .side one two)∨(wd = "grow"/\p=.grow (((1+z1.fmod 12:Int):Rat)/((1+z2.fmod 12:Int):Rat)))) ∨
 (((wd = "quarter"/\p = .quarter (if one.num = 0 then 1/3 else one))∨(wd = "half"/\p = .half (if one.num = 0 then 1/3 else one)))∨(wd = "arc"/\∃x y u v,aFR (Dd.cutD L (some (3:Int)) (some (8:Int))) x y u v/\p=.arc x y u v)) ∨
 (((wd = "dot"/\p = .dot)∨(wd = "left"/\p = .left))∨(wd = "right"/\p = .right)∨(wd = "round"/\p = .rnd)∨(wd = "mirror"/\p=.mirror)))
theorem PlF.det {wd:Str}{one:Rat}{z1 z2 z3 z4:Int}{L:List D}{p p':Pl}(h:PlF wd one z1 z2 z3 z4 L p)(h':PlF wd one z1 z2 z3 z4 L p'):p=p':=by
 unfold PlF at h h';rcases h with((⟨rfl,rfl⟩|⟨rfl,rfl⟩)|⟨rfl,a,b,rfl⟩|⟨rfl,rfl⟩)|((⟨rfl,rfl⟩|⟨rfl,rfl⟩)|⟨rfl,a,b,c,d,e,rfl⟩)|(⟨rfl,rfl⟩|⟨rfl,rfl⟩)|⟨rfl,rfl⟩|⟨rfl,rfl⟩|⟨rfl,rfl⟩ <;>
 rcases h' with((⟨w',e'⟩|⟨w',e'⟩)|⟨w',a',b',e'⟩|⟨w',e'⟩)|((⟨w',e'⟩|⟨w',e'⟩)|⟨w',a',b',c',d',f',e'⟩)|(⟨w',e'⟩|⟨w',e'⟩)|⟨w',e'⟩|⟨w',e'⟩|⟨w',e'⟩ <;>
 first
 |exact e'.symm
 |exact absurd w' (by decide)
 |(rw[e',b.det b'])
 |(obtain⟨r1,r2,r3,r4⟩:=e.det f';rw[e',r1,r2,r3,r4])
theorem PlR.det {L:List D}{p p':Pl}(h:PlR L p)(h':PlR L p'):p=p':=by obtain⟨z0,z1,z2,z3,z4,wd,one,⟨a0,a1,a2,a3,a4⟩,ew,d1,r⟩:=h;obtain⟨w0,w1,w2,w3,w4,wd',one',⟨b0,b1,b2,b3,b4⟩,ew',f1,r'⟩:=h';rw[a0] at b0;cases b0;rw[a1] at b1;cases b1;rw[a2] at b2;cases b2;rw[a3] at b3;cases b3;rw[a4] at b4;cases b4;rw[ew] at ew';cases ew';obtain rfl:=d1.det f1;exact PlF.det r r'
def oO:DSp:=λds M Q=>∃(a:Addr)(n:Nat) (L:List D),ds=[.ref a]/\M a=some L/\mO n L/\8<=n/\∀p,plB 100 p->(∃A:Nat,0<A/\A<=2^48/\plG A (2^25) p)->PlR L p->Q (plD p) M
noncomputable abbrev rA:Stmt:=top 81
theorem lU:aR ["_law_row_here","_law_words","_law_word","_law_one"] ["_law_row_here"] (aJ rA):=by ac_rfl
theorem aBC (hF:bT K mg "_law_plain" rA ["_law_row_here"])(lS:mg "int" = none)(gE:Has P w K mg base 102 "_law_drawn" ["_law_one","_law_other"] oU)(bX:Has P w K mg base 101 "_law_ratio" ["_law_top","_law_bottom"] iI)(xV:Has P w K mg base 103 "_law_bow" ["_law_row_here"] aAg):Has P w K mg base 104 "_law_plain" ["_law_row_here"] oO:=by
 refine Has.mkZ hF lU (λds M Q ⟨_,_,_,z,_⟩=>by rw[z];rfl) λf cdv A outer s H ds M Q E hr h=>?_;obtain⟨a,n,L,rfl,ha,hL,hn,q⟩:=h;refine⟨_,(aF (aP (i:=1) lU.nd (bR (aA aL (aA aL (aA aL (aA aL (aA aL (aA aL (aA aL (aA aL (aA aL (aA aL (aA aL (aA aL (aA aL aD)))))))))))))))
  (aF (aP (i:=2) lU.nd (aH (aK cB (aB 1) (bR (aA aL (aA aL (aA aL aD))))) (aK cZ (aH (aB 0) aC) aC)))
  (aF (aP (i:=3) lU.nd (aG gE hr (by decide) (aA (aH (aB 0) aC) (aA (aH (aB 0) aC) aD))))
  (aF (aW (aQ yB (aB 2) (bR (aA aL (aA aL aD))) rfl) (aE (aN (aM (aA (aB 2) (aA (aB 3) aD))))) aS)
  (aF (aW (aQ (cD hr) (aB 2) aL) (aE (aN (aM (aA (aB 2) (aA (aB 3) (aA (aG gE hr (by decide) (aA (aH (aB 0) aC) (aA (aH (aB 0) aC) aD))) aD)))))) aS)
  (aF (aW (aQ (cD hr) (aB 2) aL) (aE (aN (aM (aA (aB 2) (aA (aG bX hr (by decide) (aA (aK cB aC (aK cZ (aH (aB 0) aC) aC)) (aA (aK cB aC (aK cZ (aH (aB 0) aC) aC)) aD))) aD))))) aS)
  (aF (aW (aQ yB (aB 2) (bR (aA aL (aA aL aD))) rfl) (aE (aN (aM (aA (aB 2) (aA (aH (bR (aA (aB 3) (aA (aM (aA aC (aA aC aD))) aD))) (eE tJ lS (aA (cN (cD hr) (aH (aB 3) aC) aC) aD))) aD))))) aS)
  (aF (aW (aQ (cD hr) (aB 2) aL) (aE (aN (aK gQ (aM (aA (aB 2) aD)) (aG xV hr (by decide) (aA (lY (aB 0) (dH aC) (dH aC)) aD))))) aS)
  (aE (aN (aM (aA (aB 2) aD)))))))))))),?_⟩
 ac_nf;obtain⟨z0,e0,_⟩:=hL.at (i:=0) (by omega);obtain⟨z1,e1,_⟩:=hL.at (i:=1) (by omega);obtain⟨z2,e2,_⟩:=hL.at (i:=2) (by omega);obtain⟨z3,e3,_⟩:=hL.at (i:=3) (by omega);obtain⟨z4,e4,_⟩:=hL.at (i:=4) (by omega);refine⟨by decide,λp0 hp0=>⟨by decide,λp1 hp1=>?_⟩⟩;obtain⟨n10,hp1'⟩:=jS hp1;refine⟨_,_,by rw[bV (Ne.symm n10)];exact aI,aI,by decide,λp2 hp2=>?_⟩;have s1:=((aU.new hp0 [D.str "go",.str "go",.str "side",.str "quarter",.str "half",.str "arc",.str "dot",.str "skip",.str "left",.str "right",.str "round",.str "mirror",.str "grow"]).trans (aU.new hp1 [D.str "side",.str "quarter",.str "arc"])).trans (aU.new hp2 [D.str "go",.str "go",.str "side",.str "quarter",.str "half",.str "arc",.str "dot",.str "skip",.str "left",.str "right",.str "round",.str "mirror",.str "grow",.str "side",.str "quarter",.str "arc"]);ac_nf;refine⟨L,_,s1 _ _ ha,e0,?_⟩;ac_nf;obtain⟨wd,ew,hw⟩:∃wd:Str,atI [D.str "go",.str "go",.str "side",.str "quarter",.str "half",.str "arc",.str "dot",.str "skip",.str "left",.str "right",.str "round",.str "mirror",.str "grow",.str "side",.str "quarter",.str "arc"] (z0.fmod 16) = some (.str wd)/\(((wd = "go"∨wd = "skip")∨wd = "side"∨wd = "grow")∨((wd = "quarter"∨wd = "half")∨wd = "arc")∨(wd = "dot"∨wd = "left")∨wd = "right"∨wd = "round"∨wd = "mirror"):=by
  have h1:=Int.fmod_nonneg_of_pos z0 (show(0:Int)<16 by decide);have h2:=Int.fmod_lt_of_pos z0 (show(0:Int)<16 by decide);have:((z0.fmod 16=0∨z0.fmod 16=1∨z0.fmod 16=2∨z0.fmod 16=3)∨z0.fmod 16=4∨z0.fmod 16=5∨z0.fmod 16=6∨z0.fmod 16=7)∨(z0.fmod 16=8∨z0.fmod 16=9∨z0.fmod 16=10∨z0.fmod 16=11)∨z0.fmod 16=12∨z0.fmod 16=13∨z0.fmod 16=14∨z0.fmod 16=15:=by omega
  rcases this with((e|e|e|e)|e|e|e|e)|(e|e|e|e)|e|e|e|e<;>rw[e]<;>exact⟨_,rfl,by decide⟩
 refine⟨by decide,_,_,aI,ew,?_⟩;generalize bK (bK (bK M p0 _) p1 _) p2 _=M2 at s1 ⊢;refine⟨L,_,s1 _ _ ha,e1,L,_,s1 _ _ ha,e2,z1,z2,rfl,λone bone _ done=>?_⟩;ac_nf;refine⟨by decide,λp3 hp3=>⟨["go","skip"],aI,?_⟩⟩;have s3:=s1.trans (aU.new hp3 [D.str "go",.str "skip"]);have ha3:=s3 _ _ ha;ac_nf;generalize bK M2 p3 _=M3 at s3 ha3 ⊢;have mk:∀p,PlF wd one z1 z2 z3 z4 L p->PlR L p:=λp h=>⟨z0,z1,z2,z3,z4,wd,one,⟨e0,e1,e2,e3,e4⟩,ew,done,h⟩;have m24 {x:Rat} (h:BQ 24 x):BQ 100 x:=h.mono (by decide);rcases hw with((rfl|rfl)|rfl|rfl)|((rfl|rfl)|rfl)|(rfl|rfl)|rfl|rfl|rfl
 ·exact ifT (by decide) ⟨by decide,M,s3,q (.go one) (m24 bone) (g1 bone) (mk _ (.inl (.inl (.inl ⟨rfl,rfl⟩))))⟩
 ·exact ifT (by decide) ⟨by decide,M,s3,q (.skip one) (m24 bone) (g1 bone) (mk _ (.inl (.inl (.inr ⟨rfl,rfl⟩))))⟩
 ·refine ifF (by decide) ?_;rw[aO];refine ifT (by decide) ⟨L,_,ha3,e3,L,_,ha3,e4,z3,z4,rfl,λtwo btwo _ dtwo=>?_⟩;ac_nf;exact⟨by decide,M,s3,q (.side one two) ⟨m24 bone,m24 btwo⟩ (g2 bone btwo) (mk _ (.inl (.inr (.inl ⟨rfl,two,dtwo,rfl⟩))))⟩
 ·refine ifF (by decide) ?_;rw[aO];refine ifF (by decide) ?_;rw[aO];refine ifT (by decide) ⟨L,_,ha3,e1,?_⟩;ac_nf;refine⟨by decide,L,_,ha3,e2,?_⟩;ac_nf;have h1:=Int.fmod_nonneg_of_pos z1 (show(0:Int)<12 by decide);have h2:=Int.fmod_lt_of_pos z1 (show(0:Int)<12 by decide);have h3:=Int.fmod_nonneg_of_pos z2 (show(0:Int)<12 by decide);have h4:=Int.fmod_lt_of_pos z2 (show(0:Int)<12 by decide);refine⟨by decide,_,_,rfl,by omega,(aDq (by omega) (by omega)).mono (by decide),?_⟩;ac_nf;have sp:(0:Rat)<((1+z1.fmod 12:Int):Rat)/((1+z2.fmod 12:Int):Rat):=aHO (aEg (by omega)) (aEg (by omega));exact⟨by decide,M,s3,q (.grow _) ⟨m24 (aGR (by omega) (by omega) (by omega) (by omega)),sp⟩ ⟨1,by decide,by decide,g3 (by omega) (by omega) (by omega) (by omega)⟩ (mk _ (.inl (.inr (.inr ⟨rfl,rfl⟩))))⟩
 all_goals
  refine ifF (by decide) ?_;rw[aO];refine ifF (by decide) ?_;rw[aO];refine ifF (by decide) ?_;refine⟨by decide,λp4 hp4=>⟨["quarter","half"],aI,?_⟩⟩;have s4:=s3.trans (aU.new hp4 [D.str "quarter",.str "half"]);have ha4:=s4 _ _ ha;ac_nf;generalize bK M3 p4 _=M4 at s4 ha4 ⊢
 case inr.inl.inl.inl =>
  refine ifT (by decide) ⟨by decide,by decide,λp5 hp5=>?_⟩;rw[cU];by_cases c:one.num=0
  ·rw[decide_eq_true c];have fin:=q (.quarter (1/3)) ⟨⟨by unfold Bd;decide +kernel,by unfold Bd;decide +kernel⟩,by decide +kernel⟩ (g1 b13) (mk _ (.inr (.inl (.inl (.inl ⟨rfl,by rw[if_pos c]⟩)))));dsimp only[plD] at fin;rw[e13] at fin;exact⟨_,_,aI,rfl,by decide,M,s4.trans (aU.new hp5 _),fin⟩
  ·rw[decide_eq_false c];exact⟨_,_,aI,rfl,by decide,M,s4.trans (aU.new hp5 _),q (.quarter one) ⟨m24 bone,λz=>c (by rw[z];rfl)⟩ (g1 bone) (mk _ (.inr (.inl (.inl (.inl ⟨rfl,by rw[if_neg c]⟩)))))⟩
 case inr.inl.inl.inr =>
  refine ifT (by decide) ⟨by decide,by decide,λp5 hp5=>?_⟩;rw[cU];by_cases c:one.num=0
  ·rw[decide_eq_true c];have fin:=q (.half (1/3)) ⟨⟨by unfold Bd;decide +kernel,by unfold Bd;decide +kernel⟩,by decide +kernel⟩ (gh b13) (mk _ (.inr (.inl (.inl (.inr ⟨rfl,by rw[if_pos c]⟩)))));dsimp only[plD] at fin;rw[e13] at fin;exact⟨_,_,aI,rfl,by decide,M,s4.trans (aU.new hp5 _),fin⟩
  ·rw[decide_eq_false c];exact⟨_,_,aI,rfl,by decide,M,s4.trans (aU.new hp5 _),q (.half one) ⟨m24 bone,λz=>c (by rw[z];rfl)⟩ (gh bone) (mk _ (.inr (.inl (.inl (.inr ⟨rfl,by rw[if_neg c]⟩)))))⟩
 case inr.inl.inr =>
  refine ifF (by decide) ?_;rw[aO];refine ifT (by decide) ⟨by decide,L,ha4,λp5 hp5=>?_⟩;refine⟨p5,5,_,rfl,aI,aJe hL 3 8 (by decide) (by omega),by decide,λx y u v b1 b2 b3 b4 k1 k2 k3 kg br=>?_⟩;ac_nf;exact⟨by decide,M,s4.trans (aU.new hp5 _),q (.arc x y u v) ⟨b1,b2,b3,b4,k1,k2,k3⟩ kg (mk _ (.inr (.inl (.inr ⟨rfl,x,y,u,v,br,rfl⟩))))⟩
 all_goals
  refine ifF (by decide) ?_;rw[aO];refine ifF (by decide) ⟨by decide,M,s4,?_⟩
 ·exact q .dot trivial ⟨1,by decide,by decide,trivial⟩ (mk _ (.inr (.inr (.inl (.inl ⟨rfl,rfl⟩)))))
 ·exact q .left trivial ⟨1,by decide,by decide,trivial⟩ (mk _ (.inr (.inr (.inl (.inr ⟨rfl,rfl⟩)))))
 ·exact q .right trivial ⟨1,by decide,by decide,trivial⟩ (mk _ (.inr (.inr (.inr (.inl ⟨rfl,rfl⟩)))))
 ·exact q .rnd trivial ⟨1,by decide,by decide,trivial⟩ (mk _ (.inr (.inr (.inr (.inr (.inl ⟨rfl,rfl⟩))))))
 ·exact q .mirror trivial ⟨1,by decide,by decide,trivial⟩ (mk _ (.inr (.inr (.inr (.inr (.inr ⟨rfl,rfl⟩))))))
noncomputable abbrev E3:=Str×Nat×List Rw
def ClR (es es':List E3):Prop:=∃xs u e,es=xs++[u,e]/\es'=xs++[(u.1,u.2.1,u.2.2++[clE e.1 e.2.1 e.2.2])]
theorem ClR.det {es a b:List E3}(h:ClR es a)(h':ClR es b):a=b:=by obtain⟨xs,u,e,e1,rfl⟩:=h;obtain⟨xs',u',e',e2,rfl⟩:=h';rw[e1,show xs++[u,e]=xs++[u]++[e] by simp,show xs'++[u',e']=xs'++[u']++[e'] by simp] at e2;obtain⟨h1,h2⟩:=append_inj' e2 rfl;obtain⟨h3,h4⟩:=append_inj' h1 rfl;cases h2;cases h4;rw[h3]
def StR (c:Int)(es es':List E3):Prop:=∃(L:List D)(z11 z10 z9:Int),aBx c 12 L/\(atI L 11=some (.int z11)/\atI L 10=some (.int z10)/\atI L 9=some (.int z9)) /\
 (
  ((z11.fmod 9<3/\es.length<5)/\∃(wd0:Str)(k:Int),atI [D.str "again",.str "keep",.str "ever"] (z11.fmod 9) = some (.str wd0)/\atI [D.int 3,.int 3,.int 13] (z9.fmod 3) = some (.int k)/\es' = es++[(if wd0 = "ever"/\es.any (λx=>x.1 == "ever")=true then ("keep":Str) else wd0,(z10.fmod k).toNat,[])]) ∨
  (¬(z11.fmod 9<3/\es.length<5)/\(z11.fmod 9=3/\1<es.length)/\ClR es es') ∨
  (¬(z11.fmod 9<3/\es.length<5)/\¬(z11.fmod 9=3/\1<es.length)/\∃p xs u,PlR L p/\es=xs++[u]/\es'=xs++[(u.1,u.2.1,u.2.2++[.pl p])]))
theorem StR.det {c:Int}{es a b:List E3}(h:StR c es a)(h':StR c es b):a=b:=by
 obtain⟨L,z11,z10,z9,r,⟨a1,a2,a3⟩,h⟩:=h;obtain⟨L',w11,w10,w9,r',⟨b1,b2,b3⟩,h'⟩:=h';obtain rfl:=r.det r';rw[a1] at b1;cases b1;rw[a2] at b2;cases b2;rw[a3] at b3;cases b3;rcases h with⟨c1,wd0,k,ew,ek,rfl⟩|⟨c1,c2,cl⟩|⟨c1,c2,p,xs,u,pr,e1,rfl⟩
 ·rcases h' with⟨_,wd1,k1,ew1,ek1,rfl⟩|⟨n1,_⟩|⟨n1,_⟩
  ·rw[ew] at ew1;cases ew1;rw[ek] at ek1;cases ek1;rfl
  ·exact absurd c1 n1
  ·exact absurd c1 n1
 ·rcases h' with⟨n1,_⟩|⟨_,_,cl'⟩|⟨_,n2,_⟩
  ·exact absurd n1 c1
  ·exact cl.det cl'
  ·exact absurd c2 n2
 ·rcases h' with⟨n1,_⟩|⟨_,n2,_⟩|⟨_,_,p',xs',u',pr',e1',rfl⟩
  ·exact absurd n1 c1
  ·exact absurd n2 c2
  ·obtain rfl:=pr.det pr';rw[e1] at e1';obtain⟨h1,h2⟩:=append_inj' e1' rfl;cases h2;rw[h1]
inductive tM:List Int->List E3->Prop
 |nil:tM [] [("",0,[])]
 |snoc {cs c es es'} (r:tM cs es) (s:StR c es es'):tM (cs++[c]) es'
theorem tM.det:∀(n:Nat){cs:List Int} {a b:List E3},cs.length=n->tM cs a->tM cs b->a=b:=by
 intro n
 induction n with
 |zero =>
  intro cs a b hn h h';cases h with
  |nil =>
   generalize e:([]:List Int)=xs at h';cases h' with
   |nil=>rfl
   |snoc r s=>simp at e
  |snoc r s=>simp at hn
 |succ n ih =>
  intro cs a b hn h h';cases h with
  |nil=>cases hn
  |@snoc cs0 c0 es0 _ r s =>
   generalize e:cs0++[c0]=xs at h';cases h' with
   |nil=>simp at e
   |@snoc cs1 c1 es1 _ r' s' =>
    obtain⟨h1,h2⟩:=append_inj' e rfl;subst h1;cases h2;obtain rfl:=ih (by rw[length_append,length_singleton] at hn;omega) r r';exact s.det s'
inductive tL:List E3->List Rw->Prop
 |one {e}:tL [e] e.2.2
 |cl {es es' rs} (h:1<es.length) (c:ClR es es') (r:tL es' rs):tL es rs
theorem tL.det {es:List E3}{a b:List Rw}(h:tL es a)(h':tL es b):a=b:=by
 induction h with
 |one =>
  cases h' with
  |one=>rfl
  |cl l c r=>exact absurd l (by simp)
 |cl l c r ih =>
  cases h' with
  |one=>exact absurd l (by simp)
  |cl l' c' r' =>
   obtain rfl:=c.det c';exact ih r'
inductive TrR:List Rw->List Rw->Prop
 |stop {rs} (h:¬300<dnS rs):TrR rs rs
 |pop {rs r out} (h:300<dnS (rs++[r])) (t:TrR rs out):TrR (rs++[r]) out
theorem TrR.det {rs a b:List Rw}(h:TrR rs a)(h':TrR rs b):a=b:=by
 induction h with
 |stop n =>
  cases h' with
  |stop=>rfl
  |pop p t=>exact absurd p n
 |@pop rs r out p t ih =>
  generalize e:rs++[r]=xs at h';cases h' with
  |stop n=>rw[<- e] at n;exact absurd p n
  |@pop rs' r' _ p' t' =>
   obtain⟨h1,h2⟩:=append_inj' e rfl;subst h1;exact ih t'
def xY (cs:List Int)(rs:List Rw):Prop:=∃es rs0,tM cs es/\tL es rs0/\TrR rs0 rs
theorem xY.det {cs:List Int}{a b:List Rw}(h:xY cs a)(h':xY cs b):a=b:=by obtain⟨es,r0,h1,h2,h3⟩:=h;obtain⟨es',r0',j1,j2,j3⟩:=h';obtain rfl:=tM.det _ rfl h1 j1;obtain rfl:=h2.det j2;exact h3.det j3
noncomputable def prj (es:Es):List E3:=es.map λx=>(x.1.wd,x.1.n,x.1.rs)
theorem sM (xs ys:Es):prj (xs++ys)=prj xs++prj ys:=map_append
theorem wI (xs:Es):(prj xs).length=xs.length:=length_map _
theorem aJN (es:Es):(prj es).any (λx=>x.1==("ever":Str))=es.any λx=>x.1.wd==("ever":Str):=by unfold prj;rw[any_map];rfl
def FA (A:Nat)(p:Pl):Prop:=plG A (2^25) p/\plB 100 p
theorem FA.up {A:Nat}{p:Pl}(h:FA A p)(m:Nat):FA (A*m) p:=⟨h.1.up m,h.2⟩
theorem aLd (A:Nat):FA A .dot:=⟨trivial,trivial⟩
theorem aJu (A:Nat):FA A (.grow (1/12)):=⟨⟨1,12,by decide,by decide,by decide +kernel⟩,⟨by unfold Bd;decide +kernel,by unfold Bd;decide +kernel⟩,by decide +kernel⟩
theorem aP4 {A:Nat}{p:Pl}(h:FA A p):gwR 690 (.pl p):=by
 cases p with
 |grow a =>
  rw[gwR];obtain⟨t,b,⟨t0,t1⟩,⟨b0,b1⟩,e⟩:=h.1;exact⟨t,b,⟨t0,by omega⟩,⟨b0,by omega⟩,e⟩
 |_ =>
     rw[gwR];· trivial
     all_goals (intro _ z;cases z)
theorem SI.up {A m:Nat}{B M:DM}{st:Addr}{es:Es}{c:Nat}(h:SI (FA A) B M st es c):SI (FA (A*m)) B M st es c :=
 ⟨h.sub,h.new,h.hst,h.len,h.sum,λi x hx=>by obtain⟨⟨a1,a2,a3⟩,a4⟩:=h.ent i x hx;exact⟨⟨⟨a1.dp,a1.len,a1.dn,a1.gw,wJ (λp hp=>hp.up m) _ a1.al,a1.lt⟩,a2,a3⟩,a4⟩,h.nod⟩
mutual
def vER:Bool->Rw->Prop
 |_,.pl _=>True
 |b,.ag n rs=>(n<=1∨n*dnS rs<=90)/\vES b rs
 |b,.kp rs=>vES b rs
 |b,.ev rs=>b=false/\enB rs=true/\vES true rs
def vES:Bool->List Rw->Prop
 |_,[]=>True
 |b,r::rs=>vER b r/\vES b rs
end
theorem sO {b:Bool}:∀{xs ys:List Rw},vES b (xs++ys)↔vES b xs/\vES b ys
 |[],ys=>by rw[nil_append,vES,true_and]
 |x::xs,ys=>by rw[cons_append,vES,vES,sO,and_assoc]
mutual
theorem aKA:∀r:Rw,vER true r->vER false r
 |.pl _,_=>by rw[vER];trivial
 |.ag _ rs,h=>by rw[vER] at h ⊢;exact⟨h.1,zD rs h.2⟩
 |.kp rs,h=>by rw[vER] at h ⊢;exact zD rs h
 |.ev rs,h=>by rw[vER] at h;cases h.1
theorem zD:∀rs:List Rw,vES true rs->vES false rs
 |[],_=>by rw[vES];trivial
 |r::rs,h=>by rw[vES] at h ⊢;exact⟨aKA r h.1,zD rs h.2⟩
end
theorem aFF {b:Bool}{n:Nat}{p:Pl}:vES b (replicate n (.pl p)):=by
 induction n with
 |zero=>rw[replicate_zero,vES];trivial
 |succ n ih=>rw[replicate_succ,vES,vER];exact⟨trivial,ih⟩
theorem aPK {b:Bool}{rs:List Rw}(h:vES b rs):vES b (cS rs):=by unfold cS eM;exact sO.mpr ⟨sO.mpr ⟨h,aFF⟩,aFF⟩
theorem aO6 (rs:List Rw):hmS (cS rs)<=hmS rs+2:=by
 unfold cS eM;rw[fR,fR,xT.2,xT.2];have one:∀b:Bool,(if b=true then 0 else 1)<=1:=λb=>by cases b<;>decide
 have:=one (drS rs);have:=one (enB (rs++replicate (if drS rs=true then 0 else 1) (.pl .dot)));omega
noncomputable def fO (x:En×Nat):Bool:=x.1.wd == "ever"
def lJ:Bool->Es->Prop
 |_,[]=>True
 |b,x::xs=>(b=true->fO x=false)/\vES (b||fO x) x.1.rs/\lJ (b||fO x) xs
theorem oK:∀{b:Bool}{xs ys:Es},lJ b (xs++ys)↔lJ b xs/\lJ (b||xs.any fO) ys
 |b,[],ys=>by rw[nil_append,lJ,any_nil,Bool.or_false,true_and]
 |b,x::xs,ys=>by rw[cons_append,lJ,lJ,oK,any_cons,Bool.or_assoc,and_assoc,and_assoc]
noncomputable def mu:Es->Nat
 |[]=>0
 |x::xs=>2*hmS x.1.rs+mu xs
theorem rJ:∀xs ys:Es,mu (xs++ys)=mu xs+mu ys
 |[],ys=>by rw[nil_append,mu,Nat.zero_add]
 |x::xs,ys=>by rw[cons_append,mu,mu,rJ xs ys,Nat.add_assoc]
noncomputable def hd0:Es->Bool
 |[]=>false
 |x::_=>fO x
structure SJ (es:Es)(c:Nat):Prop where
 hd:hd0 es=false
 al:lJ false es
 mu:mu es+3*es.length<=3*c+3
structure SK (c:Nat)(es:Es):Prop where
 hd:hd0 es=false
 al:lJ false es
 mu:mu es+3*es.length+(if es.any fO then 3 else 0)<=3*c+6
theorem aEH {es:Es}{x y:En×Nat}(e:fO x=fO y)(h:hd0 (es++[x])=false):hd0 (es++[y])=false:=by
 cases es with
 |nil=>exact e.symm.trans h
 |cons z zs=>exact h
theorem aHp {es:Es}{x y:En×Nat}(h:hd0 (es++[x,y])=false):hd0 (es++[x])=false:=by
 cases es with
 |nil=>exact h
 |cons z zs=>exact h
theorem SJ.start {x:En×Nat}(h:x.1.rs=[])(w:fO x=false):SJ [x] 0:=by
 refine⟨w,?_,?_⟩
 ·rw[lJ,lJ,h,vES];exact⟨(λe=>by cases e),trivial,trivial⟩
 ·rw[Lw.mu,Lw.mu,h,hmS];exact Nat.le_refl _
theorem SJ.row {es:Es}{u:En}{m m' c:Nat}{p:Pl}(h:SJ (es++[(u,m)]) c):SJ (es++[({ u with rs:=u.rs++[.pl p] },m')]) (c+1):=by
 obtain⟨hd,a,b⟩:=h;obtain⟨a1,a2⟩:=oK.mp a;rw[lJ,lJ] at a2;rw[rJ,Lw.mu,Lw.mu,length_append] at b;refine⟨aEH (by exact rfl) hd,oK.mpr ⟨a1,?_⟩,?_⟩
 ·rw[lJ,lJ];exact⟨a2.1,sO.mpr ⟨a2.2.1,by rw[vES,vES,vER];exact⟨trivial,trivial⟩⟩,trivial⟩
 ·rw[rJ,Lw.mu,Lw.mu,length_append];dsimp only;rw[fR,hmS,hmS,hmR];simp only[length_singleton] at b ⊢;omega
theorem SJ.push {es:Es}{x:En×Nat}{c:Nat}(h:SJ es c)(hx:x.1.rs=[])(l0:0<es.length)(hw:fO x=true->es.any fO=false):SJ (es++[x]) (c+1):=by
 obtain⟨hd,a,b⟩:=h;refine⟨?_,oK.mpr ⟨a,?_⟩,?_⟩
 ·cases es with
  |nil=>cases l0
  |cons z zs=>exact hd
 ·rw[lJ,lJ,hx,vES];refine⟨λe=>?_,trivial,trivial⟩;cases hi:fO x with
  |false=>rfl
  |true=>rw[hw hi] at e;cases e
 ·rw[rJ,Lw.mu,Lw.mu,hx,hmS,length_append];simp only[length_singleton];omega
theorem aG8 {es:Es}{u e:En}{m m' k:Nat}(h:lJ false (es++[(u,m),(e,m')]))(w:wd3 e.wd) :
  lJ false (es++[({ u with rs:=u.rs++[clE e.wd e.n e.rs] },k)])/\hmR (clE e.wd e.n e.rs)<=hmS e.rs+1+(if fO (e,m') then 2 else 0)/\(fO (e,m')=true->(es.any fO||fO (u,m))=false):=by
 obtain⟨a1,a2⟩:=oK.mp h;rw[lJ,lJ,lJ,Bool.false_or] at a2;obtain⟨b1,b2,b3,b4,_⟩:=a2;have un:fO (e,m')=true->(es.any fO||fO (u,m))=false:=λz=>by
  cases hb:(es.any fO||fO (u,m)) with
  |false=>rfl
  |true=>rw[b3 hb] at z;cases z
 have key:vER (es.any fO||fO (u,m)) (clE e.wd e.n e.rs)/\hmR (clE e.wd e.n e.rs)<=hmS e.rs+1+(if fO (e,m') then 2 else 0):=by
  rcases w with z|z|z
  ·have f:fO (e,m')=false:=by unfold fO;rw[z];decide
   rw[f,Bool.or_false] at b4;unfold clE;rw[if_pos z,vER,hmR,f];exact⟨⟨by split<;>omega,b4⟩,by simp only[Bool.false_eq_true,if_false];omega⟩
  ·have f:fO (e,m')=false:=by unfold fO;rw[z];decide
   rw[f,Bool.or_false] at b4;unfold clE;rw[if_neg (by rw[z];decide),if_neg (by rw[z];decide),vER,hmR,f];exact⟨b4,by simp only[Bool.false_eq_true,if_false];omega⟩
  ·have f:fO (e,m')=true:=by unfold fO;rw[z];decide
   rw[f,Bool.or_true] at b4;have o:=un f;have hh:=aO6 e.rs;have vv:=aPK b4;unfold clE;rw[if_neg (by rw[z];decide),if_pos z,o,f];cases he:enB (cS e.rs) with
   |true=>rw[if_pos rfl,vER,hmR];exact⟨⟨rfl,he,vv⟩,by simp only[if_true];omega⟩
   |false=>rw[if_neg (by decide),vER,hmR];exact⟨zD _ vv,by simp only[if_true];omega⟩
 refine⟨oK.mpr ⟨a1,?_⟩,key.2,un⟩;rw[lJ,lJ,Bool.false_or];exact⟨b1,sO.mpr ⟨b2,by rw[vES,vES];exact⟨key.1,trivial⟩⟩,trivial⟩
theorem SJ.close {es:Es}{u e:En}{m m' k c:Nat}(h:SJ (es++[(u,m),(e,m')]) c)(w:wd3 e.wd):SJ (es++[({ u with rs:=u.rs++[clE e.wd e.n e.rs] },k)]) (c+1):=by
 obtain⟨hd,a,b⟩:=h;obtain⟨c1,c2,_⟩:=aG8 (k:=k) a w;refine⟨aEH (by exact rfl) (aHp hd),c1,?_⟩;rw[rJ,Lw.mu,Lw.mu,Lw.mu,length_append] at b;rw[rJ,Lw.mu,Lw.mu,length_append];dsimp only at b ⊢;rw[fR,hmS,hmS];have:(if fO (e,m')=true then 2 else 0)<=2:=by split<;>decide
 simp only[length_singleton,length_cons,length_nil] at b ⊢;omega
theorem SK.of {es:Es}{c:Nat}(h:SJ es c):SK c es:=by
 refine⟨h.hd,h.al,?_⟩;have:=h.mu;have:(if es.any fO=true then 3 else 0)<=3:=by split<;>decide
 omega
theorem SK.close {cc:Nat}{es:Es}{u e:En}{m m' k:Nat}(h:SK cc (es++[(u,m),(e,m')]))(w:wd3 e.wd):SK cc (es++[({ u with rs:=u.rs++[clE e.wd e.n e.rs] },k)]):=by
 obtain⟨hd,a,b⟩:=h;obtain⟨c1,c2,c3⟩:=aG8 (k:=k) a w;refine⟨aEH (by exact rfl) (aHp hd),c1,?_⟩;rw[rJ,Lw.mu,Lw.mu,Lw.mu,length_append,List.any_append,any_cons,any_cons,any_nil,Bool.or_false] at b;rw[rJ,Lw.mu,Lw.mu,length_append,List.any_append,any_cons,any_nil,Bool.or_false];rw[show fO ({ u with rs:=u.rs++[clE e.wd e.n e.rs] },k)=fO (u,m) from rfl];dsimp only at b ⊢;rw[fR,hmS,hmS];simp only[length_singleton,length_cons,length_nil] at b ⊢;cases he:fO (e,m') with
 |true =>
  rw[c3 he];rw[he] at c2 b;rw[Bool.or_true,Bool.or_true,if_pos rfl] at b;simp only[if_true] at c2;simp only[Bool.false_eq_true,if_false];omega
 |false =>
  rw[he] at c2 b;rw[Bool.or_false] at b;simp only[Bool.false_eq_true,if_false] at c2;omega
theorem SK.end {cc:Nat}{x:En×Nat}(h:SK cc [x]):vES false x.1.rs/\2*hmS x.1.rs<=3*cc+3:=by obtain⟨w,a,b⟩:=h;have w:fO x=false:=w;rw[lJ,w,Bool.false_or] at a;rw[Lw.mu,Lw.mu,any_cons,w,any_nil] at b;simp only[Bool.or_self,Bool.false_eq_true,if_false,length_singleton] at b;exact⟨a.2.1,by omega⟩
def mT:DSp:=λds M Q=>∃(p0:Addr)(cs:List Int),ds=[.ref p0]/\M p0=some (cs.map D.int)/\cs.length<=36/\∀(rs:List Rw)(A:Nat) (M':DM),0<A->A<=2^(48*36)->(∀r∈rs,Dp 4 r)->rs.length<=40->dnS rs<=300->gwS 690 rs->alS (FA A) rs->ltS rs/\2*hmS rs<=3*cs.length+3/\vES false rs->xY cs rs->aU M M'->Q (.tup (bA rs)) M'
theorem SI.mono {F:Pl->Prop}{B M M':DM}{st:Addr}{es:Es}{c:Nat}(h:SI F B M st es c)(s:aU M M'):SI F B M' st es c :=
 ⟨h.sub.trans s,h.new,s _ _ h.hst,h.len,h.sum,λi x hx=>by obtain⟨⟨a1,a2,a3⟩,a4⟩:=h.ent i x hx;exact⟨⟨a1,s _ _ a2,a3⟩,a4⟩,h.nod⟩
theorem SI.start {F:Pl->Prop}{M:DM}{a0 st:Addr}(h0:M a0 = none)(hs:bK M a0 [] st = none):SI F M (bK (bK M a0 []) st [D.tup [.str "",.int 0,.ref a0]]) st [(⟨"",0,a0,[]⟩,0)] 0:=by
 obtain⟨n,hs'⟩:=jS hs;refine⟨(aU.new h0 _).trans (aU.new hs _),hs',aI,(by show 1<=5;omega),(by show 0+0+(0+1)<=0+1;omega),λi x hx=>?_,by simp⟩;rcases wF (xs:=[]) hx with z|⟨rfl,rfl⟩
 ·simp at z
 ·exact⟨⟨⟨(λr hr=>nomatch hr),Nat.le_refl _,(by show dnS []<=_;rw[dnS];exact Nat.zero_le _),(by show gwS _ [];rw[gwS];trivial),(by show alS _ [];rw[alS];trivial),(by show ltS [];rw[ltS];trivial),(by show hmS []<=_;rw[hmS];exact Nat.zero_le _)⟩,(by show bK _ st _ a0=_;rw[bV (Ne.symm n)];exact aI),h0⟩,n,(by show 0<=12;omega),λz=>absurd z (by show ¬0<0;omega)⟩
def aO9 (cs:List Int)(M:DM)(p0 st:Addr)(i:Nat)(ρ:cO)(M':DM):Prop:=∃(A:Nat)(es:Es),tM (cs.take i) (prj es)/\(0<A/\A<=2^(48*i))/\0<es.length/\(SI (FA A) M M' st es i/\SJ es i)/\∃o2 o3 o4 o5 o6,ρ=[some (.ref p0),some (.ref st),o2,o3,o4,o5,o6]
theorem zJ {es:Es}(h:0<es.length):∃(es':Es)(u:En) (m:Nat),es=es'++[(u,m)]:=by
 have n:es≠[]:=λz=>by rw[z] at h;exact absurd h (by decide)
 exact⟨es.dropLast,_,_,(List.dropLast_concat_getLast n).symm⟩
theorem aIU {es:Es}{u:En}{m:Nat}:(es++[(u,m)])[es.length]?=some (u,m):=by rw[getElem?_append_right (Nat.le_refl _)];simp
theorem tN {cs:List Int}{A m i:Nat}{M M2:DM}{p0 st pr:Addr}{es:Es}{u:En}{L:List D}{o2 o3 o4 o5 o6:Option D}(ap:0<A)(al:A<=2^(48*i))(hi:i<36)(si:SI (FA A) M M2 st (es++[(u,m)]) i)(sj:SJ (es++[(u,m)]) i)(hpr:M2 pr=some L)(hL:mO 12 L)(hR:∀p,PlR L p->tM (cs.take (i+1)) (prj es++[(u.wd,u.n,u.rs++[.pl p])])):∃ds d,M2 st=some ds/\atI ds (-1)=some d/\nK d (.int 2) M2 λx M1=>match x with
  |.ref p=>(∃ds,M1 p=some ds)/\oO [.ref pr] M1 λx M1=>∃ds y,[x]=[y]/\M1 p=some ds/\ds.length<1000/\aO9 cs M p0 st (i+1) [some (.ref p0),some (.ref st),o2,o3,o4,o5,o6] (bK M1 p (ds++[y]))
  |_=>False:=by
 have hu:=si.ent _ _ aIU;have sm:=si.sum;rw[map_append,sum_append,length_append] at sm;simp at sm;refine⟨_,enD u,si.hst,by unfold esD;rw[map_append];exact aCW,?_⟩;show(∃ds,M2 u.a=some ds)/\_;refine⟨⟨_,hu.1.2.1⟩,pr,12,L,rfl,hpr,hL,by decide,λp pb ⟨B,b0,b1,pg⟩ plr=>⟨_,_,rfl,hu.1.2.1,?_,?_⟩⟩
 ·have:=hu.1.1.len;rw[bF];show u.rs.length<1000;have:(u,m).2=m:=rfl;simp only at *;omega
 ·refine⟨A*B,es++[({ u with rs:=u.rs++[.pl p] },m+1)],by rw[sM];exact hR p plr,⟨Nat.mul_pos ap b0,?_⟩,by rw[length_append];show 0<_+1;omega,⟨?_,sj.row⟩,_,_,_,_,_,rfl⟩
  ·rw[Nat.mul_add,Nat.mul_one,Nat.pow_add];exact Nat.mul_le_mul al b1
  ·have hp:FA (A*B) p:=⟨by rw[Nat.mul_comm];exact pg.up A,pb⟩;have s1:=si.up (m:=B);refine s1.top (by rw[bV hu.2.1];exact si.hst) (by rw[lZ];exact aI) (hG.refl.put (by simp)) ((s1.ent _ _ aIU).1.1.row hp (aP4 hp)) (by omega)
theorem aAT {A m m' i:Nat}{M M2:DM}{st:Addr}{es:Es}{u e:En}{Q:DQ}(hi:i<=39)(si:SI (FA A) M M2 st (es++[(u,m),(e,m')]) i)(q:∀M' (es':Es),es'.length=es.length+1->prj es'=prj es++[(u.wd,u.n,u.rs++[clE e.wd e.n e.rs])]->SI (FA A) M M' st es' (i+1)->(∀c,SJ (es++[(u,m),(e,m')]) c->SJ es' (c+1))->(∀c,SK c (es++[(u,m),(e,m')])->SK c es')->Q .non M'):pP [.ref st] M2 Q:=by
 have spl:es++[(u,m),(e,m')]=(es++[(u,m)])++[(e,m')]:=by simp
 have ue:=si.ent es.length (u,m) (by rw[getElem?_append_right (Nat.le_refl _)];simp);have ee:=si.ent (es.length+1) (e,m') (by rw[getElem?_append_right (by omega)];simp);have nd:=si.nod;have sm:=si.sum;have ln:=si.len;simp at nd sm ln;have l1:=ue.1.1.len;have l2:=ee.1.1.len;have d2:=ee.1.1.dn;have f2:=aKQ (m:=m');simp only at l1 l2 d2;refine⟨st,es.map (·.1),u,e,rfl,?_,by rw[length_map];omega,⟨ue.2.1,ee.2.1,?_⟩,ue.1.2.1,ee.1.2.1,ee.2.2.2 (by omega),ee.2.2.1,⟨by show e.rs.length<=1000;omega,λr hr=>dL (d':=6) (ee.1.1.dp r hr) (Nat.le_trans (Nat.sub_le _ _) (by decide))⟩,aAS (by decide) _ ee.1.1.gw,by omega,by omega,by omega,λM' h1 h2 k=>?_⟩
 ·rw[si.hst];unfold esD;simp
 ·intro z;rw[nodup_append] at nd;have:=nd.2.1;rw[z] at this;simp at this
 ·refine q M' _ ?_ (by rw[sM];rfl) (si.close ?_ h2 k (aLd A) (aJu A) hi) (λc h=>h.close (ee.2.2.2 (by omega))) (λ_ h=>h.close (ee.2.2.2 (by omega)))
  ·rw[length_append];rfl
  ·rw[h1];unfold esD;simp
noncomputable abbrev kP:Stmt:=top 87
theorem dS:aR ["_law_cells","_law_stack","_law_cell","_law_row_here","_law_way","_law_word","_law_rows_here"] ["_law_cells"] (aJ kP):=by ac_rfl
theorem yT (hF:bT K mg "_law_program" kP ["_law_cells"])(cF:mg "len" = none)(dA:mg "tuple" = none)(eY:Has P w K mg base 101 "_law_row" ["_law_cell","_law_many_here"] mM)(rZ:Has P w K mg base 104 "_law_plain" ["_law_row_here"] oO)(mZ:Has P w K mg base 120 "_law_close" ["_law_stack"] pP)(cX:Has P w K mg base 118 "_law_done" ["_law_rows_here"] (jG 8)):Has P w K mg base 121 "_law_program" ["_law_cells"] mT:=by
 refine Has.mkZ hF dS (λds M Q ⟨_,_,z,_⟩=>by rw[z];rfl) λf cdv A outer s H ds M Q E hr h=>?_;obtain⟨p0,cs,rfl,hp0,hl,q⟩:=h;refine⟨_,(aF (aP (i:=1) dS.nd (bR (aA (aM (aA aL (aA aC (aA (bR aD) aD)))) aD)))
  (aF (zR PassesOwn.never rfl (aB 0) (aX (i:=2) dS.nd) (aF (aP (i:=3) dS.nd (aG eY hr (by decide) (aA (aB 2) (aA aC aD))))
  (aF (aP (i:=4) dS.nd (aK cZ (aH (aB 3) aC) aC))
  (aE (aW (fY (fU (aQ kH (aB 4) aC) (fF (aQ kH (bI eJ cF (aA (aB 1) aD)) aC)))) (aF (aP (i:=5) dS.nd (aH (bR (aA aL (aA aL (aA aL aD)))) (aB 4)))
  (hJ (aW (fY (fU (aQ (cD hr) (aB 5) aL) (fF (aQ yB aL (aJo (⟨rfl,by decide +kernel,by decide +kernel,by decide +kernel,rfl,by decide +kernel⟩:aCV ["_law_cells","_law_stack","_law_cell","_law_row_here","_law_way","_law_word","_law_rows_here"] (aJ kP) ["_law_block"] [none] _) rfl (aB 1) (λ_ _ _ _ _=>(aX (i:=0) (show Nodup (["_law_block"]:List Str) by decide +kernel))) (λ_ _ _ _ _=>(aH (aB 0) aC))) rfl)))) (aE (aP (i:=5) dS.nd aL)) aS)
  (aE (dR (fM (aB 1) (aM (aA (aB 5) (aA (aK cZ (aH (aB 3) aC) (aH (bR (aA aC (aA aC (aA aC aD)))) (aK cZ (aH (aB 3) aC) aC))) (aA (bR aD) aD))))))))) (aE (aW (fY (fU (aQ (cD hr) (aB 4) aC) (fF (aQ gA (bI eJ cF (aA (aB 1) aD)) aC)))) (aE (dR (aG mZ hr (by decide) (aA (aB 1) aD)))) (aE (dR (fM (aH (aH (aB 1) (eL aC)) aC) (aG rZ hr (by decide) (aA (aB 3) aD))))))))))))
  (aF (iH PassesOwn.never (aQ gA (bI eJ cF (aA (aB 1) aD)) aC) (aE (dR (aG mZ hr (by decide) (aA (aB 1) aD)))))
  (aF (aP (i:=6) dS.nd (aH (aH (aB 1) aC) aC))
  (aF (iH PassesOwn.never (aQ gA (aG cX hr (by decide) (aA (aB 6) aD)) aC) (aE (dR (zG (aB 6)))))
  (aE (aN (eE rE dA (aA (aB 6) aD))))))))),?_⟩
 ac_nf;refine⟨by decide,λa0 h0=>⟨by decide,by decide,λst hs=>?_⟩⟩;have si0:=SI.start (F:=FA 1) h0 hs;generalize bK (bK M a0 []) st _=M0 at si0 ⊢;refine⟨_,si0.sub _ _ hp0,aO9 cs M p0 st,⟨1,_,by rw[take_zero];exact .nil,⟨by decide,by decide⟩,by show 0<1;omega,⟨si0,SJ.start rfl rfl⟩,_,_,_,_,_,rfl⟩,λi ρ M' _ ⟨_,_,_,_,_,⟨si,_⟩,_⟩ a e=>by cases e;exact si.sub _ _ hp0,?_,?_⟩
 ·rintro i d ρ M1 hd ⟨A,es,run,⟨ap,al⟩,e0,⟨si,sj⟩,o2,o3,o4,o5,o6,rfl⟩;obtain⟨c,hci,rfl⟩:∃c,cs[i]?=some c/\d=.int c:=by
   rw[getElem?_map] at hd;cases e:cs[i]? with
   |none=>rw[e] at hd;cases hd
   |some c=>rw[e] at hd;cases hd;exact⟨c,rfl,rfl⟩
  have tk1:cs.take (i+1)=cs.take i++[c]:=fA hci;have hi:i<36:=by have:=(List.getElem?_eq_some_iff.mp hd).1;rw[length_map] at this;omega
  ac_nf;refine⟨c,12,rfl,by decide,by decide,λpr L hpr hL rl=>?_⟩;have si2:=si.mono (aU.new hpr L);have hpr2:bK M1 pr L pr=some L:=aI;have hL:mO 12 L:=hL;have rl:aBx c 12 L:=rl;generalize bK M1 pr L=M2 at si2 hpr2 ⊢;clear si;obtain⟨z11,e11,_⟩:=hL.at (i:=11) (by omega);obtain⟨z10,e10,_⟩:=hL.at (i:=10) (by omega);obtain⟨z9,e9,_⟩:=hL.at (i:=9) (by omega);ac_nf;refine⟨L,_,hpr2,e11,?_⟩;ac_nf;refine⟨by decide,?_⟩;have hst:=si2.hst;have sl:(esD es).length=es.length:=length_map _;obtain⟨es',u,m,rfl⟩:=zJ e0;have pl3:prj (es'++[(u,m)])=prj es'++[(u.wd,u.n,u.rs)]:=by rw[sM];rfl
  have hRp:¬(z11.fmod 9<3/\(es'++[(u,m)]).length<5)->¬(z11.fmod 9=3/\1<(es'++[(u,m)]).length)->∀p,PlR L p->tM (cs.take (i+1)) (prj es'++[(u.wd,u.n,u.rs++[.pl p])]):=λn1 n2 p pr=>by rw[tk1];exact run.snoc ⟨L,z11,z10,z9,rl,⟨e11,e10,e9⟩,.inr (.inr ⟨by rw[wI];exact n1,by rw[wI];exact n2,p,_,_,pr,pl3,rfl⟩)⟩
  by_cases c1:z11.fmod 9<3
  ·refine ifT (decide_eq_true c1) ⟨_,hst,?_⟩;rw[sl];by_cases c2:(es'++[(u,m)]).length<5
   ·refine ifT (decide_eq_true (by omega)) ⟨by decide,λp hp=>?_⟩;have s3:=aU.new hp [D.str "again",.str "keep",.str "ever"];obtain⟨wd,ew,hw⟩:∃wd:Str,atI [D.str "again",.str "keep",.str "ever"] (z11.fmod 9)=some (.str wd)/\wd3 wd:=by
     have h1:=Int.fmod_nonneg_of_pos z11 (show(0:Int)<9 by decide);have:z11.fmod 9=0∨z11.fmod 9=1∨z11.fmod 9=2:=by omega
     rcases this with e|e|e<;>rw[e]
     ·exact⟨_,rfl,.inl rfl⟩
     ·exact⟨_,rfl,.inr (.inl rfl)⟩
     ·exact⟨_,rfl,.inr (.inr rfl)⟩
    refine⟨_,_,aI,ew,λρ' M'=>aU M2 M'/\∃(wd':Str)(o6:Option D),((wd' = if wd = "ever"/\(es'++[(u,m)]).any fO=true then ("keep":Str) else wd)/\wd3 wd'/\(wd' = "ever"->(es'++[(u,m)]).any fO=false))/\ρ'=[some (.ref p0),some (.ref st),some (.int c),some (.ref pr),some (.int (z11.fmod 9)),some (.str wd'),o6],?_,?_⟩
    ·generalize bK M2 p _=M3 at s3;rw[aO];by_cases ce:wd = "ever"
     ·refine ifT (decide_eq_true ce) ⟨_,s3 _ _ hst,by rw[sl];omega,λi ys M'=>M'=M3/\ys=((es'++[(u,m)]).take i).map (λx=>D.str x.1.wd),⟨rfl,rfl⟩,λi ys M' _ h a e=>by cases e;rw[h.1];exact s3 _ _ hst,?_,?_⟩
      ·rintro i d ys M' hd ⟨rfl,rfl⟩;unfold esD at hd;rw[getElem?_map] at hd;obtain⟨x,hx,rfl⟩:=Option.map_eq_some_iff.mp hd;rw[show enD x.1=.tup [.str x.1.wd,.int (x.1.n:Int),.ref x.1.a] from rfl];ac_nf;exact⟨rfl,by rw[fA hx,map_append];rfl⟩
      ·rintro ys M' ly ⟨rfl,rfl⟩ pt hpt;have s4:=s3.trans (aU.new hpt ((((es'++[(u,m)]).take (esD (es'++[(u,m)])).length)).map (λx=>D.str x.1.wd)));ac_nf;refine⟨((es'++[(u,m)]).take (esD (es'++[(u,m)])).length).map (λx=>x.1.wd),by rw[aI,List.map_map];rfl,?_⟩;have tk:(es'++[(u,m)]).take (esD (es'++[(u,m)])).length=es'++[(u,m)]:=by rw[sl,take_length]
       rw[tk] at s4 ⊢;split
       ·rename_i yy;have yy:((es'++[(u,m)]).map (λx=>x.1.wd)).any (λx=>x==("ever":Str))=true:=yy;rw[any_map] at yy;have yy:(es'++[(u,m)]).any fO=true:=yy;exact⟨s4,_,_,⟨by rw[if_pos ⟨ce,yy⟩],.inr (.inl rfl),λz=>by cases z⟩,rfl⟩
       ·rename_i nn;have nn':¬(es'++[(u,m)]).any fO=true:=by have nn:¬((es'++[(u,m)]).map (λx=>x.1.wd)).any (λx=>x==("ever":Str))=true:=nn;rw[any_map] at nn;exact nn
        refine⟨s4,_,_,⟨by rw[if_neg (λz=>nn' z.2)],hw,λ_=>?_⟩,rfl⟩;have nn:¬((es'++[(u,m)]).map (λx=>x.1.wd)).any (λx=>x==("ever":Str))=true:=nn;rw[any_map] at nn;cases hz:(es'++[(u,m)]).any fO with
        |false=>rfl
        |true=>exact absurd hz nn
     ·exact ifF (decide_eq_false ce) (ifF rfl ⟨s3,_,_,⟨by rw[if_neg (λz=>ce z.1)],hw,λz=>absurd z ce⟩,rfl⟩)
    ·rintro ρ' M3 ⟨s3',wd',o6,⟨hwd,hw,hwe⟩,rfl⟩;have si3:=si2.mono s3';have hpr3:=s3' _ _ hpr2;clear s3 hp s3';ac_nf;refine⟨⟨_,si3.hst⟩,L,_,hpr3,e10,by decide,λp4 hp4=>?_⟩;have s4:=aU.new hp4 [D.int 3,.int 3,.int 13];refine⟨L,_,s4 _ _ hpr3,e9,?_⟩;ac_nf;obtain⟨k,ek,hk⟩:∃k:Int,atI [D.int 3,.int 3,.int 13] (z9.fmod 3)=some (.int k)/\(k=3∨k=13):=by
      have h1:=Int.fmod_nonneg_of_pos z9 (show(0:Int)<3 by decide);have h2:=Int.fmod_lt_of_pos z9 (show(0:Int)<3 by decide);have:z9.fmod 3=0∨z9.fmod 3=1∨z9.fmod 3=2:=by omega
      rcases this with e|e|e<;>rw[e]
      ·exact⟨_,rfl,.inl rfl⟩
      ·exact⟨_,rfl,.inl rfl⟩
      ·exact⟨_,rfl,.inr rfl⟩
     refine⟨by decide,_,_,aI,ek,?_⟩;ac_nf;have si4:=si3.mono s4;generalize bK M3 p4 _=M4 at s4 si4;have h1:=Int.fmod_nonneg_of_pos z10 (show(0:Int)<k by omega);have h2:=Int.fmod_lt_of_pos z10 (show(0:Int)<k by omega);refine⟨by omega,by decide,λp5 hp5=>⟨by decide,_,_,rfl,(aU.new hp5 []) _ _ si4.hst,by rw[sl];omega,?_⟩⟩;have n5:p5≠st:=λz=>by rw[z,si4.hst] at hp5;cases hp5
     refine⟨A,(es'++[(u,m)])++[(⟨wd',(z10.fmod k).toNat,p5,[]⟩,0)],?_,⟨ap,Nat.le_trans al (Nat.pow_le_pow_right (by decide) (by omega))⟩,by rw[length_append];show 0<_+1;omega,⟨?_,sj.push rfl e0 (λz=>hwe (by unfold fO at z;exact eq_of_beq z))⟩,_,_,_,_,_,rfl⟩
     ·rw[tk1,sM,hwd];exact run.snoc ⟨L,z11,z10,z9,rl,⟨e11,e10,e9⟩,.inl ⟨⟨c1,by rw[wI];exact c2⟩,wd,k,ew,ek,by rw[aJN];rfl⟩⟩
     refine si4.push c2 hp5 ?_ ?_ ?_ hw (by omega) (Nat.le_refl _)
     ·rw[aI];have e:esD ((es'++[(u,m)])++[(⟨wd',(z10.fmod k).toNat,p5,[]⟩,0)])=esD (es'++[(u,m)])++[D.tup [.str wd',.int ((z10.fmod k).toNat:Int),.ref p5]]:=by unfold esD;rw[map_append (l₁:=es'++[(u,m)])];rfl
      rw[e,Int.toNat_of_nonneg h1]
     ·rw[bV n5];exact aI
     ·exact(hG.refl.put (by simp)).put (by simp)
   ·refine ifF (decide_eq_false (by omega)) ?_;rw[cU];refine ifF (decide_eq_false (by omega)) (ifF rfl ?_);exact tN ap al hi si2 sj hpr2 hL (hRp (λz=>c2 z.2) (λz=>absurd z.1 (by omega)))
  ·refine ifF (decide_eq_false c1) (ifF rfl ?_);rw[cU];by_cases c3:z11.fmod 9=3
   ·refine ifT (decide_eq_true c3) ⟨_,hst,?_⟩;rw[sl];by_cases c2:1<(es'++[(u,m)]).length
    ·refine ifT (decide_eq_true (by omega)) ?_;have l0:0<es'.length:=by rw[length_append] at c2;simp at c2;omega
     obtain⟨es2,u2,m2,rfl⟩:=zJ l0;rw[append_assoc] at si2 sj;refine aAT (by omega) si2 λM' es3 l3 pe si3 j1 _=>?_;have run3:tM (cs.take (i+1)) (prj es3):=by rw[tk1];exact run.snoc ⟨L,z11,z10,z9,rl,⟨e11,e10,e9⟩,.inr (.inl ⟨λz=>c1 z.1,⟨c3,by rw[wI];exact c2⟩,prj es2,(u2.wd,u2.n,u2.rs),(u.wd,u.n,u.rs),by rw[append_assoc,sM];rfl,pe⟩)⟩
     exact⟨A,es3,run3,⟨ap,Nat.le_trans al (Nat.pow_le_pow_right (by decide) (by omega))⟩,by omega,⟨si3,j1 _ sj⟩,_,_,_,_,_,rfl⟩
    ·refine ifF (decide_eq_false (by omega)) ?_;exact tN ap al hi si2 sj hpr2 hL (hRp (λz=>c1 z.1) (λz=>c2 z.2))
   ·refine ifF (decide_eq_false c3) (ifF rfl ?_);exact tN ap al hi si2 sj hpr2 hL (hRp (λz=>c1 z.1) (λz=>c3 z.1))
 ·rintro ρ M' ⟨A,es,run,⟨ap,al⟩,e0,⟨si,sj⟩,o2,o3,o4,o5,o6,rfl⟩;rw[length_map] at al si sj run;rw[take_length] at run;obtain⟨E0,hE0,run0⟩:∃E0,prj es=E0/\tM cs E0:=⟨_,rfl,run⟩;have al:A<=2^(48*36):=Nat.le_trans al (Nat.pow_le_pow_right (by decide) (by omega));refine jN (λm ρ M'=>∃(c:Nat)(es:Es),m=es.length/\0<es.length/\c+es.length<=41/\(SI (FA A) M M' st es c/\SK cs.length es/\∀rs0,tL (prj es) rs0->tL E0 rs0)/\∃o2 o3 o4 o5 o6,ρ=[some (.ref p0),some (.ref st),o2,o3,o4,o5,o6]) es.length ⟨cs.length,es,rfl,e0,by have:=si.len;omega,⟨si,SK.of sj,λrs0 h=>hE0 ▸ h⟩,_,_,_,_,_,rfl⟩ ?_;clear si sj e0 run hE0 es;rintro m ρ M1 ⟨c,es,rfl,e0,hc,⟨si,sk,cr⟩,o2,o3,o4,o5,o6,rfl⟩;have sl:(esD es).length=es.length:=length_map _;ac_nf;refine⟨_,si.hst,?_⟩;rw[sl];obtain⟨es',u,m,rfl⟩:=zJ e0;by_cases c2:1<(es'++[(u,m)]).length
  ·refine ifT (decide_eq_true (by omega)) ?_;have le:(es'++[(u,m)]).length=es'.length+1:=by rw[length_append];rfl
   obtain⟨es2,u2,m2,rfl⟩:=zJ (show 0<es'.length by omega);have le2:(es2++[(u2,m2)]).length=es2.length+1:=by rw[length_append];rfl
   rw[append_assoc] at si sk;refine aAT (by omega) si λM' es3 l3 pe si3 _ k1=>?_;have cr3:∀rs0,tL (prj es3) rs0->tL E0 rs0:=λrs0 h=>cr rs0 (.cl (by rw[wI];exact c2) ⟨prj es2,(u2.wd,u2.n,u2.rs),(u.wd,u.n,u.rs),by rw[append_assoc,sM];rfl,pe⟩ h);exact⟨es3.length,by omega,c+1,es3,rfl,by omega,by omega,⟨si3,k1 _ sk,cr3⟩,_,_,_,_,_,rfl⟩
  ·refine ifF (decide_eq_false (by omega)) ?_;have l0:es'=[]:=by
    have le:(es'++[(u,m)]).length=es'.length+1:=by rw[length_append];rfl
    exact List.eq_nil_of_length_eq_zero (by omega)
   subst l0;have hu:=si.ent 0 (u,m) rfl;have sm:=si.sum;simp at sm;refine⟨_,_,si.hst,aAd,?_⟩;show nK (.tup [.str u.wd,.int (u.n:Int),.ref u.a]) (.int 2) M1 _;ac_nf;have ok:=hu.1.1;have cl0:tL E0 u.rs:=cr _ (tL.one (e:=(u.wd,u.n,u.rs)));refine jN (λm ρ M'=>∃rs:List Rw,m=rs.length/\rs.length<=40/\(∀r∈rs,Dp 4 r)/\gwS 690 rs/\alS (FA A) rs/\(ltS rs/\2*hmS rs<=3*cs.length+3/\vES false rs/\∀out,TrR rs out->TrR u.rs out)/\M' u.a=some (bA rs)/\aU M M'/\∃o1 o2 o3 o4 o5,ρ=[some (.ref p0),o1,o2,o3,o4,o5,some (.ref u.a)]) u.rs.length ⟨u.rs,rfl,by have:=ok.len;simp only at this;omega,ok.dp,ok.gw,ok.al,⟨ok.lt.1,sk.end.2,sk.end.1,λ_ h=>h⟩,hu.1.2.1,si.sub,_,_,_,_,_,rfl⟩ ?_;have ua:=hu.1.2.2;clear si sk hu sm ok hc c2 e0 sl cr;rintro m ρ M2 ⟨rs,rfl,lr,dp,gw,al2,⟨lt2,hm2,ve2,tr⟩,hM,sub,o1,o2,o3,o4,o5,rfl⟩;ac_nf;have d8:DpS 8 rs:=⟨by omega,λr hr=>dL (d':=7) (dp r hr) (by decide)⟩;refine⟨_,rs,rfl,.inr ⟨_,rfl,hM⟩,d8,?_⟩;ac_nf;by_cases c3:300<dnS rs
   ·refine ifT (decide_eq_true (by omega)) ?_;have rn:rs≠[]:=λz=>by rw[z,dnS] at c3;omega
    obtain⟨rs',r,rfl⟩:∃rs' r,rs=rs'++[r]:=⟨_,_,(List.dropLast_concat_getLast rn).symm⟩;have el:bA (rs'++[r])=bA rs'++[rwD r]:=by rw[lZ,bA,bA]
    have ll:(rs'++[r]).length=rs'.length+1:=by rw[length_append];rfl
    rw[el] at hM;refine⟨_,rwD r,hM,by simp,rs'.length,by omega,rs',rfl,by omega,λx hx=>dp x (mem_append_left _ hx),(iV.mp gw).1,(sH.mp al2).1,⟨(sQ.mp lt2).1,by rw[fR] at hm2;omega,(sO.mp ve2).1,λout h=>tr out (.pop c3 h)⟩,by rw[aI,dropLast_concat],?_,_,_,_,_,_,rfl⟩;exact wD sub (hG.refl.put (List.mem_singleton.mpr rfl)) λa ha=>by rw[List.mem_singleton.mp ha];exact ua
   ·refine ifF (decide_eq_false (by omega)) ?_;ac_nf;exact⟨_,hM,bE (q rs A M2 ap al dp lr (by omega) gw al2 ⟨lt2,hm2,ve2⟩ ⟨E0,u.rs,run0,cl0,tr rs (.stop c3)⟩ sub)⟩
def aAk (d:Nat):DSp:=λds M Q=>∃rs,ds=[.tup (bA rs)]/\DpS d rs/\Q (.int (hmS rs:Int)) M
noncomputable abbrev lH:Stmt:=top 51
theorem eN:aR ["rows","many","row","within"] ["rows"] (aJ lH):=by ac_rfl
theorem vM (hF:bT K mg "how_many_rows" lH ["rows"])(cF:mg "len" = none)(aT:Has P w K mg base 101 "rows_within" ["row"] cV):Has P w K mg base 118 "how_many_rows" ["rows"] (aAk 8):=by
 have all:∀d,Has P w K mg base (110+d) "how_many_rows" ["rows"] (aAk d):=λd=>by
  induction d with
  |zero=>exact(Has.never hF eN 109).imp λds M Q ⟨rs,_,z,_⟩=>z
  |succ d dF =>
   refine Has.mkZ (k:=110+d) hF eN (λds M Q ⟨a,z,_⟩=>by rw[z];rfl) λf cdv A outer s H ds M Q E hr h=>?_;obtain⟨rs,rfl,dp,q⟩:=h;refine⟨_,(aF (aP (i:=1) eN.nd (bI eJ cF (aA (aB 0) aD)))
  (aF (kX PassesOwn.never rfl (aB 0) (aX (i:=2) eN.nd) (aF (aP (i:=3) eN.nd (aG aT hr (by omega) (aA (aB 2) aD)))
  (aE (aW (aQ aDO (aB 3) fV) (aE (nX (i:=1) aAE eN.nd (aG dF hr (by omega) (aA (aB 3) aD)))) aS))))
  (aE (aN (aB 1))))),?_⟩
   ac_nf;refine⟨λi ρ M'=>M'=M/\∃o1 o2,ρ=[some (.tup (bA rs)),some (.int ((rs.length:Int)+(hmS (rs.take i):Int)-(i:Int))),o1,o2],⟨rfl,none,none,?_⟩,λi ρ M' _ _ a e=>(by cases e),?_,?_⟩
   ·rw[take_zero,hmS,bF,show(rs.length:Int)+((0:Nat):Int)-((0:Nat):Int)=(rs.length:Int) by omega]
   ·rintro i d1 ρ M' hd ⟨rfl,o1,o2,rfl⟩;obtain⟨r,hr',rfl⟩:=gZ hd;have dr:=dp.2 r (mem_of_getElem? hr');ac_nf;refine⟨r,rfl,?_⟩;have fin:hmS (rs.take (i+1))=hmS (rs.take i)+hmR r:=by rw[fA hr',fR,hmS,hmS,Nat.add_zero]
    rw[fin];have blk:∀ws:List Rw,hmR r=1+hmS ws->(rs.length:Int)+(hmS (rs.take i):Int)-(i:Int)+(hmS ws:Int)=(rs.length:Int)+((hmS (rs.take i)+hmR r:Nat):Int)-((i+1:Nat):Int):=λws e=>by omega
    cases r with
    |pl p =>
     dsimp only[inR];ac_nf;refine ifF rfl ?_;rw[hmR,show(rs.length:Int)+((hmS (rs.take i)+1:Nat):Int)-((i+1:Nat):Int)=(rs.length:Int)+(hmS (rs.take i):Int)-(i:Int) by omega];exact⟨rfl,_,_,rfl⟩
    |ag n ws =>
     obtain⟨hn,dw⟩:=oB dr;dsimp only[inR];ac_nf;refine ifT rfl ⟨ws,rfl,dw,?_⟩;ac_nf;rw[blk ws (by rw[hmR])];exact⟨rfl,_,_,rfl⟩
    |kp ws =>
     have dw:=tI dr;dsimp only[inR];ac_nf;refine ifT rfl ⟨ws,rfl,dw,?_⟩;ac_nf;rw[blk ws (by rw[hmR])];exact⟨rfl,_,_,rfl⟩
    |ev ws =>
     have dw:=tE dr;dsimp only[inR];ac_nf;refine ifT rfl ⟨ws,rfl,dw,?_⟩;ac_nf;rw[blk ws (by rw[hmR])];exact⟨rfl,_,_,rfl⟩
   ·rintro ρ M' ⟨rfl,o1,o2,rfl⟩;rw[bF,take_length,show(rs.length:Int)+(hmS rs:Int)-(rs.length:Int)=(hmS rs:Int) by omega];exact bE q
 exact all 8
noncomputable abbrev uA:Stmt:=top 93
theorem jM:aR ["_law_rows_here","_law_many_here","_law_row_here"] ["_law_rows_here"] (aJ uA):=by ac_rfl
theorem aCu (hF:bT K mg "_law_many" uA ["_law_rows_here"]):Has P w K mg base 118 "_law_many" ["_law_rows_here"] (aAk 8):=by
 have all:∀d,Has P w K mg base (110+d) "_law_many" ["_law_rows_here"] (aAk d):=λd=>by
  induction d with
  |zero=>exact(Has.never hF jM 109).imp λds M Q ⟨rs,_,z,_⟩=>z
  |succ d mG =>
   refine Has.mkZ (k:=110+d) hF jM (λds M Q ⟨a,z,_⟩=>by rw[z];rfl) λf cdv A outer s H ds M Q E hr h=>?_;obtain⟨rs,rfl,dp,q⟩:=h;refine⟨_,(aF (aP (i:=1) jM.nd aC)
  (aF (kX PassesOwn.never rfl (aB 0) (aX (i:=2) jM.nd) (aF (aP (i:=1) jM.nd (aK cB (aB 1) aC))
  (aE (aW (aQ yB (aH (aB 2) aC) (bR (aA aL (aA aL (aA aL aD)))) rfl) (aE (aP (i:=1) jM.nd (aK cB (aB 1) (aG mG hr (by omega) (aA (aH (aB 2) (eL aC)) aD))))) aS))))
  (aE (aN (aB 1))))),?_⟩
   ac_nf;refine⟨λi ρ M'=>aU M M'/\∃o2,ρ=[some (.tup (bA rs)),some (.int (hmS (rs.take i):Int)),o2],⟨.refl _,_,rfl⟩,λi ρ M' _ _ a e=>(by cases e),?_,?_⟩
   ·rintro i d1 ρ M1 hd ⟨sub,o2,rfl⟩;obtain⟨r,hr',rfl⟩:=gZ hd;have dr:=dp.2 r (mem_of_getElem? hr');have fin:hmS (rs.take (i+1))=hmS (rs.take i)+hmR r:=by rw[fA hr',fR,hmS,hmS,Nat.add_zero]
    ac_nf;rw[fin];cases r with
    |pl x =>
     obtain⟨w0,cP,e,wb⟩:=aFj x;dsimp only[rwD];rw[e];ac_nf;rw[aAd];ac_nf;refine⟨by decide,λa ha=>⟨["again","keep","ever"],aI,ifF (aEQ wb) ?_⟩⟩;rw[hmR];exact⟨sub.trans (aU.new ha _),_,rfl⟩
    |ag n ws =>
     have dw:=(oB dr).2;dsimp only[rwD];ac_nf;refine⟨by decide,λa ha=>⟨["again","keep","ever"],aI,ifT (by decide) ⟨ws,rfl,dw,?_⟩⟩⟩;ac_nf;rw[hmR,show(hmS (rs.take i):Int)+1+(hmS ws:Int)=((hmS (rs.take i)+(1+hmS ws):Nat):Int) by omega];exact⟨sub.trans (aU.new ha _),_,rfl⟩
    |kp ws =>
     have dw:=tI dr;dsimp only[rwD];ac_nf;refine⟨by decide,λa ha=>⟨["again","keep","ever"],aI,ifT (by decide) ⟨ws,rfl,dw,?_⟩⟩⟩;ac_nf;rw[hmR,show(hmS (rs.take i):Int)+1+(hmS ws:Int)=((hmS (rs.take i)+(1+hmS ws):Nat):Int) by omega];exact⟨sub.trans (aU.new ha _),_,rfl⟩
    |ev ws =>
     have dw:=tE dr;dsimp only[rwD];ac_nf;refine⟨by decide,λa ha=>⟨["again","keep","ever"],aI,ifT (by decide) ⟨ws,rfl,dw,?_⟩⟩⟩;ac_nf;rw[hmR,show(hmS (rs.take i):Int)+1+(hmS ws:Int)=((hmS (rs.take i)+(1+hmS ws):Nat):Int) by omega];exact⟨sub.trans (aU.new ha _),_,rfl⟩
   ·rintro ρ M' ⟨sub,o2,rfl⟩;rw[bF,take_length];exact⟨M,sub,q⟩
 exact all 8
def lC:DSp:=λds M Q=>∃rs,ds=[.tup (bA rs)]/\DpS 8 rs/\hmS rs<=60/\Q (.tup (bA rs)) M
noncomputable abbrev jZ:Stmt:=top 63
theorem qH:aR ["program"] ["program"] (aJ jZ):=by ac_rfl
theorem xG (hF:bT K mg "not_too_long" jZ ["program"])(jJ:gG K mg "MOST_ROWS" (.int 60))(dF:Has P w K mg base 118 "how_many_rows" ["rows"] (aAk 8)):Has P w K mg base 119 "not_too_long" ["program"] lC:=by
 refine Has.mkZ hF qH (λds M Q ⟨_,z,_⟩=>by rw[z];rfl) λf cdv A outer s H ds M Q E hr h=>?_;obtain⟨rs,rfl,dp,l,q⟩:=h;refine⟨_,(aF (aW (aQ gA (aG dF hr (by decide) (aA (aB 0) aD)) (bG jJ)) (aE mB) aS)
  (aE (aN (aB 0)))),?_⟩
 ac_nf;refine⟨rs,rfl,dp,?_⟩;ac_nf;exact ifF (decide_eq_false (by omega)) (bE q)
def aKS:List D->Prop:=λds=>∃rs,ds=[.tup (bA rs)]/\DpS 8 rs/\60<hmS rs
theorem wN {C_TooMuch:Addr}(hF:bT K mg "not_too_long" jZ ["program"])(iM:aDc K mg "TooMuch" C_TooMuch)(jJ:gG K mg "MOST_ROWS" (.int 60))(dF:Has P w K mg base 118 "how_many_rows" ["rows"] (aAk 8)):aOu P w K mg base 119 "not_too_long" ["program"] C_TooMuch aKS:=by
 refine iS.mkZ hF iM qH (λds M ⟨_,z,_⟩=>by rw[z];rfl) λf cdv A outer s H ds M E hr h hRO=>?_;obtain⟨rs,rfl,dp,l⟩:=h;refine⟨_,(aF (aW (aQ gA (aG dF hr (by decide) (aA (aB 0) aD)) (bG jJ)) (aE (aF3 hRO (aA aL aD))) aS)
  (aE (aN (aB 0)))),?_⟩
 ac_nf;refine⟨rs,rfl,dp,?_⟩;ac_nf;exact ifT (decide_eq_true (by omega)) ⟨by decide,.refl _⟩
noncomputable def gwB (s:Rat):Bool:=decide (1<=s.num/\s.num<=12)&&decide ((s.den:Int)<=12)
def yC:DSp:=λds M Q=>∃s:Rat,ds=[FQ s]/\Q (.bl (gwB s)) M
noncomputable abbrev tS:Stmt:=top 24
theorem aDD:aR ["number"] ["number"] (aJ tS):=by ac_rfl
theorem aC4 (hF:bT K mg "may_grow" tS ["number"])(kB:gG K mg "MOST_IN_GROW" (.int 12)):Has P w K mg base 101 "may_grow" ["number"] yC:=by
 refine Has.mkZ hF aDD (λds M Q ⟨_,z,_⟩=>by rw[z];rfl) λf cdv A outer s H ds M Q E hr h=>?_;obtain⟨s,rfl,q⟩:=h;refine⟨_,(aE (aN (fP (aB6 sZ sZ aC (aH (aB 0) aC) (bG kB)) (eV (cN sZ (aH (aB 0) aC) (bG kB)))))),?_⟩;ac_nf;unfold gwB at q;by_cases c1:1<=s.num
 ·refine ifT (decide_eq_true c1) ?_;by_cases c2:s.num<=12
  ·rw[decide_eq_true ⟨c1,c2⟩,Bool.true_and] at q;exact ifT (decide_eq_true c2) (bE q)
  ·rw[decide_eq_false (λz=>c2 z.2),Bool.false_and] at q;exact ifF (decide_eq_false c2) (bE q)
 ·rw[decide_eq_false (λz=>c1 z.1),Bool.false_and] at q;exact ifF (decide_eq_false c1) (ifF rfl (bE q))
noncomputable def aNk:D->Option Bool
 |.int _=>some true
 |.ref _=>none
 |_=>some false
def qK:DSp:=λds M Q=>∃d b,ds=[d]/\aNk d=some b/\Q (.bl b) M
noncomputable abbrev uF:Stmt:=top 20
theorem aD5:aR ["thing"] ["thing"] (aJ uF):=by ac_rfl
theorem aC6 (hF:bT K mg "is_whole" uF ["thing"])(bC:mg "isinstance" = none)(lS:mg "int" = none)(aEm:mg "bool" = none):Has P w K mg base 101 "is_whole" ["thing"] qK:=by
 refine Has.mkZ hF aD5 (λds M Q ⟨_,_,z,_⟩=>by rw[z];rfl) λf cdv A outer s H ds M Q E hr h=>?_;obtain⟨d,b,rfl,h,q⟩:=h;refine⟨_,(aE (aN (fP (mS (aB 0) bC lS) (eV (vU (mS (aB 0) bC aEm)))))),?_⟩;ac_nf;cases d with
 |int i=>cases h;exact .inl ⟨_,_,rfl,rfl,ifT rfl (.inl ⟨_,_,rfl,rfl,bE q⟩)⟩
 |bl b=>cases h;exact .inl ⟨_,_,rfl,rfl,ifT rfl (.inl ⟨_,_,rfl,rfl,bE q⟩)⟩
 |ref a=>cases h
 |_=>cases h;exact .inl ⟨_,_,rfl,rfl,ifF rfl (bE q)⟩
def tH:DSp:=λds M Q=>∃a b,ds=[.int a,.int b]/\Q (.bl (decide (1<=b)&&decide (Int.gcd a b=1))) M
noncomputable abbrev pS:Stmt:=top 21
theorem aBb:aR ["top","bottom"] ["top","bottom"] (aJ pS):=by ac_rfl
theorem aAH (hF:bT K mg "is_reduced" pS ["top","bottom"])(bD:Has P w K mg base 101 "greatest_divisor" ["one","other"] eG):Has P w K mg base 102 "is_reduced" ["top","bottom"] tH:=by
 refine Has.mkZ hF aBb (λds M Q ⟨_,_,z,_⟩=>by rw[z];rfl) λf cdv A outer s H ds M Q E hr h=>?_;obtain⟨a,b,rfl,q⟩:=h;refine⟨_,(aE (aN (fP (cN aIE (aB 1) aC) (eV (cN (cD hr) (aG bD hr (by decide) (aA (aB 0) (aA (aB 1) aD))) aC))))),?_⟩;ac_nf;by_cases c:1<=b
 ·rw[decide_eq_true c,Bool.true_and] at q;refine ifT (decide_eq_true c) ⟨a,b,rfl,?_⟩;ac_nf;rw[cU,show decide ((Int.gcd a b:Int)=1)=decide (Int.gcd a b=1) from decide_eq_decide.mpr ⟨λz=>by omega,λz=>by omega⟩];exact bE q
 ·rw[decide_eq_false c,Bool.false_and] at q;exact ifF (decide_eq_false c) (bE q)
theorem aMJ (x:Rat):(decide (1<=(x.den:Int))&&decide (Int.gcd x.num (x.den:Int)=1))=true:=by have h1:=x.den_pos;have h2:Int.gcd x.num (x.den:Int)=1:=x.reduced;rw[decide_eq_true (by omega),decide_eq_true h2];rfl
def qO:DSp:=λds M Q=>∃x:Rat,ds=[FQ x]/\Q (.bl true) M
noncomputable abbrev nP:Stmt:=top 22
theorem aA1:aR ["thing"] ["thing"] (aJ nP):=by ac_rfl
theorem yR (hF:bT K mg "is_fraction" nP ["thing"])(bC:mg "isinstance" = none)(dA:mg "tuple" = none)(cF:mg "len" = none)(jE:Has P w K mg base 101 "is_whole" ["thing"] qK)(pA:Has P w K mg base 102 "is_reduced" ["top","bottom"] tH):Has P w K mg base 103 "is_fraction" ["thing"] qO:=by
 refine Has.mkZ hF aA1 (λds M Q ⟨_,z,_⟩=>by rw[z];rfl) λf cdv A outer s H ds M Q E hr h=>?_;obtain⟨x,rfl,q⟩:=h;refine⟨_,(aF (aW (fY (kL (kS (dD (mS (aB 0) bC dA))) (iB (aQ (qG hr) (bI eJ cF (aA (aB 0) aD)) aC)))) (aE (aN lM)) aS)
  (aE (aN (fP (aG jE hr (by decide) (aA (aH (aB 0) aC) aD)) (fP (aG jE hr (by decide) (aA (aH (aB 0) aC) aD)) (eV (aG pA hr (by decide) (aA (aH (aB 0) aC) (aA (aH (aB 0) aC) aD))))))))),?_⟩
 rw[show FQ x=D.tup [.int x.num,.int (x.den:Int)] from rfl];ac_nf;refine .inl ⟨_,_,rfl,rfl,ifF rfl ?_⟩;rw[cU];refine ifF rfl ⟨_,_,rfl,rfl,ifT rfl ⟨_,_,rfl,rfl,ifT rfl ⟨_,_,rfl,?_⟩⟩⟩;rw[aMJ];exact bE q
noncomputable def aHX:List (Str×Int):=[("go",1),("skip",1),("side",2),("dot",0),("left",0),("right",0),("round",0),("mirror",0),("grow",1),("quarter",1),("half",1),("arc",4)]
noncomputable def aI5:List Str:=["again","keep","ever","none"]
def nH:DSp:=λds M Q=>∃k:Str,ds=[.str k]/\((∃n,aHX.lookup k=some n/\Q (.int n) M)∨(k∈aI5/\Q .non M))
noncomputable abbrev kJ:Stmt:=top 23
theorem vO:aR ["word"] ["word"] (aJ kJ):=by ac_rfl
theorem tK (hF:bT K mg "numbers_behind" kJ ["word"])(xJ:aFh w K mg "NUMBERS" aHX aI5):Has P w K mg base 101 "numbers_behind" ["word"] nH:=by
 refine Has.mkZ hF vO (λds M Q ⟨_,z,_⟩=>by rw[z];rfl) λf cdv A outer s H ds M Q E hr h=>?_;obtain⟨k,rfl,h⟩:=h;refine⟨_,(aE (aN (aH5 xJ (aB 0)))),?_⟩;ac_nf;rcases h with⟨n,hn,q⟩|⟨hn,q⟩
 ·exact .inl ⟨n,hn,bE q⟩
 ·exact .inr ⟨hn,bE q⟩
noncomputable def aP1:D->Option Bool
 |.tup (.str _::_)=>some true
 |.int _=>some false
 |.str _=>some false
 |_=>none
def pJ:DSp:=λds M Q=>∃d b,ds=[d]/\aP1 d=some b/\Q (.bl b) M
noncomputable abbrev qZ:Stmt:=top 26
theorem aDa:aR ["thing"] ["thing"] (aJ qZ):=by ac_rfl
theorem aBs (hF:bT K mg "is_worded" qZ ["thing"])(bC:mg "isinstance" = none)(dA:mg "tuple" = none)(aHJ:mg "str" = none)(cF:mg "len" = none):Has P w K mg base 101 "is_worded" ["thing"] pJ:=by
 refine Has.mkZ hF aDa (λds M Q ⟨_,_,z,_⟩=>by rw[z];rfl) λf cdv A outer s H ds M Q E hr h=>?_;obtain⟨d,b,rfl,hb,q⟩:=h;refine⟨_,(aE (aN (fP (mS (aB 0) bC dA) (fP (cN gA (bI eJ cF (aA (aB 0) aD)) aC) (eV (mS (aH (aB 0) aC) bC aHJ)))))),?_⟩
 match d,hb with
 |.tup (.str k::cP),hb =>
  cases hb;ac_nf;refine .inl ⟨_,_,rfl,rfl,ifT rfl (ifT (decide_eq_true (by show(0:Int)<((cP.length+1:Nat):Int);omega)) ?_)⟩;rw[aAd];ac_nf;exact .inl ⟨_,_,rfl,rfl,bE q⟩
 |.int i,hb =>
  cases hb;ac_nf;exact .inl ⟨_,_,rfl,rfl,ifF rfl (bE q)⟩
 |.str i,hb =>
  cases hb;ac_nf;exact .inl ⟨_,_,rfl,rfl,ifF rfl (bE q)⟩
noncomputable def wd:Pl->Str
 |.go _=>"go" | .side _ _=>"side" | .skip _=>"skip" | .dot=>"dot" | .left=>"left" | .right=>"right" | .rnd=>"round" | .mirror=>"mirror" | .grow _=>"grow" | .quarter _=>"quarter" | .half _=>"half" | .arc _ _ _ _=>"arc"
noncomputable def nu:Pl->List Rat
 |.go a=>[a]|.side a b=>[a,b]|.skip a=>[a]|.grow a=>[a]|.quarter a=>[a]|.half a=>[a]|.arc a b c d=>[a,b,c,d]|_=>[]
theorem aET (p:Pl):plD p=.tup (.str (wd p)::(nu p).map FQ):=by cases p<;>rfl
theorem aMO (p:Pl):aHX.lookup (wd p)=some (((nu p).length:Nat):Int):=by cases p<;>rfl
theorem aOo (p:Pl):(nu p).length<=4:=by cases p<;>exact Nat.le_of_ble_eq_true rfl
def plV (p:Pl):Prop:=plB 100 p/\∀a,p=.grow a->gwB a=true
def aAt:DSp:=λds M Q=>∃a b c d:Rat,ds=[plD (.arc a b c d)]/\plB 100 (.arc a b c d)/\Q (.bl true) M
noncomputable abbrev xI:Stmt:=top 27
theorem aAD:aR ["row","c"] ["row"] (aJ xI):=by ac_rfl
theorem aDv (hF:bT K mg "is_bend" xI ["row"])(bH:gG K mg "MIDDLE" uU)(xE:Has P w K mg base 103 "farther" ["c","p","q"] aAZ):Has P w K mg base 104 "is_bend" ["row"] aAt:=by
 refine Has.mkZ hF aAD (λds M Q ⟨_,_,_,_,z,_⟩=>by rw[z];rfl) λf cdv A outer s H ds M Q E hr h=>?_;obtain⟨a,b,c,d,rfl,⟨b1,b2,b3,b4,n0,n1,fe⟩,q⟩:=h;refine⟨_,(aF (aP (i:=1) aAD.nd (aM (aA (aH (aB 0) aC) (aA (aH (aB 0) aC) aD))))
  (aE (aN (fP (cN (qG hr) (aB 1) (bG bH)) (eV (cN (cD hr) (aG xE hr (by decide) (aA (aB 1) (aA (bG bH) (aA (aM (aA (aH (aB 0) aC) (aA (aH (aB 0) aC) aD))) aD)))) aC)))))),?_⟩
 dsimp only[plD];ac_nf;refine⟨by decide,?_⟩;rw[show(D.tup [FQ a,FQ b])=PQ a b from rfl,show uU=PQ 0 0 from rfl,aIK];refine ifT (by rw[decide_eq_false n0];rfl) ⟨by decide,a,b,0,0,c,d,100,rfl,b1,b2,bqz.mono (by decide),bqz.mono (by decide),b3,b4,by decide,?_⟩;ac_nf;rw[cU,aGq.mpr fe];exact bE q
theorem aPe {x:Rat}:decide (x.num=0)=decide (x=0):=by
 by_cases c:x=0
 ·rw[decide_eq_true c,c];rfl
 ·rw[decide_eq_false c];exact decide_eq_false λz=>c (Rat.num_eq_zero.mp z)
theorem zT {ds:List D}{M:DM}{Q:DQ}:vE [.tup ds] M Q=Q (.int (ds.length:Int)) M:=rfl
inductive Th where
 |pl (p:Pl)
 |ag (n:Nat) (ts:List Th)
 |kp (ts:List Th)
 |ev (ts:List Th)
 |bad (d:D)
mutual
noncomputable def thD:Th->D
 |.pl p=>plD p
 |.ag n ts=>.tup [.str "again",.int (n:Int),.tup (bZ ts)]
 |.kp ts=>.tup [.str "keep",.tup (bZ ts)]
 |.ev ts=>.tup [.str "ever",.tup (bZ ts)]
 |.bad d=>d
noncomputable def bZ:List Th->List D
 |[]=>[]
 |t::ts=>thD t::bZ ts
end
theorem hZ:∀ts:List Th,bZ ts=ts.map thD
 |[]=>by rw[bZ];rfl
 |t::ts=>by rw[bZ,hZ ts,map_cons]
mutual
noncomputable def gdR:Th->Rw
 |.pl p=>.pl p
 |.ag n ts=>.ag n (gdS ts)
 |.kp ts=>.kp (gdS ts)
 |.ev ts=>.ev (gdS ts)
 |.bad _=>.pl .dot
noncomputable def gdS:List Th->List Rw
 |[]=>[]
 |t::ts=>gdR t::gdS ts
end
mutual
def okT:Th->Prop
 |.pl _=>True
 |.ag _ ts=>okS ts
 |.kp ts=>okS ts
 |.ev ts=>okS ts
 |.bad _=>False
def okS:List Th->Prop
 |[]=>True
 |t::ts=>okT t/\okS ts
end
mutual
theorem aQx:∀t:Th,okT t->thD t=rwD (gdR t)
 |.pl p,_=>by rw[thD,gdR,rwD]
 |.ag n ts,h=>by rw[okT] at h;rw[thD,gdR,rwD,wG ts h]
 |.kp ts,h=>by rw[okT] at h;rw[thD,gdR,rwD,wG ts h]
 |.ev ts,h=>by rw[okT] at h;rw[thD,gdR,rwD,wG ts h]
 |.bad _,h=>by rw[okT] at h;exact h.elim
theorem wG:∀ts:List Th,okS ts->bZ ts=bA (gdS ts)
 |[],_=>by rw[bZ,gdS,bA]
 |t::ts,h=>by rw[okS] at h;rw[bZ,gdS,bA,aQx t h.1,wG ts h.2]
end
def aDh (d:D):Prop:=d = .tup [.str "go"]∨d = .str "go"∨d = .tup [.str "grow",.tup [.int 13,.int 1]]
noncomputable def isP:Th->Bool
 |.pl _=>true
 |_=>false
noncomputable def isB:Th->Bool
 |.ag _ _=>true
 |.kp _=>true
 |.ev _=>true
 |_=>false
def lO:DSp:=λds M Q=>∃r:Th,ds=[thD r]/\(∀p,r=.pl p->plV p)/\(∀d,r=.bad d->aDh d)/\Q (.bl (isP r)) M
noncomputable abbrev jU:Stmt:=top 25
theorem yS:aR ["thing"] ["thing"] (aJ jU):=by ac_rfl
theorem wY (hF:bT K mg "is_plain_row" jU ["thing"])(cF:mg "len" = none)(aIV:mg "all" = none)(jP:Has P w K mg base 101 "is_worded" ["thing"] pJ)(kO:Has P w K mg base 101 "numbers_behind" ["word"] nH)(nV:Has P w K mg base 103 "is_fraction" ["thing"] qO)(tQ:Has P w K mg base 101 "may_grow" ["number"] yC)(xX:Has P w K mg base 104 "is_bend" ["row"] aAt):Has P w K mg base 105 "is_plain_row" ["thing"] lO:=by
 refine Has.mkZ hF yS (λds M Q ⟨_,z,_⟩=>by rw[z];rfl) λf cdv A outer s H ds M Q E hr h=>?_;obtain⟨r,rfl,pv,bv,q⟩:=h;refine⟨_,(hJ (aW (fY (kL (kS (dD (aG jP hr (by decide) (aA (aB 0) aD)))) (iB (aQ (qG hr) (aG kO hr (by decide) (aA (aH (aB 0) aC) aD)) (aK jW (bI eJ cF (aA (aB 0) aD)) aC))))) (aE (aN lM)) aS)
  (hJ (aW (kS (dD (bI (aLC rfl) aIV (aA (aFm (⟨rfl,by decide +kernel,by decide +kernel,by decide +kernel,rfl,by decide +kernel⟩:aCV ["thing"] (aJ jU) ["number"] [none] _) rfl (jA (aB 0) (dH aC) iQ) (λ_ _ _ _ _=>(aX (i:=0) (show Nodup (["number"]:List Str) by decide +kernel))) (λ_ _ _ _ _=>(aG nV hr (by decide) (aA (aB 0) aD)))) aD)))) (aE (aN lM)) aS)
  (aF (aW (aQ (cD hr) (aH (aB 0) aC) aL) (aE (aN (aG tQ hr (by decide) (aA (aH (aB 0) aC) aD)))) aS)
  (aF (aW (fY (kL (aQ (cD hr) (aH (aB 0) aC) aL) (iB (aQ (cD hr) (aH (aB 0) aC) aL)))) (aE (aN (cN (qG hr) (aH (aH (aB 0) aC) aC) aC))) aS)
  (aE (aN (zQ (cN (qG hr) (aH (aB 0) aC) aL) (eV (aG xX hr (by decide) (aA (aB 0) aD)))))))))),?_⟩
 cases r with
 |pl p =>
  obtain⟨pb,pg⟩:=pv p rfl;rw[show thD (.pl p)=plD p by rw[thD],aET];have nl:=aOo p;ac_nf;refine⟨λρ M'=>M'=M/\ρ=[some (.tup (.str (wd p)::(nu p).map FQ))],⟨_,_,rfl,rfl,ifF rfl ?_⟩,?_⟩
  ·rw[aAd];ac_nf;refine⟨_,rfl,.inl ⟨_,aMO p,?_⟩⟩;ac_nf;rw[zT];ac_nf;rw[cU];refine ifF (by rw[decide_eq_true (by rw[length_map];omega)];rfl) ⟨rfl,rfl⟩
  rintro ρ M' ⟨rfl,rfl⟩;ac_nf;refine⟨λρ M2=>aU M' M2/\ρ=[some (.tup (.str (wd p)::(nu p).map FQ))],?_,?_⟩
  ·rw[aDr];refine⟨by rw[length_map];omega,λi ys M2=>M2=M'/\ys=(replicate i (D.bl true)),⟨rfl,rfl⟩,λi ys M2 _ _ a e=>(by cases e),?_,?_⟩
   ·rintro i d ys M2 hd ⟨rfl,rfl⟩;obtain⟨x,_,rfl⟩:=List.mem_map.mp (mem_of_getElem? hd);ac_nf;exact⟨x,rfl,rfl,by rw[List.replicate_succ']⟩
   rintro ys M2 _ ⟨rfl,rfl⟩ pl hpl;ac_nf;refine⟨replicate ((nu p).map FQ).length true,by rw[aI,map_replicate],?_⟩;rw[show(replicate ((nu p).map FQ).length true).all id=true by simp];exact ifF rfl ⟨aU.new hpl _,rfl⟩
  rintro ρ M2 ⟨sb,rfl⟩;rw[<- aET];cases p with
  |grow a =>
   dsimp only[plD];ac_nf;rw[aO];refine ifT (by decide) ⟨a,rfl,?_⟩;rw[pg a rfl];exact⟨M',sb,q⟩
  |quarter a =>
   dsimp only[plD];ac_nf;rw[aO];refine ifF (by decide) ?_;rw[aO];refine ifT (by decide) ?_;rw[cU,aPe,decide_eq_false pb.2];exact⟨M',sb,q⟩
  |half a =>
   dsimp only[plD];ac_nf;rw[aO];refine ifF (by decide) ?_;rw[aO];refine ifF (by decide) ?_;rw[aO];refine ifT (by decide) ?_;rw[cU,aPe,decide_eq_false pb.2];exact⟨M',sb,q⟩
  |arc a b c d =>
   dsimp only[plD];ac_nf;rw[aO];refine ifF (by decide) ?_;rw[aO];refine ifF (by decide) ?_;rw[aO];refine ifF (by decide) ?_;rw[aO];exact ifF (by decide) ⟨a,b,c,d,rfl,pb,M',sb,q⟩
  |_ =>
   dsimp only[plD];ac_nf;rw[aO];refine ifF (by decide) ?_;rw[aO];refine ifF (by decide) ?_;rw[aO];refine ifF (by decide) ?_;rw[aO];exact ifT (by decide) ⟨M',sb,q⟩
 |ag n ws =>
  dsimp only[thD];ac_nf;refine⟨λ_ _=>False,⟨_,_,rfl,rfl,ifF rfl ⟨_,rfl,.inr ⟨by decide,?_⟩⟩⟩,λ_ _ z=>z.elim⟩;ac_nf;exact⟨rfl,rfl,ifT rfl (bE q)⟩
 |kp ws =>
  dsimp only[thD];ac_nf;refine⟨λ_ _=>False,⟨_,_,rfl,rfl,ifF rfl ⟨_,rfl,.inr ⟨by decide,?_⟩⟩⟩,λ_ _ z=>z.elim⟩;ac_nf;exact⟨rfl,rfl,ifT rfl (bE q)⟩
 |ev ws =>
  dsimp only[thD];ac_nf;refine⟨λ_ _=>False,⟨_,_,rfl,rfl,ifF rfl ⟨_,rfl,.inr ⟨by decide,?_⟩⟩⟩,λ_ _ z=>z.elim⟩;ac_nf;exact⟨rfl,rfl,ifT rfl (bE q)⟩
 |bad d =>
  rcases bv d rfl with rfl|rfl|rfl
  ·dsimp only[thD];ac_nf;refine⟨λ_ _=>False,⟨_,_,rfl,rfl,ifF rfl ⟨_,rfl,.inl ⟨1,by decide,?_⟩⟩⟩,λ_ _ z=>z.elim⟩;ac_nf;rw[cU];exact ifT (by decide) (bE q)
  ·dsimp only[thD];ac_nf;exact⟨λ_ _=>False,⟨_,_,rfl,rfl,ifT rfl (bE q)⟩,λ_ _ z=>z.elim⟩
  ·dsimp only[thD];ac_nf;refine⟨λρ M'=>M' = M/\ρ = [some (.tup [.str "grow",.tup [.int 13,.int 1]])],⟨_,_,rfl,rfl,ifF rfl ⟨_,rfl,.inl ⟨1,by decide,?_⟩⟩⟩,?_⟩
   ·ac_nf;rw[cU];exact ifF (by decide) ⟨rfl,rfl⟩
   rintro ρ M' ⟨rfl,rfl⟩;ac_nf;refine⟨λρ M2=>aU M' M2/\ρ = [some (.tup [.str "grow",.tup [.int 13,.int 1]])],?_,?_⟩
   ·rw[aDr];refine aMp (by decide) ?_;ac_nf;refine⟨13,rfl,λpl hpl=>⟨[true],aI,ifF rfl ⟨aU.new hpl _,rfl⟩⟩⟩
   rintro ρ M2 ⟨sb,rfl⟩;ac_nf;rw[aO];refine ifT (by decide) ⟨13,rfl,?_⟩;rw[show gwB 13=false by decide +kernel];exact⟨M',sb,q⟩
def sB:DSp:=λds M Q=>∃r:Th,ds=[thD r]/\isP r=false/\(∀n ts,r=.ag n ts->n<=12)/\(∀d,r=.bad d->aDh d)/\Q (.bl (isB r)) M
noncomputable abbrev uN:Stmt:=top 28
theorem aDX:aR ["thing"] ["thing"] (aJ uN):=by ac_rfl
theorem aCI (hF:bT K mg "is_block" uN ["thing"])(bC:mg "isinstance" = none)(dA:mg "tuple" = none)(cF:mg "len" = none)(pQ:gG K mg "MOST_AGAIN" (.int 12))(jP:Has P w K mg base 101 "is_worded" ["thing"] pJ)(jE:Has P w K mg base 101 "is_whole" ["thing"] qK):Has P w K mg base 102 "is_block" ["thing"] sB:=by
 refine Has.mkZ hF aDX (λds M Q ⟨_,z,_⟩=>by rw[z];rfl) λf cdv A outer s H ds M Q E hr h=>?_;obtain⟨r,rfl,hb,hn,bv,q⟩:=h;refine⟨_,(aF (aW (fY (kL (kS (dD (aG jP hr (by decide) (aA (aB 0) aD)))) (iB (kS (dD (mS (aH (aB 0) (eL aC)) bC dA)))))) (aE (aN lM)) aS)
  (aF (aW (aQ (cD hr) (aH (aB 0) aC) aL) (aE (aN (fP (cN (cD hr) (bI eJ cF (aA (aB 0) aD)) aC) (fP (aG jE hr (by decide) (aA (aH (aB 0) aC) aD)) (eV (aB6 sZ sZ aC (aH (aB 0) aC) (bG pQ))))))) aS)
  (aE (aN (fP (cN (cD hr) (bI eJ cF (aA (aB 0) aD)) aC) (eV (zQ (cN (cD hr) (aH (aB 0) aC) aL) (eV (cN (cD hr) (aH (aB 0) aC) aL))))))))),?_⟩
 cases r with
 |pl p=>cases hb
 |ag n ws =>
  have:=hn n ws rfl;dsimp only[thD];ac_nf;refine⟨_,_,rfl,rfl,ifF rfl (.inl ⟨_,_,rfl,rfl,ifF rfl ?_⟩)⟩;rw[aO];refine ifT (by decide) ?_;rw[cU];refine ifT (by decide) ⟨_,_,rfl,rfl,ifT rfl (ifT (decide_eq_true (by omega)) ?_)⟩;rw[decide_eq_true (by omega)];exact bE q
 |kp ws =>
  dsimp only[thD];ac_nf;refine⟨_,_,rfl,rfl,ifF rfl (.inl ⟨_,_,rfl,rfl,ifF rfl ?_⟩)⟩;rw[aO];refine ifF (by decide) ?_;rw[cU];refine ifT (by decide) ?_;rw[aO];exact ifT (by decide) (bE q)
 |ev ws =>
  dsimp only[thD];ac_nf;refine⟨_,_,rfl,rfl,ifF rfl (.inl ⟨_,_,rfl,rfl,ifF rfl ?_⟩)⟩;rw[aO];refine ifF (by decide) ?_;rw[cU];refine ifT (by decide) ?_;rw[aO];refine ifF (by decide) ?_;rw[aO];exact bE q
 |bad d =>
  rcases bv d rfl with rfl|rfl|rfl
  ·dsimp only[thD];ac_nf;exact⟨_,_,rfl,rfl,ifF rfl (.inl ⟨_,_,rfl,rfl,ifT rfl (bE q)⟩)⟩
  ·dsimp only[thD];ac_nf;exact⟨_,_,rfl,rfl,ifT rfl (bE q)⟩
  ·dsimp only[thD];ac_nf;refine⟨_,_,rfl,rfl,ifF rfl (.inl ⟨_,_,rfl,rfl,ifF rfl ?_⟩)⟩;rw[aO];refine ifF (by decide) ?_;rw[cU];refine ifT (by decide) ?_;rw[aO];refine ifF (by decide) ?_;rw[aO];exact bE q
noncomputable def isE:Th->Bool
 |.ev _=>true
 |_=>false
noncomputable def qE (r:Th)(ar:List Str):Bool:=decide (ar.length<4) && !(isE r&&ar.any (· == "ever"))
def rK:DSp:=λds M Q=>∃(r:Th)(ar:List Str),ds=[thD r,.tup (ar.map D.str)]/\isB r=true/\Q (.bl (qE r ar)) M
noncomputable abbrev tP:Stmt:=top 65
theorem aDR:aR ["block","around"] ["block","around"] (aJ tP):=by ac_rfl
theorem aCt (hF:bT K mg "has_room" tP ["block","around"])(cF:mg "len" = none)(nQ:gG K mg "MOST_BLOCKS" (.int 4)):Has P w K mg base 101 "has_room" ["block","around"] rK:=by
 refine Has.mkZ hF aDR (λds M Q ⟨_,_,z,_⟩=>by rw[z];rfl) λf cdv A outer s H ds M Q E hr h=>?_;obtain⟨r,ar,rfl,hb,q⟩:=h;refine⟨_,(aE (aN (fP (cN kH (bI eJ cF (aA (aB 1) aD)) (bG nQ)) (eV (vU (fP (cN (cD hr) (aH (aB 0) aC) aL) (eV (cN aMn aL (aB 1) rfl)))))))),?_⟩;unfold qE at q;ac_nf;rw[zT];ac_nf;rw[length_map];by_cases c:ar.length<4
 ·rw[decide_eq_true c,Bool.true_and] at q;refine ifT (decide_eq_true (by omega)) ?_;cases r with
  |pl p=>cases hb
  |ag n ws =>
   dsimp only[thD];ac_nf;rw[aO];exact ifF (by decide) (bE q)
  |kp ws =>
   dsimp only[thD];ac_nf;rw[aO];exact ifF (by decide) (bE q)
  |ev ws =>
   dsimp only[thD];ac_nf;rw[aO];exact ifT (by decide) ⟨ar,rfl,bE q⟩
  |bad d=>cases hb
 ·rw[decide_eq_false c,Bool.false_and] at q;exact ifF (decide_eq_false (by omega)) (bE q)
noncomputable def inT:Th->Option (List Th)
 |.ag _ ts=>some ts
 |.kp ts=>some ts
 |.ev ts=>some ts
 |_=>none
def tY:DSp:=λds M Q=>∃(r:Th)(ts:List Th),ds=[thD r]/\inT r=some ts/\Q (.tup (bZ ts)) M
theorem yY (hF:bT K mg "rows_within" kQ ["row"]):Has P w K mg base 101 "rows_within" ["row"] tY:=by
 refine Has.mkZ hF qS (λds M Q ⟨_,a,z,_⟩=>by rw[z];rfl) λf cdv A outer s H ds M Q E hr h=>?_;obtain⟨r,ts,rfl,hb,q⟩:=h;have q':=bE q;refine⟨_,(aF (aW (aQ (cD hr) (aH (aB 0) aC) aL) (aE (aN (aH (aB 0) aC))) aS)
  (aE (aN (iK (fY (kL (aQ (cD hr) (aH (aB 0) aC) aL) (iB (aQ (cD hr) (aH (aB 0) aC) aL)))) (aH (aB 0) aC) fV)))),?_⟩
 cases r with
 |pl p=>cases hb
 |bad d=>cases hb
 |ag n ts' =>
  cases hb;dsimp only[thD];ac_nf;rw[aO];exact ifT (by decide) q'
 |kp ts' =>
  cases hb;dsimp only[thD];ac_nf;rw[aO];refine ifF (by decide) ?_;rw[aO];exact ifT (by decide) q'
 |ev ts' =>
  cases hb;dsimp only[thD];ac_nf;rw[aO];refine ifF (by decide) ?_;rw[aO];refine ifF (by decide) ?_;rw[aO];exact ifT (by decide) q'
theorem aLp {p:Pl}(h:plB 100 p):plB 900 p:=by
 have m:∀{x:Rat},BQ 100 x->BQ 900 x:=λh=>h.mono (by decide);cases p with
 |go a=>exact m h
 |side a b=>exact⟨m h.1,m h.2⟩
 |skip a=>exact m h
 |grow a=>exact⟨m h.1,h.2⟩
 |quarter a=>exact⟨m h.1,h.2⟩
 |half a=>exact⟨m h.1,h.2⟩
 |arc a b c d=>exact⟨m h.1,m h.2.1,m h.2.2.1,m h.2.2.2.1,h.2.2.2.2⟩
 |_=>trivial
mutual
def vaR:Rw->Prop
 |.pl p=>plV p
 |.ag n rs=>n<=12/\vaS rs
 |.kp rs=>vaS rs
 |.ev rs=>vaS rs
def vaS:List Rw->Prop
 |[]=>True
 |r::rs=>vaR r/\vaS rs
end
theorem aFG:∀{rs:List Rw}{r:Rw},vaS rs->r∈rs->vaR r
 |x::xs,r,h,m=>by
  rw[vaS] at h;rcases List.mem_cons.mp m with rfl|z
  ·exact h.1
  ·exact aFG h.2 z
theorem aFJ:∀{rs:List Rw}{r:Rw},r∈rs->drR r=true->drS rs=true
 |x::xs,r,m,h=>by
  rw[drS];rcases List.mem_cons.mp m with rfl|z
  ·rw[h,Bool.true_or]
  ·rw[aFJ z h,Bool.or_true]
theorem aD2:∀{rs:List Rw},(∀r∈rs,drR r=false)->drS rs=false
 |[],_=>by rw[drS]
 |x::xs,h=>by rw[drS,h x (mem_cons_self ..),aD2 λr hr=>h r (mem_cons_of_mem _ hr)];rfl
def aBa (d:Nat):DSp:=λds M Q=>∃rs,ds=[.tup (bA rs)]/\DpS d rs/\vaS rs/\Q (.bl (drS rs)) M
noncomputable abbrev aCr:Stmt:=top 53
theorem vV:aR ["rows","row","within"] ["rows"] (aJ aCr):=by ac_rfl
theorem aFS (hF:bT K mg "draws" aCr ["rows"])(aT:Has P w K mg base 101 "rows_within" ["row"] cV)(xM:Has P w K mg base 104 "deed_of" ["row"] aAC):Has P w K mg base 118 "draws" ["rows"] (aBa 8):=by
 have all:∀d,Has P w K mg base (110+d) "draws" ["rows"] (aBa d):=λd=>by
  induction d with
  |zero=>exact(Has.never hF vV 109).imp λds M Q ⟨rs,_,z,_⟩=>z
  |succ d vF =>
   refine Has.mkZ (k:=110+d) hF vV (λds M Q ⟨a,z,_⟩=>by rw[z];rfl) λf cdv A outer s H ds M Q E hr h=>?_;obtain⟨rs,rfl,dp,va,q⟩:=h;refine⟨_,(aF (kX PassesOwn.never rfl (aB 0) (aX (i:=1) vV.nd) (aF (aP (i:=2) vV.nd (aG aT hr (by omega) (aA (aB 1) aD)))
  (aE (aW (aQ aHK (aB 2) fV) (aE (aW (aQ aDO (aH (aG xM hr (by omega) (aA (aB 1) aD)) aC) fV) (aE (aN lM)) aS)) (aE (aW (fY (fU (dD (aG vF hr (by omega) (aA (aB 2) aD))) (fF (fY (kL (aQ (qG hr) (aH (aB 1) aC) aL) (iB (aQ gA (aH (aB 1) aC) aC))))))) (aE (aN lM)) aS))))))
  (aE (aN lM))),?_⟩
   ac_nf;refine⟨λi ρ M'=>M'=M/\(∀r∈rs.take i,drR r=false)/\∃o1 o2,ρ=[some (.tup (bA rs)),o1,o2],⟨rfl,(by rw[take_zero];intro r hr;cases hr),_,_,rfl⟩,λi ρ M' _ _ a e=>(by cases e),?_,?_⟩
   ·rintro i d1 ρ M' hd ⟨rfl,no,o1,o2,rfl⟩;obtain⟨r,hr',rfl⟩:=gZ hd;have mr:=mem_of_getElem? hr';have dr:=dp.2 r mr;have vr:=aFG va mr;ac_nf;refine⟨r,rfl,?_⟩;have next:drR r=false->∀x∈rs.take (i+1),drR x=false:=λh x hx=>by
     rw[fA hr'] at hx;rcases List.mem_append.mp hx with z|z
     ·exact no x z
     ·rw[List.mem_singleton.mp z];exact h
    have yes:drR r=true->Dn Q (.bl true) M':=λh=>by rw[aFJ mr h] at q;exact bE q
    cases r with
    |pl p =>
     rw[vaR] at vr;rw[drR] at next yes;dsimp only[inR];ac_nf;refine ifT rfl ⟨p,by rw[rwD],trivial,aLp vr.1,?_⟩;cases hl:aCN p with
     |none =>
      rw[hl] at next;dsimp only[lgO];ac_nf;exact ifF rfl ⟨rfl,next rfl,_,_,rfl⟩
     |some l =>
      rw[hl] at yes;dsimp only[lgO];ac_nf;have z:∀l,∃ds,lgD l=.tup ds:=λl=>by cases l<;>exact⟨_,rfl⟩
      obtain⟨ds,e⟩:=z l;rw[e];ac_nf;exact ifT rfl (yes rfl)
    |ag n ws =>
     obtain⟨hn,dw⟩:=oB dr;rw[vaR] at vr;rw[drR] at next yes;dsimp only[inR];ac_nf;refine ifF rfl ⟨ws,rfl,dw,vr.2,?_⟩;dsimp only[rwD];ac_nf;cases hd:drS ws with
     |false =>
      rw[hd,Bool.and_false] at next;exact ifF rfl ⟨rfl,next rfl,_,_,rfl⟩
     |true =>
      rw[hd,Bool.and_true] at next yes;refine ifT rfl ?_;rw[aO];refine ifF (by decide) ?_;by_cases c:n=0
      ·rw[c] at next;exact ifF (decide_eq_false (by omega)) ⟨rfl,next rfl,_,_,rfl⟩
      ·exact ifT (decide_eq_true (by omega)) (yes (by simp[c]))
    |kp ws =>
     have dw:=tI dr;rw[vaR] at vr;rw[drR] at next yes;dsimp only[inR];ac_nf;refine ifF rfl ⟨ws,rfl,dw,vr,?_⟩;dsimp only[rwD];ac_nf;cases hd:drS ws with
     |false=>exact ifF rfl ⟨rfl,next hd,_,_,rfl⟩
     |true =>
      refine ifT rfl ?_;rw[aO];exact ifT (by decide) (yes hd)
    |ev ws =>
     have dw:=tE dr;rw[vaR] at vr;rw[drR] at next yes;dsimp only[inR];ac_nf;refine ifF rfl ⟨ws,rfl,dw,vr,?_⟩;dsimp only[rwD];ac_nf;cases hd:drS ws with
     |false=>exact ifF rfl ⟨rfl,next hd,_,_,rfl⟩
     |true =>
      refine ifT rfl ?_;rw[aO];exact ifT (by decide) (yes hd)
   ·rintro ρ M' ⟨rfl,no,o1,o2,rfl⟩;rw[bF,take_length] at no;rw[aD2 no] at q;exact bE q
 exact all 8
theorem aOH {p s k A:Nat}(p1:1<=p)(s1:1<=s)(k0:0<k)(e:p*s^k=A):p<=A/\s<=A:=by
 have h1:1<=s^k:=Nat.pow_pos s1;have h2:s<=s^k:=by
  cases k with
  |zero=>omega
  |succ k =>
   have:1<=s^k:=Nat.pow_pos s1;rw[Nat.pow_succ];exact Nat.le_mul_of_pos_left _ this
 rw[<- e];exact⟨Nat.le_mul_of_pos_right _ h1,Nat.le_trans h2 (Nat.le_mul_of_pos_left _ p1)⟩
def qF:DSp:=λds M Q=>∃a n:Nat,ds=[.int (a:Int),.int (n:Int)]/\1<=a/\Bd 100000 ((a^n:Nat):Int)/\Q (.int ((a^n:Nat):Int)) M
noncomputable abbrev mP:Stmt:=top 55
theorem eC:aR ["number","n","product","square","left"] ["number","n"] (aJ mP):=by ac_rfl
theorem xH (hF:bT K mg "raised_whole" mP ["number","n"]):Has P w K mg base 101 "raised_whole" ["number","n"] qF:=by
 refine Has.mkZ hF eC (λds M Q ⟨_,_,z,_⟩=>by rw[z];rfl) λf cdv A outer s H ds M Q E hr h=>?_;obtain⟨a,n,rfl,a1,bd,q⟩:=h;refine⟨_,(aF (aP (i:=2) eC.nd aC)
  (aF (aP (i:=3) eC.nd (aB 0))
  (aF (aP (i:=4) eC.nd (aB 1))
  (aF (iH PassesOwn.never (aQ gA (aB 4) aC) (aF (aW (aQ (cD hr) (aK cZ (aB 4) aC) aC) (aE (aP (i:=2) eC.nd (aK bN (aB 2) (aB 3)))) aS)
  (aF (aP (i:=4) eC.nd (aK dZ (aB 4) aC))
  (aE (aW (aQ gA (aB 4) aC) (aE (aP (i:=3) eC.nd (aK bN (aB 3) (aB 3)))) aS)))))
  (aE (aN (aB 2))))))),?_⟩
 ac_nf;generalize eA:a^n=A at bd q;refine jN (λm ρ M'=>M'=M/\∃p s:Nat,(1<=p/\1<=s)/\p*s^m=A/\ρ=[some (.int (a:Int)),some (.int (n:Int)),some (.int (p:Int)),some (.int (s:Int)),some (.int (m:Int))]) n ⟨rfl,1,a,⟨by decide,a1⟩,by rw[Nat.one_mul];exact eA,rfl⟩ ?_;rintro m ρ M' ⟨rfl,p,s,⟨p1,s1⟩,e,rfl⟩;ac_nf;by_cases c:0<m
 ·refine ifT (decide_eq_true (by omega)) ?_;obtain⟨lp,ls⟩:=aOH p1 s1 c e;have bp:Bd 100000 (p:Int):=Nat.lt_of_le_of_lt lp bd;have bs:Bd 100000 (s:Int):=Nat.lt_of_le_of_lt ls bd;have em:(m:Int).fmod 2=((m % 2:Nat):Int):=by rw[Int.fmod_eq_emod_of_nonneg _ (by decide)];rfl
  have ed:(m:Int).fdiv 2=((m/2:Nat):Int):=by rw[Int.fdiv_eq_ediv_of_nonneg _ (by decide)];rfl
  have cfd:CFd (m:Int) 2:=⟨by decide,by decide⟩;have ev:∀p':Nat,p'*s^(2*(m/2))=A->p'*(s*s)^(m/2)=A:=λp' h=>by rw[<- Nat.pow_two,<- Nat.pow_mul];exact h
  have ss:1<=s*s:=Nat.mul_pos s1 s1;rw[em,ed,cU];by_cases od:m % 2=1
  ·have e1:p*s*s^(2*(m/2))=A:=by rw[Nat.mul_assoc,<- Nat.pow_succ',show(2*(m/2)).succ=m by omega];exact e
   refine⟨by decide,ifT (decide_eq_true (by omega)) ⟨dB bp bs,cfd,?_⟩⟩;by_cases c2:0<m/2
   ·exact ifT (decide_eq_true (by omega)) ⟨dB bs bs,m/2,by omega,rfl,p*s,s*s,⟨Nat.mul_pos p1 s1,ss⟩,ev _ e1,by rw[Int.natCast_mul,Int.natCast_mul]⟩
   ·have z:m/2=0:=by omega
    rw[z] at e1;exact ifF (decide_eq_false (by omega)) ⟨m/2,by omega,rfl,p*s,s,⟨Nat.mul_pos p1 s1,s1⟩,by rw[z];exact e1,by rw[Int.natCast_mul]⟩
  ·have e1:p*s^(2*(m/2))=A:=by rw[show 2*(m/2)=m by omega];exact e
   have c2:0<m/2:=by omega
   exact⟨by decide,ifF (decide_eq_false (by omega)) ⟨cfd,ifT (decide_eq_true (by omega)) ⟨dB bs bs,m/2,by omega,rfl,p,s*s,⟨p1,ss⟩,ev _ e1,by rw[Int.natCast_mul]⟩⟩⟩
 ·refine ifF (decide_eq_false (by omega)) ?_;obtain rfl:m=0:=by omega
  rw[Nat.pow_zero,Nat.mul_one] at e;rw[e];exact bE q
theorem aJD (x:Rat)(n:Nat):(x^n).num=x.num^n/\(x^n).den=x.den^n:=⟨Rat.num_pow x n,Rat.den_pow x n⟩
def aBX:DSp:=λds M Q=>∃(x:Rat)(n:Nat),ds=[FQ x,.int (n:Int)]/\0<x/\BQ 100000 (x^n)/\Q (FQ (x^n)) M
noncomputable abbrev aAn:Stmt:=top 56
theorem aFV:aR ["number","n"] ["number","n"] (aJ aAn):=by ac_rfl
theorem aEl (hF:bT K mg "raised" aAn ["number","n"])(gB:Has P w K mg base 101 "raised_whole" ["number","n"] qF):Has P w K mg base 102 "raised" ["number","n"] aBX:=by
 refine Has.mkZ hF aFV (λds M Q ⟨_,_,z,_⟩=>by rw[z];rfl) λf cdv A outer s H ds M Q E hr h=>?_;obtain⟨x,n,rfl,x0,⟨b1,b2⟩,q⟩:=h;refine⟨_,(aF (aW (aQ kH (aB 1) aC) (aE (aN (aM (aA (aG gB hr (by decide) (aA (aH (aB 0) aC) (aA (eL (aB 1)) aD))) (aA (aG gB hr (by decide) (aA (aH (aB 0) aC) (aA (eL (aB 1)) aD))) aD))))) aS)
  (aE (aN (aM (aA (aG gB hr (by decide) (aA (aH (aB 0) aC) (aA (aB 1) aD))) (aA (aG gB hr (by decide) (aA (aH (aB 0) aC) (aA (aB 1) aD))) aD)))))),?_⟩
 obtain⟨e1,e2⟩:=aJD x n;have xn:0<x.num:=aJL.mpr x0;have xd:=x.den_pos;have k1:((x.num.toNat:Nat):Int)=x.num:=Int.toNat_of_nonneg (by omega);have k2:((x.num.toNat^n:Nat):Int)=(x^n).num:=by rw[e1,Int.natCast_pow,k1]
 have k3:((x.den^n:Nat):Int)=((x^n).den:Int):=by rw[e2]
 rw[show FQ x=D.tup [.int ((x.num.toNat:Nat):Int),.int ((x.den:Nat):Int)] by rw[k1];rfl];ac_nf;refine ifF (decide_eq_false (by omega)) ⟨x.num.toNat,n,rfl,by omega,by rw[k2];exact b1,?_⟩;ac_nf;refine⟨x.den,n,rfl,by omega,by rw[k3];exact b2,?_⟩;ac_nf;rw[k2,k3];exact⟨by decide,bE q⟩
def pI (d:Nat):DSp:=λds M Q=>∃rs,ds=[.tup (bA rs)]/\DpS d rs/\loS rs/\Q (FQ (szS rs)) M
noncomputable abbrev rQ:Stmt:=top 67
theorem iD:aR ["rows","size","row"] ["rows"] (aJ rQ):=by ac_rfl
theorem aBg (hF:bT K mg "move_size" rQ ["rows"])(mK:gG K mg "ONE" aEY)(w_times:Has P w K mg base 102 "times" ["one","other"] oG)(aAF:Has P w K mg base 102 "raised" ["number","n"] aBX):Has P w K mg base 118 "move_size" ["rows"] (pI 8):=by
 have h_times:=w_times;have all:∀d,Has P w K mg base (110+d) "move_size" ["rows"] (pI d):=λd=>by
  induction d with
  |zero=>exact(Has.never hF iD 109).imp λds M Q ⟨rs,_,z,_⟩=>z
  |succ d lB =>
   refine Has.mkZ (k:=110+d) hF iD (λds M Q ⟨a,z,_⟩=>by rw[z];rfl) λf cdv A outer s H ds M Q E hr h=>?_;obtain⟨rs,rfl,dp,⟨gw,dn,one⟩,q⟩:=h;refine⟨_,(aF (aP (i:=1) iD.nd (bG mK))
  (aF (kX PassesOwn.never rfl (aB 0) (aX (i:=2) iD.nd) (aE (aW (aQ (cD hr) (aH (aB 2) aC) aL) (aE (aP (i:=1) iD.nd (aG h_times hr (by omega) (aA (aB 1) (aA (aH (aB 2) aC) aD))))) (aE (aW (aQ (cD hr) (aH (aB 2) aC) aL) (aE (aP (i:=1) iD.nd (aG h_times hr (by omega) (aA (aB 1) (aA (aG aAF hr (by omega) (aA (aG lB hr (by omega) (aA (aH (aB 2) aC) aD)) (aA (aH (aB 2) aC) aD))) aD))))) aS)))))
  (aE (aN (aB 1))))),?_⟩
   ac_nf;refine⟨λi ρ M'=>M'=M/\∃o1,ρ=[some (.tup (bA rs)),some (FQ (szS (rs.take i))),o1],⟨rfl,_,rfl⟩,λi ρ M' _ _ a e=>(by cases e),?_,?_⟩
   ·rintro i d1 ρ M1 hd ⟨rfl,o1,rfl⟩;obtain⟨r,hr',rfl⟩:=gZ hd;have dr:=dp.2 r (mem_of_getElem? hr');have gr:=aEK gw (mem_of_getElem? hr');have on:=one r (mem_of_getElem? hr');have gt:wS (rs.take i):=(aCU.mp (by rw[take_append_drop];exact gw)).1;have zt:=aAb _ gt;have zr:=aGT r gr;have fin:szS (rs.take (i+1))=szS (rs.take i)*szR r:=by rw[fA hr',zC,szS,szS,Rat.mul_one]
    have fdn:dnS (rs.take (i+1))=dnS (rs.take i)+dnR r:=by rw[fA hr',eU,dnS,dnS,Nat.add_zero]
    have ldn:dnS (rs.take (i+1))<=dnS rs:=by have:=eU (rs.take (i+1)) (rs.drop (i+1));rw[take_append_drop] at this;omega
    ac_nf;rw[fin];cases r with
    |pl p =>
     rcases aCR p with⟨a,rfl⟩|⟨w0,cP,e,w1,w2,e1⟩
     ·dsimp only[rwD,plD];rw[dnR,szR] at zr;rw[szR];rw[dnR] at fdn;ac_nf;rw[aO];exact ifT (by decide) (aJy zt zr (.inr (by decide)) (by omega) ⟨rfl,_,rfl⟩)
     ·dsimp only[rwD];rw[e,e1,Rat.mul_one];ac_nf;rw[aAd];ac_nf;rw[aO];refine ifF (decide_eq_false w1) ?_;rw[aO];exact ifF (decide_eq_false w2) ⟨rfl,_,rfl⟩
    |ag n ws =>
     obtain⟨hn,dw⟩:=oB dr;have lo:=aIe gr;rw[wR] at gr;have zw:=aAb _ gr.1;rw[dnR] at fdn zr on;rw[szR] at zr ⊢;dsimp only[rwD];ac_nf;rw[aO];refine ifF (by decide) ?_;rw[aO];refine ifT (by decide) ⟨ws,rfl,dw,lo,?_⟩;ac_nf;refine⟨_,n,rfl,zw.pos',zr.bq.mono (by omega),?_⟩;ac_nf;exact aJy zt zr (by omega) (by omega) ⟨rfl,_,rfl⟩
    |kp ws =>
     rw[szR,Rat.mul_one];dsimp only[rwD];ac_nf;rw[aO];refine ifF (by decide) ?_;rw[aO];exact ifF (by decide) ⟨rfl,_,rfl⟩
    |ev ws =>
     rw[szR,Rat.mul_one];dsimp only[rwD];ac_nf;rw[aO];refine ifF (by decide) ?_;rw[aO];exact ifF (by decide) ⟨rfl,_,rfl⟩
   ·rintro ρ M' ⟨rfl,o1,rfl⟩;rw[bF,take_length];exact bE q
 exact all 8
noncomputable def q34:D:=.tup [.int 3,.int 4]
theorem aLK:q34=FQ (3/4):=by unfold q34 FQ;rw[show(3/4:Rat).num=3 by decide +kernel,show(3/4:Rat).den=4 by decide +kernel];rfl
theorem aQj (x:Rat):(!decide ((3/4:Rat)<x))=decide (4*x.num<=3*(x.den:Int)):=by
 have h:=ltQ (3/4) x;rw[show(3/4:Rat).num=3 by decide +kernel,show(3/4:Rat).den=4 by decide +kernel] at h;by_cases c:(3/4:Rat)<x
 ·rw[decide_eq_true c];have:=h.mpr c;exact(decide_eq_false (by omega)).symm
 ·rw[decide_eq_false c];have:¬3*(x.den:Int)<x.num*((4:Nat):Int):=λz=>c (h.mp z);exact(decide_eq_true (by omega)).symm
def pH:DSp:=λds M Q=>∃rs,ds=[.tup (bA rs)]/\DpS 8 rs/\vaS rs/\(dnS rs<=300->loS rs)/\Q (.bl (enB rs)) M
noncomputable abbrev qW:Stmt:=top 66
theorem vZ:aR ["rows","size"] ["rows"] (aJ qW):=by ac_rfl
theorem aBz (hF:bT K mg "can_go_on" qW ["rows"])(kA:gG K mg "MOST_IN_A_ROUND" (.int 300))(mK:gG K mg "ONE" aEY)(mR:gG K mg "LEAST_CHANGE" (.tup [.int 3,.int 4]))(gL:Has P w K mg base 118 "how_many_done" ["rows"] (aCY 8))(vF:Has P w K mg base 118 "draws" ["rows"] (aBa 8))(lB:Has P w K mg base 118 "move_size" ["rows"] (pI 8))(aCq:Has P w K mg base 101 "below" ["one","other"] aDP):Has P w K mg base 119 "can_go_on" ["rows"] pH:=by
 refine Has.mkZ hF vZ (λds M Q ⟨_,z,_⟩=>by rw[z];rfl) λf cdv A outer s H ds M Q E hr h=>?_;obtain⟨rs,rfl,dp,va,lo,q⟩:=h;refine⟨_,(aF (aW (fY (kL (aQ gA (aG gL hr (by decide) (aA (aB 0) aD)) (bG kA)) (iB (kS (dD (aG vF hr (by decide) (aA (aB 0) aD))))))) (aE (aN lM)) aS)
  (aF (aP (i:=1) vZ.nd (aG lB hr (by decide) (aA (aB 0) aD)))
  (aE (aN (zQ (cN (cD hr) (aB 1) (bG mK)) (eV (vU (aG aCq hr (by decide) (aA (bG mR) (aA (aB 1) aD)))))))))),?_⟩
 unfold enB at q;ac_nf;refine⟨rs,rfl,dp,?_⟩;ac_nf;by_cases c:dnS rs<=300
 ·rw[decide_eq_true c,Bool.true_and] at q;refine ifF (decide_eq_false (by omega)) ⟨rs,rfl,dp,va,?_⟩;ac_nf;cases hd:drS rs with
  |false =>
   rw[hd,Bool.and_false] at q;exact ifT rfl (bE q)
  |true =>
   rw[hd,Bool.and_true] at q;have lo:=lo c;refine ifF rfl ⟨rs,rfl,dp,lo,?_⟩;ac_nf;rw[show aEY=FQ 1 from rfl,aCp];by_cases c1:szS rs=1
   ·rw[decide_eq_true c1,Bool.true_or] at q;exact ifT (decide_eq_true c1) (bE q)
   ·rw[decide_eq_false c1,Bool.false_or] at q;rw[show(D.tup [.int 3,.int 4])=FQ (3/4) from aLK];refine ifF (decide_eq_false c1) ⟨_,_,4,_,rfl,trivial,⟨by unfold Bd;decide +kernel,by unfold Bd;decide +kernel⟩,(aAb _ lo.1).bq,by omega,?_⟩;ac_nf;rw[aQj];exact bE q
 ·rw[decide_eq_false c,Bool.false_and] at q;exact ifT (decide_eq_true (by omega)) (bE q)
theorem lA (ts:List Th):(bZ ts).length=ts.length:=by rw[hZ,length_map]
theorem aAK {ts:List Th}{i:Nat}{d:D}(h:(bZ ts)[i]?=some d):∃r,ts[i]?=some r/\d=thD r:=by
 rw[hZ,getElem?_map] at h;cases e:ts[i]? with
 |none=>rw[e] at h;cases h
 |some r=>rw[e] at h;cases h;exact⟨r,rfl,rfl⟩
theorem aFl:∀ts:List Th,gdS ts=ts.map gdR
 |[]=>by rw[gdS];rfl
 |t::ts=>by rw[gdS,aFl ts,map_cons]
theorem pY {ts:List Th}{r:Th}(h:r∈ts):gdR r∈gdS ts:=by rw[aFl];exact List.mem_map_of_mem h
noncomputable def lkB (r:Th)(ws:List Th)(a:Int)(ar:List Str)(z:Int ⊕ Int):Int ⊕ Int :=
 if qE r ar then match z with
  |.inl b=>if isE r && !enB (gdS ws) then .inr a else .inl (b+1)
  |.inr c=>.inr c
 else .inr a
mutual
noncomputable def lkR:Th->Int->List Str->Int ⊕ Int
 |.pl _,a,_=>.inl (a+1)
 |.ag n ws,a,ar=>lkB (.ag n ws) ws a ar (lkS ws (a+1) (ar++[("again":Str)]))
 |.kp ws,a,ar=>lkB (.kp ws) ws a ar (lkS ws (a+1) (ar++[("keep":Str)]))
 |.ev ws,a,ar=>lkB (.ev ws) ws a ar (lkS ws (a+1) (ar++[("ever":Str)]))
 |.bad _,a,_=>.inr a
noncomputable def lkS:List Th->Int->List Str->Int ⊕ Int
 |[],a,_=>.inl a
 |r::rs,a,ar=>match lkR r a ar with
  |.inl b=>lkS rs b ar
  |.inr c=>.inr c
end
theorem aCX:∀(xs ys:List Th)(a:Int) (ar:List Str),lkS (xs++ys) a ar=match lkS xs a ar with|.inl b=>lkS ys b ar|.inr c=>.inr c
 |[],ys,a,ar=>by rw[nil_append,lkS]
 |x::xs,ys,a,ar=>by
  rw[cons_append,lkS,lkS];cases lkR x a ar with
  |inl b=>exact aCX xs ys b ar
  |inr c=>rfl
theorem aIi {rs:List Th}{i:Nat}{r:Th}{a b:Int}{ar:List Str}(hr:rs[i]?=some r)(h:lkS (rs.take i) a ar=.inl b):lkS (rs.take (i+1)) a ar=lkR r b ar:=by
 rw[fA hr,aCX,h];dsimp only;rw[lkS];cases lkR r b ar with
 |inl c=>dsimp only;rw[lkS]
 |inr c=>rfl
theorem aK1 {rs:List Th}{i:Nat}{r:Th}{a b:Int}{ar:List Str}(hr:rs[i]?=some r)(h:lkS (rs.take i) a ar=.inl b){c:Int}(hc:lkR r b ar=.inr c):lkS rs a ar=.inr c:=by rw[<- take_append_drop (i+1) rs,aCX,aIi hr h,hc]
theorem aPx {rs:List Th}{i:Nat}{r:Th}{a b z:Int}{ar:List Str}(hr:rs[i]?=some r)(h:lkS (rs.take i) a ar=.inl b)(hz:lkS rs a ar=.inl z):∃c,lkR r b ar=.inl c:=by
 cases hc:lkR r b ar with
 |inl c=>exact⟨c,rfl⟩
 |inr c=>rw[aK1 hr h hc] at hz;cases hz
theorem DpS.up8 {d:Nat}{rs:List Rw}(h:DpS d rs)(l:d<=8):DpS 8 rs:=by
 cases d with
 |zero=>exact h.elim
 |succ d =>
  have l7:d<=7:=by omega
  exact⟨h.1,λr hr=>dL (d':=7) (h.2 r hr) l7⟩
theorem pX {r:Th}{ws:List Th}{a c:Int}{ar:List Str}{z:Int ⊕ Int}(h:lkB r ws a ar z=.inl c):qE r ar=true/\(isE r && !enB (gdS ws))=false/\z=.inl (c-1):=by
 unfold lkB at h;cases hr:qE r ar with
 |false=>rw[hr] at h;cases h
 |true =>
  rw[hr,if_pos rfl] at h;cases z with
  |inr c=>cases h
  |inl b =>
   dsimp only at h;cases he:isE r && !enB (gdS ws) with
   |true=>rw[he] at h;cases h
   |false =>
    rw[he] at h;refine⟨rfl,rfl,?_⟩;have:b+1=c:=Sum.inl.inj h;rw[<- this];congr 1;omega
noncomputable def evI (ar:List Str):Bool:=ar.any (· == "ever")
theorem aE8 (ar:List Str)(x:Str):evI (ar++[x]) = (evI ar||(x == "ever")):=by unfold evI;rw[List.any_append,any_cons,any_nil,Bool.or_false]
mutual
def vaT:Th->Prop
 |.pl p=>plV p
 |.ag n ts=>n<=12/\dE ts
 |.kp ts=>dE ts
 |.ev ts=>dE ts
 |.bad d=>aDh d/\bB 30 d=true
def dE:List Th->Prop
 |[]=>True
 |t::ts=>vaT t/\dE ts
end
theorem jX:∀{rs:List Th}{r:Th},dE rs->r∈rs->vaT r
 |x::xs,r,h,m=>by
  rw[dE] at h;rcases List.mem_cons.mp m with rfl|z
  ·exact h.1
  ·exact jX h.2 z
mutual
theorem aPT:∀t:Th,vaT t->vaR (gdR t)
 |.pl p,h=>by rw[vaT] at h;rw[gdR,vaR];exact h
 |.ag n ts,h=>by rw[vaT] at h;rw[gdR,vaR];exact⟨h.1,xB ts h.2⟩
 |.kp ts,h=>by rw[vaT] at h;rw[gdR,vaR];exact xB ts h
 |.ev ts,h=>by rw[vaT] at h;rw[gdR,vaR];exact xB ts h
 |.bad d,_=>by rw[gdR,vaR];exact⟨trivial,λ_ e=>by cases e⟩
theorem xB:∀ts:List Th,dE ts->vaS (gdS ts)
 |[],_=>by rw[gdS,vaS];trivial
 |t::ts,h=>by rw[dE] at h;rw[gdS,vaS];exact⟨aPT t h.1,xB ts h.2⟩
end
mutual
theorem aM6:∀(t:Th)(a:Int) (ar:List Str) (b:Int),lkR t a ar=.inl b->okT t
 |.pl _,_,_,_,_=>by rw[okT];trivial
 |.ag n ts,a,ar,b,h=>by rw[lkR] at h;rw[okT];exact qJ ts _ _ _ (pX h).2.2
 |.kp ts,a,ar,b,h=>by rw[lkR] at h;rw[okT];exact qJ ts _ _ _ (pX h).2.2
 |.ev ts,a,ar,b,h=>by rw[lkR] at h;rw[okT];exact qJ ts _ _ _ (pX h).2.2
 |.bad _,_,_,_,h=>by rw[lkR] at h;cases h
theorem qJ:∀(ts:List Th)(a:Int) (ar:List Str) (b:Int),lkS ts a ar=.inl b->okS ts
 |[],_,_,_,_=>by rw[okS];trivial
 |t::ts,a,ar,b,h=>by
  rw[lkS] at h;rw[okS];cases e:lkR t a ar with
  |inl c=>rw[e] at h;exact⟨aM6 t a ar c e,qJ ts c ar b h⟩
  |inr c=>rw[e] at h;cases h
end
mutual
def boR:Th->Prop
 |.pl _=>True
 |.ag _ ws=>boS ws
 |.kp ws=>boS ws
 |.ev ws=>boS ws/\∀a ar b,evI ar=true->lkS ws a ar=.inl b->dnS (gdS ws)<=300->loS (gdS ws)
 |.bad _=>True
def boS:List Th->Prop
 |[]=>True
 |r::rs=>boR r/\boS rs
end
theorem aCb:∀{rs:List Th}{r:Th},boS rs->r∈rs->boR r
 |x::xs,r,h,m=>by
  rw[boS] at h;rcases List.mem_cons.mp m with rfl|z
  ·exact h.1
  ·exact aCb h.2 z
theorem sR {r:Th}{ar:List Str}(h:qE r ar=true):ar.length<4:=by unfold qE at h;exact of_decide_eq_true (Bool.and_eq_true_iff.mp h).1
def LkD (d:Nat)(ar:List Str)(rs:List Th):Prop:=(ar.length<=4/\5<=d+ar.length)/\hmS (gdS rs)<=900
theorem aCv:∀{rs:List Rw}{r:Rw},r∈rs->hmR r<=hmS rs
 |x::xs,r,m=>by
  rw[hmS];rcases List.mem_cons.mp m with rfl|z
  ·omega
  ·have:=aCv z;omega
theorem LkD.go {d:Nat}{ar:List Str}{rs ws:List Th}{r:Th}(h:LkD (d+1) ar rs)(m:r∈rs)(e:hmR (gdR r)=1+hmS (gdS ws))(l:ar.length<4)(x:Str):LkD d (ar++[x]) ws:=by have:=aCv (pY m);obtain⟨⟨h1,h2⟩,h3⟩:=h;unfold LkD;rw[length_append,length_singleton];exact⟨⟨by omega,by omega⟩,by omega⟩
theorem vX:∀rs:List Rw,rs.length<=hmS rs
 |[]=>Nat.zero_le _
 |r::rs=>by
  rw[hmS,length_cons];have:=vX rs;have:1<=hmR r:=by cases r<;>rw[hmR]<;>omega
  omega
theorem aHR {r:Th}{ar:List Str}(h:qE r ar=true):ar.length<4:=by unfold qE at h;exact of_decide_eq_true (Bool.and_eq_true_iff.mp h).1
mutual
theorem aNp:∀(t:Th)(a:Int) (ar:List Str) (b:Int),lkR t a ar=.inl b->vaT t->hmR (gdR t)<=900->Dp (4-ar.length) (gdR t)
 |.pl p,a,ar,b,_,_,_=>by rw[gdR];cases 4-ar.length<;>trivial
 |.ag n ws,a,ar,b,h,v,m=>by rw[lkR] at h;rw[vaT] at v;rw[gdR] at m ⊢;rw[hmR] at m;obtain⟨k1,_,k3⟩:=pX h;have l4:=aHR k1;have ih:=xS ws _ _ _ k3 v.2 (by omega);rw[length_append,length_singleton] at ih;have:=vX (gdS ws);obtain⟨k,ek⟩:∃k,4-ar.length=k+1:=⟨3-ar.length,by omega⟩;rw[show 4-(ar.length+1)=k by omega] at ih;rw[ek];exact⟨by omega,by omega,ih⟩
 |.kp ws,a,ar,b,h,v,m=>by rw[lkR] at h;rw[vaT] at v;rw[gdR] at m ⊢;rw[hmR] at m;obtain⟨k1,_,k3⟩:=pX h;have l4:=aHR k1;have ih:=xS ws _ _ _ k3 v (by omega);rw[length_append,length_singleton] at ih;have:=vX (gdS ws);obtain⟨k,ek⟩:∃k,4-ar.length=k+1:=⟨3-ar.length,by omega⟩;rw[show 4-(ar.length+1)=k by omega] at ih;rw[ek];exact⟨by omega,ih⟩
 |.ev ws,a,ar,b,h,v,m=>by rw[lkR] at h;rw[vaT] at v;rw[gdR] at m ⊢;rw[hmR] at m;obtain⟨k1,_,k3⟩:=pX h;have l4:=aHR k1;have ih:=xS ws _ _ _ k3 v (by omega);rw[length_append,length_singleton] at ih;have:=vX (gdS ws);obtain⟨k,ek⟩:∃k,4-ar.length=k+1:=⟨3-ar.length,by omega⟩;rw[show 4-(ar.length+1)=k by omega] at ih;rw[ek];exact⟨by omega,ih⟩
 |.bad d,a,ar,b,h,_,_=>by rw[lkR] at h;cases h
theorem xS:∀(ts:List Th)(a:Int) (ar:List Str) (b:Int),lkS ts a ar=.inl b->dE ts->hmS (gdS ts)<=900->∀r∈gdS ts,Dp (4-ar.length) r
 |[],_,_,_,_,_,_,r,m=>by rw[gdS] at m;cases m
 |t::ts,a,ar,b,h,v,m,r,mr=>by
  rw[lkS] at h;rw[dE] at v;rw[gdS] at m mr;rw[hmS] at m;cases e:lkR t a ar with
  |inl c =>
   rw[e] at h;rcases List.mem_cons.mp mr with er|mr
   ·rw[er];exact aNp t a ar c e v.1 (by omega)
   ·exact xS ts c ar b h v.2 (by omega) r mr
  |inr c=>rw[e] at h;cases h
end
theorem aFE {ts:List Th}{a b:Int}{ar:List Str}(h:lkS ts a ar=.inl b)(v:dE ts)(m:hmS (gdS ts)<=900):DpS 8 (gdS ts) :=
 ⟨by have:=vX (gdS ts);omega,λr hr=>dL (d':=7) (xS ts a ar b h v m r hr) (by omega)⟩
def zN (d:Nat):DSp:=λds M Q=>∃rs a ar,ds=[.tup (bZ rs),.int a,.tup (ar.map D.str)]/\(LkD d ar rs/\ar.length<=1000)/\(dE rs/\boS rs)/\∃b,lkS rs a ar=.inl b/\Q (.int b) M
noncomputable abbrev kC:Stmt:=top 64
theorem bL:aR ["rows","number","around","at","row","behind"] ["rows","number","around"] (aJ kC):=by ac_rfl
theorem oF (hF:bT K mg "look_at_rows" kC ["rows","number","around"])(eQ:Has P w K mg base 105 "is_plain_row" ["thing"] lO)(jF:Has P w K mg base 102 "is_block" ["thing"] sB)(jB:Has P w K mg base 101 "has_room" ["block","around"] rK)(w_rows_within:Has P w K mg base 101 "rows_within" ["row"] tY)(hU:Has P w K mg base 119 "can_go_on" ["rows"] pH):∀d,d<=8->Has P w K mg base (120+d) "look_at_rows" ["rows","number","around"] (zN d):=by
 intro d;have aT:=w_rows_within
 induction d with
 |zero=>exact λ_=>(Has.never hF bL 119).imp λds M Q ⟨rs,a,ar,_,z,_⟩=>by have:=z.1.1;omega
 |succ d ih =>
  intro l8;have cE:=ih (by omega);refine Has.mkZ (k:=120+d) hF bL (λds M Q ⟨a,b,c,z,_⟩=>by rw[z];rfl) λf cdv A outer s H ds M Q E hr h=>?_;obtain⟨rs,a,ar,rfl,⟨dp,la⟩,⟨va,bo⟩,z,hz,q⟩:=h;refine⟨_,(aF (aP (i:=3) bL.nd (aB 1))
  (aF (kX PassesOwn.never rfl (aB 0) (aX (i:=4) bL.nd) (aE (aW (dD (aG eQ hr (by omega) (aA (aB 4) aD))) (aE (nX (i:=3) aAE bL.nd aC)) (aE (aW (fY (fU (dD (aG jF hr (by omega) (aA (aB 4) aD))) (fF (dD (aG jB hr (by omega) (aA (aB 4) (aA (aB 2) aD))))))) (aF (aP (i:=5) bL.nd (aG cE hr (by omega) (aA (aG aT hr (by omega) (aA (aB 4) aD)) (aA (aK cB (aB 3) aC) (aA (aK gQ (aB 2) (aM (aA (aH (aB 4) aC) aD))) aD)))))
  (aF (aW (fY (fU (aQ (cD hr) (aH (aB 4) aC) aL) (fF (kS (dD (aG hU hr (by omega) (aA (aH (aB 4) aC) aD))))))) (aE mB) aS)
  (aE (aP (i:=3) bL.nd (aK cB (aB 5) aC))))) (aE mB))))))
  (aE (aN (aB 3))))),?_⟩
  ac_nf;refine⟨λi ρ M'=>M'=M/\∃b o1 o2,lkS (rs.take i) a ar=.inl b/\ρ=[some (.tup (bZ rs)),some (.int a),some (.tup (ar.map D.str)),some (.int b),o1,o2],⟨rfl,a,none,none,by rw[take_zero,lkS],rfl⟩,λi ρ M' _ _ a e=>(by cases e),?_,?_⟩
  ·rintro i d1 ρ M' hd ⟨rfl,b,o1,o2,hb,rfl⟩;obtain⟨r,hr',rfl⟩:=aAK hd;have mr:=mem_of_getElem? hr';have dr:∀ws,hmR (gdR r)=1+hmS (gdS ws)->ar.length<4->∀x,LkD d (ar++[x]) ws:=λws=>dp.go mr;have hr9:hmR (gdR r)<=900:=Nat.le_trans (aCv (pY mr)) dp.2;have vr:=jX va mr;have br:=aCb bo mr;obtain⟨c,hc⟩:=aPx hr' hb hz;have nx:=(aIi hr' hb).trans hc;have pv:∀p,r=.pl p->plV p:=λp e=>by rw[e,vaT] at vr;exact vr
   have bv:∀d,r=.bad d->aDh d:=λd e=>by rw[e,vaT] at vr;exact vr.1
   ac_nf;refine⟨r,rfl,pv,bv,?_⟩;cases r with
   |pl p =>
    rw[lkR] at hc;ac_nf;exact ifT rfl ⟨rfl,_,_,_,nx.trans (congrArg Sum.inl (Sum.inl.inj hc).symm),rfl⟩
   |ag n ws =>
    rw[lkR] at hc;rw[vaT] at vr;rw[gdR,hmR] at dr hr9;rw[boR] at br;obtain⟨k1,k2,k3⟩:=pX hc;have l4:=sR k1;ac_nf;refine ifF rfl ⟨_,rfl,rfl,(λ_ _ e=>by cases e;exact vr.1),bv,?_⟩;ac_nf;refine ifT rfl ⟨_,_,rfl,rfl,?_⟩;rw[k1];refine ifT rfl ⟨_,ws,rfl,rfl,?_⟩;dsimp only[thD];ac_nf;refine⟨by decide,by rw[length_map];omega,ws,b+1,ar++[("again":Str)],by rw[map_append];rfl,⟨dr ws rfl l4 _,by rw[length_append];show ar.length+1<=1000;omega⟩,⟨vr.2,br⟩,_,k3,?_⟩;ac_nf;rw[aO];exact ifF (by decide) ⟨rfl,_,_,_,nx,by rw[show c-1+1=c by omega]⟩
   |kp ws =>
    rw[lkR] at hc;rw[vaT] at vr;rw[gdR,hmR] at dr hr9;rw[boR] at br;obtain⟨k1,k2,k3⟩:=pX hc;have l4:=sR k1;ac_nf;refine ifF rfl ⟨_,rfl,rfl,(λ_ _ e=>by cases e),bv,?_⟩;ac_nf;refine ifT rfl ⟨_,_,rfl,rfl,?_⟩;rw[k1];refine ifT rfl ⟨_,ws,rfl,rfl,?_⟩;dsimp only[thD];ac_nf;refine⟨by decide,by rw[length_map];omega,ws,b+1,ar++[("keep":Str)],by rw[map_append];rfl,⟨dr ws rfl l4 _,by rw[length_append];show ar.length+1<=1000;omega⟩,⟨vr,br⟩,_,k3,?_⟩;ac_nf;rw[aO];exact ifF (by decide) ⟨rfl,_,_,_,nx,by rw[show c-1+1=c by omega]⟩
   |ev ws =>
    rw[lkR] at hc;rw[vaT] at vr;rw[gdR,hmR] at dr hr9;rw[boR] at br;obtain⟨k1,k2,k3⟩:=pX hc;have l4:=sR k1;ac_nf;refine ifF rfl ⟨_,rfl,rfl,(λ_ _ e=>by cases e),bv,?_⟩;ac_nf;refine ifT rfl ⟨_,_,rfl,rfl,?_⟩;rw[k1];refine ifT rfl ⟨_,ws,rfl,rfl,?_⟩;dsimp only[thD];ac_nf;refine⟨by decide,by rw[length_map];omega,ws,b+1,ar++[("ever":Str)],by rw[map_append];rfl,⟨dr ws rfl l4 _,by rw[length_append];show ar.length+1<=1000;omega⟩,⟨vr,br.1⟩,_,k3,?_⟩;ac_nf;rw[aO];have gb:=br.2 _ _ _ (by rw[aE8];exact Bool.or_true _) k3;rw[wG ws (qJ _ _ _ _ k3)];refine ifT (by decide) ⟨gdS ws,rfl,aFE k3 vr (by omega),xB ws vr,gb,?_⟩;ac_nf;have en:enB (gdS ws)=true:=by
     cases he:enB (gdS ws) with
     |true=>rfl
     |false=>rw[he] at k2;cases k2
    rw[en];exact ifF rfl ⟨rfl,_,_,_,nx,by rw[show c-1+1=c by omega]⟩
   |bad d =>
    rw[lkR] at hc;cases hc
  ·rintro ρ M' ⟨rfl,b,o1,o2,hb,rfl⟩;rw[lA,take_length,hz] at hb;cases hb;exact bE q
def aKG (d:Nat):List D->DM->Int->Prop:=λds M i=>∃rs a ar,ds=[.tup (bZ rs),.int a,.tup (ar.map D.str)]/\(LkD d ar rs/\ar.length<=1000)/\(dE rs/\boS rs)/\lkS rs a ar=.inr i
theorem wV {C_NoRow:Addr}(hF:bT K mg "look_at_rows" kC ["rows","number","around"])(fG:qD P w K mg base "NoRow" C_NoRow "row")(eQ:Has P w K mg base 105 "is_plain_row" ["thing"] lO)(jF:Has P w K mg base 102 "is_block" ["thing"] sB)(jB:Has P w K mg base 101 "has_room" ["block","around"] rK)(w_rows_within:Has P w K mg base 101 "rows_within" ["row"] tY)(hU:Has P w K mg base 119 "can_go_on" ["rows"] pH):∀d,d<=8->fW P w K mg base (120+d) "look_at_rows" ["rows","number","around"] C_NoRow "row" (aKG d):=by
 intro d;have aT:=w_rows_within
 induction d with
 |zero=>exact λ_=>(fW.never hF fG bL 119).imp λds M i ⟨rs,a,ar,_,z,_⟩=>by have:=z.1.1;omega
 |succ d ih =>
  intro l8;have iA:=ih (by omega);have cE:=oF hF eQ jF jB w_rows_within hU d (by omega);refine fW.mkZ (k:=120+d) hF fG bL (λds M i ⟨a,b,c,z,_⟩=>by rw[z];rfl) λf cdv A outer s H ds M iw E hr h hRO hPO=>?_;obtain⟨rs,a,ar,rfl,⟨dp,la⟩,⟨va,bo⟩,hz⟩:=h;refine⟨_,(aF (aP (i:=3) bL.nd (aB 1))
  (aF (kX PassesOwn.leaving rfl (aB 0) (aX (i:=4) bL.nd) (aE (aW (dD (aG eQ hr (by omega) (aA (aB 4) aD))) (aE (nX (i:=3) aAE bL.nd aC)) (aE (aW (fY (fU (dD (aG jF hr (by omega) (aA (aB 4) aD))) (fF (dD (aG jB hr (by omega) (aA (aB 4) (aA (aB 2) aD))))))) (aF (aEP (aP (i:=5) bL.nd (wM iA hr (by omega) hPO (aA (aG aT hr (by omega) (aA (aB 4) aD)) (aA (aK cB (aB 3) aC) (aA (aK gQ (aB 2) (aM (aA (aH (aB 4) aC) aD))) aD)))))
  (aP (i:=5) bL.nd (aG cE hr (by omega) (aA (aG aT hr (by omega) (aA (aB 4) aD)) (aA (aK cB (aB 3) aC) (aA (aK gQ (aB 2) (aM (aA (aH (aB 4) aC) aD))) aD))))))
  (aF (aW (fY (fU (aQ (cD hr) (aH (aB 4) aC) aL) (fF (kS (dD (aG hU hr (by omega) (aA (aH (aB 4) aC) aD))))))) (aE (oW hRO hr (by first|decide|omega) (aB 3))) aS)
  (aE (aP (i:=3) bL.nd (aK cB (aB 5) aC))))) (aE (oW hRO hr (by first|decide|omega) (aB 3))))))))
  (aE (aN (aB 3))))),?_⟩
  ac_nf;refine⟨λi ρ M'=>M'=M/\∃b o1 o2,lkS (rs.take i) a ar=.inl b/\ρ=[some (.tup (bZ rs)),some (.int a),some (.tup (ar.map D.str)),some (.int b),o1,o2],⟨rfl,a,none,none,by rw[take_zero,lkS],rfl⟩,λi ρ M' _ _ a e=>(by cases e),?_,?_⟩
  ·rintro i d1 ρ M' hd ⟨rfl,b,o1,o2,hb,rfl⟩;obtain⟨r,hr',rfl⟩:=aAK hd;have mr:=mem_of_getElem? hr';have dr:∀ws,hmR (gdR r)=1+hmS (gdS ws)->ar.length<4->∀x,LkD d (ar++[x]) ws:=λws=>dp.go mr;have hr9:hmR (gdR r)<=900:=Nat.le_trans (aCv (pY mr)) dp.2;have vr:=jX va mr;have br:=aCb bo mr;have nx:=aIi hr' hb;have ex:∀c,lkR r b ar=.inr c->c=iw:=λc h=>by have:=aK1 hr' hb h;rw[hz] at this;exact(Sum.inr.inj this).symm
   have pv:∀p,r=.pl p->plV p:=λp e=>by rw[e,vaT] at vr;exact vr
   have bv:∀d,r=.bad d->aDh d:=λd e=>by rw[e,vaT] at vr;exact vr.1
   ac_nf;refine⟨r,rfl,pv,bv,?_⟩;cases r with
   |pl p =>
    rw[lkR] at nx;ac_nf;exact ifT rfl ⟨rfl,_,_,_,nx,rfl⟩
   |ag n ws =>
    rw[lkR] at nx ex;rw[vaT] at vr;rw[gdR,hmR] at dr hr9;rw[boR] at br;unfold lkB at nx ex;ac_nf;refine ifF rfl ⟨_,rfl,rfl,(λ_ _ e=>by cases e;exact vr.1),bv,?_⟩;ac_nf;refine ifT rfl ⟨_,_,rfl,rfl,?_⟩;cases k1:qE (.ag n ws) ar with
    |false =>
     rw[k1] at ex;exact ifF rfl ⟨ex b rfl,.refl _⟩
    |true =>
     have l4:=sR k1;have len:(ar++[("again":Str)]).length<=1000:=by rw[length_append];show ar.length+1<=1000;omega
     have lm:(ar.map D.str).length+1<=1000:=by rw[length_map];omega
     have am:(ar++[("again":Str)]).map D.str = ar.map D.str++[D.str "again"]:=by rw[map_append];rfl
     rw[k1,if_pos rfl] at nx ex;refine ifT rfl ?_;cases k3:lkS ws (b+1) (ar++[("again":Str)]) with
     |inr c =>
      rw[k3] at ex;refine .inl ⟨_,ws,rfl,rfl,?_⟩;dsimp only[thD];ac_nf;exact⟨by decide,lm,c,⟨ws,b+1,ar++[("again":Str)],by rw[am],⟨dr ws rfl l4 _,len⟩,⟨vr.2,br⟩,k3⟩,λM2 sb=>⟨ex c rfl,sb⟩⟩
     |inl c =>
      rw[k3] at nx ex;dsimp only at nx ex;refine .inr ⟨_,ws,rfl,rfl,?_⟩;dsimp only[thD];ac_nf;refine⟨by decide,lm,ws,b+1,ar++[("again":Str)],by rw[am],⟨dr ws rfl l4 _,len⟩,⟨vr.2,br⟩,c,k3,?_⟩;ac_nf;rw[aO];exact ifF (by decide) ⟨rfl,_,_,_,nx,rfl⟩
   |kp ws =>
    rw[lkR] at nx ex;rw[vaT] at vr;rw[gdR,hmR] at dr hr9;rw[boR] at br;unfold lkB at nx ex;ac_nf;refine ifF rfl ⟨_,rfl,rfl,(λ_ _ e=>by cases e),bv,?_⟩;ac_nf;refine ifT rfl ⟨_,_,rfl,rfl,?_⟩;cases k1:qE (.kp ws) ar with
    |false =>
     rw[k1] at ex;exact ifF rfl ⟨ex b rfl,.refl _⟩
    |true =>
     have l4:=sR k1;have len:(ar++[("keep":Str)]).length<=1000:=by rw[length_append];show ar.length+1<=1000;omega
     have lm:(ar.map D.str).length+1<=1000:=by rw[length_map];omega
     have am:(ar++[("keep":Str)]).map D.str = ar.map D.str++[D.str "keep"]:=by rw[map_append];rfl
     rw[k1,if_pos rfl] at nx ex;refine ifT rfl ?_;cases k3:lkS ws (b+1) (ar++[("keep":Str)]) with
     |inr c =>
      rw[k3] at ex;refine .inl ⟨_,ws,rfl,rfl,?_⟩;dsimp only[thD];ac_nf;exact⟨by decide,lm,c,⟨ws,b+1,ar++[("keep":Str)],by rw[am],⟨dr ws rfl l4 _,len⟩,⟨vr,br⟩,k3⟩,λM2 sb=>⟨ex c rfl,sb⟩⟩
     |inl c =>
      rw[k3] at nx ex;dsimp only at nx ex;refine .inr ⟨_,ws,rfl,rfl,?_⟩;dsimp only[thD];ac_nf;refine⟨by decide,lm,ws,b+1,ar++[("keep":Str)],by rw[am],⟨dr ws rfl l4 _,len⟩,⟨vr,br⟩,c,k3,?_⟩;ac_nf;rw[aO];exact ifF (by decide) ⟨rfl,_,_,_,nx,rfl⟩
   |ev ws =>
    rw[lkR] at nx ex;rw[vaT] at vr;rw[gdR,hmR] at dr hr9;rw[boR] at br;unfold lkB at nx ex;ac_nf;refine ifF rfl ⟨_,rfl,rfl,(λ_ _ e=>by cases e),bv,?_⟩;ac_nf;refine ifT rfl ⟨_,_,rfl,rfl,?_⟩;cases k1:qE (.ev ws) ar with
    |false =>
     rw[k1] at ex;exact ifF rfl ⟨ex b rfl,.refl _⟩
    |true =>
     have l4:=sR k1;have len:(ar++[("ever":Str)]).length<=1000:=by rw[length_append];show ar.length+1<=1000;omega
     have lm:(ar.map D.str).length+1<=1000:=by rw[length_map];omega
     have am:(ar++[("ever":Str)]).map D.str = ar.map D.str++[D.str "ever"]:=by rw[map_append];rfl
     rw[k1,if_pos rfl] at nx ex;refine ifT rfl ?_;cases k3:lkS ws (b+1) (ar++[("ever":Str)]) with
     |inr c =>
      rw[k3] at ex;refine .inl ⟨_,ws,rfl,rfl,?_⟩;dsimp only[thD];ac_nf;exact⟨by decide,lm,c,⟨ws,b+1,ar++[("ever":Str)],by rw[am],⟨dr ws rfl l4 _,len⟩,⟨vr,br.1⟩,k3⟩,λM2 sb=>⟨ex c rfl,sb⟩⟩
     |inl c =>
      rw[k3] at nx ex;dsimp only at nx ex;refine .inr ⟨_,ws,rfl,rfl,?_⟩;dsimp only[thD];ac_nf;refine⟨by decide,lm,ws,b+1,ar++[("ever":Str)],by rw[am],⟨dr ws rfl l4 _,len⟩,⟨vr,br.1⟩,c,k3,?_⟩;ac_nf;rw[aO];have gb:=br.2 _ _ _ (by rw[aE8];exact Bool.or_true _) k3;rw[wG ws (qJ _ _ _ _ k3)];refine ifT (by decide) ⟨gdS ws,rfl,aFE k3 vr (by omega),xB ws vr,gb,?_⟩;ac_nf;cases he:enB (gdS ws) with
      |true =>
       rw[he] at nx;exact ifF rfl ⟨rfl,_,_,_,nx,rfl⟩
      |false =>
       rw[he] at ex;exact ifT rfl ⟨ex b rfl,.refl _⟩
   |bad d =>
    rw[lkR] at ex;ac_nf;refine ifF rfl ⟨_,rfl,rfl,(λ_ _ e=>by cases e),bv,?_⟩;ac_nf;exact ifF rfl ⟨ex b rfl,.refl _⟩
  ·rintro ρ M' ⟨rfl,b,o1,o2,hb,rfl⟩;rw[lA,take_length,hz] at hb;cases hb
def kU:DSp:=λds M Q=>∃rs,ds=[.tup (bZ rs)]/\(dE rs/\boS rs)/\hmS (gdS rs)<=60/\(∃b,lkS rs 0 []=.inl b)/\Q (.tup (bZ rs)) M
noncomputable abbrev kD:Stmt:=top 62
theorem nU:aR ["rows"] ["rows"] (aJ kD):=by ac_rfl
theorem aAX (hF:bT K mg "program_of" kD ["rows"])(cE:Has P w K mg base 128 "look_at_rows" ["rows","number","around"] (zN 8))(fX:Has P w K mg base 119 "not_too_long" ["program"] lC):Has P w K mg base 129 "program_of" ["rows"] kU:=by
 refine Has.mkZ hF nU (λds M Q ⟨_,z,_⟩=>by rw[z];rfl) λf cdv A outer s H ds M Q E hr h=>?_;obtain⟨rs,rfl,va,hm,⟨b,hb⟩,q⟩:=h;refine⟨_,(aF (dR (aG cE hr (by decide) (aA (aB 0) (aA aC (aA (aM aD) aD)))))
  (aE (aN (aG fX hr (by decide) (aA (aB 0) aD))))),?_⟩
 ac_nf;refine⟨by decide,rs,0,[],rfl,⟨⟨⟨by decide,by decide⟩,by omega⟩,by decide⟩,va,b,hb,?_⟩;have d8:=aFE hb va.1 (by omega);rw[wG rs (qJ _ _ _ _ hb)] at q ⊢;exact⟨gdS rs,rfl,d8,hm,bE q⟩
def aH3:List D->DM->Int->Prop:=λds M i=>∃rs,ds=[.tup (bZ rs)]/\(dE rs/\boS rs)/\hmS (gdS rs)<=900/\lkS rs 0 []=.inr i
theorem aAr {C_NoRow:Addr}(hF:bT K mg "program_of" kD ["rows"])(fG:qD P w K mg base "NoRow" C_NoRow "row")(iA:fW P w K mg base 128 "look_at_rows" ["rows","number","around"] C_NoRow "row" (aKG 8))(cE:Has P w K mg base 128 "look_at_rows" ["rows","number","around"] (zN 8))(fX:Has P w K mg base 119 "not_too_long" ["program"] lC):fW P w K mg base 129 "program_of" ["rows"] C_NoRow "row" aH3:=by
 refine fW.mkZ hF fG nU (λds M i ⟨_,z,_⟩=>by rw[z];rfl) λf cdv A outer s H ds M iw E hr h hRO hPO=>?_;obtain⟨rs,rfl,va,hm,hz⟩:=h;refine⟨_,(aF (aEP (dR (wM iA hr (by decide) hPO (aA (aB 0) (aA aC (aA (aM aD) aD)))))
  (dR (aG cE hr (by decide) (aA (aB 0) (aA aC (aA (aM aD) aD))))))
  (aE (aN (aG fX hr (by decide) (aA (aB 0) aD))))),?_⟩
 ac_nf;exact .inl ⟨by decide,iw,⟨rs,0,[],rfl,⟨⟨⟨by decide,by decide⟩,hm⟩,by decide⟩,va,hz⟩,λM' sb=>⟨rfl,sb⟩⟩
def aGO:List D->DM->Prop:=λds M=>∃rs,ds=[.tup (bZ rs)]/\(dE rs/\boS rs)/\hmS (gdS rs)<=900/\(∃b,lkS rs 0 []=.inl b)/\60<hmS (gdS rs)
theorem aAz {C_TooMuch:Addr}(hF:bT K mg "program_of" kD ["rows"])(cE:Has P w K mg base 128 "look_at_rows" ["rows","number","around"] (zN 8))(mL:aOu P w K mg base 119 "not_too_long" ["program"] C_TooMuch aKS):iS P w K mg base 129 "program_of" ["rows"] C_TooMuch aGO:=by
 refine iS.mkP hF nU (λds M ⟨_,z,_⟩=>by rw[z];rfl) λf cdv A outer s H ds M E hr h hPO=>?_;refine⟨_,(aF (dR (aG cE hr (by decide) (aA (aB 0) (aA aC (aA (aM aD) aD)))))
  (aE (aN (aBR mL hr (by decide) hPO (aA (aB 0) aD))))),?_⟩
 obtain⟨rs,rfl,va,hm,⟨b,hb⟩,lo⟩:=h;ac_nf;refine⟨by decide,rs,0,[],rfl,⟨⟨⟨by decide,by decide⟩,hm⟩,by decide⟩,va,b,hb,?_⟩;have d8:=aFE hb va.1 hm;rw[wG rs (qJ _ _ _ _ hb)];exact⟨⟨gdS rs,rfl,d8,lo⟩,λM' h=>h⟩
noncomputable def vP (ns:List Int)(k:Nat):Int:=(ns[k]?).getD 0
def jR:DSp:=λds M Q=>∃(ns:List Int)(k:Nat),ds=[.fz (ns.map D.int),.int (k:Int)]/\Q (.int (vP ns k)) M
noncomputable abbrev nS:Stmt:=top 74
theorem aAW:aR ["_law_script","_law_k"] ["_law_script","_law_k"] (aJ nS):=by ac_rfl
theorem yU (hF:bT K mg "_law_cell_at" nS ["_law_script","_law_k"])(cF:mg "len" = none):Has P w K mg base 101 "_law_cell_at" ["_law_script","_law_k"] jR:=by
 refine Has.mkZ hF aAW (λds M Q ⟨a,n,z,_⟩=>by rw[z];rfl) λf cdv A outer s H ds M Q E hr h=>?_;obtain⟨ns,k,rfl,q⟩:=h;refine⟨_,(aF (aW (aQ kH (aB 1) (bI eJ cF (aA (aB 0) aD))) (aE (aN (aH (aB 0) (aB 1)))) aS)
  (aE (aN aC))),?_⟩
 ac_nf;show(λx M1=>_) _ _;refine dif (λc=>?_) (λc=>⟨M,.refl _,?_⟩)
 ·have hk:k<(ns.map D.int).length:=by have:(k:Int)<((ns.map D.int).length:Int):=c;omega
  have hk':k<ns.length:=by rw[length_map] at hk;exact hk
  have hat:atI (ns.map D.int) (k:Int)=some (.int (vP ns k)):=sF (by unfold vP;rw[getElem?_map,List.getElem?_eq_getElem hk'];rfl);try dsimp only[nK]
  rw[hat];exact⟨M,.refl _,q⟩
 ·have hk:¬(k:Int)<((ns.map D.int).length:Int):=c;have e:vP ns k=0:=by unfold vP;rw[List.getElem?_eq_none (by rw[length_map] at hk;omega)];rfl
  rw[e] at q;exact q
mutual
noncomputable def ofR:Rw->Th
 |.pl p=>.pl p
 |.ag n ws=>.ag n (ofS ws)
 |.kp ws=>.kp (ofS ws)
 |.ev ws=>.ev (ofS ws)
noncomputable def ofS:List Rw->List Th
 |[]=>[]
 |r::rs=>ofR r::ofS rs
end
mutual
theorem aFz:∀r:Rw,gdR (ofR r)=r
 |.pl p=>by rw[ofR,gdR]
 |.ag n ws=>by rw[ofR,gdR,iN ws]
 |.kp ws=>by rw[ofR,gdR,iN ws]
 |.ev ws=>by rw[ofR,gdR,iN ws]
theorem iN:∀rs:List Rw,gdS (ofS rs)=rs
 |[]=>by rw[ofS,gdS]
 |r::rs=>by rw[ofS,gdS,aFz r,iN rs]
end
mutual
theorem aOb:∀r:Rw,okT (ofR r)
 |.pl p=>by rw[ofR,okT];trivial
 |.ag n ws=>by rw[ofR,okT];exact aAh ws
 |.kp ws=>by rw[ofR,okT];exact aAh ws
 |.ev ws=>by rw[ofR,okT];exact aAh ws
theorem aAh:∀rs:List Rw,okS (ofS rs)
 |[]=>by rw[ofS,okS];trivial
 |r::rs=>by rw[ofS,okS];exact⟨aOb r,aAh rs⟩
end
theorem aA7 (rs:List Rw):bZ (ofS rs)=bA rs:=by rw[wG _ (aAh rs),iN]
theorem nC:∀rs:List Rw,ofS rs=rs.map ofR
 |[]=>by rw[ofS];rfl
 |r::rs=>by rw[ofS,nC rs,map_cons]
theorem aQi:∀t b:Fin 12,gwB (((t.val+1:Int):Rat)/((b.val+1:Int):Rat))=true:=by decide +kernel
theorem aOr {t b:Int}(t1:1<=t)(t2:t<=12)(b1:1<=b)(b2:b<=12):gwB ((t:Rat)/(b:Rat))=true:=by have:=aQi ⟨(t-1).toNat,by omega⟩ ⟨(b-1).toNat,by omega⟩;dsimp only at this;rw[show(((t-1).toNat:Nat):Int)+1=t by omega,show(((b-1).toNat:Nat):Int)+1=b by omega] at this;exact this
theorem aLj {A:Nat}{p:Pl}(h:FA A p):plV p:=by
 refine⟨h.2,λa e=>?_⟩;subst e;obtain⟨t,b,⟨t0,t1⟩,⟨b0,b1⟩,e⟩:=h.1;have:=aOr (t:=(t:Int)) (b:=(b:Int)) (by omega) (by omega) (by omega) (by omega);rw[Rat.intCast_natCast,Rat.intCast_natCast,<- e,Rat.mul_div_cancel (by intro z;have:=Rat.intCast_eq_zero_iff.mp (show((b:Int):Rat)=0 by rw[Rat.intCast_natCast];exact z);omega)] at this
 exact this
mutual
theorem aN3 {A:Nat}:∀r:Rw,alR (FA A) r->ltR r->vaT (ofR r)
 |.pl p,h,_=>by rw[alR] at h;rw[ofR,vaT];exact aLj h
 |.ag n ws,h,l=>by rw[alR] at h;rw[ltR] at l;rw[ofR,vaT];exact⟨l.1,xR ws h l.2⟩
 |.kp ws,h,l=>by rw[alR] at h;rw[ltR] at l;rw[ofR,vaT];exact xR ws h l
 |.ev ws,h,l=>by rw[alR] at h;rw[ltR] at l;rw[ofR,vaT];exact xR ws h l
theorem xR {A:Nat}:∀rs:List Rw,alS (FA A) rs->ltS rs->dE (ofS rs)
 |[],_,_=>by rw[ofS,dE];trivial
 |r::rs,h,l=>by rw[alS] at h;rw[ltS] at l;rw[ofS,dE];exact⟨aN3 r h.1 l.1,xR rs h.2 l.2⟩
end
theorem aAo:∀{rs:List Rw}{r:Rw},r∈rs->dnR r<=dnS rs
 |x::xs,r,m=>by
  rw[dnS];rcases List.mem_cons.mp m with rfl|z
  ·omega
  ·have:=aAo z;omega
mutual
theorem aIQ:∀r:Rw,gwR 690 r->wR r
 |.pl p,h=>by
  cases p with
  |grow a=>rw[gwR] at h;rw[wR];exact h
  |_ =>
      rw[wR];· trivial
      all_goals (intro _ z;cases z)
 |.ag n ws,h=>by rw[gwR] at h;rw[wR];exact⟨aBU ws h.2,by omega,λr hr=>.inl (by have:=aAo hr;omega),.inr (by omega)⟩
 |.kp ws,h=>by rw[wR];trivial
 |.ev ws,h=>by rw[wR];trivial
theorem aBU:∀rs:List Rw,gwS 690 rs->wS rs
 |[],_=>by rw[wS];trivial
 |r::rs,h=>by rw[gwS] at h;rw[wS];exact⟨aIQ r h.1,aBU rs h.2⟩
end
theorem aKR {rs:List Rw}(h:gwS 690 rs)(l:dnS rs<=704):loS rs:=⟨aBU rs h,by omega,λr hr=>.inl (by have:=aAo hr;omega)⟩
mutual
theorem aKD:∀r:Rw,gwR 690 r->boR (ofR r)
 |.pl p,_=>by rw[ofR,boR];trivial
 |.ag n ws,h=>by rw[gwR] at h;rw[ofR,boR];exact tR ws h.2
 |.kp ws,h=>by rw[gwR] at h;rw[ofR,boR];exact tR ws h.2
 |.ev ws,h=>by rw[gwR] at h;rw[ofR,boR];exact⟨tR ws h.2,λ_ _ _ _ _ _=>by rw[iN];exact aKR h.2 (by omega)⟩
theorem tR:∀rs:List Rw,gwS 690 rs->boS (ofS rs)
 |[],_=>by rw[ofS,boS];trivial
 |r::rs,h=>by rw[gwS] at h;rw[ofS,boS];exact⟨aKD r h.1,tR rs h.2⟩
end
theorem pN:∀rs:List Rw,rs.length<=hmS rs
 |[]=>Nat.zero_le _
 |r::rs=>by
  rw[hmS,length_cons];have:=pN rs;have:1<=hmR r:=by cases r<;>rw[hmR]<;>omega
  omega
mutual
noncomputable def nbR:Rw->Nat
 |.pl _=>1
 |.ag _ ws=>2+nbS ws
 |.kp ws=>2+nbS ws
 |.ev ws=>2+nbS ws
noncomputable def nbS:List Rw->Nat
 |[]=>0
 |r::rs=>nbR r+nbS rs
end
mutual
theorem aOS:∀r:Rw,nmR r=(nbR r:Int)
 |.pl _=>by rw[nmR,nbR];rfl
 |.ag _ ws=>by rw[nmR,nbR,aBn ws];omega
 |.kp ws=>by rw[nmR,nbR,aBn ws];omega
 |.ev ws=>by rw[nmR,nbR,aBn ws];omega
theorem aBn:∀rs:List Rw,nmS rs=(nbS rs:Int)
 |[]=>by rw[nmS,nbS];rfl
 |r::rs=>by rw[nmS,nbS,aOS r,aBn rs];omega
end
theorem aEF (r:Rw):1<=nbR r:=by cases r<;>rw[nbR]<;>omega
inductive L9 where
 |hd (hs:List D)|rw(d:D)|en (d:D)
noncomputable def l9D:L9->D
 |.hd hs=>.tup [.str "head",.tup hs]
 |.rw d=>.tup [.str "row",d]
 |.en d=>.tup [.str "end",d]
mutual
noncomputable def t9R:Th->List L9
 |.pl p=>[.rw (plD p)]
 |.ag n ts=>.hd [.str "again",.int (n:Int)]::(t9S ts++[.en (thD (.ag n ts))])
 |.kp ts=>.hd [.str "keep"]::(t9S ts++[.en (thD (.kp ts))])
 |.ev ts=>.hd [.str "ever"]::(t9S ts++[.en (thD (.ev ts))])
 |.bad d=>[.rw d]
noncomputable def t9S:List Th->List L9
 |[]=>[]
 |t::ts=>t9R t++t9S ts
end
theorem zF:∀xs ys:List Th,t9S (xs++ys)=t9S xs++t9S ys
 |[],ys=>by rw[nil_append,t9S];rfl
 |x::xs,ys=>by rw[cons_append,t9S,t9S,zF xs ys,append_assoc]
mutual
theorem lT:∀r:Rw,(t9R (ofR r)).length=nbR r
 |.pl p=>by rw[ofR,t9R,nbR];rfl
 |.ag n ws=>by rw[ofR,t9R,nbR,length_cons,length_append,fQ ws,length_singleton];omega
 |.kp ws=>by rw[ofR,t9R,nbR,length_cons,length_append,fQ ws,length_singleton];omega
 |.ev ws=>by rw[ofR,t9R,nbR,length_cons,length_append,fQ ws,length_singleton];omega
theorem fQ:∀rs:List Rw,(t9S (ofS rs)).length=nbS rs
 |[]=>by rw[ofS,t9S,nbS];rfl
 |r::rs=>by rw[ofS,t9S,nbS,length_append,lT r,fQ rs]
end
noncomputable def er:L9->L9
 |.en _=>.en .non
 |x=>x
mutual
noncomputable def gC:Rw->Nat->List Th->Th
 |.pl p,_,_=>.pl p
 |.ag n ws,k,m=>.ag n (cQ ws k m)
 |.kp ws,k,m=>.kp (cQ ws k m)
 |.ev ws,k,m=>.ev (cQ ws k m)
noncomputable def cQ:List Rw->Nat->List Th->List Th
 |[],_,m=>m
 |r::rs,k,m=>if k<nbR r then (if k=0 then m++ofS rs else gC r (k-1) m::ofS rs) else ofR r::cQ rs (k-nbR r) m
end
mutual
noncomputable def kF:Rw->Nat->Option Rw
 |.pl _,_=>none
 |.ag _ ws,k=>gD ws k
 |.kp ws,k=>gD ws k
 |.ev ws,k=>gD ws k
noncomputable def gD:List Rw->Nat->Option Rw
 |[],_=>none
 |r::rs,k=>if k<nbR r then (if k=0 then some r else kF r (k-1)) else gD rs (k-nbR r)
end
noncomputable def lst (o:Option Rw)(k:Nat):Nat:=match o with
 |some r=>k+nbR r
 |none=>k
mutual
theorem aFL:∀(r:Rw)(k:Nat) (x:Rw),kF r k=some x->∃pre suf,t9R (ofR r)=pre++t9R (ofR x)++suf/\pre.length=k+1
 |.pl p,k,x,h=>by rw[kF] at h;cases h
 |.ag n ws,k,x,h=>by rw[kF] at h;obtain⟨pre,suf,e,l⟩:=pM ws k x h;exact⟨.hd [.str "again",.int (n:Int)]::pre,suf++[.en (thD (.ag n (ofS ws)))],by rw[ofR,t9R,e];simp,by rw[length_cons,l]⟩
 |.kp ws,k,x,h=>by rw[kF] at h;obtain⟨pre,suf,e,l⟩:=pM ws k x h;exact⟨.hd [.str "keep"]::pre,suf++[.en (thD (.kp (ofS ws)))],by rw[ofR,t9R,e];simp,by rw[length_cons,l]⟩
 |.ev ws,k,x,h=>by rw[kF] at h;obtain⟨pre,suf,e,l⟩:=pM ws k x h;exact⟨.hd [.str "ever"]::pre,suf++[.en (thD (.ev (ofS ws)))],by rw[ofR,t9R,e];simp,by rw[length_cons,l]⟩
theorem pM:∀(rs:List Rw)(k:Nat) (x:Rw),gD rs k=some x->∃pre suf,t9S (ofS rs)=pre++t9R (ofR x)++suf/\pre.length=k
 |[],k,x,h=>by rw[gD] at h;cases h
 |r::rs,k,x,h=>by
  rw[gD] at h;rw[ofS,t9S];by_cases c:k<nbR r
  ·rw[if_pos c] at h;by_cases c0:k=0
   ·rw[if_pos c0] at h;cases h;exact⟨[],t9S (ofS rs),by simp,c0.symm⟩
   ·rw[if_neg c0] at h;obtain⟨pre,suf,e,l⟩:=aFL r (k-1) x h;exact⟨pre,suf++t9S (ofS rs),by rw[e];simp,by omega⟩
  ·rw[if_neg c] at h;obtain⟨pre,suf,e,l⟩:=pM rs _ x h;exact⟨t9R (ofR r)++pre,suf,by rw[e];simp,by rw[length_append,lT,l];omega⟩
end
mutual
theorem aKc:∀(r:Rw)(k:Nat),k+1<nbR r->kF r k=none->∃d,(t9R (ofR r))[k+1]?=some (.en d)
 |.pl p,k,h,_=>by rw[nbR] at h;omega
 |.ag n ws,k,h,e=>by
  rw[nbR] at h;rw[kF] at e;rw[ofR,t9R,List.getElem?_cons_succ];by_cases c:k<nbS ws
  ·obtain⟨d,hd⟩:=sP ws k c e;exact⟨d,by rw[getElem?_append_left (by rw[fQ];exact c)];exact hd⟩
  ·exact⟨_,by rw[getElem?_append_right (by rw[fQ];omega),fQ,show k-nbS ws=0 by omega];rfl⟩
 |.kp ws,k,h,e=>by
  rw[nbR] at h;rw[kF] at e;rw[ofR,t9R,List.getElem?_cons_succ];by_cases c:k<nbS ws
  ·obtain⟨d,hd⟩:=sP ws k c e;exact⟨d,by rw[getElem?_append_left (by rw[fQ];exact c)];exact hd⟩
  ·exact⟨_,by rw[getElem?_append_right (by rw[fQ];omega),fQ,show k-nbS ws=0 by omega];rfl⟩
 |.ev ws,k,h,e=>by
  rw[nbR] at h;rw[kF] at e;rw[ofR,t9R,List.getElem?_cons_succ];by_cases c:k<nbS ws
  ·obtain⟨d,hd⟩:=sP ws k c e;exact⟨d,by rw[getElem?_append_left (by rw[fQ];exact c)];exact hd⟩
  ·exact⟨_,by rw[getElem?_append_right (by rw[fQ];omega),fQ,show k-nbS ws=0 by omega];rfl⟩
theorem sP:∀(rs:List Rw)(k:Nat),k<nbS rs->gD rs k=none->∃d,(t9S (ofS rs))[k]?=some (.en d)
 |[],k,h,_=>by rw[nbS] at h;omega
 |r::rs,k,h,e=>by
  rw[nbS] at h;rw[gD] at e;rw[ofS,t9S];by_cases c:k<nbR r
  ·rw[if_pos c] at e;by_cases c0:k=0
   ·rw[if_pos c0] at e;cases e
   ·rw[if_neg c0] at e;obtain⟨d,hd⟩:=aKc r (k-1) (by omega) e;rw[show k-1+1=k by omega] at hd;exact⟨d,by rw[getElem?_append_left (by rw[lT];exact c)];exact hd⟩
  ·rw[if_neg c] at e;obtain⟨d,hd⟩:=sP rs _ (by omega) e;exact⟨d,by rw[getElem?_append_right (by rw[lT];omega),lT];exact hd⟩
end
theorem aFt {o:Option Rw}{k j:Nat}(h:j<=k):lst o k=j+lst o (k-j):=by
 cases o with
 |none=>show k=j+(k-j);omega
 |some r=>show k+nbR r=j+(k-j+nbR r);omega
theorem aLe {α:Type}(xs ys m:List α)(k l:Nat)(hk:xs.length<=k)(hl:xs.length<=l):(xs++ys).take k++m++(xs++ys).drop l=xs++(ys.take (k-xs.length)++m++ys.drop (l-xs.length)):=by rw[List.take_append,List.drop_append,take_of_length_le hk,List.drop_of_length_le hl];simp
mutual
theorem aOV:∀(r:Rw)(k:Nat) (m:List Th),1<=k->k<nbR r->(t9R (gC r (k-1) m)).map er=((t9R (ofR r)).take k++t9S m++(t9R (ofR r)).drop (lst (kF r (k-1)) k)).map er
 |.pl p,k,m,h1,h2=>by rw[nbR] at h2;omega
 |.ag n ws,k,m,h1,h2=>by rw[nbR] at h2;exact aG6 (.hd [.str "again",.int (n:Int)]) _ _ ws (by rw[ofR,t9R]) (by rw[gC,t9R]) (by rw[kF]) (aDt ws (k-1) m (by omega)) h1 (by omega)
 |.kp ws,k,m,h1,h2=>by rw[nbR] at h2;exact aG6 (.hd [.str "keep"]) _ _ ws (by rw[ofR,t9R]) (by rw[gC,t9R]) (by rw[kF]) (aDt ws (k-1) m (by omega)) h1 (by omega)
 |.ev ws,k,m,h1,h2=>by rw[nbR] at h2;exact aG6 (.hd [.str "ever"]) _ _ ws (by rw[ofR,t9R]) (by rw[gC,t9R]) (by rw[kF]) (aDt ws (k-1) m (by omega)) h1 (by omega)
theorem aDt:∀(rs:List Rw)(k:Nat) (m:List Th),k<=nbS rs->(t9S (cQ rs k m)).map er=((t9S (ofS rs)).take k++t9S m++(t9S (ofS rs)).drop (lst (gD rs k) k)).map er
 |[],k,m,h=>by rw[nbS] at h;rw[cQ,ofS,t9S,gD];simp
 |r::rs,k,m,h=>by
  rw[nbS] at h;have lr:=lT r;rw[cQ,ofS,t9S,gD];by_cases c:k<nbR r
  ·rw[if_pos c,if_pos c];by_cases c0:k=0
   ·rw[if_pos c0,if_pos c0];subst c0;show _=((t9R (ofR r)++t9S (ofS rs)).take 0++t9S m++(t9R (ofR r)++t9S (ofS rs)).drop (0+nbR r)).map er;rw[zF,Nat.zero_add,<- lr,drop_left,take_zero,nil_append]
   ·rw[if_neg c0,if_neg c0];have ih:=aOV r k m (by omega) c;have lk:lst (kF r (k-1)) k<=nbR r:=by
     cases e:kF r (k-1) with
     |none=>show k<=_;omega
     |some x =>
      obtain⟨pre,suf,e1,e2⟩:=aFL r (k-1) x e;have:=congrArg length e1;rw[lr,length_append,length_append,lT] at this;show k+nbR x<=_;omega
    rw[t9S,map_append,ih,List.take_append_of_le_length (by omega),List.drop_append_of_le_length (by omega)];simp
  ·rw[if_neg c,if_neg c];have ih:=aDt rs (k-nbR r) m (by omega);have ll:lst (gD rs (k-nbR r)) k=nbR r+lst (gD rs (k-nbR r)) (k-nbR r):=aFt (by omega);rw[t9S,map_append,ih,aLe _ _ _ _ _ (by omega) (by omega),lr,ll,Nat.add_sub_cancel_left];simp only[map_append]
theorem aG6:∀(h:L9){r:Rw} {t:Th} (d1 d2:D) (ws:List Rw) {k:Nat} {m:List Th},t9R (ofR r)=h::(t9S (ofS ws)++[.en d1])->t9R t=h::(t9S (cQ ws (k-1) m)++[.en d2])->kF r (k-1)=gD ws (k-1)->(t9S (cQ ws (k-1) m)).map er=((t9S (ofS ws)).take (k-1)++t9S m++(t9S (ofS ws)).drop (lst (gD ws (k-1)) (k-1))).map er->1<=k->k<=1+nbS ws->(t9R t).map er=((t9R (ofR r)).take k++t9S m++(t9R (ofR r)).drop (lst (kF r (k-1)) k)).map er
 |h,r,t,d1,d2,ws,k,m,e1,e2,e3,ih,h1,h2=>by
  have lk:lst (gD ws (k-1)) (k-1)<=nbS ws:=by
   cases e:gD ws (k-1) with
   |none=>show k-1<=_;omega
   |some x =>
    obtain⟨pre,suf,f1,f2⟩:=pM ws (k-1) x e;have:=congrArg length f1;rw[fQ,length_append,length_append,lT] at this;show k-1+nbR x<=_;omega
  have lw:=fQ ws;rw[e1,e2,e3,aFt h1];obtain⟨j,rfl⟩:∃j,k=j+1:=⟨k-1,by omega⟩;rw[Nat.add_sub_cancel] at *;rw[List.take_succ_cons,Nat.add_comm 1,List.drop_succ_cons,List.take_append_of_le_length (by omega),List.drop_append_of_le_length (by omega),map_cons,map_append,ih];simp[er]
end
theorem oJ:∀xs ys:List Th,gdS (xs++ys)=gdS xs++gdS ys
 |[],ys=>by rw[nil_append,gdS];rfl
 |x::xs,ys=>by rw[cons_append,gdS,gdS,oJ xs ys];rfl
theorem rS:∀{xs ys:List Th},dE (xs++ys)↔dE xs/\dE ys
 |[],ys=>by rw[nil_append,dE,true_and]
 |x::xs,ys=>by rw[cons_append,dE,dE,rS,and_assoc]
theorem aCD:∀{xs ys:List Th},boS (xs++ys)↔boS xs/\boS ys
 |[],ys=>by rw[nil_append,boS,true_and]
 |x::xs,ys=>by rw[cons_append,boS,boS,aCD,and_assoc]
mutual
def a9R:Rw->Prop
 |.pl _=>True
 |.ag n ws=>n<=12/\(n<=1∨n*dnS ws<=90)/\a9S ws
 |.kp ws=>a9S ws
 |.ev ws=>a9S ws
def a9S:List Rw->Prop
 |[]=>True
 |r::rs=>a9R r/\a9S rs
end
mutual
theorem aQe {b:Bool}:∀r:Rw,vER b r->ltR r->a9R r
 |.pl _,_,_=>by rw[a9R];trivial
 |.ag n ws,v,l=>by rw[vER] at v;rw[ltR] at l;rw[a9R];exact⟨l.1,v.1,aHD ws v.2 l.2⟩
 |.kp ws,v,l=>by rw[vER] at v;rw[ltR] at l;rw[a9R];exact aHD ws v l
 |.ev ws,v,l=>by rw[vER] at v;rw[ltR] at l;rw[a9R];exact aHD ws v.2.2 l
theorem aHD {b:Bool}:∀rs:List Rw,vES b rs->ltS rs->a9S rs
 |[],_,_=>by rw[a9S];trivial
 |r::rs,v,l=>by rw[vES] at v;rw[ltS] at l;rw[a9S];exact⟨aQe r v.1 l.1,aHD rs v.2 l.2⟩
end
theorem aEr:∀{xs ys:List Rw},a9S (xs++ys)↔a9S xs/\a9S ys
 |[],ys=>by rw[nil_append,a9S,true_and]
 |x::xs,ys=>by rw[cons_append,a9S,a9S,aEr,and_assoc]
structure Mo (m:List Th):Prop where
 w:wS (gdS m)
 r:∀r∈gdS m,dnR r<=1090
 dn:∀d,(∀r∈gdS m,Dp d r)->dnS (gdS m)<=7*12^d
 va:dE m
 bo:boS m
 hm:hmS (gdS m)<=40
structure Ow (rs:List Rw):Prop where
 gw:gwS 690 rs
 dn:dnS rs<=690
 a9:a9S rs
theorem Ow.tail {r:Rw}{rs:List Rw}(h:Ow (r::rs)):gwR 690 r/\a9R r/\dnR r+dnS rs<=690/\Ow rs:=by obtain⟨a,b,c⟩:=h;rw[gwS] at a;rw[dnS] at b;rw[a9S] at c;exact⟨a.1,c.1,b,a.2,by omega,c.2⟩
theorem p12 (d:Nat):7*12^d<=7*12^(d+1):=by rw[Nat.pow_succ];have:=Nat.one_le_pow d 12 (by decide);omega
mutual
theorem aQR {m:List Th}(mo:Mo m):∀(r:Rw)(k d:Nat),d<=3->gwR 690 r->a9R r->Dp d (gdR (gC r k m))->wR (gdR (gC r k m))/\dnR (gdR (gC r k m))<=dnR r+7*12^d
 |.pl p,k,d,_,g,_,_=>by rw[gC,gdR];exact⟨aIQ _ g,by omega⟩
 |.ag n ws,k,0,_,_,_,h=>by rw[gC,gdR] at h;exact h.elim
 |.ag n ws,k,d+1,l,g,a,h=>by
  rw[gwR] at g;rw[a9R] at a;rw[gC,gdR] at h ⊢;obtain⟨i1,i2,i3⟩:=aIN mo ws k d (by omega) ⟨g.2,g.1,a.2.2⟩ (oB h).2.2;have p3:7*12^d<=7*12^2:=Nat.mul_le_mul_left _ (Nat.pow_le_pow_right (by decide) (by omega));have p3:7*12^d<=1008:=p3;have g1:=g.1;refine⟨?_,?_⟩
  ·rw[wR];refine⟨i1,by omega,λr hr=>(i2 r hr).imp id λz=>by omega,?_⟩;by_cases c:n<=1
   ·exact .inl c
   ·refine .inr ?_;rcases a.2.1 with z|z
    ·exact absurd z c
    ·have:2*dnS ws<=90:=Nat.le_trans (Nat.mul_le_mul_right _ (by omega)) z;omega
  ·rw[dnR,dnR];have h1:=Nat.mul_le_mul_right n i3;have h2:=Nat.mul_le_mul_left (7*12^d) a.1;rw[Nat.add_mul] at h1;rw[Nat.pow_succ,<- Nat.mul_assoc];omega
 |.kp ws,k,0,_,_,_,h=>by rw[gC,gdR] at h;exact h.elim
 |.kp ws,k,d+1,l,g,a,h=>by rw[gwR] at g;rw[a9R] at a;rw[gC,gdR] at h ⊢;obtain⟨i1,i2,i3⟩:=aIN mo ws k d (by omega) ⟨g.2,g.1,a⟩ (tI h).2;have:=p12 d;rw[wR,dnR,dnR];exact⟨trivial,by omega⟩
 |.ev ws,k,0,_,_,_,h=>by rw[gC,gdR] at h;exact h.elim
 |.ev ws,k,d+1,l,g,a,h=>by rw[gwR] at g;rw[a9R] at a;rw[gC,gdR] at h ⊢;obtain⟨i1,i2,i3⟩:=aIN mo ws k d (by omega) ⟨g.2,g.1.2,a⟩ (tE h).2;have:=p12 d;rw[wR,dnR,dnR];exact⟨trivial,by omega⟩
theorem aIN {m:List Th}(mo:Mo m):∀(rs:List Rw)(k d:Nat),d<=3->Ow rs->(∀r∈gdS (cQ rs k m),Dp d r)->wS (gdS (cQ rs k m))/\(∀r∈gdS (cQ rs k m),dnR r<=1090∨dnS (gdS (cQ rs k m))<=dnR r+dnS rs)/\dnS (gdS (cQ rs k m))<=dnS rs+7*12^d
 |[],k,d,_,_,h=>by rw[cQ] at h ⊢;exact⟨mo.w,λr hr=>.inl (mo.r r hr),by have:=mo.dn d h;omega⟩
 |r::rs,k,d,l,o,h=>by
  obtain⟨g1,a1,s1,o1⟩:=o.tail;rw[cQ] at h ⊢;have small:∀x∈rs,dnR x<=1090:=λx hx=>by have:=aAo hx;omega
  by_cases c:k<nbR r
  ·rw[if_pos c] at h ⊢;by_cases c0:k=0
   ·rw[if_pos c0,oJ,iN] at h ⊢;have hd:=mo.dn d λx hx=>h x (mem_append_left _ hx);refine⟨aCU.mpr ⟨mo.w,aBU rs o1.gw⟩,λx hx=>.inl ?_,by rw[eU,dnS];omega⟩;rcases List.mem_append.mp hx with hx|hx
    ·exact mo.r x hx
    ·exact small x hx
   ·rw[if_neg c0,gdS,iN] at h ⊢;obtain⟨i1,i2⟩:=aQR mo r (k-1) d l g1 a1 (h _ (mem_cons_self ..));rw[wS,dnS,dnS];refine⟨⟨i1,aBU rs o1.gw⟩,λx hx=>?_,by omega⟩;rcases List.mem_cons.mp hx with rfl|hx
    ·exact .inr (by omega)
    ·exact .inl (small x hx)
  ·rw[if_neg c,gdS,aFz] at h ⊢;obtain⟨i1,i2,i3⟩:=aIN mo rs (k-nbR r) d l o1 λx hx=>h x (mem_cons_of_mem _ hx);rw[wS,dnS,dnS];refine⟨⟨aIQ r g1,i1⟩,λx hx=>?_,by omega⟩;rcases List.mem_cons.mp hx with rfl|hx
   ·exact .inl (by omega)
   ·exact(i2 x hx).imp id λz=>by omega
end
mutual
theorem aO5 {m:List Th}(mo:dE m):∀(r:Rw)(k:Nat),vaT (ofR r)->vaT (gC r k m)
 |.pl p,k,h=>by rw[ofR] at h;rw[gC];exact h
 |.ag n ws,k,h=>by rw[ofR,vaT] at h;rw[gC,vaT];exact⟨h.1,yD mo ws k h.2⟩
 |.kp ws,k,h=>by rw[ofR,vaT] at h;rw[gC,vaT];exact yD mo ws k h
 |.ev ws,k,h=>by rw[ofR,vaT] at h;rw[gC,vaT];exact yD mo ws k h
theorem yD {m:List Th}(mo:dE m):∀(rs:List Rw)(k:Nat),dE (ofS rs)->dE (cQ rs k m)
 |[],k,_=>by rw[cQ];exact mo
 |r::rs,k,h=>by
  rw[ofS,dE] at h;rw[cQ];by_cases c:k<nbR r
  ·rw[if_pos c];by_cases c0:k=0
   ·rw[if_pos c0];exact rS.mpr ⟨mo,h.2⟩
   ·rw[if_neg c0,dE];exact⟨aO5 mo r _ h.1,h.2⟩
  ·rw[if_neg c,dE];exact⟨h.1,yD mo rs _ h.2⟩
end
mutual
theorem aPJ (m:List Th):∀(r:Rw)(k:Nat),hmR (gdR (gC r k m))<=hmR r+hmS (gdS m)
 |.pl p,k=>by rw[gC,gdR];omega
 |.ag n ws,k=>by rw[gC,gdR,hmR,hmR];have:=sV m ws k;omega
 |.kp ws,k=>by rw[gC,gdR,hmR,hmR];have:=sV m ws k;omega
 |.ev ws,k=>by rw[gC,gdR,hmR,hmR];have:=sV m ws k;omega
theorem sV (m:List Th):∀(rs:List Rw)(k:Nat),hmS (gdS (cQ rs k m))<=hmS rs+hmS (gdS m)
 |[],k=>by rw[cQ];omega
 |r::rs,k=>by
  rw[cQ,hmS];by_cases c:k<nbR r
  ·rw[if_pos c];by_cases c0:k=0
   ·rw[if_pos c0,oJ,iN,fR];omega
   ·rw[if_neg c0,gdS,iN,hmS];have:=aPJ m r (k-1);omega
  ·rw[if_neg c,gdS,aFz,hmS];have:=sV m rs (k-nbR r);omega
end
mutual
theorem aOx {m:List Th}(mo:Mo m):∀(r:Rw)(k:Nat),gwR 690 r->a9R r->vaT (ofR r)->hmR r<=200->boR (gC r k m)
 |.pl p,k,_,_,_,_=>by rw[gC,boR];trivial
 |.ag n ws,k,g,a,v,hm=>by rw[gwR] at g;rw[a9R] at a;rw[ofR,vaT] at v;rw[hmR] at hm;rw[gC,boR];exact aBP mo ws k ⟨g.2,g.1,a.2.2⟩ v.2 (by omega)
 |.kp ws,k,g,a,v,hm=>by rw[gwR] at g;rw[a9R] at a;rw[ofR,vaT] at v;rw[hmR] at hm;rw[gC,boR];exact aBP mo ws k ⟨g.2,g.1,a⟩ v (by omega)
 |.ev ws,k,g,a,v,hm=>by
  rw[gwR] at g;rw[a9R] at a;rw[ofR,vaT] at v;rw[hmR] at hm;rw[gC,boR];have ow:Ow ws:=⟨g.2,g.1.2,a⟩;refine⟨aBP mo ws k ow v (by omega),λx ar b ea lk dn=>?_⟩;have la:1<=ar.length:=by
   cases ar with
   |nil=>cases ea
   |cons x xs=>exact Nat.succ_pos _
  have h1:=sV m ws k;have h2:=mo.hm;have dp:=xS (cQ ws k m) x ar b lk (yD mo.va ws k v) (by omega);obtain⟨i1,i2,_⟩:=aIN mo ws k _ (by omega) ow dp;have h3:=ow.dn;exact⟨i1,by omega,λr hr=>(i2 r hr).imp id λz=>by omega⟩
theorem aBP {m:List Th}(mo:Mo m):∀(rs:List Rw)(k:Nat),Ow rs->dE (ofS rs)->hmS rs<=200->boS (cQ rs k m)
 |[],k,_,_,_=>by rw[cQ];exact mo.bo
 |r::rs,k,o,v,hm=>by
  obtain⟨g1,a1,_,o1⟩:=o.tail;rw[ofS,dE] at v;rw[hmS] at hm;rw[cQ];by_cases c:k<nbR r
  ·rw[if_pos c];by_cases c0:k=0
   ·rw[if_pos c0];exact aCD.mpr ⟨mo.bo,tR rs o1.gw⟩
   ·rw[if_neg c0,boS];exact⟨aOx mo r _ g1 a1 v.1 (by omega),tR rs o1.gw⟩
  ·rw[if_neg c,boS];exact⟨aKD r g1,aBP mo rs _ o1 v.2 (by omega)⟩
end
noncomputable def plc:List Rw->Nat->Nat×Nat
 |[],_=>(0,0)
 |r::rs,k=>if k<nbR r then (0,k) else ((plc rs (k-nbR r)).1+1,(plc rs (k-nbR r)).2)
theorem aCM:∀(rs:List Rw)(k:Nat),nbS rs<=k->plc rs k=(rs.length,0)
 |[],k,_=>rfl
 |r::rs,k,h=>by rw[nbS] at h;have:=aEF r;rw[plc,if_neg (by omega),aCM rs _ (by omega)];rfl
theorem aEs:∀(rs:List Rw)(k:Nat),k<nbS rs->∃xs r ys,rs=xs++r::ys/\(plc rs k).1=xs.length/\k=nbS xs+(plc rs k).2/\(plc rs k).2<nbR r
 |[],k,h=>by rw[nbS] at h;omega
 |r::rs,k,h=>by
  rw[nbS] at h;rw[plc];by_cases c:k<nbR r
  ·rw[if_pos c];exact⟨[],r,rs,rfl,rfl,by rw[nbS];omega,c⟩
  ·rw[if_neg c];obtain⟨xs,x,ys,e1,e2,e3,e4⟩:=aEs rs (k-nbR r) (by omega);refine⟨r::xs,x,ys,by rw[e1];rfl,by rw[length_cons];dsimp only;rw[e2],?_,e4⟩;rw[nbS];dsimp only;omega
theorem aFB:∀(rs:List Rw)(k:Nat) (m:List Th),nbS rs<=k->cQ rs k m=ofS rs++m
 |[],k,m,_=>by rw[cQ,ofS];rfl
 |r::rs,k,m,h=>by rw[nbS] at h;have:=aEF r;rw[cQ,if_neg (by omega),aFB rs _ m (by omega),ofS];rfl
theorem aHz:∀(xs:List Rw)(r:Rw) (ys:List Rw) (l:Nat) (m:List Th),l<nbR r->cQ (xs++r::ys) (nbS xs+l) m=ofS xs++((if l=0 then m else [gC r (l-1) m])++ofS ys)
 |[],r,ys,l,m,h=>by rw[nil_append,nbS,Nat.zero_add,cQ,if_pos h,ofS,nil_append];split<;>rfl
 |x::xs,r,ys,l,m,h=>by rw[cons_append,nbS,cQ,if_neg (by omega),show nbR x+nbS xs+l-nbR x=nbS xs+l by omega,aHz xs r ys l m h,ofS];rfl
theorem aCk:∀(rs:List Rw)(k:Nat),nbS rs<=k->gD rs k=none
 |[],k,_=>by rw[gD]
 |r::rs,k,h=>by rw[nbS] at h;have:=aEF r;rw[gD,if_neg (by omega),aCk rs _ (by omega)]
theorem aHn:∀(xs:List Rw)(r:Rw) (ys:List Rw) (l:Nat),l<nbR r->gD (xs++r::ys) (nbS xs+l)=if l=0 then some r else kF r (l-1)
 |[],r,ys,l,h=>by rw[nil_append,nbS,Nat.zero_add,gD,if_pos h]
 |x::xs,r,ys,l,h=>by rw[cons_append,nbS,gD,if_neg (by omega),show nbR x+nbS xs+l-nbR x=nbS xs+l by omega,aHn xs r ys l h]
def nG:DSp:=λds M Q=>∃(rs:List Rw)(k:Nat),ds=[.tup (bA rs),.int (k:Int)]/\DpS 8 rs/\Q (.tup [.int ((plc rs k).1:Int),.int ((plc rs k).2:Int)]) M
noncomputable abbrev tZ:Stmt:=top 72
theorem jH:aR ["rows","number","left","place","row","many"] ["rows","number"] (aJ tZ):=by ac_rfl
theorem aCE (hF:bT K mg "place_of" tZ ["rows","number"])(rD:mg "enumerate" = none)(cF:mg "len" = none)(eO:Has P w K mg base 127 "how_many_numbers" ["row"] (wU 8)):Has P w K mg base 128 "place_of" ["rows","number"] nG:=by
 refine Has.mkZ hF jH (λds M Q ⟨_,_,z,_⟩=>by rw[z];rfl) λf cdv A outer s H ds M Q E hr h=>?_;obtain⟨rs,k,rfl,dp,q⟩:=h;refine⟨_,(aF (aP (i:=2) jH.nd (aB 1))
  (aF (aGA PassesOwn.never rfl rD (aA (aB 0) aD) (gS (n:=2) rfl (bJ (aX (i:=3) jH.nd) (bJ (aX (i:=4) jH.nd) fE))) (aF (aP (i:=5) jH.nd (aG eO hr (by decide) (aA (aB 4) aD)))
  (aF (aW (aQ kH (aB 2) (aB 5)) (aE (aN (aM (aA (aB 3) (aA (aB 2) aD))))) aS)
  (aE (nX (i:=2) aLI jH.nd (aB 5))))))
  (aE (aN (aM (aA (bI eJ cF (aA (aB 0) aD)) (aA aC aD))))))),?_⟩
 ac_nf;refine⟨λi ρ M'=>M'=M/\∃(j:Nat)(o3 o4 o5:Option D),plc rs k=((plc (rs.drop i) j).1+i,(plc (rs.drop i) j).2)/\ρ=[some (.tup (bA rs)),some (.int (k:Int)),some (.int (j:Int)),o3,o4,o5],⟨rfl,k,none,none,none,rfl,rfl⟩,?_,?_⟩
 ·rintro i d ρ M' hd ⟨rfl,j,o3,o4,o5,e,rfl⟩;obtain⟨r,hr',rfl⟩:=gZ hd;have li:=(List.getElem?_eq_some_iff.mp hr').1;have edr:rs.drop i=r::rs.drop (i+1):=by rw[List.drop_eq_getElem_cons li,(List.getElem?_eq_some_iff.mp hr').2]
  rw[edr,plc] at e;ac_nf;refine⟨rfl,r,rfl,dL (d':=8) (dp.2 r (mem_of_getElem? hr')) (by decide),?_⟩;rw[aOS];ac_nf;by_cases c:j<nbR r
  ·rw[if_pos c] at e;rw[e] at q;refine ifT (decide_eq_true (by omega)) ⟨by decide,bE ?_⟩;dsimp only at q;rw[Nat.zero_add] at q;exact q
  ·rw[if_neg c] at e;refine ifF (decide_eq_false (by omega)) ⟨rfl,j-nbR r,_,_,_,?_,by rw[show(j:Int)-(nbR r:Int)=((j-nbR r:Nat):Int) by omega]⟩;rw[e];dsimp only;rw[Nat.add_assoc,Nat.add_comm 1]
 ·rintro ρ M' ⟨rfl,j,o3,o4,o5,e,rfl⟩;rw[bF,List.drop_length,plc] at e;rw[e] at q;ac_nf;dsimp only at q;rw[Nat.zero_add] at q;rw[zT,bF];exact⟨by decide,bE q⟩
theorem aDI (xs:List D)(k:Nat):Dd.cutD xs none (some (k:Int))=xs.take k:=by
 unfold Dd.cutD;rw[HT.sIx_nat,HT.sIx_none,List.drop_zero,Nat.sub_zero];rcases Nat.le_total k xs.length with c|c
 ·rw[Nat.min_eq_left c]
 ·rw[Nat.min_eq_right c,take_of_length_le (Nat.le_refl _),take_of_length_le c]
theorem aDz (xs:List D)(k:Nat):Dd.cutD xs (some (k:Int)) none=xs.drop k:=by
 unfold Dd.cutD;rw[HT.sIx_nat,HT.sIx_none];rcases Nat.le_total k xs.length with c|c
 ·rw[Nat.min_eq_left c,take_of_length_le (by rw[length_drop];omega)]
 ·rw[Nat.min_eq_right c,List.drop_of_length_le (Nat.le_refl _),List.drop_of_length_le c,List.take_nil]
theorem vY (xs ys:List Th):bZ (xs++ys)=bZ xs++bZ ys:=by rw[hZ,hZ,hZ,map_append]
theorem uV (xs ys:List Rw):bA (xs++ys)=bA xs++bA ys:=by rw[eS,eS,eS,map_append]
noncomputable def hdT:Rw->List D
 |.ag n _=>[.str "again",.int (n:Int)]
 |.kp _=>[.str "keep"]
 |.ev _=>[.str "ever"]
 |.pl _=>[]
noncomputable def wiR:Rw->List Rw
 |.ag _ ws=>ws
 |.kp ws=>ws
 |.ev ws=>ws
 |.pl _=>[]
theorem aID {r:Rw}(h:1<nbR r):inR r=.tup (bA (wiR r))/\(∃z,rwD r=.tup (hdT r++[z]))/\Dd.cutD (hdT r++[D.tup (bA (wiR r))]) none (some (-1))=hdT r/\rwD r=.tup (hdT r++[.tup (bA (wiR r))])/\(hdT r).length<=2/\(∀k m,thD (gC r k m)=.tup (hdT r++[.tup (bZ (cQ (wiR r) k m))]))/\(∀k,kF r k=gD (wiR r) k)/\nbR r=2+nbS (wiR r)/\∀d,Dp (d+1) r->DpS (d+1) (wiR r):=by
 cases r with
 |pl p=>rw[nbR] at h;omega
 |ag n ws=>exact⟨rfl,⟨_,by rw[rwD];rfl⟩,rfl,by rw[rwD];rfl,Nat.le_refl 2,λk m=>by rw[gC,thD];rfl,λk=>by rw[kF];rfl,by rw[nbR];rfl,λd h=>(oB h).2⟩
 |kp ws=>exact⟨rfl,⟨_,by rw[rwD];rfl⟩,rfl,by rw[rwD];rfl,(by show 1<=2;decide),λk m=>by rw[gC,thD];rfl,λk=>by rw[kF];rfl,by rw[nbR];rfl,λd h=>tI h⟩
 |ev ws=>exact⟨rfl,⟨_,by rw[rwD];rfl⟩,rfl,by rw[rwD];rfl,(by show 1<=2;decide),λk m=>by rw[gC,thD];rfl,λk=>by rw[kF];rfl,by rw[nbR];rfl,λd h=>tE h⟩
def oA (d:Nat):DSp:=λds M Q=>∃(rs:List Rw)(k:Nat) (m:List Th),ds=[.tup (bA rs),.int (k:Int),.tup (bZ m)]/\DpS d rs/\hmS rs<=400/\m.length<=400/\Q (.tup (bZ (cQ rs k m))) M
noncomputable abbrev aAG:Stmt:=top 70
theorem mC:aR ["own","number","rows","place","left","block","within"] ["own","number","rows"] (aJ aAG):=by ac_rfl
theorem aEG (hF:bT K mg "put_at" aAG ["own","number","rows"])(cF:mg "len" = none)(eP:Has P w K mg base 128 "place_of" ["rows","number"] nG)(aT:Has P w K mg base 101 "rows_within" ["row"] cV):Has P w K mg base 137 "put_at" ["own","number","rows"] (oA 8):=by
 have all:∀d,d<=8->Has P w K mg base (129+d) "put_at" ["own","number","rows"] (oA d):=λd=>by
  induction d with
  |zero=>exact λ_=>(Has.never hF mC 128).imp λds M Q ⟨rs,_,_,_,z,_⟩=>z
  |succ d ih =>
   intro l8;have gO:=ih (by omega);refine Has.mkZ (k:=129+d) hF mC (λds M Q ⟨a,b,c,z,_⟩=>by rw[z];rfl) λf cdv A outer s H ds M Q E hr h=>?_;obtain⟨rs,k,m,rfl,dp,hm,lm,q⟩:=h;refine⟨_,(aF (iU (aG eP hr (by omega) (aA (aB 0) (aA (aB 1) aD))) (gS (n:=2) rfl (bJ (aX (i:=3) mC.nd) (bJ (aX (i:=4) mC.nd) fE))))
  (aF (aW (aQ (cD hr) (aB 3) (bI eJ cF (aA (aB 0) aD))) (aE (aN (aK gQ (aB 0) (aB 2)))) aS)
  (aF (aW (aQ gA (aB 4) aC) (aF (aP (i:=5) mC.nd (aH (aB 0) (aB 3)))
  (aF (aP (i:=6) mC.nd (aG gO hr (by omega) (aA (aG aT hr (by omega) (aA (aB 5) aD)) (aA (aK jW (aB 4) aC) (aA (aB 2) aD)))))
  (aE (aN (aK gQ (aK gQ (jA (aB 0) iQ (dH (aB 3))) (aM (aA (aK gQ (jA (aB 5) iQ (dH (eL aC))) (aM (aA (aB 6) aD))) aD))) (jA (aB 0) (dH (aK cB (aB 3) aC)) iQ)))))) aS)
  (aE (aN (aK gQ (aK gQ (jA (aB 0) iQ (dH (aB 3))) (aB 2)) (jA (aB 0) (dH (aK cB (aB 3) aC)) iQ))))))),?_⟩
   have lr:=pN rs;ac_nf;refine⟨rs,k,rfl,dp.up8 l8,?_⟩;ac_nf;refine⟨rfl,?_⟩;rw[zT,bF,cU];by_cases c:nbS rs<=k
   ·rw[aCM rs k c];refine ifT (decide_eq_true rfl) ⟨by rw[lA];omega,bE ?_⟩;rw[aFB rs k m c,vY,aA7] at q;exact q
   ·obtain⟨xs,r,ys,e1,e2,e3,e4⟩:=aEs rs k (by omega);generalize (plc rs k).1=pp at e2 ⊢;generalize (plc rs k).2=l at e3 e4 ⊢;subst e2;subst e3;subst e1;have ll:(xs++r::ys).length=xs.length+(ys.length+1):=by rw[length_append,length_cons]
    have tk:Dd.cutD (bA (xs++r::ys)) none (some (xs.length:Int))=bA xs:=by rw[aDI,uV,List.take_left' (bF xs)]
    have dr:Dd.cutD (bA (xs++r::ys)) (some ((xs.length:Int)+1)) none=bA ys:=by rw[show(xs.length:Int)+1=((xs.length+1:Nat):Int) by omega,aDz,uV,bA,show bA xs++rwD r::bA ys=(bA xs++[rwD r])++bA ys by simp,List.drop_left' (by rw[length_append,bF];rfl)]
    have at1:atI (bA (xs++r::ys)) (xs.length:Int)=some (rwD r):=by unfold atI ixN;rw[if_pos (by omega),bF,if_pos (by omega)];show(bA (xs++r::ys))[xs.length]?=_;rw[uV,getElem?_append_right (by rw[bF];exact Nat.le_refl _),bF,Nat.sub_self,bA];rfl
    rw[aHz xs r ys l m e4,vY,vY,aA7,aA7] at q;refine ifF (decide_eq_false (by omega)) ?_;by_cases c0:l=0
    ·subst c0;refine ifF (decide_eq_false (by omega)) ?_;ac_nf;rw[tk,dr];rw[if_pos rfl] at q;refine⟨by rw[bF,lA];omega,by rw[length_append,bF,lA,bF];omega,bE ?_⟩;rw[append_assoc];exact q
    ·refine ifT (decide_eq_true (by omega)) ?_;obtain⟨b1,b2,b3,b4,b5,b6,b7,b8,b9⟩:=aID (r:=r) (by omega);rw[if_neg c0] at q;ac_nf;rw[at1];ac_nf;refine⟨r,rfl,?_⟩;rw[b1,show(l:Int)-1=((l-1:Nat):Int) by omega];have dw:=dp.2 r (by simp);have hw:hmR r=1+hmS (wiR r):=by
      cases r with
      |pl p=>rw[nbR] at b8;omega
      |ag n ws=>rw[hmR];rfl
      |kp ws=>rw[hmR];rfl
      |ev ws=>rw[hmR];rfl
     have lx:xs.length+ys.length+1<=400:=by omega
     rw[fR,hmS] at hm;refine⟨wiR r,l-1,m,rfl,?_,by omega,lm,?_⟩
     ·cases d with
      |zero=>cases r with
       |pl p=>rw[nbR] at b8;omega
       |ag n ws=>exact dw.elim
       |kp ws=>exact dw.elim
       |ev ws=>exact dw.elim
      |succ d=>exact b9 d dw
     rw[b4];ac_nf;rw[b3,tk,dr];refine⟨by decide,by omega,by decide,by rw[bF];omega,by rw[length_append,bF,bF];show _+1+_<=1000;omega,bE ?_⟩;rw[bZ,bZ,b6] at q;rw[append_assoc];exact q
 exact all 8 (by decide)
noncomputable def aNn:Option Rw->D
 |some r=>rwD r
 |none=>.non
theorem aHS:∀(rs:List Rw)(k:Nat),(plc rs k).2<=k
 |[],k=>Nat.zero_le _
 |r::rs,k=>by
  rw[plc];split
  ·exact Nat.le_refl _
  ·have:=aHS rs (k-nbR r);dsimp only;omega
theorem aO3 (xs:List Rw)(r:Rw)(ys:List Rw):atI (bA (xs++r::ys)) (xs.length:Int)=some (rwD r):=by
 have ll:(xs++r::ys).length=xs.length+(ys.length+1):=by rw[length_append,length_cons]
 unfold atI ixN;rw[if_pos (by omega),bF,if_pos (by omega)];show(bA (xs++r::ys))[xs.length]?=_;rw[uV,getElem?_append_right (by rw[bF];exact Nat.le_refl _),bF,Nat.sub_self,bA];rfl
def aB3:DSp:=λds M Q=>∃(rs:List Rw)(k:Nat),ds=[.tup (bA rs),.int (k:Int)]/\DpS 8 rs/\k<nbS rs/\Q (aNn (gD rs k)) M
noncomputable abbrev uT:Stmt:=top 71
theorem dU:aR ["program","number","rows","place","left"] ["program","number"] (aJ uT):=by ac_rfl
theorem aEx (hF:bT K mg "row_at" uT ["program","number"])(cF:mg "len" = none)(aY:Has P w K mg base 126 "numbers_of_rows" ["rows"] (gH 8))(eP:Has P w K mg base 128 "place_of" ["rows","number"] nG)(aT:Has P w K mg base 101 "rows_within" ["row"] cV):Has P w K mg base 129 "row_at" ["program","number"] aB3:=by
 refine Has.mkZ hF dU (λds M Q ⟨_,_,z,_⟩=>by rw[z];rfl) λf cdv A outer s H ds M Q E hr h=>?_;obtain⟨rs,k,rfl,dp,hk,q⟩:=h;refine⟨_,(aF (aW (fY (kL (aQ kH (aB 1) aC) (iB (aQ aIE (aB 1) (aG aY hr (by decide) (aA (aB 0) aD)))))) (aE mB) aS)
  (aF (aP (i:=2) dU.nd (aB 0))
  (aF (iU (aG eP hr (by decide) (aA (aB 2) (aA (aB 1) aD))) (gS (n:=2) rfl (bJ (aX (i:=3) dU.nd) (bJ (aX (i:=4) dU.nd) fE))))
  (aF (iH PassesOwn.never (aQ gA (aB 4) aC) (aF (aP (i:=2) dU.nd (aG aT hr (by decide) (aA (aH (aB 2) (aB 3)) aD)))
  (aE (iU (aG eP hr (by decide) (aA (aB 2) (aA (aK jW (aB 4) aC) aD))) (gS (n:=2) rfl (bJ (aX (i:=3) dU.nd) (bJ (aX (i:=4) dU.nd) fE)))))))
  (aE (aN (iK (aQ kH (aB 3) (bI eJ cF (aA (aB 2) aD))) (aH (aB 2) (aB 3)) fV))))))),?_⟩
 ac_nf;refine ifF (decide_eq_false (by omega)) ⟨rs,rfl,dp,?_⟩;rw[aBn];ac_nf;refine ifF (decide_eq_false (by omega)) ⟨rs,k,rfl,dp,rfl,?_⟩;refine jN (λleft ρ M'=>M'=M/\∃(ws:List Rw)(k':Nat),DpS 8 ws/\gD ws k'=gD rs k/\(plc ws k').2=left/\ρ=[some (.tup (bA rs)),some (.int (k:Int)),some (.tup (bA ws)),some (.int ((plc ws k').1:Int)),some (.int ((plc ws k').2:Int))]) (plc rs k).2 ⟨rfl,rs,k,dp,rfl,rfl,rfl⟩ ?_;rintro left ρ M1 ⟨rfl,ws,k',dw,er,el,rfl⟩;ac_nf;by_cases c:k'<nbS ws
 ·obtain⟨xs,r,ys,e1,e2,e3,e4⟩:=aEs ws k' c;have ra:=aHn xs r ys (plc ws k').2 e4;rw[<- e1,<- e3,er] at ra;have a1:=aO3 xs r ys;rw[<- e1,<- e2] at a1;by_cases c0:0<(plc ws k').2
  ·refine ifT (decide_eq_true (by omega)) ?_;obtain⟨b1,b2,b3,b4,b5,b6,b7,b8,b9⟩:=aID (r:=r) (by omega);rw[if_neg (by omega),b7] at ra;rw[a1];ac_nf;refine⟨r,rfl,?_⟩;rw[b1,show((plc ws k').2:Int)-1=(((plc ws k').2-1:Nat):Int) by omega];have d7:DpS 8 (wiR r):=by have:=b9 6 (dw.2 r (by rw[e1];simp));exact this.up8 (by decide)
   refine⟨wiR r,_,rfl,d7,rfl,?_⟩;have:=aHS (wiR r) ((plc ws k').2-1);exact⟨_,by omega,rfl,wiR r,_,d7,ra.symm,rfl,rfl⟩
  ·have z0:(plc ws k').2=0:=by omega
   refine ifF (decide_eq_false (by omega)) ?_;rw[z0,if_pos rfl] at ra;rw[ra] at q;ac_nf;rw[zT,bF];have lw:xs.length<ws.length:=by rw[e1,length_append,length_cons];omega
   refine ifT (decide_eq_true (by omega)) ?_;rw[a1];exact bE q
 ·have pe:=aCM ws k' (by omega);have re:=aCk ws k' (by omega);rw[er] at re;rw[re] at q;rw[pe];refine ifF (decide_eq_false (show ¬(0:Int)<((0:Nat):Int) by decide)) ?_;ac_nf;rw[zT,bF];exact ifF (decide_eq_false (by omega)) (bE q)
def aOI:List D->DM->Int->Prop:=λds M i=>∃(rs:List Rw)(z:Int),ds=[.tup (bA rs),.int z]/\DpS 8 rs/\(z<0∨(nbS rs:Int)<=z)/\i=z
theorem aE5 {C_NoRow:Addr}(hF:bT K mg "row_at" uT ["program","number"])(fG:qD P w K mg base "NoRow" C_NoRow "row")(cF:mg "len" = none)(aY:Has P w K mg base 126 "numbers_of_rows" ["rows"] (gH 8))(eP:Has P w K mg base 128 "place_of" ["rows","number"] nG)(aT:Has P w K mg base 101 "rows_within" ["row"] cV):fW P w K mg base 129 "row_at" ["program","number"] C_NoRow "row" aOI:=by
 refine fW.mkZ hF fG dU (λds M i ⟨_,_,z,_⟩=>by rw[z];rfl) λf cdv A outer s H ds M iw E hr h hRO hPO=>?_;obtain⟨rs,z,rfl,dp,hz,rfl⟩:=h;refine⟨_,(aF (aW (fY (kL (aQ kH (aB 1) aC) (iB (aQ aIE (aB 1) (aG aY hr (by decide) (aA (aB 0) aD)))))) (aE (oW hRO hr (by first|decide|omega) (aB 1))) aS)
  (aF (aP (i:=2) dU.nd (aB 0))
  (aF (iU (aG eP hr (by decide) (aA (aB 2) (aA (aB 1) aD))) (gS (n:=2) rfl (bJ (aX (i:=3) dU.nd) (bJ (aX (i:=4) dU.nd) fE))))
  (aF (iH PassesOwn.leaving (aQ gA (aB 4) aC) (aF (aP (i:=2) dU.nd (aG aT hr (by decide) (aA (aH (aB 2) (aB 3)) aD)))
  (aE (iU (aG eP hr (by decide) (aA (aB 2) (aA (aK jW (aB 4) aC) aD))) (gS (n:=2) rfl (bJ (aX (i:=3) dU.nd) (bJ (aX (i:=4) dU.nd) fE)))))))
  (aE (aN (iK (aQ kH (aB 3) (bI eJ cF (aA (aB 2) aD))) (aH (aB 2) (aB 3)) fV))))))),?_⟩
 ac_nf;by_cases c:iw<0
 ·exact ifT (decide_eq_true c) (ifT rfl ⟨rfl,.refl _⟩)
 ·refine ifF (decide_eq_false c) ⟨rs,rfl,dp,?_⟩;rw[aBn];ac_nf;exact ifT (decide_eq_true (by omega)) ⟨rfl,.refl _⟩
def zZ:DSp:=λds M Q=>∃(rs:List Rw)(k:Nat) (m:List Th),ds=[.tup (bA rs),.int (k:Int),.tup (bZ m)]/\DpS 8 rs/\hmS rs<=200/\m.length<=200/\k<=nbS rs/\(dE (cQ rs k m)/\boS (cQ rs k m))/\hmS (gdS (cQ rs k m))<=60/\(∃b,lkS (cQ rs k m) 0 []=.inl b)/\Q (.tup (bZ (cQ rs k m))) M
noncomputable abbrev oC:Stmt:=top 69
theorem tT:aR ["program","number","rows"] ["program","number","rows"] (aJ oC):=by ac_rfl
theorem aEh (hF:bT K mg "changed" oC ["program","number","rows"])(aY:Has P w K mg base 126 "numbers_of_rows" ["rows"] (gH 8))(gO:Has P w K mg base 137 "put_at" ["own","number","rows"] (oA 8))(eI:Has P w K mg base 129 "program_of" ["rows"] kU):Has P w K mg base 138 "changed" ["program","number","rows"] zZ:=by
 refine Has.mkZ hF tT (λds M Q ⟨_,_,_,z,_⟩=>by rw[z];rfl) λf cdv A outer s H ds M Q E hr h=>?_;obtain⟨rs,k,m,rfl,dp,hm,lm,hk,va,h6,lk,q⟩:=h;refine⟨_,(aF (aW (fY (kL (aQ kH (aB 1) aC) (iB (aQ gA (aB 1) (aG aY hr (by decide) (aA (aB 0) aD)))))) (aE mB) aS)
  (aE (aN (aG eI hr (by decide) (aA (aG gO hr (by decide) (aA (aB 0) (aA (aB 1) (aA (aB 2) aD)))) aD))))),?_⟩
 ac_nf;refine ifF (decide_eq_false (by omega)) ⟨rs,rfl,dp,?_⟩;rw[aBn];ac_nf;exact ifF (decide_eq_false (by omega)) ⟨rs,k,m,rfl,dp,by omega,by omega,_,rfl,va,h6,lk,bE q⟩
def aPR:List D->DM->Int->Prop:=λds M i=>∃(rs:List Rw)(z:Int) (m:List Th),ds=[.tup (bA rs),.int z,.tup (bZ m)]/\DpS 8 rs/\hmS rs<=200/\m.length<=200/\(((z<0∨(nbS rs:Int)<z)/\i=z) ∨ ∃k:Nat,z=(k:Int)/\k<=nbS rs/\(dE (cQ rs k m)/\boS (cQ rs k m))/\hmS (gdS (cQ rs k m))<=900/\lkS (cQ rs k m) 0 []=.inr i)
theorem aDf {C_NoRow:Addr}(hF:bT K mg "changed" oC ["program","number","rows"])(fG:qD P w K mg base "NoRow" C_NoRow "row")(aY:Has P w K mg base 126 "numbers_of_rows" ["rows"] (gH 8))(gO:Has P w K mg base 137 "put_at" ["own","number","rows"] (oA 8))(fJ:fW P w K mg base 129 "program_of" ["rows"] C_NoRow "row" aH3)(eI:Has P w K mg base 129 "program_of" ["rows"] kU):fW P w K mg base 138 "changed" ["program","number","rows"] C_NoRow "row" aPR:=by
 refine fW.mkZ hF fG tT (λds M i ⟨_,_,_,z,_⟩=>by rw[z];rfl) λf cdv A outer s H ds M iw E hr h hRO hPO=>?_;obtain⟨rs,z,m,rfl,dp,hm,lm,how⟩:=h;refine⟨_,(aF (aW (fY (kL (aQ kH (aB 1) aC) (iB (aQ gA (aB 1) (aG aY hr (by decide) (aA (aB 0) aD)))))) (aE (oW hRO hr (by first|decide|omega) (aB 1))) aS)
  (aE (aEP (aN (wM fJ hr (by decide) hPO (aA (aG gO hr (by decide) (aA (aB 0) (aA (aB 1) (aA (aB 2) aD)))) aD)))
  (aN (aG eI hr (by decide) (aA (aG gO hr (by decide) (aA (aB 0) (aA (aB 1) (aA (aB 2) aD)))) aD)))))),?_⟩
 ac_nf;rcases how with⟨hz,rfl⟩|⟨k,rfl,hk,va,h9,lk⟩
 ·by_cases c:iw<0
  ·exact ifT (decide_eq_true c) (ifT rfl ⟨rfl,.refl _⟩)
  ·refine ifF (decide_eq_false c) ⟨rs,rfl,dp,?_⟩;rw[aBn];ac_nf;exact ifT (decide_eq_true (by omega)) ⟨rfl,.refl _⟩
 ·refine ifF (decide_eq_false (by omega)) ⟨rs,rfl,dp,?_⟩;rw[aBn];ac_nf;refine ifF (decide_eq_false (by omega)) (.inl ⟨rs,k,m,rfl,dp,by omega,by omega,iw,⟨_,rfl,va,h9,lk⟩,λM' sb=>⟨rfl,sb⟩⟩)
def aOC:List D->DM->Prop:=λds M=>∃(rs:List Rw)(k:Nat) (m:List Th),ds=[.tup (bA rs),.int (k:Int),.tup (bZ m)]/\DpS 8 rs/\hmS rs<=200/\m.length<=200/\k<=nbS rs/\(dE (cQ rs k m)/\boS (cQ rs k m))/\hmS (gdS (cQ rs k m))<=900/\(∃b,lkS (cQ rs k m) 0 []=.inl b)/\60<hmS (gdS (cQ rs k m))
theorem aDK {C_TooMuch:Addr}(hF:bT K mg "changed" oC ["program","number","rows"])(aY:Has P w K mg base 126 "numbers_of_rows" ["rows"] (gH 8))(gO:Has P w K mg base 137 "put_at" ["own","number","rows"] (oA 8))(w_program_of:iS P w K mg base 129 "program_of" ["rows"] C_TooMuch aGO):iS P w K mg base 138 "changed" ["program","number","rows"] C_TooMuch aOC:=by
 have fJ:=w_program_of;refine iS.mkP hF tT (λds M ⟨_,_,_,z,_⟩=>by rw[z];rfl) λf cdv A outer s H ds M E hr h hPO=>?_;refine⟨_,(aF (aW (fY (kL (aQ kH (aB 1) aC) (iB (aQ gA (aB 1) (aG aY hr (by decide) (aA (aB 0) aD)))))) (aE mB) aS)
  (aE (aN (aBR fJ hr (by decide) hPO (aA (aG gO hr (by decide) (aA (aB 0) (aA (aB 1) (aA (aB 2) aD)))) aD))))),?_⟩
 obtain⟨rs,k,m,rfl,dp,hm,lm,hk,va,h9,lk,lo⟩:=h;ac_nf;refine ifF (decide_eq_false (by omega)) ⟨rs,rfl,dp,?_⟩;rw[aBn];ac_nf;exact ifF (decide_eq_false (by omega)) ⟨rs,k,m,rfl,dp,by omega,by omega,⟨_,rfl,va,h9,lk,lo⟩,λM' h=>h⟩
noncomputable def adT (st:List (List D))(d:D):List (List D):=st.dropLast++[st.getLast?.getD []++[d]]
theorem wH (st:List (List D))(u:List D)(d:D):adT (st++[u]) d=st++[u++[d]]:=by unfold adT;rw[dropLast_concat,List.getLast?_concat];rfl
structure KS (B M:DM)(ph pl:Addr)(hs:List D)(fs:List (Addr×List D)):Prop where
 hh:M ph=some hs
 hl:M pl=some (fs.map λf=>D.ref f.1)
 it:∀f∈fs,M f.1=some f.2
 nod:(ph::pl::fs.map (·.1)).Nodup
 bn:∀a∈ph::pl::fs.map (·.1),B (.l a)=none
 sub:aU B M
theorem nM {B M:DM}{a:Addr}{ds:List D}(h:aU B M)(n:B (.l a)=none):aU B (bK M a ds):=λb o e=>by rw[zP (yP e n)];exact h b o e
theorem aD7 {B M:DM}{a:Addr}(s:aU B M)(h:M (.l a)=none):B (.l a)=none:=by
 cases c:B (.l a) with
 |none=>rfl
 |some o=>rw[s _ _ c] at h;cases h
theorem KS.ne {B M:DM}{ph pl:Addr}{hs:List D}{fs:List (Addr×List D)}(h:KS B M ph pl hs fs):ph≠pl/\∀f∈fs,f.1≠ph/\f.1≠pl:=by have n:=h.nod;rw[nodup_cons,nodup_cons] at n;refine⟨λe=>n.1 (by rw[e];exact mem_cons_self ..),λf hf=>⟨λe=>n.1 (mem_cons_of_mem _ (by rw[<- e];exact List.mem_map_of_mem hf)),λe=>n.2.1 (by rw[<- e];exact List.mem_map_of_mem hf)⟩⟩
theorem KS.top {B M:DM}{ph pl q:Addr}{hs u:List D}{gs:List (Addr×List D)}(h:KS B M ph pl hs (gs++[(q,u)]))(d:D):KS B (bK M q (u++[d])) ph pl hs (gs++[(q,u++[d])]):=by
 obtain⟨n1,n2⟩:=h.ne;have hq:=n2 (q,u) (by simp);have e1:(gs++[(q,u++[d])]).map (·.1)=(gs++[(q,u)]).map (·.1):=by rw[map_append,map_append];rfl
 have e2:((gs++[(q,u++[d])]).map λf=>D.ref f.1)=((gs++[(q,u)]).map λf=>D.ref f.1):=by rw[map_append,map_append];rfl
 refine⟨by rw[bV (Ne.symm hq.1)];exact h.hh,by rw[bV (Ne.symm hq.2),e2];exact h.hl,λf hf=>?_,by rw[e1];exact h.nod,by rw[e1];exact h.bn,nM h.sub (h.bn q (by simp))⟩;rcases List.mem_append.mp hf with hf|hf
 ·have nq:f.1≠q:=λe=>by have n:=h.nod;rw[nodup_cons,nodup_cons,map_append,nodup_append] at n;exact n.2.2.2.2 f.1 (List.mem_map_of_mem hf) q (by simp) e
  rw[bV nq];exact h.it f (mem_append_left _ hf)
 ·rw[List.mem_singleton.mp hf];exact aI
theorem KS.push {B M:DM}{ph pl p:Addr}{hs:List D}{fs:List (Addr×List D)}(h:KS B M ph pl hs fs)(d:D)(hp:bK M ph (hs++[d]) (.l p)=none):KS B (bK (bK (bK M ph (hs++[d])) p []) pl ((fs.map λf=>D.ref f.1)++[.ref p])) ph pl (hs++[d]) (fs++[(p,[])]):=by
 obtain⟨n1,n2⟩:=h.ne;obtain⟨np,hp1⟩:=jS hp;have npl:p≠pl:=λe=>by rw[e,h.hl] at hp1;cases hp1
 have nf:∀f∈fs,f.1≠p:=λf hf e=>by rw[<- e,h.it f hf] at hp1;cases hp1
 have bp:=aD7 h.sub hp1;refine⟨?_,?_,λf hf=>?_,?_,?_,?_⟩
 ·rw[bV n1,bV (Ne.symm np)];exact aI
 ·rw[map_append];exact aI
 ·rcases List.mem_append.mp hf with hf|hf
  ·rw[bV (n2 f hf).2,bV (nf f hf),bV (n2 f hf).1];exact h.it f hf
  ·rw[List.mem_singleton.mp hf];show bK _ pl _ (.l p)=some [];rw[bV npl];exact aI
 ·have n:=h.nod;rw[nodup_cons,nodup_cons] at n ⊢;rw[map_append];refine⟨λz=>?_,λz=>?_,?_⟩
  ·rcases List.mem_cons.mp z with z|z
   ·exact n1 z
   ·rcases List.mem_append.mp z with z|z
    ·exact n.1 (mem_cons_of_mem _ z)
    ·exact np (List.mem_singleton.mp z).symm
  ·rcases List.mem_append.mp z with z|z
   ·exact n.2.1 z
   ·exact npl (List.mem_singleton.mp z).symm
  ·rw[nodup_append];refine⟨n.2.2,by simp,λa ha b hb=>?_⟩;rw[List.mem_singleton.mp hb];obtain⟨f,hf,rfl⟩:=List.mem_map.mp ha;exact nf f hf
 ·intro a ha;rw[map_append] at ha;rcases List.mem_cons.mp ha with rfl|ha
  ·exact h.bn _ (by simp)
  ·rcases List.mem_cons.mp ha with rfl|ha
   ·exact h.bn _ (by simp)
   ·rcases List.mem_append.mp ha with ha|ha
    ·exact h.bn a (mem_cons_of_mem _ (mem_cons_of_mem _ ha))
    ·rw[List.mem_singleton.mp ha];exact bp
 ·exact nM (nM (nM h.sub (h.bn _ (by simp))) bp) (h.bn _ (by simp))
theorem aFQ {xs:List D}{y:D}:(xs++[y])[(xs++[y]).length-1]?=some y:=by rw[length_append,length_singleton,Nat.add_sub_cancel,getElem?_append_right (Nat.le_refl _),Nat.sub_self];rfl
theorem zI {α:Type}{xs:List α}(h:xs≠[]):∃ys y,xs=ys++[y]:=⟨_,_,(List.dropLast_concat_getLast h).symm⟩
theorem aKP {ts:List Th}{i:Nat}{t:Th}(h:ts[i]?=some t):t9S (ts.take (i+1))=t9S (ts.take i)++t9R t:=by rw[fA h,zF,t9S,t9S,append_nil]
theorem aOR {ts:List Th}{i:Nat}{t:Th}(h:ts[i]?=some t):∃ys,t9S ts=t9S (ts.take i)++t9R t++ys:=by refine⟨t9S (ts.drop (i+1)),?_⟩;rw[<- aKP h,<- zF,take_append_drop]
theorem wT {M M':DM}(s:aU M M'){k:AK}(h:M' k=none):M k=none:=by
 cases e:M k with
 |none=>rfl
 |some x=>rw[s k x e] at h;cases h
theorem aF0 (p:Pl):wd p ≠ "again"/\wd p ≠ "keep"/\wd p ≠ "ever"/\wd p ≠ "end":=by cases p<;>dsimp only[wd]<;>decide
def pC (d:Nat):DSp:=λds M Q=>∃ts:List Th,ds=[.tup (bZ ts)]/\DpS d (gdS ts)/\dE ts/\(t9S ts).length<=400/\∀(p:Addr)(M':DM),aU M M'->M (.l p)=none->M' (.l p)=some ((t9S ts).map l9D)->Q (.ref p) M'
noncomputable abbrev qR:Stmt:=top 88
theorem jT:aR ["_law_rows_here","_law_found","_law_row_here"] ["_law_rows_here"] (aJ qR):=by ac_rfl
theorem aBd (hF:bT K mg "_law_lines" qR ["_law_rows_here"])(bC:mg "isinstance" = none)(dA:mg "tuple" = none)(cF:mg "len" = none):Has P w K mg base 118 "_law_lines" ["_law_rows_here"] (pC 8):=by
 have all:∀d,Has P w K mg base (110+d) "_law_lines" ["_law_rows_here"] (pC d):=λd=>by
  induction d with
  |zero=>exact(Has.never hF jT 109).imp λds M Q ⟨rs,_,z,_⟩=>z
  |succ d jK =>
   refine Has.mkZ (k:=110+d) hF jT (λds M Q ⟨a,z,_⟩=>by rw[z];rfl) λf cdv A outer s H ds M Q E hr h=>?_;obtain⟨ts,rfl,dp,va,ln,q⟩:=h;refine⟨_,(aF (aP (i:=1) jT.nd (bR aD))
  (aF (kX PassesOwn.never rfl (aB 0) (aX (i:=2) jT.nd) (aE (aW (fY (fU (dD (mS (aB 2) bC dA)) (fU (aQ gA (bI eJ cF (aA (aB 2) aD)) aC) (fF (aQ yB (aH (aB 2) aC) (bR (aA aL (aA aL (aA aL aD)))) rfl))))) (aE (aP (i:=1) jT.nd (aK cB (aK cB (aK cB (aB 1) (bR (aA (aM (aA aL (aA (jA (aB 2) iQ (dH (eL aC))) aD))) aD))) (aG jK hr (by omega) (aA (aH (aB 2) (eL aC)) aD))) (bR (aA (aM (aA aL (aA (aB 2) aD))) aD))))) (aE (dR (fM (aB 1) (aM (aA aL (aA (aB 2) aD)))))))))
  (aE (aN (aB 1))))),?_⟩
   ac_nf;refine⟨by decide,λpl hpl=>?_⟩;refine⟨λi ρ M'=>aU M M'/\∃p,M' (.l p)=some ((t9S (ts.take i)).map l9D)/\M (.l p)=none/\∃o2,ρ=[some (.tup (bZ ts)),some (.ref p),o2],⟨aU.new hpl _,pl,by rw[take_zero,t9S];exact aI,hpl,none,rfl⟩,λi ρ M' _ _ a e=>(by cases e),?_,?_⟩
   ·rintro i d1 ρ M1 hd ⟨sb,pl,hl,npl,o2,rfl⟩;obtain⟨t,hr',rfl⟩:=aAK hd;have mt:=mem_of_getElem? hr';have dr:=dp.2 _ (pY mt);have vt:=jX va mt;obtain⟨ys,ey⟩:=aOR hr';have l1:(t9S (ts.take i)).length+(t9R t).length<=400:=by rw[ey,length_append,length_append] at ln;omega
    have nx:=aKP hr';have fin:∀(M2:DM)(x:D),t9R t = [.rw x]->aU M1 M2->aU M (bK M2 pl ((t9S (ts.take i)).map l9D++[D.tup [.str "row",x]]))/\∃p,bK M2 pl ((t9S (ts.take i)).map l9D++[D.tup [.str "row",x]]) (.l p)=some ((t9S (ts.take (i+1))).map l9D)/\M (.l p)=none/\∃o2',[some (D.tup (bZ ts)),some (.ref pl),some x]=[some (D.tup (bZ ts)),some (.ref p),o2']:=λM2 x ex s2=>by refine⟨nM (sb.trans s2) npl,pl,?_,npl,_,rfl⟩;rw[aI,nx,ex,map_append];rfl
    have len1:((t9S (ts.take i)).map l9D).length<1000:=by rw[length_map];omega
    cases t with
    |pl p =>
     obtain⟨n1,n2,n3,_⟩:=aF0 p;have ex:t9R (.pl p)=[.rw (plD p)]:=by rw[t9R]
     rw[show thD (.pl p)=plD p by rw[thD]];rw[aET] at ex ⊢;ac_nf;refine .inl ⟨_,_,rfl,rfl,ifT rfl ?_⟩;rw[zT];ac_nf;by_cases c:(1:Int)<(((map FQ (nu p)).length+1:Nat):Int)
     ·refine ifT (decide_eq_true c) ?_;rw[aAd];ac_nf;refine⟨by decide,λp1 hp1=>⟨[("again":Str),"keep","ever"],aI,ifF (by simp[n1.symm,n2.symm,n3.symm]) ?_⟩⟩;have s2:=aU.new hp1 [D.str "again",.str "keep",.str "ever"];exact⟨⟨_,s2 _ _ hl⟩,by decide,_,_,rfl,s2 _ _ hl,len1,fin _ _ ex s2⟩
     ·exact ifF (decide_eq_false c) ⟨⟨_,hl⟩,by decide,_,_,rfl,hl,len1,fin _ _ ex (.refl _)⟩
    |bad d =>
     rw[vaT] at vt;have ex:t9R (.bad d)=[.rw d]:=by rw[t9R]
     rw[show thD (.bad d)=d by rw[thD]];rcases vt.1 with rfl|rfl|rfl
     ·ac_nf;exact .inl ⟨_,_,rfl,rfl,ifT rfl (ifF rfl ⟨⟨_,hl⟩,by decide,_,_,rfl,hl,len1,fin _ _ ex (.refl _)⟩)⟩
     ·ac_nf;exact .inl ⟨_,_,rfl,rfl,ifF rfl ⟨⟨_,hl⟩,by decide,_,_,rfl,hl,len1,fin _ _ ex (.refl _)⟩⟩
     ·ac_nf;refine .inl ⟨_,_,rfl,rfl,ifT rfl (ifT rfl ⟨by decide,λp1 hp1=>⟨[("again":Str),"keep","ever"],aI,ifF (by decide) ?_⟩⟩)⟩;have s2:=aU.new hp1 [D.str "again",.str "keep",.str "ever"];exact⟨⟨_,s2 _ _ hl⟩,by decide,_,_,rfl,s2 _ _ hl,len1,fin _ _ ex s2⟩
    |ag n ws =>
     rw[gdR] at dr;rw[vaT] at vt;have et:t9R (.ag n ws) = .hd [D.str "again",.int (n:Int)]::(t9S ws++[.en (thD (.ag n ws))]):=by rw[t9R]
     rw[et,length_cons,length_append,length_singleton] at l1;rw[et] at nx;have ed:thD (.ag n ws) = .tup ([D.str "again",.int (n:Int)]++[.tup (bZ ws)]):=by rw[thD];rfl
     rw[ed] at nx ⊢;ac_nf;refine .inl ⟨_,_,rfl,rfl,ifT rfl ?_⟩;refine ifT (by rfl) ⟨by decide,λp1 hp1=>⟨[("again":Str),"keep","ever"],aI,ifT (by decide) ⟨by decide,by decide,λp2 hp2=>?_⟩⟩⟩;have s2:=(aU.new hp1 [D.str "again",.str "keep",.str "ever"]).trans (aU.new hp2 [D.tup [.str "head",.tup (Dd.cutD ([D.str "again",.int (n:Int)]++[D.tup (bZ ws)]) none (some (-1)))]]);refine⟨_,_,s2 _ _ hl,aI,by rw[length_map];show _+1<=1000;omega,λp3 hp3=>?_⟩;have s3:=s2.trans (aU.new hp3 ((t9S (ts.take i)).map l9D++[D.tup [.str "head",.tup (Dd.cutD ([D.str "again",.int (n:Int)]++[D.tup (bZ ws)]) none (some (-1)))]]));refine⟨ws,rfl,(oB dr).2,vt.2,by omega,λp4 M4 s4 n4 h4=>?_⟩;refine⟨_,_,s4 _ _ aI,h4,by rw[length_append,length_map,length_map];show _+1+_<=1000;omega,λp5 hp5=>⟨by decide,by decide,λp6 hp6=>?_⟩⟩;refine⟨_,_,(aU.new hp6 _) _ _ aI,aI,by rw[length_append,length_append,length_map,length_map];show _+1+_+1<=1000;omega,λp7 hp7=>?_⟩;refine⟨(sb.trans (s3.trans (s4.trans ((aU.new hp5 _).trans (aU.new hp6 _))))).trans (aU.new hp7 _),p7,?_,wT (sb.trans (s3.trans (s4.trans ((aU.new hp5 _).trans (aU.new hp6 _))))) hp7,_,rfl⟩;rw[aI,nx,map_append,map_cons,map_append];simp[l9D];rfl
    |kp ws =>
     rw[gdR] at dr;rw[vaT] at vt;have et:t9R (.kp ws) = .hd [D.str "keep"]::(t9S ws++[.en (thD (.kp ws))]):=by rw[t9R]
     rw[et,length_cons,length_append,length_singleton] at l1;rw[et] at nx;have ed:thD (.kp ws) = .tup ([D.str "keep"]++[.tup (bZ ws)]):=by rw[thD];rfl
     rw[ed] at nx ⊢;ac_nf;refine .inl ⟨_,_,rfl,rfl,ifT rfl ?_⟩;refine ifT (by rfl) ⟨by decide,λp1 hp1=>⟨[("again":Str),"keep","ever"],aI,ifT (by decide) ⟨by decide,by decide,λp2 hp2=>?_⟩⟩⟩;have s2:=(aU.new hp1 [D.str "again",.str "keep",.str "ever"]).trans (aU.new hp2 [D.tup [.str "head",.tup (Dd.cutD ([D.str "keep"]++[D.tup (bZ ws)]) none (some (-1)))]]);refine⟨_,_,s2 _ _ hl,aI,by rw[length_map];show _+1<=1000;omega,λp3 hp3=>?_⟩;have s3:=s2.trans (aU.new hp3 ((t9S (ts.take i)).map l9D++[D.tup [.str "head",.tup (Dd.cutD ([D.str "keep"]++[D.tup (bZ ws)]) none (some (-1)))]]));refine⟨ws,rfl,tI dr,vt,by omega,λp4 M4 s4 n4 h4=>?_⟩;refine⟨_,_,s4 _ _ aI,h4,by rw[length_append,length_map,length_map];show _+1+_<=1000;omega,λp5 hp5=>⟨by decide,by decide,λp6 hp6=>?_⟩⟩;refine⟨_,_,(aU.new hp6 _) _ _ aI,aI,by rw[length_append,length_append,length_map,length_map];show _+1+_+1<=1000;omega,λp7 hp7=>?_⟩;refine⟨(sb.trans (s3.trans (s4.trans ((aU.new hp5 _).trans (aU.new hp6 _))))).trans (aU.new hp7 _),p7,?_,wT (sb.trans (s3.trans (s4.trans ((aU.new hp5 _).trans (aU.new hp6 _))))) hp7,_,rfl⟩;rw[aI,nx,map_append,map_cons,map_append];simp[l9D];rfl
    |ev ws =>
     rw[gdR] at dr;rw[vaT] at vt;have et:t9R (.ev ws) = .hd [D.str "ever"]::(t9S ws++[.en (thD (.ev ws))]):=by rw[t9R]
     rw[et,length_cons,length_append,length_singleton] at l1;rw[et] at nx;have ed:thD (.ev ws) = .tup ([D.str "ever"]++[.tup (bZ ws)]):=by rw[thD];rfl
     rw[ed] at nx ⊢;ac_nf;refine .inl ⟨_,_,rfl,rfl,ifT rfl ?_⟩;refine ifT (by rfl) ⟨by decide,λp1 hp1=>⟨[("again":Str),"keep","ever"],aI,ifT (by decide) ⟨by decide,by decide,λp2 hp2=>?_⟩⟩⟩;have s2:=(aU.new hp1 [D.str "again",.str "keep",.str "ever"]).trans (aU.new hp2 [D.tup [.str "head",.tup (Dd.cutD ([D.str "ever"]++[D.tup (bZ ws)]) none (some (-1)))]]);refine⟨_,_,s2 _ _ hl,aI,by rw[length_map];show _+1<=1000;omega,λp3 hp3=>?_⟩;have s3:=s2.trans (aU.new hp3 ((t9S (ts.take i)).map l9D++[D.tup [.str "head",.tup (Dd.cutD ([D.str "ever"]++[D.tup (bZ ws)]) none (some (-1)))]]));refine⟨ws,rfl,tE dr,vt,by omega,λp4 M4 s4 n4 h4=>?_⟩;refine⟨_,_,s4 _ _ aI,h4,by rw[length_append,length_map,length_map];show _+1+_<=1000;omega,λp5 hp5=>⟨by decide,by decide,λp6 hp6=>?_⟩⟩;refine⟨_,_,(aU.new hp6 _) _ _ aI,aI,by rw[length_append,length_append,length_map,length_map];show _+1+_+1<=1000;omega,λp7 hp7=>?_⟩;refine⟨(sb.trans (s3.trans (s4.trans ((aU.new hp5 _).trans (aU.new hp6 _))))).trans (aU.new hp7 _),p7,?_,wT (sb.trans (s3.trans (s4.trans ((aU.new hp5 _).trans (aU.new hp6 _))))) hp7,_,rfl⟩;rw[aI,nx,map_append,map_cons,map_append];simp[l9D];rfl
   ·rintro ρ M' ⟨sb,p,hl,np,o2,rfl⟩;rw[lA,take_length] at hl;exact bE (q p M' sb np hl)
 exact all 8
theorem KS.pop2 {B M:DM}{ph pl q r:Addr}{hs u e:List D}{gs:List (Addr×List D)}{d0:D}(h:KS B M ph pl (hs++[d0]) (gs++[(q,u)]++[(r,e)]))(d:D):KS B (bK (bK (bK M pl ((gs++[(q,u)]).map λf=>D.ref f.1)) ph hs) q (u++[d])) ph pl hs (gs++[(q,u++[d])]):=by
 obtain⟨n1,n2⟩:=h.ne;have sub1:∀f∈gs++[(q,u)],f∈gs++[(q,u)]++[(r,e)]:=λf hf=>mem_append_left _ hf;have key:KS B (bK (bK M pl ((gs++[(q,u)]).map λf=>D.ref f.1)) ph hs) ph pl hs (gs++[(q,u)]):=by
  refine⟨aI,by rw[bV (Ne.symm n1)];exact aI,λf hf=>?_,?_,λa ha=>?_,nM (nM h.sub (h.bn _ (by simp))) (h.bn _ (by simp))⟩
  ·rw[bV (n2 f (sub1 f hf)).1,bV (n2 f (sub1 f hf)).2];exact h.it f (sub1 f hf)
  ·have n:=h.nod;rw[map_append] at n;rw[<- cons_append,<- cons_append,nodup_append] at n;exact n.1
  ·refine h.bn a ?_;rw[map_append,<- cons_append,<- cons_append];exact mem_append_left _ ha
 exact key.top d
noncomputable def aQK:D->List D
 |.tup hs=>hs
 |_=>[]
noncomputable def st9 (s:List D×List (List D)):L9->List D×List (List D)
 |.rw d=>(s.1,adT s.2 d)
 |.hd hs=>(s.1++[.tup hs],s.2++[[]])
 |.en _=>(s.1.dropLast,adT s.2.dropLast (.tup (aQK (s.1.getLast?.getD .non)++[.tup (s.2.getLast?.getD [])])))
theorem aHL (hs:List D)(h:List D)(st:List (List D))(u e:List D)(d:D):st9 (hs++[.tup h],st++[u]++[e]) (.en d)=(hs,st++[u++[.tup (h++[.tup e])]]):=by unfold st9;dsimp only;rw[dropLast_concat,dropLast_concat,List.getLast?_concat,List.getLast?_concat,wH];rfl
theorem aLN (s:List D×List (List D))(x:L9):st9 s (er x)=st9 s x:=by cases x<;>rfl
theorem aGL:∀(ls:List L9)(s:List D×List (List D)),(ls.map er).foldl st9 s=ls.foldl st9 s
 |[],s=>rfl
 |x::ls,s=>by rw[map_cons,foldl_cons,foldl_cons,aLN,aGL ls]
theorem aES (h:List D)(ls:List L9)(d:D)(ds:List D)(ih:∀hs st u,ls.foldl st9 (hs,st++[u])=(hs,st++[u++ds]))(hs:List D)(st:List (List D))(u:List D):(L9.hd h::(ls++[.en d])).foldl st9 (hs,st++[u])=(hs,st++[u++[.tup (h++[.tup ds])]]):=by rw[foldl_cons,List.foldl_append];show foldl st9 (foldl st9 (hs++[.tup h],st++[u]++[[]]) ls) [.en d]=_;rw[ih (hs++[D.tup h]) (st++[u]) [],foldl_cons,foldl_nil,nil_append,aHL]
mutual
theorem aNA:∀(t:Th)(hs:List D) (st:List (List D)) (u:List D),(t9R t).foldl st9 (hs,st++[u])=(hs,st++[u++[thD t]])
 |.pl p,hs,st,u=>by rw[t9R,thD,foldl_cons,foldl_nil];show(hs,adT (st++[u]) (plD p))=_;rw[wH]
 |.bad d,hs,st,u=>by rw[t9R,thD,foldl_cons,foldl_nil];show(hs,adT (st++[u]) d)=_;rw[wH]
 |.ag n ws,hs,st,u=>by rw[t9R,aES _ _ _ (bZ ws) (aAQ ws),thD];rfl
 |.kp ws,hs,st,u=>by rw[t9R,aES _ _ _ (bZ ws) (aAQ ws),thD];rfl
 |.ev ws,hs,st,u=>by rw[t9R,aES _ _ _ (bZ ws) (aAQ ws),thD];rfl
theorem aAQ:∀(ts:List Th)(hs:List D) (st:List (List D)) (u:List D),(t9S ts).foldl st9 (hs,st++[u])=(hs,st++[u++bZ ts])
 |[],hs,st,u=>by rw[t9S,bZ,foldl_nil,append_nil]
 |t::ts,hs,st,u=>by rw[t9S,bZ,List.foldl_append,aNA t,aAQ ts,append_assoc];rfl
end
def v9:Nat->List L9->Prop
 |_,[]=>True
 |d,.rw _::r=>v9 d r
 |0,.en _::_=>False
 |d+1,.en _::r=>v9 d r
 |d,.hd _::r=>v9 (d+1) r
theorem aEf {d:Nat}{x:D}{r:List L9}:v9 d (.rw x::r)=v9 d r:=by cases d<;>rfl
theorem aBW {d:Nat}{x:List D}{r:List L9}:v9 d (.hd x::r)=v9 (d+1) r:=by cases d<;>rfl
theorem aDG:∀(ls:List L9)(d:Nat),v9 d (ls.map er)=v9 d ls
 |[],d=>rfl
 |.rw x::ls,d=>by rw[map_cons,aEf];show v9 d (.rw x::ls.map er)=_;rw[aEf,aDG ls]
 |.hd x::ls,d=>by rw[map_cons,aBW];show v9 d (.hd x::ls.map er)=_;rw[aBW,aDG ls]
 |.en x::ls,0=>rfl
 |.en x::ls,d+1=>aDG ls d
mutual
theorem aQF:∀(t:Th)(d:Nat) (l:List L9),v9 d l->v9 d (t9R t++l)
 |.pl p,d,l,h=>by rw[t9R,List.singleton_append,aEf];exact h
 |.bad x,d,l,h=>by rw[t9R,List.singleton_append,aEf];exact h
 |.ag n ws,d,l,h=>by rw[t9R,cons_append,append_assoc,aBW];exact aII ws (d+1) _ h
 |.kp ws,d,l,h=>by rw[t9R,cons_append,append_assoc,aBW];exact aII ws (d+1) _ h
 |.ev ws,d,l,h=>by rw[t9R,cons_append,append_assoc,aBW];exact aII ws (d+1) _ h
theorem aII:∀(ts:List Th)(d:Nat) (l:List L9),v9 d l->v9 d (t9S ts++l)
 |[],d,l,h=>by rw[t9S];exact h
 |t::ts,d,l,h=>by rw[t9S,append_assoc];exact aQF t d _ (aII ts d l h)
end
def aMN:L9->Prop
 |.hd hs=>hs.length<=3
 |_=>True
def xZ:DSp:=λds M Q=>∃(pt:Addr)(ls:List L9) (ts:List Th),ds=[.ref pt]/\M pt=some (ls.map l9D)/\ls.map er=(t9S ts).map er/\(∀x∈ls,aMN x)/\ls.length<=400/\∀M',aU M M'->Q (.tup (bZ ts)) M'
noncomputable abbrev uK:Stmt:=top 89
theorem jQ:aR ["_law_lines_here","_law_stack","_law_heads","_law_sort","_law_row_here","_law_inner"] ["_law_lines_here"] (aJ uK):=by ac_rfl
theorem aCJ (hF:bT K mg "_law_rows" uK ["_law_lines_here"])(dA:mg "tuple" = none):Has P w K mg base 101 "_law_rows" ["_law_lines_here"] xZ:=by
 refine Has.mkZ hF jQ (λds M Q ⟨_,_,_,z,_⟩=>by rw[z];rfl) λf cdv A outer s H ds M Q E hr h=>?_;obtain⟨pt,ls,ts,rfl,ht,le,lh,ln,q⟩:=h;have f0:ls.foldl st9 ([],[[]])=([],[bZ ts]):=by rw[<- aGL,le,aGL];exact aAQ ts [] [] []
 have v0:v9 0 ls:=by have:=aII ts 0 [] trivial;rw[append_nil,<- aDG,<- le,aDG] at this;exact this
 refine⟨_,(aF (aP (i:=1) jQ.nd (bR (aA (bR aD) aD)))
  (aF (aP (i:=2) jQ.nd (bR aD))
  (aF (zR PassesOwn.never rfl (aB 0) (gS (n:=2) rfl (bJ (aX (i:=3) jQ.nd) (bJ (aX (i:=4) jQ.nd) fE))) (aE (aW (aQ (cD hr) (aB 3) aL) (aF (dR (fM (aB 2) (aB 4)))
  (aE (dR (fM (aB 1) (bR aD))))) (aE (aW (aQ (cD hr) (aB 3) aL) (aF (aP (i:=5) jQ.nd (eE rE dA (aA (zG (aB 1)) aD)))
  (aE (dR (fM (aH (aB 1) (eL aC)) (aK gQ (zG (aB 2)) (aM (aA (aB 5) aD))))))) (aE (dR (fM (aH (aB 1) (eL aC)) (aB 4)))))))))
  (aE (aN (eE rE dA (aA (aH (aB 1) aC) aD))))))),?_⟩
 ac_nf;refine⟨by decide,λp0 hp0=>⟨by decide,λpl hpl=>⟨by decide,λph hph=>?_⟩⟩⟩;have ks0:KS M (bK (bK (bK M p0 []) pl [D.ref p0]) ph []) ph pl [] [(p0,[])]:=by
  obtain⟨n1,hpl'⟩:=jS hpl;obtain⟨n2,hph'⟩:=jS hph;obtain⟨n3,hph''⟩:=jS hph';refine⟨aI,by rw[bV (Ne.symm n2)];exact aI,λf hf=>?_,?_,λa ha=>?_,nM (nM (nM (.refl _) hp0) hpl') hph''⟩
  ·rw[List.mem_singleton.mp hf];show bK _ ph _ (.l p0)=some [];rw[bV (Ne.symm n3),bV (Ne.symm n1)];exact aI
  ·simp[n1,n2,n3,Ne.symm n1,Ne.symm n2,Ne.symm n3]
  ·simp at ha;rcases ha with rfl|rfl|rfl
   ·exact hph''
   ·exact hpl'
   ·exact hp0
 generalize bK (bK (bK M p0 []) pl [D.ref p0]) ph []=M1 at ks0 ⊢;refine⟨_,ks0.sub _ _ ht,?_⟩;refine⟨λi ρ M'=>∃(hs:List (List D)) (fs:List (Addr×List D)) (o3 o4 o5:Option D),KS M M' ph pl (hs.map D.tup) fs/\(∀h∈hs,h.length<=3)/\(fs.length=hs.length+1/\hs.length<=i/\∀f∈fs,f.2.length<=i)/\v9 hs.length (ls.drop i)/\(ls.drop i).foldl st9 (hs.map D.tup,fs.map (·.2))=([],[bZ ts])/\ρ=[some (.ref pt),some (.ref pl),some (.ref ph),o3,o4,o5],⟨[],[(p0,[])],none,none,none,ks0,(λh hh=>by cases hh),⟨rfl,Nat.zero_le _,λf hf=>by rw[List.mem_singleton.mp hf];exact Nat.zero_le _⟩,v0,f0,rfl⟩,?_,?_,?_⟩
 ·rintro i ρ M' _ ⟨hs,fs,_,_,_,ks,_⟩ a e;cases e;exact ks.sub _ _ ht
 ·rintro i d ρ M' hd ⟨hs,fs,o3,o4,o5,ks,ho,⟨hlen,b1,b2⟩,hv,hf,rfl⟩;rw[getElem?_map] at hd;cases hl:ls[i]? with
  |none=>rw[hl] at hd;cases hd
  |some l =>
   rw[hl] at hd;cases hd;have li:=(List.getElem?_eq_some_iff.mp hl).1;have edr:ls.drop i=l::ls.drop (i+1):=by rw[List.drop_eq_getElem_cons li,(List.getElem?_eq_some_iff.mp hl).2]
   have lhl:=lh l (mem_of_getElem? hl);rw[edr] at hv hf;rw[foldl_cons] at hf;have nf:fs≠[]:=λz=>by rw[z] at hlen;simp at hlen
   cases l with
   |rw x =>
    obtain⟨gs,⟨q0,u⟩,rfl⟩:=zI nf;have lu:u.length<=i:=b2 (q0,u) (by simp);rw[aEf] at hv;dsimp only[l9D];ac_nf;refine⟨rfl,?_⟩;rw[aO];refine ifF (by decide) ?_;rw[aO];refine ifF (by decide) ⟨_,D.ref q0,ks.hl,by rw[map_append];exact aCW,⟨u,ks.it (q0,u) (by simp)⟩,u,_,rfl,ks.it (q0,u) (by simp),by omega,?_⟩;refine⟨hs,gs++[(q0,u++[x])],_,_,_,ks.top _,ho,⟨?_,by omega,λf hf=>?_⟩,hv,?_,rfl⟩
    ·rw[length_append,length_singleton] at hlen;rw[length_append,length_singleton];omega
    ·rcases List.mem_append.mp hf with hf|hf
     ·have:=b2 f (mem_append_left _ hf);omega
     ·rw[List.mem_singleton.mp hf];show(u++[_]).length<=i+1;rw[length_append,length_singleton];omega
    ·rw[map_append,map_cons,map_nil] at hf ⊢;rw[show st9 (hs.map D.tup,gs.map (·.2)++[u]) (.rw x)=(hs.map D.tup,adT (gs.map (·.2)++[u]) x) from rfl,wH] at hf;exact hf
   |hd x =>
    rw[aBW] at hv;dsimp only[l9D];ac_nf;refine⟨rfl,?_⟩;rw[aO];refine ifT (by decide) ⟨⟨_,ks.hh⟩,_,_,rfl,ks.hh,by rw[length_map];omega,?_⟩;obtain⟨n1,n2⟩:=ks.ne;refine⟨⟨_,by rw[bV (Ne.symm n1)];exact ks.hl⟩,by decide,λp9 hp9=>?_⟩;obtain⟨np,hp1⟩:=jS hp9;have npl:pl≠p9:=λe=>by rw[<- e,ks.hl] at hp1;cases hp1
    refine⟨_,_,rfl,by rw[bV npl,bV (Ne.symm n1)];exact ks.hl,by rw[length_map];omega,?_⟩;have kp:=ks.push (.tup x) hp9;refine⟨hs++[x],fs++[(p9,[])],_,_,_,?_,?_,⟨?_,?_,?_⟩,?_,?_,rfl⟩
    ·rw[map_append];exact kp
    ·intro y hy;rcases List.mem_append.mp hy with hy|hy
     ·exact ho y hy
     ·rw[List.mem_singleton.mp hy];exact lhl
    ·rw[length_append,length_append,length_singleton,length_singleton,hlen]
    ·rw[length_append,length_singleton];omega
    ·intro f hf;rcases List.mem_append.mp hf with hf|hf
     ·have:=b2 f hf;omega
     ·rw[List.mem_singleton.mp hf];exact Nat.zero_le _
    ·rw[length_append,length_singleton];exact hv
    ·rw[map_append,map_append];exact hf
   |en x =>
    cases hs with
    |nil=>exact hv.elim
    |cons h0 hs0 =>
     obtain⟨hs,h,eh⟩:=zI (xs:=h0::hs0) (by simp);rw[eh] at ks ho hlen b1 hv hf;rw[length_append,length_singleton] at hv hlen b1;obtain⟨fs1,⟨r,e⟩,rfl⟩:=zI nf;have nf1:fs1≠[]:=λz=>by rw[z] at hlen;simp at hlen
     obtain⟨gs,⟨q0,u⟩,rfl⟩:=zI nf1;rw[map_append,map_cons,map_nil] at ks;obtain⟨n1,n2⟩:=ks.ne;have hr':=(n2 (r,e) (by simp));have hq':=(n2 (q0,u) (by simp));have lh3:=ho h (by simp);have le:e.length<=i:=b2 (r,e) (by simp);have lu:u.length<=i:=b2 (q0,u) (by simp);dsimp only[l9D];ac_nf;refine⟨rfl,?_⟩;rw[aO];refine ifF (by decide) ?_;rw[aO];refine ifT (by decide) ⟨_,D.ref r,ks.hl,by rw[map_append,map_cons,map_nil];exact aFQ,?_⟩;rw[show(map (λf=>D.ref f.1) (gs++[(q0,u)]++[(r,e)])).dropLast=(gs++[(q0,u)]).map (λf=>D.ref f.1) by rw[map_append,map_cons,map_nil,dropLast_concat]];ac_nf;refine⟨e,by rw[bV hr'.2];exact ks.it (r,e) (by simp),_,D.ref q0,aI,by rw[map_append];exact aCW,⟨u,by rw[bV hq'.2];exact ks.it (q0,u) (by simp)⟩,_,D.tup h,by rw[bV n1];exact ks.hh,aFQ,by decide,by show h.length+1<=1000;omega,u,_,rfl,by rw[bV hq'.1,bV hq'.2];exact ks.it (q0,u) (by simp),by omega,?_⟩;rw[dropLast_concat];refine⟨hs,gs++[(q0,u++[.tup (h++[.tup e])])],_,_,_,ks.pop2 _,λy hy=>ho y (mem_append_left _ hy),⟨?_,by omega,λf hf=>?_⟩,hv,?_,rfl⟩
     ·rw[length_append,length_append,length_singleton,length_singleton] at hlen;rw[length_append,length_singleton];omega
     ·rcases List.mem_append.mp hf with hf|hf
      ·have:=b2 f (mem_append_left _ (mem_append_left _ hf));omega
      ·rw[List.mem_singleton.mp hf];show(u++[_]).length<=i+1;rw[length_append,length_singleton];omega
     ·rw[map_append,map_append,map_append,map_cons,map_nil,map_cons,map_nil,map_cons,map_nil,aHL] at hf;rw[map_append,map_cons,map_nil];exact hf
 ·rintro ρ M' ⟨hs,fs,o3,o4,o5,ks,ho,⟨hlen,b1,b2⟩,hv,hf,rfl⟩;rw[length_map,List.drop_length,foldl_nil] at hf;obtain rfl:hs=[]:=List.map_eq_nil_iff.mp (congrArg Prod.fst hf)
  replace hf:fs.map (·.2)=[bZ ts]:=congrArg Prod.snd hf
  obtain⟨f,rfl⟩:∃f,fs=[f]:=by
   match fs,hlen with
   |[f],_=>exact⟨f,rfl⟩
  have ef:f.2=bZ ts:=(List.cons.inj hf).1;ac_nf;refine⟨_,_,ks.hl,rfl,f.2,ks.it f (by simp),bE ?_⟩;rw[ef];exact q _ ks.sub
noncomputable def dv9:L9->Int
 |.hd _=>1
 |.en _=>-1
 |.rw _=>0
noncomputable def dp9 (ls:List L9):Int:=(ls.map dv9).sum
theorem zM (xs ys:List L9):dp9 (xs++ys)=dp9 xs+dp9 ys:=by unfold dp9;rw[map_append,sum_append]
theorem aAA (x:L9)(xs:List L9):dp9 (x::xs)=dv9 x+dp9 xs:=by unfold dp9;rw[map_cons,List.sum_cons]
theorem aFg (x:L9):dp9 [x]=dv9 x:=by rw[aAA];show _+0=_;omega
theorem aHF {h:List D}{ls:List L9}{d:D}(z:dp9 ls=0)(p:∀j,0<=dp9 (ls.take j)):dp9 (.hd h::(ls++[.en d]))=0/\∀j,0<j->j<(L9.hd h::(ls++[.en d])).length->0<dp9 ((L9.hd h::(ls++[.en d])).take j):=by refine⟨by rw[aAA,zM,z,aFg];rfl,λj j0 jl=>?_⟩;obtain⟨j,rfl⟩:∃i,j=i+1:=⟨j-1,by omega⟩;rw[length_cons,length_append,length_singleton] at jl;rw[List.take_succ_cons,aAA,List.take_append_of_le_length (by omega)];have:=p j;show 0<1+_;omega
mutual
theorem aKX:∀t:Th,dp9 (t9R t)=0/\∀j,0<j->j<(t9R t).length->0<dp9 ((t9R t).take j)
 |.pl p=>by rw[t9R];exact⟨rfl,λj a b=>by rw[length_singleton] at b;omega⟩
 |.bad d=>by rw[t9R];exact⟨rfl,λj a b=>by rw[length_singleton] at b;omega⟩
 |.ag n ws=>by rw[t9R];exact aHF (aAa ws).1 (aAa ws).2
 |.kp ws=>by rw[t9R];exact aHF (aAa ws).1 (aAa ws).2
 |.ev ws=>by rw[t9R];exact aHF (aAa ws).1 (aAa ws).2
theorem aAa:∀ts:List Th,dp9 (t9S ts)=0/\∀j,0<=dp9 ((t9S ts).take j)
 |[]=>by rw[t9S];exact⟨rfl,λj=>by rw[List.take_nil];exact Int.le_refl _⟩
 |t::ts=>by
  obtain⟨a,b⟩:=aKX t;obtain⟨c,d⟩:=aAa ts;rw[t9S];refine⟨by rw[zM,a,c];rfl,λj=>?_⟩;rw[List.take_append,zM];have h2:=d (j-(t9R t).length);have h1:0<=dp9 ((t9R t).take j):=by
   by_cases c0:j=0
   ·rw[c0,take_zero];exact Int.le_refl _
   ·by_cases c1:j<(t9R t).length
    ·have:=b j (by omega) c1;omega
    ·rw[take_of_length_le (by omega),a];exact Int.le_refl _
  omega
end
theorem aMr {xs:List D}{k:Nat}{d:D}(h:xs[k]?=some d):atI xs (k:Int)=some d:=by have:=(List.getElem?_eq_some_iff.mp h).1;unfold atI ixN;rw[if_pos (by omega),if_pos (by omega)];exact h
def sU:DSp:=λds M Q=>∃(pl:Addr)(ls:List L9) (n:Nat) (t:Th) (cP:List L9),ds=[.ref pl,.int (n:Int)]/\M pl=some (ls.map l9D)/\ls.drop n=t9R t++cP/\n<=ls.length/\ls.length<=400/\Q (.int ((n+(t9R t).length:Nat):Int)) M
noncomputable abbrev pF:Stmt:=top 90
theorem kW:aR ["_law_lines_here","_law_number","_law_deep","_law_k"] ["_law_lines_here","_law_number"] (aJ pF):=by ac_rfl
theorem zU (hF:bT K mg "_law_end_of" pF ["_law_lines_here","_law_number"])(iX:mg "range" = none)(cF:mg "len" = none)(lS:mg "int" = none):Has P w K mg base 101 "_law_end_of" ["_law_lines_here","_law_number"] sU:=by
 refine Has.mkZ hF kW (λds M Q ⟨_,_,_,_,_,z,_⟩=>by rw[z];rfl) λf cdv A outer s H ds M Q E hr h=>?_;obtain⟨pl,ls,n,t,cP,rfl,hp,ed,hn,ln,q⟩:=h;refine⟨_,(aF (aP (i:=2) kW.nd aC)
  (aF (aHV PassesOwn.never rfl iX (aA (aB 1) (aA (bI eJ cF (aA (aB 0) aD)) aD)) (aX (i:=3) kW.nd) (aF (aP (i:=2) kW.nd (aK jW (aK cB (aB 2) (eE tJ lS (aA (cN (cD hr) (aH (aH (aB 0) (aB 3)) aC) aL) aD))) (eE tJ lS (aA (cN (cD hr) (aH (aH (aB 0) (aB 3)) aC) aL) aD))))
  (aE (aW (aQ (cD hr) (aB 2) aC) (aE (aN (aK cB (aB 3) aC))) aS))))
  (aE (aN (bI eJ cF (aA (aB 0) aD)))))),?_⟩
 obtain⟨d0,d1⟩:=aKX t;have t1:1<=(t9R t).length:=by cases t<;>rw[t9R]<;>simp
 have ll:ls.length=n+((t9R t).length+cP.length):=by have:=congrArg length ed;rw[length_drop,length_append] at this;omega
 ac_nf;refine⟨_,hp,?_⟩;rw[length_map];refine⟨⟨by omega,by omega,by omega,by omega⟩,λi ρ M'=>M'=M/\i<(t9R t).length/\∃o3,ρ=[some (.ref pl),some (.int (n:Int)),some (.int (dp9 ((t9R t).take i))),o3],⟨rfl,by omega,none,rfl⟩,?_,?_⟩
 ·rintro i ρ M' hi ⟨rfl,il,o3,rfl⟩;obtain⟨x,hx⟩:∃x,(t9R t)[i]?=some x:=⟨_,List.getElem?_eq_getElem il⟩;have a1:atI (ls.map l9D) ((n:Int)+(i:Int))=some (l9D x):=by rw[show(n:Int)+(i:Int)=((n+i:Nat):Int) by omega];refine aMr ?_;rw[getElem?_map,<- List.getElem?_drop,ed,getElem?_append_left il,hx];rfl
  have nx:dp9 ((t9R t).take (i+1))=dp9 ((t9R t).take i)+dv9 x:=by rw[List.take_add_one,hx,zM];show _+dp9 [x]=_;rw[aFg]
  have fin:∀z:Int,z=dp9 ((t9R t).take (i+1))->dEq id (.int z) (.int 0) M' (λd_1 M'_1=>match d_1 with
    |.bl k=>if k=true then Dn Q (.int ((n:Int)+(i:Int)+1)) M'_1 else M'_1=M'/\i+1<(t9R t).length/\∃o3',[some (D.ref pl),some (.int (n:Int)),some (.int z),some (.int ((n:Int)+(i:Int)))]=[some (D.ref pl),some (.int (n:Int)),some (.int (dp9 ((t9R t).take (i+1)))),o3']
    |_=>False):=λz ez=>by
   rw[cU];by_cases c:i+1<(t9R t).length
   ·have:=d1 (i+1) (by omega) c;exact ifF (decide_eq_false (by omega)) ⟨rfl,c,_,by rw[ez]⟩
   ·have el:i+1=(t9R t).length:=by omega
    rw[el,take_length,d0] at ez;refine ifT (decide_eq_true ez) (bE ?_);rw[show(n:Int)+(i:Int)+1=((n+(t9R t).length:Nat):Int) by omega];exact q
  ac_nf;refine⟨_,_,hp,a1,?_⟩;cases x with
  |hd hs =>
   dsimp only[l9D] at a1 ⊢;ac_nf;rw[aO];refine⟨_,_,hp,a1,?_⟩;ac_nf;rw[aO];exact fin _ (by rw[nx];show dp9 _+1-0=dp9 _+1;omega)
  |rw y =>
   dsimp only[l9D] at a1 ⊢;ac_nf;rw[aO];refine⟨_,_,hp,a1,?_⟩;ac_nf;rw[aO];exact fin _ (by rw[nx];show dp9 _+0-0=dp9 _+0;omega)
  |en y =>
   dsimp only[l9D] at a1 ⊢;ac_nf;rw[aO];refine⟨_,_,hp,a1,?_⟩;ac_nf;rw[aO];exact fin _ (by rw[nx];show dp9 _+0-1=dp9 _ + -1;omega)
 ·rintro ρ M' ⟨rfl,il,_⟩;omega
def aKa (M:DM)(Q:DQ)(xs:List D):Prop:=∀(p:Addr)(M':DM),aU M M'->M (.l p)=none->M' (.l p)=some xs->Q (.ref p) M'
def aBY (ts:List Th)(M:DM)(Q:DQ):Prop:=match lkS ts 0 [] with
 |.inr i=>aKa M Q [.str "no row",.int i]
 |.inl _=>if hmS (gdS ts)<=60 then ∀M',aU M M'->Q (.tup (bZ ts)) M' else aKa M Q [.str "too much"]
def yQ:DSp:=λds M Q =>
 (∃(rs:List Rw)(z:Int) (x:D),ds = [.str "at",.tup (bA rs),.int z,x]/\DpS 8 rs/\((∃k:Nat,z = (k:Int)/\k<nbS rs/\∀M',aU M M'->Q (aNn (gD rs k)) M')∨((z<0∨(nbS rs:Int)<=z)/\aKa M Q [.str "no row",.int z]))) ∨
 (∃(rs:List Rw)(z:Int) (m:List Th),ds = [.str "changed",.tup (bA rs),.int z,.tup (bZ m)]/\DpS 8 rs/\hmS rs<=200/\m.length<=200/\(((z<0∨(nbS rs:Int)<z)/\aKa M Q [.str "no row",.int z])∨(∃k:Nat,z=(k:Int)/\k<=nbS rs/\(dE (cQ rs k m)/\boS (cQ rs k m))/\hmS (gdS (cQ rs k m))<=900/\aBY (cQ rs k m) M Q))) ∨
 (∃(a b:D)(ts:List Th),ds = [.str "of",a,b,.tup (bZ ts)]/\(dE ts/\boS ts)/\hmS (gdS ts)<=900/\aBY ts M Q)
noncomputable abbrev uL:Stmt:=top 91
theorem yL:aR ["_law_way","_law_rows_here","_law_number","_law_more","e"] ["_law_way","_law_rows_here","_law_number","_law_more"] (aJ uL):=by ac_rfl
theorem aCi {C_NoRow C_MillError C_TooMuch:Addr}(hF:bT K mg "_law_told" uL ["_law_way","_law_rows_here","_law_number","_law_more"])(bC:mg "isinstance" = none)(fG:qD P w K mg base "NoRow" C_NoRow "row")(iM:aDc K mg "TooMuch" C_TooMuch)(rN:aDc K mg "MillError" C_MillError)(sJ:tV K C_NoRow)(oM:tV K C_TooMuch)(f_NoRow:aBp K C_NoRow "row")(fD:exmOne K (.ref C_NoRow) (.ref C_MillError)=some true)(eF:exmOne K (.ref C_TooMuch) (.ref C_MillError)=some true)(nO:kitOne K (.ref C_NoRow) (.ref C_NoRow)=some true)(eZ:kitOne K (.ref C_NoRow) (.ref C_TooMuch)=some false)(gM:kitOne K (.ref C_TooMuch) (.ref C_NoRow)=some false)(gW:kitOne K (.ref C_TooMuch) (.ref C_TooMuch)=some true)(aAP:Has P w K mg base 129 "row_at" ["program","number"] aB3)(aA9:fW P w K mg base 129 "row_at" ["program","number"] C_NoRow "row" aOI)(xN:Has P w K mg base 138 "changed" ["program","number","rows"] zZ)(wZ:fW P w K mg base 138 "changed" ["program","number","rows"] C_NoRow "row" aPR)(w_changed:iS P w K mg base 138 "changed" ["program","number","rows"] C_TooMuch aOC)(eI:Has P w K mg base 129 "program_of" ["rows"] kU)(fJ:fW P w K mg base 129 "program_of" ["rows"] C_NoRow "row" aH3)(w_program_of:iS P w K mg base 129 "program_of" ["rows"] C_TooMuch aGO):Has P w K mg base 139 "_law_told" ["_law_way","_law_rows_here","_law_number","_law_more"] yQ:=by
 refine Has.mkZ hF yL (λds M Q h=>by rcases h with⟨_,_,_,z,_⟩|⟨_,_,_,z,_⟩|⟨_,_,_,z,_⟩<;>rw[z]<;>rfl) λf cdv A outer s H ds M Q E hr h=>?_;refine⟨_,(aE (aGk (j:=4) (aBT (aG3 (aQ (cD hr) (aB 0) aL) (aA6 (aCC (aAm aA9 (by decide)) aAP hr (by decide) (aA (aB 1) (aA (aB 2) aD)))) aDl) (aBT (aG3 (aQ (cD hr) (aB 0) aL) (aA6 (aCC (aBL (aDT w_changed (by decide)) (aAm wZ (by decide))) xN hr (by decide) (aA (aB 1) (aA (aB 2) (aA (aB 3) aD))))) aDl) (aA6 (aCC (aBL (aDT w_program_of (by decide)) (aAm fJ (by decide))) eI hr (by decide) (aA (aB 3) aD))))) yL.nd rN.nm eF fD
  (λ_ _ ho=>(aF (aW (fY (fU (dD (aAp (j:=4) ho oM fG.nm gM bC)) (fF (kS (dD (aAp (j:=4) ho oM iM.nm gW bC)))))) (aE (aN (bR (aA aL (aA aF2 aD))))) aS)
  (aE (aN (iK (dD (aAp (j:=4) ho oM iM.nm gW bC)) (bR (aA aL aD)) (bR (aA aL aD)))))))
  (λ_ _ _ _ _ _ ho hl=>(aF (aW (fY (fU (dD (zY (j:=4) ho sJ fG.nm nO bC)) (fF (kS (dD (zY (j:=4) ho sJ iM.nm eZ bC)))))) (aE (aN (bR (aA aL (aA (aJk (j:=4) ho hl sJ f_NoRow) aD))))) aS)
  (aE (aN (iK (dD (zY (j:=4) ho sJ iM.nm eZ bC)) (bR (aA aL aD)) (bR (aA aL aD))))))))),?_⟩
 rcases h with⟨rs,z,x,rfl,dp,how⟩|⟨rs,z,m,rfl,dp,hm,lm,how⟩|⟨a,b,ts,rfl,va,h9,q⟩
 ·ac_nf;rw[aO];refine ifT (by decide) ?_;rcases how with⟨k,rfl,hk,q⟩|⟨hz,q⟩
  ·exact .inr ⟨rs,k,rfl,dp,hk,bE (q _ (.refl _))⟩
  ·refine .inl ⟨.y C_NoRow "row" _,⟨_,rfl,rs,z,rfl,dp,hz,rfl⟩,⟨rfl,rfl,λa=>?_⟩⟩;ac_nf;exact⟨rfl,ifT rfl ⟨rfl,ifT rfl ⟨rfl,by decide,λp hp=>bE (q p _ (aU.new hp _) hp aI)⟩⟩⟩
 ·ac_nf;rw[aO];refine ifF (by decide) ?_;rw[aO];refine ifT (by decide) ?_;rcases how with⟨hz,q⟩|⟨k,rfl,hk,va,h9,q⟩
  ·refine .inl ⟨.y C_NoRow "row" _,.inr ⟨_,rfl,rs,z,m,rfl,dp,hm,lm,.inl ⟨hz,rfl⟩⟩,⟨rfl,rfl,λa=>?_⟩⟩;ac_nf;exact⟨rfl,ifT rfl ⟨rfl,ifT rfl ⟨rfl,by decide,λp hp=>bE (q p _ (aU.new hp _) hp aI)⟩⟩⟩
  unfold aBY at q;cases hz:lkS (cQ rs k m) 0 [] with
  |inr i =>
   rw[hz] at q;refine .inl ⟨.y C_NoRow "row" _,.inr ⟨_,rfl,rs,_,m,rfl,dp,hm,lm,.inr ⟨k,rfl,hk,va,h9,hz⟩⟩,⟨rfl,rfl,λa=>?_⟩⟩;ac_nf;exact⟨rfl,ifT rfl ⟨rfl,ifT rfl ⟨rfl,by decide,λp hp=>bE (q p _ (aU.new hp _) hp aI)⟩⟩⟩
  |inl b =>
   rw[hz] at q;dsimp only at q;by_cases c:hmS (gdS (cQ rs k m))<=60
   ·rw[if_pos c] at q;exact .inr ⟨rs,k,m,rfl,dp,hm,lm,hk,va,c,⟨b,hz⟩,bE (q _ (.refl _))⟩
   ·rw[if_neg c] at q;refine .inl ⟨.x C_TooMuch,.inl ⟨rfl,rs,k,m,rfl,dp,hm,lm,hk,va,h9,⟨b,hz⟩,by omega⟩,rfl,λa=>?_⟩;ac_nf;exact⟨rfl,ifF rfl (ifF rfl ⟨rfl,ifT rfl ⟨by decide,λp hp=>bE (q p _ (aU.new hp _) hp aI)⟩⟩)⟩
 ·ac_nf;rw[aO];refine ifF (by decide) ?_;rw[aO];refine ifF (by decide) ?_;unfold aBY at q;cases hz:lkS ts 0 [] with
  |inr i =>
   rw[hz] at q;refine .inl ⟨.y C_NoRow "row" _,.inr ⟨_,rfl,ts,rfl,va,h9,hz⟩,⟨rfl,rfl,λa=>?_⟩⟩;ac_nf;exact⟨rfl,ifT rfl ⟨rfl,ifT rfl ⟨rfl,by decide,λp hp=>bE (q p _ (aU.new hp _) hp aI)⟩⟩⟩
  |inl b =>
   rw[hz] at q;dsimp only at q;by_cases c:hmS (gdS ts)<=60
   ·rw[if_pos c] at q;exact .inr ⟨ts,rfl,va,c,⟨b,hz⟩,bE (q _ (.refl _))⟩
   ·rw[if_neg c] at q;refine .inl ⟨.x C_TooMuch,.inl ⟨rfl,ts,rfl,va,h9,⟨b,hz⟩,by omega⟩,rfl,λa=>?_⟩;ac_nf;exact⟨rfl,ifF rfl (ifF rfl ⟨rfl,ifT rfl ⟨by decide,λp hp=>bE (q p _ (aU.new hp _) hp aI)⟩⟩)⟩
theorem aEj:∀{L:List D},(∀d∈L,∃c,d=.int c)->∃cs:List Int,L=cs.map D.int
 |[],_=>⟨[],rfl⟩
 |d::L,h=>by obtain⟨c,rfl⟩:=h d (mem_cons_self ..);obtain⟨cs,e⟩:=aEj λx hx=>h x (mem_cons_of_mem _ hx);exact⟨c::cs,by rw[e];rfl⟩
theorem aG5 (ns:List Int)(a b:Nat):∃cs:List Int,Dd.cutD (ns.map D.int) (some (a:Int)) (some (b:Int))=cs.map D.int/\cs.length<=b-a:=by
 obtain⟨cs,e⟩:=aEj (L:=Dd.cutD (ns.map D.int) (some (a:Int)) (some (b:Int))) λd hd=>by obtain⟨c,_,e⟩:=List.mem_map.mp (aJV hd);exact⟨c,e.symm⟩
 have l:(Dd.cutD (ns.map D.int) (some (a:Int)) (some (b:Int))).length<=b-a:=by unfold Dd.cutD;rw[HT.sIx_nat,HT.sIx_nat,length_take,length_drop,length_map];omega
 rw[e,length_map] at l;exact⟨cs,e,l⟩
theorem aDU {a b:List Int}(h:a.map D.int=b.map D.int):a=b:=(List.map_inj_right λ_ _ e=>by cases e;rfl).mp h
noncomputable def aBw (n:Nat):List Rw:=(replicate 20 [Rw.pl (.go (1/2)),.pl .left]).flatten++replicate n (.pl .dot)
inductive aCB:List Rw->List Rw->Prop
 |stop {rs} (h:¬60<hmS rs):aCB rs rs
 |pop {rs r out} (h:60<hmS (rs++[r])) (t:aCB rs out):aCB (rs++[r]) out
theorem aCB.det {rs a b:List Rw}(h:aCB rs a)(h':aCB rs b):a=b:=by
 induction h with
 |stop n =>
  cases h' with
  |stop=>rfl
  |pop p t=>exact absurd p n
 |@pop rs r out p t ih =>
  generalize e:rs++[r]=xs at h';cases h' with
  |stop n=>rw[<- e] at n;exact absurd p n
  |@pop rs' r' _ p' t' =>
   obtain⟨h1,h2⟩:=append_inj' e rfl;subst h1;exact ih t'
def aJI (ns:List Int)(rs:List Rw):Prop:=∃(L:List D)(z0 z1:Int) (cs:List Int) (rs0:List Rw),aBx (vP ns 26) 2 L/\(atI L 0=some (.int z0)/\atI L 1=some (.int z1))/\Dd.cutD (ns.map D.int) (some 1) (some 21)=cs.map D.int/\xY cs rs0/\aCB (if z0.fmod 4=1 then aBw (z1.fmod 20).toNat++rs0 else rs0) rs
theorem aJI.det {ns:List Int}{a b:List Rw}(h:aJI ns a)(h':aJI ns b):a=b:=by obtain⟨L,z0,z1,cs,rs0,r,⟨a0,a1⟩,c,p,t⟩:=h;obtain⟨L',y0,y1,cs',rs0',r',⟨b0,b1⟩,c',p',t'⟩:=h';obtain rfl:=r.det r';rw[a0] at b0;cases b0;rw[a1] at b1;cases b1;rw[c] at c';obtain rfl:=aDU c';obtain rfl:=p.det p';exact t.det t'
structure B9 (rs:List Rw):Prop where
 dp:∀r∈rs,Dp 4 r
 len:rs.length<=100
 ow:Ow rs
 va:dE (ofS rs)
theorem B9.app {xs ys:List Rw}(h:B9 (xs++ys)):B9 xs:=by obtain⟨a,b,⟨c1,c2,c3⟩,d⟩:=h;rw[length_append] at b;rw[eU] at c2;rw[nC,map_append,<- nC,<- nC] at d;exact⟨λr hr=>a r (mem_append_left _ hr),by omega,⟨(iV.mp c1).1,by omega,(aEr.mp c3).1⟩,(rS.mp d).1⟩
theorem B9.join {xs ys:List Rw}(h:B9 xs)(g:B9 ys)(l:xs.length+ys.length<=100)(d:dnS xs+dnS ys<=690):B9 (xs++ys):=by refine⟨λr hr=>(List.mem_append.mp hr).elim (h.dp r) (g.dp r),by rw[length_append];exact l,⟨iV.mpr ⟨h.ow.gw,g.ow.gw⟩,by rw[eU];exact d,aEr.mpr ⟨h.ow.a9,g.ow.a9⟩⟩,?_⟩;rw[nC,map_append,<- nC,<- nC];exact rS.mpr ⟨h.va,g.va⟩
theorem aGP (n d:Nat):HT.sIx n d (some (-1))=n-1:=by show(if (-1:Int)<0 then ((-1:Int)+(n:Int)).toNat else min (-1:Int).toNat n)=_;rw[if_pos (by decide)];omega
theorem aHg (xs:List D)(d:D):Dd.cutD (xs++[d]) none (some (-1))=xs:=by unfold Dd.cutD;rw[aGP,HT.sIx_none,List.drop_zero,Nat.sub_zero,length_append,length_singleton,Nat.add_sub_cancel,List.take_left'];rfl
def P9 (p:Pl):Prop:=p=.go (1/2)∨p=.left∨p=.dot
theorem P9.row {p:Pl}(h:P9 p):gwR 690 (.pl p)/\plV p:=by
 have g0:∀p:Pl,(∀a,p ≠ .grow a)->gwR 690 (.pl p):=λp h=>by
  cases p with
  |grow a=>exact absurd rfl (h a)
  |_ =>
      rw[gwR];· trivial
      all_goals (intro _ z;cases z)
 rcases h with rfl|rfl|rfl
 ·exact⟨g0 _ (λ_ z=>by cases z),⟨by unfold Bd;decide +kernel,by unfold Bd;decide +kernel⟩,λ_ z=>by cases z⟩
 ·exact⟨g0 _ (λ_ z=>by cases z),trivial,λ_ z=>by cases z⟩
 ·exact⟨g0 _ (λ_ z=>by cases z),trivial,λ_ z=>by cases z⟩
theorem P9.rows:∀ps:List Pl,(∀p∈ps,P9 p)->dnS (ps.map .pl)=ps.length/\gwS 690 (ps.map .pl)/\a9S (ps.map .pl)/\dE (ofS (ps.map .pl))
 |[],_=>by rw[map_nil,dnS,gwS,a9S,ofS,dE];exact⟨rfl,trivial,trivial,trivial⟩
 |p::ps,h=>by obtain⟨h1,h2,h3,h4⟩:=P9.rows ps λx hx=>h x (mem_cons_of_mem _ hx);have hp:=(h p (mem_cons_self ..)).row;rw[map_cons,dnS,gwS,a9S,ofS,dE,dnR,h1,a9R,ofR,vaT,length_cons];exact⟨Nat.add_comm ..,⟨hp.1,h2⟩,⟨trivial,h3⟩,hp.2,h4⟩
noncomputable def ps9 (n:Nat):List Pl:=(replicate 20 [Pl.go (1/2),.left]).flatten++replicate n .dot
theorem aB9 (n:Nat):(ps9 n).length=40+n:=by unfold ps9;rw[length_append,length_replicate];rfl
theorem aKy (n:Nat):∀p∈ps9 n,P9 p:=by
 intro p hp;unfold ps9 at hp;rcases List.mem_append.mp hp with h|h
 ·obtain⟨l,hl,h⟩:=List.mem_flatten.mp h;rw[(List.mem_replicate.mp hl).2] at h;rcases List.mem_cons.mp h with e|h
  ·exact .inl e
  ·exact .inr (.inl (List.mem_singleton.mp h))
 ·exact .inr (.inr (List.mem_replicate.mp h).2)
theorem aH4 (n:Nat):aBw n=(ps9 n).map .pl:=by unfold aBw ps9;rw[map_append,List.map_flatten,map_replicate,map_replicate];rfl
theorem aND (n:Nat)(h:n<20):B9 (aBw n)/\(aBw n).length=40+n/\dnS (aBw n)=40+n:=by
 obtain⟨h1,h2,h3,h4⟩:=P9.rows _ (aKy n);rw[aH4];rw[aB9] at h1;refine⟨⟨λr hr=>?_,by rw[length_map,aB9];omega,⟨h2,by omega,h3⟩,h4⟩,by rw[length_map,aB9],h1⟩;obtain⟨p,_,rfl⟩:=List.mem_map.mp hr
 trivial
theorem aHx (n:Nat)(d:D):(replicate n [d]).flatten=replicate n d:=by
 induction n with
 |zero=>rfl
 |succ n ih=>rw[replicate_succ,flatten_cons,ih];rfl
theorem aNw (n:Nat):bA (aBw n) = (replicate 20 [D.tup [.str "go",.tup [.int 1,.int 2]],.tup [.str "left"]]).flatten++(replicate n [D.tup [.str "dot"]]).flatten:=by
 have f:FQ (1/2)=.tup [.int 1,.int 2]:=by unfold FQ;rw[show(1/2:Rat).num=1 by decide +kernel,show(1/2:Rat).den=2 by decide +kernel];rfl
 unfold aBw;rw[eS,map_append,List.map_flatten,map_replicate,map_replicate,aHx,map_cons,map_cons,map_nil,rwD,rwD,rwD,plD,plD,plD,f]
def tG:DSp:=λds M Q=>∃ns:List Int,ds=[.fz (ns.map D.int)]/\∀(rs:List Rw)(M':DM),B9 rs->hmS rs<=60->aJI ns rs->aU M M'->Q (.tup (bA rs)) M'
noncomputable abbrev oZ:Stmt:=top 94
theorem iT:aR ["_law_script","_law_row_here","_law_rows_here"] ["_law_script"] (aJ oZ):=by ac_rfl
theorem aAN (hF:bT K mg "_law_before" oZ ["_law_script"])(dJ:Has P w K mg base 101 "_law_cell_at" ["_law_script","_law_k"] jR)(eY:Has P w K mg base 101 "_law_row" ["_law_cell","_law_many_here"] mM)(gP:Has P w K mg base 121 "_law_program" ["_law_cells"] mT)(mG:Has P w K mg base 118 "_law_many" ["_law_rows_here"] (aAk 8)):Has P w K mg base 122 "_law_before" ["_law_script"] tG:=by
 refine Has.mkZ hF iT (λds M Q ⟨_,z,_⟩=>by rw[z];rfl) λf cdv A outer s H ds M Q E hr h=>?_;obtain⟨ns,rfl,q⟩:=h;refine⟨_,(aF (aP (i:=1) iT.nd (aG eY hr (by decide) (aA (aG dJ hr (by decide) (aA (aB 0) (aA aC aD))) (aA aC aD))))
  (aF (aP (i:=2) iT.nd (aG gP hr (by decide) (aA (lY (aB 0) (dH aC) (dH aC)) aD)))
  (hJ (aW (aQ (cD hr) (aK cZ (aH (aB 1) aC) aC) aC) (aE (aP (i:=2) iT.nd (aK gQ (aK gQ (aK aFI (aM (aA (aM (aA aL (aA (aM (aA aC (aA aC aD))) aD))) (aA (aM (aA aL aD)) aD))) aC) (aK aFI (aM (aA (aM (aA aL aD)) aD)) (aK cZ (aH (aB 1) aC) aC))) (aB 2)))) aS)
  (aF (iH PassesOwn.never (aQ gA (aG mG hr (by decide) (aA (aB 2) aD)) aC) (aE (aP (i:=2) iT.nd (aE1 (aB 2) iQ (dH (eL aC))))))
  (aE (aN (aB 2))))))),?_⟩
 ac_nf;refine⟨ns,26,rfl,?_⟩;ac_nf;refine⟨_,2,rfl,by decide,by decide,λpr L hpr hL rl=>?_⟩;have hL:mO 2 L:=hL;have rl:aBx (vP ns 26) 2 L:=rl;have s1:=aU.new hpr L;have h1:bK M pr L pr=some L:=aI;generalize bK M pr L=M1 at s1 h1 ⊢;obtain⟨z0,e0,_⟩:=hL.at (i:=0) (by omega);obtain⟨z1,e1,_⟩:=hL.at (i:=1) (by omega);ac_nf;intro p0 hp0;obtain⟨cs,ec,lc⟩:=aG5 ns 1 21;have ec:Dd.cutD (ns.map D.int) (some 1) (some 21)=cs.map D.int:=ec;rw[ec];refine⟨p0,cs,rfl,aI,by omega,λrs0 A M2 a0 a1 dp lr dn gw al lt pg sub=>?_⟩;have sub2:=(s1.trans (aU.new hp0 (cs.map D.int))).trans sub;have h2:M2 pr=some L:=sub _ _ ((aU.new hp0 (cs.map D.int)) _ _ h1);clear sub hp0 s1 h1;have b0:B9 rs0:=⟨dp,by omega,⟨gw,by omega,aHD rs0 lt.2.2 lt.1⟩,xR rs0 al lt.1⟩;have n0:=Int.fmod_nonneg_of_pos z1 (show(0:Int)<20 by decide);have n1:=Int.fmod_lt_of_pos z1 (show(0:Int)<20 by decide);obtain⟨pb,pl9,pd⟩:=aND (z1.fmod 20).toNat (by omega);have bj:B9 (if z0.fmod 4=1 then aBw (z1.fmod 20).toNat++rs0 else rs0):=by
  split
  ·exact pb.join b0 (by omega) (by omega)
  ·exact b0
 obtain⟨rs1,ers⟩:∃rs1,rs1=if z0.fmod 4=1 then aBw (z1.fmod 20).toNat++rs0 else rs0:=⟨_,rfl⟩
 rw[<- ers] at bj;ac_nf;refine⟨λρ' M'=>M'=M2/\ρ'=[some (.fz (ns.map D.int)),some (.ref pr),some (.tup (bA rs1))],?_,?_⟩
 ·refine⟨L,_,h2,e0,?_⟩;ac_nf;rw[cU];refine⟨by decide,?_⟩;by_cases c:z0.fmod 4=1
  ·rw[if_pos c] at ers;refine ifT (decide_eq_true c) ⟨by decide,by decide,by decide,by decide,by simp,by decide,by decide,by decide,by decide,by decide,L,_,h2,e1,?_⟩;ac_nf;have el:bA rs1 = (replicate 20 [D.tup [.str "go",.tup [.int 1,.int 2]],.tup [.str "left"]]).flatten++(replicate (z1.fmod 20).toNat [D.tup [.str "dot"]]).flatten++bA rs0:=by rw[ers,uV,aNw]
   have ll:=bj.len;have l2:(bA rs1).length<=100:=by rw[bF];exact ll
   have l3:=l2;rw[el,length_append] at l3;have l4:=l3;rw[length_append] at l4;refine⟨by decide,by simp,by omega,by omega,by omega,?_,?_,rfl,?_⟩
   ·exact Nat.le_trans (Nat.le_trans (Nat.le_add_right _ _) l4) (by decide)
   ·exact Nat.le_trans l3 (by decide)
   ·rw[el];rfl
  ·rw[if_neg c] at ers;exact ifF (decide_eq_false c) ⟨rfl,by rw[ers]⟩
 ·rintro ρ' M' ⟨rfl,rfl⟩;refine jN (λm ρ M3=>∃rs:List Rw,m=rs.length/\B9 rs/\(∀out,aCB rs out->aCB rs1 out)/\M3=M'/\ρ=[some (.fz (ns.map D.int)),some (.ref pr),some (.tup (bA rs))]) rs1.length ⟨rs1,rfl,bj,λ_ h=>h,rfl,rfl⟩ ?_;rintro m ρ M1 ⟨rs,rfl,bb,tr,rfl,rfl⟩;have d8:DpS 8 rs:=⟨by have:=bb.len;omega,λr hr=>dL (d':=7) (bb.dp r hr) (by decide)⟩;ac_nf;refine⟨rs,rfl,d8,?_⟩;ac_nf;by_cases c:60<hmS rs
  ·refine ifT (decide_eq_true (by omega)) ?_;have rn:rs≠[]:=λz=>by rw[z,hmS] at c;omega
   obtain⟨rs',r,rfl⟩:∃rs' r,rs=rs'++[r]:=⟨_,_,(List.dropLast_concat_getLast rn).symm⟩;have el:bA (rs'++[r])=bA rs'++[rwD r]:=by rw[lZ,bA,bA]
   have ll:(rs'++[r]).length=rs'.length+1:=by rw[length_append];rfl
   dsimp only[aKY];refine⟨λz=>?_,rs'.length,by omega,rs',rfl,bb.app,λout h=>tr out (.pop c h),rfl,by rw[el,aHg]⟩;have z2:=z.2;rw[aGP,bF] at z2;omega
  ·refine ifF (decide_eq_false (by omega)) ?_;exact bE (q rs M1 bb (by omega) ⟨L,z0,z1,cs,rs0,rl,⟨e0,e1⟩,ec,pg,by rw[<- ers];exact tr rs (.stop c)⟩ sub2)
noncomputable def mx3 (es:List E3):Nat:=(es.map λx=>x.2.2.length+1).sum
theorem sK (xs ys:List E3):mx3 (xs++ys)=mx3 xs+mx3 ys:=by unfold mx3;rw[map_append,sum_append]
theorem nI (x:E3):mx3 [x]=x.2.2.length+1:=by unfold mx3;simp
theorem ClR.mx3 {es es':List E3}(h:ClR es es'):mx3 es'<=mx3 es:=by obtain⟨xs,u,e,rfl,rfl⟩:=h;rw[show xs++[u,e]=xs++[u]++[e] by simp,sK,sK,sK,nI,nI,nI,length_append,length_singleton];omega
theorem StR.mx3 {c:Int}{es es':List E3}(h:StR c es es'):mx3 es'<=mx3 es+1:=by
 obtain⟨L,z11,z10,z9,_,_,h⟩:=h;rcases h with⟨_,wd0,k,_,_,rfl⟩|⟨_,_,cl⟩|⟨_,_,p,xs,u,_,rfl,rfl⟩
 ·rw[sK,nI];exact Nat.le_refl _
 ·have:=cl.mx3;omega
 ·rw[sK,sK,nI,nI,length_append,length_singleton];omega
theorem tM.mx3 {cs:List Int}{es:List E3}(h:tM cs es):mx3 es<=cs.length+1:=by
 induction h with
 |nil=>rw[nI];exact Nat.le_refl _
 |snoc r s ih=>have:=s.mx3;rw[length_append,length_singleton];omega
theorem tL.mx3 {es:List E3}{rs:List Rw}(h:tL es rs):rs.length+1<=mx3 es:=by
 induction h with
 |one=>rw[nI];exact Nat.le_refl _
 |cl l c r ih=>have:=c.mx3;omega
theorem TrR.len {rs out:List Rw}(h:TrR rs out):out.length<=rs.length:=by
 induction h with
 |stop=>exact Nat.le_refl _
 |pop p t ih=>rw[length_append];omega
theorem xY.len {cs:List Int}{rs:List Rw}(h:xY cs rs):rs.length<=cs.length:=by obtain⟨es,r0,h1,h2,h3⟩:=h;have:=h1.mx3;have:=h2.mx3;have:=h3.len;omega
mutual
theorem aPY:∀(r:Rw)(d:Nat),Dp d r->ltR r->dnR r<=12^d*hmR r
 |.pl p,d,_,_=>by rw[dnR,hmR];have:=Nat.one_le_pow d 12 (by decide);omega
 |.ag n ws,0,h,_=>h.elim
 |.ag n ws,d+1,h,l=>by rw[ltR] at l;have:=aDy ws d h.2.2 l.2;rw[dnR,hmR,Nat.pow_succ,Nat.mul_add];have h2:dnS ws*n<=12^d*hmS ws*12:=Nat.mul_le_mul this l.1;rw[show 12^d*12*hmS ws=12^d*hmS ws*12 by rw[Nat.mul_right_comm]];omega
 |.kp ws,0,h,_=>h.elim
 |.kp ws,d+1,h,l=>by rw[ltR] at l;have:=aDy ws d h.2 l;rw[dnR,hmR,Nat.pow_succ,Nat.mul_add];rw[show 12^d*12*hmS ws=12^d*hmS ws*12 by rw[Nat.mul_right_comm]];omega
 |.ev ws,0,h,_=>h.elim
 |.ev ws,d+1,h,l=>by rw[ltR] at l;have:=aDy ws d h.2 l;rw[dnR,hmR,Nat.pow_succ,Nat.mul_add];rw[show 12^d*12*hmS ws=12^d*hmS ws*12 by rw[Nat.mul_right_comm]];omega
theorem aDy:∀(rs:List Rw)(d:Nat),(∀r∈rs,Dp d r)->ltS rs->dnS rs<=12^d*hmS rs
 |[],d,_,_=>by rw[dnS];omega
 |r::rs,d,h,l=>by rw[ltS] at l;have h1:=aPY r d (h r (mem_cons_self ..)) l.1;have h2:=aDy rs d (λx hx=>h x (mem_cons_of_mem _ hx)) l.2;rw[dnS,hmS,Nat.mul_add];omega
end
theorem aEb:∀rs:List Rw,(∀r∈rs,Dp 0 r)->dnS rs=rs.length
 |[],_=>by rw[dnS];rfl
 |r::rs,h=>by
  have h1:=h r (mem_cons_self ..);rw[dnS,aEb rs λx hx=>h x (mem_cons_of_mem _ hx),length_cons];cases r with
  |pl p=>rw[dnR];omega
  |_=>exact h1.elim
noncomputable def ch9:Nat->List Th
 |0=>[]
 |1=>[.pl .left]
 |2=>[.kp [.pl (.go 1)]]
 |3=>[.ev [.pl .dot,.pl (.skip 1)]]
 |4=>[.bad (.tup [.str "go"])]
 |5=>[.ag 2 [.pl .dot],.pl .left]
 |6=>[.bad (.str "go"),.pl .dot]
 |_=>[.bad (.tup [.str "grow",.tup [.int 13,.int 1]])]
def PuR (ns:List Int)(m:List Th):Prop:=∃(L:List D)(z0 z1:Int) (cs:List Int) (rs0:List Rw),aBx (vP ns 21) 4 L/\(atI L 0=some (.int z0)/\atI L 1=some (.int z1))/\Dd.cutD (ns.map D.int) (some 22) (some 25)=cs.map D.int/\xY cs rs0/\m=ch9 (z0.fmod 8).toNat++(if z1.fmod 2=0 then [] else ofS rs0)
theorem PuR.det {ns:List Int}{a b:List Th}(h:PuR ns a)(h':PuR ns b):a=b:=by obtain⟨L,z0,z1,cs,rs0,r,⟨a0,a1⟩,c,p,rfl⟩:=h;obtain⟨L',y0,y1,cs',rs0',r',⟨b0,b1⟩,c',p',rfl⟩:=h';obtain rfl:=r.det r';rw[a0] at b0;cases b0;rw[a1] at b1;cases b1;rw[c] at c';obtain rfl:=aDU c';obtain rfl:=p.det p';rfl
structure Ch (m:List Th):Prop where
 gw:gwS 690 (gdS m)
 dn:dnS (gdS m)<=3
 hm:hmS (gdS m)<=3
 va:dE m
 bo:boS m
 len:m.length<=2
 dp:∀r∈gdS m,Dp 1 r
theorem vv9 {p:Pl}(h:p=.go 1∨p=.skip 1∨p=.left∨p=.dot):gwR 690 (.pl p)/\plV p:=by
 have g0:∀p:Pl,(∀a,p ≠ .grow a)->gwR 690 (.pl p):=λp h=>by
  cases p with
  |grow a=>exact absurd rfl (h a)
  |_ =>
      rw[gwR];· trivial
      all_goals (intro _ z;cases z)
 rcases h with rfl|rfl|rfl|rfl
 ·exact⟨g0 _ (λ_ z=>by cases z),⟨by unfold Bd;decide +kernel,by unfold Bd;decide +kernel⟩,λ_ z=>by cases z⟩
 ·exact⟨g0 _ (λ_ z=>by cases z),⟨by unfold Bd;decide +kernel,by unfold Bd;decide +kernel⟩,λ_ z=>by cases z⟩
 ·exact⟨g0 _ (λ_ z=>by cases z),trivial,λ_ z=>by cases z⟩
 ·exact⟨g0 _ (λ_ z=>by cases z),trivial,λ_ z=>by cases z⟩
theorem aOD (i:Nat):Ch (ch9 i):=by
 have gGo:=vv9 (.inl rfl);have gSk:=vv9 (.inr (.inl rfl));have gLe:=vv9 (.inr (.inr (.inl rfl)));have gDo:=vv9 (.inr (.inr (.inr rfl)));have lo3:loS [.pl .dot,.pl (.skip 1)]:=aKR (by simp[gwS,gSk.1,gDo.1]) (by simp[dnS,dnR]);have b1:aDh (.tup [.str "go"]):=.inl rfl;have b2:aDh (.str "go"):=.inr (.inl rfl);have b3:aDh (.tup [.str "grow",.tup [.int 13,.int 1]]):=.inr (.inr rfl);have q1:bB 30 (.tup [.str "go"])=true:=rfl;have q2:bB 30 (.str "go")=true:=rfl;have q3:bB 30 (.tup [.str "grow",.tup [.int 13,.int 1]])=true:=rfl
 match i with
 |0=>exact⟨by simp[ch9,gdS,gwS],by simp[ch9,gdS,dnS],by simp[ch9,gdS,hmS],by simp[ch9,dE],by simp[ch9,boS],by simp[ch9],by simp[ch9,gdS]⟩
 |1=>exact⟨by simp[ch9,gdS,gdR,gwS,gLe.1],by simp[ch9,gdS,gdR,dnS,dnR],by simp[ch9,gdS,gdR,hmS,hmR],by simp[ch9,dE,vaT,gLe.2],by simp[ch9,boS,boR],by simp[ch9],by simp[ch9,gdS,gdR,Dp]⟩
 |2=>exact⟨by simp[ch9,gdS,gdR,gwS,gwR,dnS,dnR],by simp[ch9,gdS,gdR,dnS,dnR],by simp[ch9,gdS,gdR,hmS,hmR],by simp[ch9,dE,vaT,gGo.2],by simp[ch9,boS,boR],by simp[ch9],by simp[ch9,gdS,gdR,Dp]⟩
 |3=>exact⟨by simp[ch9,gdS,gdR,gwS,gwR,dnS,dnR],by simp[ch9,gdS,gdR,dnS,dnR],by simp[ch9,gdS,gdR,hmS,hmR],by simp[ch9,dE,vaT,gSk.2,gDo.2],by simp[ch9,boS,boR,gdS,gdR,lo3],by simp[ch9],by simp[ch9,gdS,gdR,Dp]⟩
 |4=>exact⟨by simp[ch9,gdS,gdR,gwS,gDo.1],by simp[ch9,gdS,gdR,dnS,dnR],by simp[ch9,gdS,gdR,hmS,hmR],by simp[ch9,dE,vaT,b1,q1],by simp[ch9,boS,boR],by simp[ch9],by simp[ch9,gdS,gdR,Dp]⟩
 |5=>exact⟨by simp[ch9,gdS,gdR,gwS,gwR,dnS,dnR],by simp[ch9,gdS,gdR,dnS,dnR],by simp[ch9,gdS,gdR,hmS,hmR],by simp[ch9,dE,vaT,gLe.2,gDo.2],by simp[ch9,boS,boR],by simp[ch9],by simp[ch9,gdS,gdR,Dp]⟩
 |6=>exact⟨by simp[ch9,gdS,gdR,gwS,gDo.1],by simp[ch9,gdS,gdR,dnS,dnR],by simp[ch9,gdS,gdR,hmS,hmR],by simp[ch9,dE,vaT,b2,q2,gDo.2],by simp[ch9,boS,boR],by simp[ch9],by simp[ch9,gdS,gdR,Dp]⟩
 |n+7=>exact⟨by simp[ch9,gdS,gdR,gwS,gDo.1],by simp[ch9,gdS,gdR,dnS,dnR],by simp[ch9,gdS,gdR,hmS,hmR],by simp[ch9,dE,vaT,b3,q3],by simp[ch9,boS,boR],by simp[ch9],by simp[ch9,gdS,gdR,Dp]⟩
theorem Ch.mo {m:List Th}{rs:List Rw}(c:Ch m)(gw:gwS 690 rs)(dn:dnS rs<=300)(va:dE (ofS rs))(lt:ltS rs)(hm:hmS rs<=6)(l:rs.length<=3):Mo (m++ofS rs):=by
 have e:gdS (m++ofS rs)=gdS m++rs:=by rw[oJ,iN]
 have g:gwS 690 (gdS m++rs):=iV.mpr ⟨c.gw,gw⟩;have c1:=c.dn;have c2:=c.hm;refine⟨by rw[e];exact aBU _ g,?_,?_,rS.mpr ⟨c.va,va⟩,aCD.mpr ⟨c.bo,tR rs gw⟩,by rw[e,fR];omega⟩
 ·rw[e];intro r hr;have:=aAo hr;rw[eU] at this;omega
 ·rw[e];intro d h;rw[eU];have h2:=aDy rs d (λr hr=>h r (mem_append_right _ hr)) lt;cases d with
  |zero =>
   have h3:=aEb rs λr hr=>h r (mem_append_right _ hr);rw[Nat.pow_zero];omega
  |succ d =>
   have h3:12^(d+1)*hmS rs<=12^(d+1)*6:=Nat.mul_le_mul_left _ hm;have h4:=Nat.one_le_pow d 12 (by decide);rw[Nat.pow_succ] at *;omega
def aAR:DSp:=λds M Q=>∃ns:List Int,ds=[.fz (ns.map D.int)]/\∀(m:List Th)(M':DM),Mo m->m.length<=5->(∀r∈gdS m,Dp 4 r)->PuR ns m->aU M M'->Q (.tup (bZ m)) M'
noncomputable abbrev wP:Stmt:=top 92
theorem qA:aR ["_law_script","_law_row_here","_law_some"] ["_law_script"] (aJ wP):=by ac_rfl
theorem aDZ (hF:bT K mg "_law_put" wP ["_law_script"])(dJ:Has P w K mg base 101 "_law_cell_at" ["_law_script","_law_k"] jR)(eY:Has P w K mg base 101 "_law_row" ["_law_cell","_law_many_here"] mM)(gP:Has P w K mg base 121 "_law_program" ["_law_cells"] mT):Has P w K mg base 122 "_law_put" ["_law_script"] aAR:=by
 refine Has.mkZ hF qA (λds M Q ⟨_,z,_⟩=>by rw[z];rfl) λf cdv A outer s H ds M Q E hr h=>?_;obtain⟨ns,rfl,q⟩:=h;refine⟨_,(aF (aP (i:=1) qA.nd (aG eY hr (by decide) (aA (aG dJ hr (by decide) (aA (aB 0) (aA aC aD))) (aA aC aD))))
  (aF (aP (i:=2) qA.nd (bR (aA (aM aD) (aA (aM (aA (aM (aA aL aD)) aD)) (aA (aM (aA (aM (aA aL (aA (aM (aA (aM (aA aL (aA (aM (aA aC (aA aC aD))) aD))) aD)) aD))) aD)) (aA (aM (aA (aM (aA aL (aA (aM (aA (aM (aA aL aD)) (aA (aM (aA aL (aA (aM (aA aC (aA aC aD))) aD))) aD))) aD))) aD)) aD))))))
  (aF (aP (i:=2) qA.nd (aK cB (aB 2) (bR (aA (aM (aA (aM (aA aL aD)) aD)) (aA (aM (aA (aM (aA aL (aA aC (aA (aM (aA (aM (aA aL aD)) aD)) aD)))) (aA (aM (aA aL aD)) aD))) (aA (aM (aA aL (aA (aM (aA aL aD)) aD))) (aA (aM (aA (aM (aA aL (aA (aM (aA aC (aA aC aD))) aD))) aD)) aD)))))))
  (aE (aN (aK gQ (aH (aB 2) (aK cZ (aH (aB 1) aC) aC)) (aH (bR (aA (aM aD) (aA (aG gP hr (by decide) (aA (lY (aB 0) (dH aC) (dH aC)) aD)) aD))) (aK cZ (aH (aB 1) aC) aC)))))))),?_⟩
 ac_nf;refine⟨ns,21,rfl,?_⟩;ac_nf;refine⟨_,4,rfl,by decide,by decide,λpr L hpr hL rl=>?_⟩;have hL:mO 4 L:=hL;have rl:aBx (vP ns 21) 4 L:=rl;have s1:=aU.new hpr L;have h1:bK M pr L pr=some L:=aI;generalize bK M pr L=M1 at s1 h1 ⊢;obtain⟨z0,e0,_⟩:=hL.at (i:=0) (by omega);obtain⟨z1,e1,_⟩:=hL.at (i:=1) (by omega);ac_nf;repeat refine⟨by decide,?_⟩
 intro p hp;repeat refine⟨by decide,?_⟩
 intro p1 hp1;obtain⟨n1,hp1'⟩:=jS hp1;refine⟨_,_,by rw[bV (Ne.symm n1)];exact aI,aI,by decide,λp2 hp2=>?_⟩;generalize e8:([D.tup [],_,_,_]++[_,_,_,_]:List D)=xs;have tie:∀{Ma:DM}{X:List D},bK Ma p1 X p2=none->Ma p1=none->aU Ma (bK Ma p1 X):=λ_ h=>aU.new h _;have sb:=(s1.trans (aU.new hp _)).trans (tie hp2 hp1);have hb:=(tie hp2 hp1) _ _ ((aU.new hp _) _ _ h1);generalize bK (bK M1 p _) p1 _=Mb at sb hb hp2 ⊢;have s2:=sb.trans (aU.new hp2 xs);have h2:=(aU.new hp2 xs) _ _ hb;have h3:bK Mb p2 xs p2=some xs:=aI;generalize bK Mb p2 xs=M2 at s2 h2 h3 ⊢;have n0:=Int.fmod_nonneg_of_pos z0 (show(0:Int)<8 by decide);have n1:=Int.fmod_lt_of_pos z0 (show(0:Int)<8 by decide);have a8:atI xs (z0.fmod 8)=some (.tup (bZ (ch9 (z0.fmod 8).toNat))):=by
  have:z0.fmod 8=0∨z0.fmod 8=1∨z0.fmod 8=2∨z0.fmod 8=3∨z0.fmod 8=4∨z0.fmod 8=5∨z0.fmod 8=6∨z0.fmod 8=7:=by omega
  rw[<- e8];rcases this with e|e|e|e|e|e|e|e<;>rw[e]<;>rfl
 clear e8 hp2 s1 h1 sb hb;refine⟨L,_,h2,e0,?_⟩;ac_nf;refine⟨by decide,_,_,h3,a8,?_⟩;ac_nf;refine⟨by decide,λp0 hp0=>?_⟩;obtain⟨cs,ec,lc⟩:=aG5 ns 22 25;have ec:Dd.cutD (ns.map D.int) (some 22) (some 25)=cs.map D.int:=ec;rw[ec];refine⟨p0,cs,rfl,aI,by omega,λrs0 A M3 a0 a1 dp lr dn gw al lt pg sub=>?_⟩;have s3:=(s2.trans (aU.new hp0 (cs.map D.int))).trans sub;have h4:M3 pr=some L:=sub _ _ ((aU.new hp0 (cs.map D.int)) _ _ h2);refine⟨by decide,λp4 hp4=>⟨L,_,(aU.new hp4 _) _ _ h4,e1,?_⟩⟩;ac_nf;have s4:=s3.trans (aU.new hp4 [D.tup [],.tup (bA rs0)]);have lp:=pg.len;have hm:=lt.2.1;have ch:=aOD (z0.fmod 8).toNat;have cl:=ch.len;have hpu:PuR ns (ch9 (z0.fmod 8).toNat++(if z1.fmod 2=0 then [] else ofS rs0)):=⟨L,z0,z1,cs,rs0,rl,⟨e0,e1⟩,ec,pg,rfl⟩;have d1:∀r∈gdS (ch9 (z0.fmod 8).toNat),Dp 4 r:=λr hr=>dL (d':=4) (ch.dp r hr) (by decide);have m0:=Int.fmod_nonneg_of_pos z1 (show(0:Int)<2 by decide);have m1:=Int.fmod_lt_of_pos z1 (show(0:Int)<2 by decide);by_cases c:z1.fmod 2=0
 ·rw[if_pos c,append_nil] at hpu;have mo:=ch.mo (rs:=[]) (by rw[gwS];trivial) (by rw[dnS];omega) (by rw[ofS,dE];trivial) (by rw[ltS];trivial) (by rw[hmS];omega) (by show 0<=3;omega);rw[ofS,append_nil] at mo;refine⟨by decide,_,D.tup [],aI,by rw[c];exact aAd,?_⟩;dsimp only;rw[append_nil];exact⟨by rw[lA];show _+0<=1000;omega,bE (q _ _ mo (by omega) d1 hpu s4)⟩
 ·have c1:z1.fmod 2=1:=by omega
  rw[if_neg c] at hpu;have mo:=ch.mo gw dn (xR rs0 al lt.1) lt.1 (by omega) (by omega);refine⟨by decide,_,D.tup (bA rs0),aI,by rw[c1];rfl,?_⟩;dsimp only;have e:bZ (ch9 (z0.fmod 8).toNat)++bA rs0=bZ (ch9 (z0.fmod 8).toNat++ofS rs0):=by rw[vY,aA7]
  have lo:(ofS rs0).length=rs0.length:=by rw[nC,length_map]
  rw[e];refine⟨by rw[lA,bF];omega,bE (q _ _ mo (by rw[length_append];omega) ?_ hpu s4)⟩;rw[oJ,iN];exact λr hr=>(List.mem_append.mp hr).elim (d1 r) (dp r)
mutual
theorem aOO:∀t:Th,∀x∈t9R t,aMN x
 |.pl p,x,h=>by rw[t9R] at h;rw[List.mem_singleton.mp h];trivial
 |.bad d,x,h=>by rw[t9R] at h;rw[List.mem_singleton.mp h];trivial
 |.ag n ts,x,h=>by
  rw[t9R] at h;rcases List.mem_cons.mp h with rfl|h
  ·show 2<=3;decide
  ·rcases List.mem_append.mp h with h|h
   ·exact aEk ts x h
   ·rw[List.mem_singleton.mp h];trivial
 |.kp ts,x,h=>by
  rw[t9R] at h;rcases List.mem_cons.mp h with rfl|h
  ·show 1<=3;decide
  ·rcases List.mem_append.mp h with h|h
   ·exact aEk ts x h
   ·rw[List.mem_singleton.mp h];trivial
 |.ev ts,x,h=>by
  rw[t9R] at h;rcases List.mem_cons.mp h with rfl|h
  ·show 1<=3;decide
  ·rcases List.mem_append.mp h with h|h
   ·exact aEk ts x h
   ·rw[List.mem_singleton.mp h];trivial
theorem aEk:∀ts:List Th,∀x∈t9S ts,aMN x
 |[],x,h=>by rw[t9S] at h;cases h
 |t::ts,x,h=>by
  rw[t9S] at h;rcases List.mem_append.mp h with h|h
  ·exact aOO t x h
  ·exact aEk ts x h
end
mutual
theorem aM9:∀r:Rw,nbR r<=2*hmR r
 |.pl _=>by rw[nbR,hmR];omega
 |.ag _ ws=>by rw[nbR,hmR];have:=aAs ws;omega
 |.kp ws=>by rw[nbR,hmR];have:=aAs ws;omega
 |.ev ws=>by rw[nbR,hmR];have:=aAs ws;omega
theorem aAs:∀rs:List Rw,nbS rs<=2*hmS rs
 |[]=>by rw[nbS];omega
 |r::rs=>by rw[nbS,hmS];have:=aM9 r;have:=aAs rs;omega
end
theorem aFf (t:Th):∃(l:L9)(cP:List L9) (w:Str) (d:D),t9R t = l :: cP/\l9D l = .tup [.str w,d]/\w ≠ "end":=by
 cases t with
 |pl p=>exact⟨_,_,_,_,by rw[t9R],rfl,by decide⟩
 |bad d=>exact⟨_,_,_,_,by rw[t9R],rfl,by decide⟩
 |ag n ts=>exact⟨_,_,_,_,by rw[t9R],rfl,by decide⟩
 |kp ts=>exact⟨_,_,_,_,by rw[t9R],rfl,by decide⟩
 |ev ts=>exact⟨_,_,_,_,by rw[t9R],rfl,by decide⟩
theorem aKx (pre mid suf:List D){k l:Nat}(hk:pre.length=k)(hl:l=k+mid.length):Dd.cutD (pre++mid++suf) (some (k:Int)) (some (l:Int))=mid:=by unfold Dd.cutD;subst hl hk;rw[HT.sIx_nat,HT.sIx_nat,Nat.min_eq_left (by simp only[length_append];omega),Nat.min_eq_left (by simp only[length_append];omega),append_assoc,drop_left,Nat.add_sub_cancel_left,List.take_left]
mutual
theorem aQP {m:List Th}(mo:Mo m)(md:∀r∈gdS m,Dp 4 r):∀(r:Rw)(k d:Nat),Dp d r->hmR r<=200->Dp (d+4) (gdR (gC r k m))
 |.pl p,k,d,_,_=>by rw[gC,gdR];cases d<;>trivial
 |.ag n ws,k,0,z,_=>z.elim
 |.ag n ws,k,d+1,z,h=>by rw[hmR] at h;rw[gC,gdR,Nat.add_right_comm];have l:=pN (gdS (cQ ws k m));have l2:=sV (m:=m) ws k;have l3:=mo.hm;exact⟨z.1,by omega,aGW mo md ws k d z.2.2 (by omega)⟩
 |.kp ws,k,0,z,_=>z.elim
 |.kp ws,k,d+1,z,h=>by rw[hmR] at h;rw[gC,gdR,Nat.add_right_comm];have l:=pN (gdS (cQ ws k m));have l2:=sV (m:=m) ws k;have l3:=mo.hm;exact⟨by omega,aGW mo md ws k d z.2 (by omega)⟩
 |.ev ws,k,0,z,_=>z.elim
 |.ev ws,k,d+1,z,h=>by rw[hmR] at h;rw[gC,gdR,Nat.add_right_comm];have l:=pN (gdS (cQ ws k m));have l2:=sV (m:=m) ws k;have l3:=mo.hm;exact⟨by omega,aGW mo md ws k d z.2 (by omega)⟩
theorem aGW {m:List Th}(mo:Mo m)(md:∀r∈gdS m,Dp 4 r):∀(rs:List Rw)(k d:Nat),(∀r∈rs,Dp d r)->hmS rs<=200->∀x∈gdS (cQ rs k m),Dp (d+4) x
 |[],k,d,_,_,x,hx=>by rw[cQ] at hx;exact dL (md x hx) (by omega)
 |r::rs,k,d,z,h,x,hx=>by
  rw[hmS] at h;have hr:=z r (mem_cons_self ..);have hs:∀y∈rs,Dp d y:=λy hy=>z y (mem_cons_of_mem _ hy);rw[cQ] at hx;split at hx
  ·split at hx
   ·rw[oJ,iN] at hx;rcases List.mem_append.mp hx with hx|hx
    ·exact dL (md x hx) (by omega)
    ·exact dL (hs x hx) (by omega)
   ·rw[gdS,iN] at hx;rcases List.mem_cons.mp hx with rfl|hx
    ·exact aQP mo md r _ d hr (by omega)
    ·exact dL (hs x hx) (by omega)
  ·rw[gdS] at hx;rcases List.mem_cons.mp hx with rfl|hx
   ·rw[aFz];exact dL hr (by omega)
   ·exact aGW mo md rs _ d hs (by omega) x hx
end
mutual
theorem aNd:∀(r:Rw)(k d:Nat) (x:Rw),Dp d r->kF r k=some x->Dp d x
 |.pl p,k,d,x,_,h=>by rw[kF] at h;cases h
 |.ag n ws,k,0,x,z,_=>z.elim
 |.ag n ws,k,d+1,x,z,h=>by rw[kF] at h;exact dL (aAY ws k d x z.2.2 h) (by omega)
 |.kp ws,k,0,x,z,_=>z.elim
 |.kp ws,k,d+1,x,z,h=>by rw[kF] at h;exact dL (aAY ws k d x z.2 h) (by omega)
 |.ev ws,k,0,x,z,_=>z.elim
 |.ev ws,k,d+1,x,z,h=>by rw[kF] at h;exact dL (aAY ws k d x z.2 h) (by omega)
theorem aAY:∀(rs:List Rw)(k d:Nat) (x:Rw),(∀r∈rs,Dp d r)->gD rs k=some x->Dp d x
 |[],k,d,x,_,h=>by rw[gD] at h;cases h
 |r::rs,k,d,x,z,h=>by
  rw[gD] at h;split at h
  ·split at h
   ·cases h;exact z r (mem_cons_self ..)
   ·exact aNd r _ d x (z r (mem_cons_self ..)) h
  ·exact aAY rs _ d x (λy hy=>z y (mem_cons_of_mem _ hy)) h
end
theorem aDF:∀(n:Nat)(d:D) (m:Nat),n<=m->bB n d=true->bB m d=true
 |0,.tup _,_,_,h=>by cases h
 |n+1,.tup ds,m,l,h=>by obtain⟨m',rfl⟩:∃m',m=m'+1:=⟨m-1,by omega⟩;have h:ds.all (bB n)=true:=h;show ds.all (bB m')=true;rw[all_eq_true] at h ⊢;exact λx hx=>aDF n x m' (by omega) (h x hx)
 |n,.ref _,_,_,h=>by cases n<;>cases h
 |n,.fz _,_,_,h=>by cases n<;>cases h
 |_,.int _,m,_,_=>by cases m<;>rfl
 |_,.bl _,m,_,_=>by cases m<;>rfl
 |_,.str _,m,_,_=>by cases m<;>rfl
 |_,.non,m,_,_=>by cases m<;>rfl
theorem vH:∀(d:Nat)(r:Th) (k:Nat),Dp d (gdR r)->vaT r->bB (k+2*d+30) (thD r)=true
 |d,.pl p,k,_,_=>by rw[thD];exact aFo p _
 |d,.bad b,k,_,v=>by rw[vaT] at v;rw[thD];exact aDF 30 b _ (by omega) v.2
 |0,.ag n ws,k,h,_=>by rw[gdR] at h;exact h.elim
 |0,.kp ws,k,h,_=>by rw[gdR] at h;exact h.elim
 |0,.ev ws,k,h,_=>by rw[gdR] at h;exact h.elim
 |d+1,.ag n ws,k,h,v=>by
  rw[vaT] at v;rw[gdR] at h;have hw:∀x∈bZ ws,bB (k+2*d+30) x=true:=λx hx=>by rw[hZ] at hx;obtain⟨r,hr,rfl⟩:=List.mem_map.mp hx;exact vH d r k (h.2.2 _ (pY hr)) (jX v.2 hr)
  rw[thD,show k+2*(d+1)+30=(k+2*d+30)+1+1 by omega];show([D.str "again",.int (n:Int),.tup (bZ ws)].all (bB (k+2*d+30+1)))=true;rw[all_cons,all_cons,all_cons];show(true&&(true&&(((bZ ws).all (bB (k+2*d+30)))&&true)))=true;rw[List.all_eq_true.mpr hw];rfl
 |d+1,.kp ws,k,h,v=>by
  rw[vaT] at v;rw[gdR] at h;have hw:∀x∈bZ ws,bB (k+2*d+30) x=true:=λx hx=>by rw[hZ] at hx;obtain⟨r,hr,rfl⟩:=List.mem_map.mp hx;exact vH d r k (h.2 _ (pY hr)) (jX v hr)
  rw[thD,show k+2*(d+1)+30=(k+2*d+30)+1+1 by omega];show([D.str "keep",.tup (bZ ws)].all (bB (k+2*d+30+1)))=true;rw[all_cons,all_cons];show(true&&(((bZ ws).all (bB (k+2*d+30)))&&true))=true;rw[List.all_eq_true.mpr hw];rfl
 |d+1,.ev ws,k,h,v=>by
  rw[vaT] at v;rw[gdR] at h;have hw:∀x∈bZ ws,bB (k+2*d+30) x=true:=λx hx=>by rw[hZ] at hx;obtain⟨r,hr,rfl⟩:=List.mem_map.mp hx;exact vH d r k (h.2 _ (pY hr)) (jX v hr)
  rw[thD,show k+2*(d+1)+30=(k+2*d+30)+1+1 by omega];show([D.str "ever",.tup (bZ ws)].all (bB (k+2*d+30+1)))=true;rw[all_cons,all_cons];show(true&&(((bZ ws).all (bB (k+2*d+30)))&&true))=true;rw[List.all_eq_true.mpr hw];rfl
theorem aK7 {ts:List Th}(h:DpS 8 (gdS ts))(v:dE ts):bB 60 (.tup (bZ ts))=true:=by show(bZ ts).all (bB 59)=true;rw[hZ,all_map,all_eq_true];intro r hr;exact vH 7 r 15 (h.2 _ (pY hr)) (jX v hr)
theorem aOi {ts:List Th}(h:∀r∈gdS ts,Dp 8 r)(v:dE ts):bB 60 (.tup (bZ ts))=true:=by show(bZ ts).all (bB 59)=true;rw[hZ,all_map,all_eq_true];intro r hr;exact vH 8 r 13 (h _ (pY hr)) (jX v hr)
def aEd (ts:List Th)(M:DM)(d:D):Prop:=match lkS ts 0 [] with
 |.inr i=>∃p:Addr,d = .ref p/\M p = some [.str "no row",.int i]
 |.inl _=>if hmS (gdS ts)<=60 then d = .tup (bZ ts) else ∃p:Addr,d = .ref p/\M p = some [.str "too much"]
mutual
theorem aPO:∀t:Th,(t9R t).length<=2*hmR (gdR t)
 |.pl p=>by rw[t9R,gdR,hmR];show 1<=2;decide
 |.bad d=>by rw[t9R,gdR,hmR];show 1<=2;decide
 |.ag n ts=>by rw[t9R,gdR,hmR,length_cons,length_append,length_singleton];have:=aDJ ts;omega
 |.kp ts=>by rw[t9R,gdR,hmR,length_cons,length_append,length_singleton];have:=aDJ ts;omega
 |.ev ts=>by rw[t9R,gdR,hmR,length_cons,length_append,length_singleton];have:=aDJ ts;omega
theorem aDJ:∀ts:List Th,(t9S ts).length<=2*hmS (gdS ts)
 |[]=>by rw[t9S];exact Nat.zero_le _
 |t::ts=>by rw[t9S,gdS,hmS,length_append];have:=aPO t;have:=aDJ ts;omega
end
def sp_law:DSp:=λds M Q=>∃ns:List Int,ds=[.fz (ns.map D.int)]/\ns.length<=63/\∀M',Q (.bl true) M'
noncomputable abbrev vG:Stmt:=top 95
theorem lF:aR ["_law_script","_law_rows_here","_law_lines_here","_law_more","_law_row_here","_law_number","_law_due","_law_last"] ["_law_script"] (aJ vG):=by ac_rfl
theorem aJZ {f0:Addr}{fd0:FuncData}(hF:L2.Fun K "law" "law" vG f0 fd0)(cF:mg "len" = none)(dJ:Has P w K mg base 101 "_law_cell_at" ["_law_script","_law_k"] jR)(eY:Has P w K mg base 101 "_law_row" ["_law_cell","_law_many_here"] mM)(lW:Has P w K mg base 122 "_law_before" ["_law_script"] tG)(sI:Has P w K mg base 122 "_law_put" ["_law_script"] aAR)(jK:Has P w K mg base 118 "_law_lines" ["_law_rows_here"] (pC 8))(pW:Has P w K mg base 101 "_law_rows" ["_law_lines_here"] xZ)(lX:Has P w K mg base 101 "_law_end_of" ["_law_lines_here","_law_number"] sU)(mF:Has P w K mg base 139 "_law_told" ["_law_way","_law_rows_here","_law_number","_law_more"] yQ) :
  lP P w K mg base CX0 151 f0 fd0 ["_law_script"] (rC K sp_law):=by
 refine Fun.okZ hF lF (λds M Q ⟨ns,e,_⟩=>by rw[e];rfl) λcdv A outer s H ds M Q E hr h=>?_;obtain⟨ns,rfl,hl,fin⟩:=h;refine⟨_,(aF (aP (i:=1) lF.nd (aG lW hr (by decide) (aA (aB 0) aD)))
  (aF (aP (i:=2) lF.nd (aG jK hr (by decide) (aA (aB 1) aD)))
  (aF (aP (i:=3) lF.nd (aG sI hr (by decide) (aA (aB 0) aD)))
  (aF (aP (i:=4) lF.nd (aG eY hr (by decide) (aA (aG dJ hr (by decide) (aA (aB 0) (aA aC aD))) (aA aC aD))))
  (aF (zR PassesOwn.never rfl (bR (aA (aK jW (aK cZ (aH (aB 4) aC) (aK cB (bI eJ cF (aA (aB 2) aD)) aC)) aC) (aA (aK jW (aK cZ (aH (aB 4) aC) (aK cB (bI eJ cF (aA (aB 2) aD)) aC)) aC) (aA (bI eJ cF (aA (aB 2) aD)) aD)))) (aX (i:=5) lF.nd) (aF (aP (i:=6) lF.nd (bR (aA aL (aA (aB 5) aD))))
  (hJ (aW (aBV sZ kH aC (aB 5) (bI eJ cF (aA (aB 2) aD))) (aF (aP (i:=6) lF.nd fV)
  (aE (aW (aQ (qG hr) (aH (aH (aB 2) (aB 5)) aC) aL) (aE (aP (i:=6) lF.nd (aH (aG pW hr (by decide) (aA (lY (aB 2) (dH (aB 5)) (dH (aG lX hr (by decide) (aA (aB 2) (aA (aB 5) aD))))) aD)) aC))) aS))) aS)
  (hJ (aW (aQ (qG hr) (aG mF hr (by decide) (aA aL (aA (aB 1) (aA (aB 5) (aA (aM aD) aD))))) (aB 6)) (aE (aN lM)) aS)
  (hJ (aW (aBV sZ sZ aC (aB 5) (bI eJ cF (aA (aB 2) aD))) (aF (aP (i:=7) lF.nd (aB 5))
  (hJ (aW (fY (fU (aQ kH (aB 5) (bI eJ cF (aA (aB 2) aD))) (fF (aQ (qG hr) (aH (aH (aB 2) (aB 5)) aC) aL)))) (aE (aP (i:=7) lF.nd (aG lX hr (by decide) (aA (aB 2) (aA (aB 5) aD))))) aS)
  (aE (aP (i:=6) lF.nd (aG mF hr (by decide) (aA aL (aA (aM aD) (aA aC (aA (aG pW hr (by decide) (aA (aK cB (aK cB (lY (aB 2) iQ (dH (aB 5))) (aG jK hr (by decide) (aA (aB 3) aD))) (lY (aB 2) (dH (aB 7)) iQ)) aD)) aD))))))))) aS)
  (aE (aW (aQ (qG hr) (aG mF hr (by decide) (aA aL (aA (aB 1) (aA (aB 5) (aA (aB 3) aD))))) (aB 6)) (aE (aN lM)) aS)))))))
  (aE (aN (fP (cN (cD hr) (aB 1) (aG lW hr (by decide) (aA (aB 0) aD))) (eV (cN (cD hr) (aB 3) (aG sI hr (by decide) (aA (aB 0) aD)))))))))))),?_⟩
 ac_nf;refine⟨ns,rfl,λrs M1 b9 hm bef s1=>?_⟩;ac_nf;have d8:DpS 8 rs:=⟨by have:=b9.len;omega,λr hr=>dL (d':=7) (b9.dp r hr) (by decide)⟩;have ll:(t9S (ofS rs)).length=nbS rs:=fQ rs;have l4:nbS rs<=2*hmS rs:=aAs rs;refine⟨ofS rs,by rw[aA7],by rw[iN];exact d8,b9.va,by rw[ll];omega,λpl M2 s2 hn2 hpl=>?_⟩;ac_nf;refine⟨ns,rfl,λm M3 mo ml md pu s3=>?_⟩;ac_nf;refine⟨ns,0,rfl,?_⟩;ac_nf;refine⟨_,2,rfl,by decide,by decide,λpr L hpr hL rl=>?_⟩;have hL:mO 2 L:=hL;have s4:=aU.new hpr L;have h4:bK M3 pr L pr=some L:=aI;have hp4:=s4 _ _ (s3 _ _ hpl);have s5:=s3.trans s4;generalize bK M3 pr L=M4 at s4 h4 hp4 s5 ⊢;obtain⟨z0,e0,_⟩:=hL.at (i:=0) (by omega);obtain⟨z1,e1,_⟩:=hL.at (i:=1) (by omega);ac_nf;have lm:(map l9D (t9S (ofS rs))).length=nbS rs:=by rw[length_map,ll]
 refine⟨L,_,h4,e0,_,hp4,?_⟩;ac_nf;rw[lm];refine⟨by omega,L,_,h4,e1,_,hp4,?_⟩;ac_nf;rw[lm];refine⟨by omega,_,hp4,by decide,λpn hpn=>⟨_,aI,?_⟩⟩;rw[lm];have s6:=aU.new hpn [D.int (z0.fmod ((nbS rs:Int)+5)-2),D.int (z1.fmod ((nbS rs:Int)+5)-2),D.int (nbS rs:Int)];have h6:bK M4 pn [D.int (z0.fmod ((nbS rs:Int)+5)-2),D.int (z1.fmod ((nbS rs:Int)+5)-2),D.int (nbS rs:Int)] pn=some [D.int (z0.fmod ((nbS rs:Int)+5)-2),D.int (z1.fmod ((nbS rs:Int)+5)-2),D.int (nbS rs:Int)]:=aI;generalize bK M4 pn _=M6 at s6 h6 ⊢;refine⟨λi ρ M'=>aU M6 M'/\∃o5 o6 o7,ρ=[some (.fz (ns.map D.int)),some (.tup (bA rs)),some (.ref pl),some (.tup (bZ m)),some (.ref pr),o5,o6,o7],⟨.refl _,_,_,_,rfl⟩,λi ρ M' _ h a e=>by cases e;exact h.1 _ _ h6,?_,?_⟩
 ·rintro i d ρ M' hd ⟨sx,o5,o6,o7,rfl⟩;obtain⟨z,rfl⟩:∃z:Int,d=.int z:=by have hm:=mem_of_getElem? hd;simp at hm;rcases hm with e|e|e<;>exact⟨_,e⟩
  have hpl7:=sx _ _ (s6 _ _ hp4);ac_nf;refine⟨by decide,λpd hpd=>?_⟩;have s7:=aU.new hpd [D.str "no row",.int z];have h7:bK M' pd [D.str "no row",.int z] pd = some [D.str "no row",.int z]:=aI;have hpl8:=s7 _ _ hpl7;generalize bK M' pd _=M7 at s7 h7 hpl8 ⊢;refine⟨λρ' M8=>aU M7 M8/\∃due o7,((∃k:Nat,z=(k:Int)/\k<nbS rs/\due=aNn (gD rs k))∨((z<0∨(nbS rs:Int)<=z)/\due=.ref pd))/\ρ'=[some (.fz (ns.map D.int)),some (.tup (bA rs)),some (.ref pl),some (.tup (bZ m)),some (.ref pr),some (.int z),some due,o7],?_,?_⟩
  ·ac_nf;by_cases zn:0<=z
   ·refine ifT (decide_eq_true zn) ⟨_,hpl8,?_⟩;rw[lm];by_cases zl:z<(nbS rs:Int)
    ·refine ifT (decide_eq_true zl) ?_;obtain⟨k,rfl⟩:=Int.eq_ofNat_of_zero_le zn;have kl:k<nbS rs:=by omega
     cases erow:gD rs k with
     |some x =>
      obtain⟨pre,suf,ep,lp⟩:=pM rs k x erow;obtain⟨l,cP,w0,d0,f1,f2,w1⟩:=aFf (ofR x);have hat:atI (map l9D (t9S (ofS rs))) (k:Int)=some (.tup [.str w0,d0]):=sF (by rw[getElem?_map,ep,append_assoc,getElem?_append_right (by omega),lp,Nat.sub_self,f1,cons_append,List.getElem?_cons_zero,Option.map_some,f2]);refine⟨_,_,hpl8,hat,?_⟩;ac_nf;rw[aO];refine ifT (by rw[decide_eq_false w1];rfl) ?_;refine⟨pl,t9S (ofS rs),k,ofR x,suf,rfl,hpl8,by rw[ep,append_assoc,<- lp,drop_left],by omega,by omega,?_⟩;ac_nf;refine⟨_,hpl8,λpc hpc=>?_⟩;have ecut:Dd.cutD (map l9D (t9S (ofS rs))) (some (k:Int)) (some ((k+(t9R (ofR x)).length:Nat):Int))=map l9D (t9R (ofR x)):=by rw[ep,map_append,map_append];exact aKx _ _ _ (by rw[length_map,lp]) (by rw[length_map])
      rw[ecut];have lx:(t9R (ofR x)).length<=400:=by rw[ep] at ll;simp only[length_append] at ll;omega
      refine⟨pc,t9R (ofR x),[ofR x],rfl,aI,by rw[t9S,t9S,append_nil],aOO _,lx,λM9 s9=>?_⟩;have eD:bZ [ofR x]=[rwD x]:=by rw[show[ofR x]=ofS [x] by rw[ofS,ofS],aA7,bA,bA]
      rw[eD];ac_nf;exact⟨(aU.new hpc _).trans s9,_,_,.inl ⟨k,rfl,kl,by rw[erow];rfl⟩,rfl⟩
     |none =>
      obtain⟨d0,hd0⟩:=sP rs k kl erow;have hat:atI (map l9D (t9S (ofS rs))) (k:Int) = some (.tup [.str "end",d0]):=sF (by rw[getElem?_map,hd0];rfl);refine⟨_,_,hpl8,hat,?_⟩;ac_nf;rw[aO];refine ifF (by decide) ?_;exact⟨.refl _,_,_,.inl ⟨k,rfl,kl,by rw[erow];rfl⟩,rfl⟩
    ·refine ifF (decide_eq_false zl) ?_;exact⟨.refl _,_,_,.inr ⟨.inr (by omega),rfl⟩,rfl⟩
   ·refine ifF (decide_eq_false zn) ?_;exact⟨.refl _,_,_,.inr ⟨.inl (by omega),rfl⟩,rfl⟩
  ·rintro ρ' M8 ⟨s8,due,o7,hdue,rfl⟩;have h8:=s8 _ _ h7;refine⟨λρ' M9=>aU M8 M9/\ρ'=[some (.fz (ns.map D.int)),some (.tup (bA rs)),some (.ref pl),some (.tup (bZ m)),some (.ref pr),some (.int z),some due,o7],?_,?_⟩
   ·ac_nf;refine⟨by decide,.inl ⟨rs,z,_,rfl,d8,?_⟩⟩;rcases hdue with⟨k,rfl,kl,rfl⟩|⟨zo,rfl⟩
    ·refine .inl ⟨k,rfl,kl,λM9 s9=>wC ?_ (ifF rfl ⟨s9,rfl⟩)⟩;cases erow:gD rs k with
     |none=>rfl
     |some x=>exact vJ 4 x 49 (aAY rs k 4 x b9.dp erow)
    ·exact .inr ⟨zo,λp9 M9 s9 hn9 h9=>vT h9 (s9 _ _ h8) (λe=>by rw[e,h8] at hn9;cases hn9) rfl rfl (ifF rfl ⟨s9,rfl⟩)⟩
   ·rintro ρ' M9 ⟨s9,rfl⟩;have hpl9:=s9 _ _ (s8 _ _ hpl8);have h9:=s9 _ _ h8;refine⟨λρ' M10=>aU M9 M10/\∃due' o7',(((z<0∨(nbS rs:Int)<z)/\due'=.ref pd) ∨ ∃k:Nat,z=(k:Int)/\k<=nbS rs/\aEd (cQ rs k m) M10 due')/\ρ'=[some (.fz (ns.map D.int)),some (.tup (bA rs)),some (.ref pl),some (.tup (bZ m)),some (.ref pr),some (.int z),some due',o7'],?_,?_⟩
    ·ac_nf;have out:(z<0∨(nbS rs:Int)<z)->due=.ref pd:=by
      intro h;rcases hdue with⟨k,rfl,kl,_⟩|⟨_,e⟩
      ·omega
      ·exact e
     by_cases zn:0<=z
     ·refine ifT (decide_eq_true zn) ⟨_,hpl9,?_⟩;rw[lm];by_cases zl:z<=(nbS rs:Int)
      ·refine ifT (decide_eq_true zl) ?_;obtain⟨k,rfl⟩:=Int.eq_ofNat_of_zero_le zn;have kl:k<=nbS rs:=by omega
       refine⟨λρ' M10=>M10=M9/\ρ'=[some (.fz (ns.map D.int)),some (.tup (bA rs)),some (.ref pl),some (.tup (bZ m)),some (.ref pr),some (.int (k:Int)),some due,some (.int ((lst (gD rs k) k:Nat):Int))],?_,?_⟩
       ·refine⟨_,hpl9,?_⟩;rw[lm];by_cases kl2:k<nbS rs
        ·refine ifT (decide_eq_true (by omega)) ?_;cases erow:gD rs k with
         |some x =>
          obtain⟨pre,suf,ep,lp⟩:=pM rs k x erow;obtain⟨l,cP,w0,d0,f1,f2,w1⟩:=aFf (ofR x);have hat:atI (map l9D (t9S (ofS rs))) (k:Int)=some (.tup [.str w0,d0]):=sF (by rw[getElem?_map,ep,append_assoc,getElem?_append_right (by omega),lp,Nat.sub_self,f1,cons_append,List.getElem?_cons_zero,Option.map_some,f2]);refine⟨_,_,hpl9,hat,?_⟩;ac_nf;rw[aO];refine ifT (by rw[decide_eq_false w1];rfl) ?_;exact⟨pl,t9S (ofS rs),k,ofR x,suf,rfl,hpl9,by rw[ep,append_assoc,<- lp,drop_left],by omega,by omega,rfl,by rw[lT];rfl⟩
         |none =>
          obtain⟨d0,hd0⟩:=sP rs k kl2 erow;have hat:atI (map l9D (t9S (ofS rs))) (k:Int) = some (.tup [.str "end",d0]):=sF (by rw[getElem?_map,hd0];rfl);refine⟨_,_,hpl9,hat,?_⟩;ac_nf;rw[aO];exact ifF (by decide) ⟨rfl,rfl⟩
        ·refine ifF (decide_eq_false (by omega)) (ifF rfl ⟨rfl,?_⟩);rw[aCk rs k (by omega)];rfl
       ·rintro ρ' M10 ⟨rfl,rfl⟩;ac_nf;have hmm:=mo.hm;have hmp:=sV m rs k;have dm8:DpS 8 (gdS m):=⟨by have:=pN (gdS m);omega,λr hr=>dL (d':=7) (md r hr) (by decide)⟩;have tl:=aDJ m;have lk:((t9S (ofS rs)).take k).length<=120:=by rw[length_take];omega
        have ld:((t9S (ofS rs)).drop (lst (gD rs k) k)).length<=120:=by rw[length_drop];omega
        refine⟨by decide,_,hpl9,λpa hpa=>⟨m,rfl,dm8,mo.va,by omega,λpb M11 s11 hnb hb=>?_⟩⟩;rw[aDI,<- List.map_take] at s11 hnb;have hA:=s11 _ _ aI;have hP:=s11 _ _ ((aU.new hpa _) _ _ hpl9);have s12:=(aU.new hpa _).trans s11;ac_nf;refine⟨_,_,hA,hb,by rw[length_map,length_map];omega,λpc hpc=>⟨_,(aU.new hpc _) _ _ hP,λpe hpe=>?_⟩⟩;rw[<- map_append] at hpe ⊢;rw[aDz,<- List.map_drop];obtain⟨ne,hpe'⟩:=jS hpe;refine⟨_,_,by rw[bV (Ne.symm ne)];exact aI,aI,by rw[length_map,length_map,length_append];omega,λpf hpf=>?_⟩;rw[<- map_append];refine⟨pf,(t9S (ofS rs)).take k++t9S m++(t9S (ofS rs)).drop (lst (gD rs k) k),cQ rs k m,rfl,aI,(aDt rs k m kl).symm,?_,by rw[length_append,length_append];omega,λM13 s13=>?_⟩
        ·intro x hx;rcases List.mem_append.mp hx with hx|hx
         ·rcases List.mem_append.mp hx with hx|hx
          ·exact aEk _ x (List.mem_of_mem_take hx)
          ·exact aEk _ x hx
         ·exact aEk _ x (List.mem_of_mem_drop hx)
        ·have s14:=(((s12.trans (aU.new hpc _)).trans (aU.new hpe _)).trans (aU.new hpf _)).trans s13;refine .inr (.inr ⟨_,_,cQ rs k m,rfl,⟨yD mo.va rs k b9.va,aBP mo rs k b9.ow b9.va (by omega)⟩,by omega,?_⟩);have goal:∀M15 d,aU M13 M15->aEd (cQ rs k m) M15 d->aU M10 M15/\∃due' o7',((((k:Int)<0∨(nbS rs:Int)<(k:Int))/\due'=.ref pd) ∨ ∃k':Nat,(k:Int)=(k':Int)/\k'<=nbS rs/\aEd (cQ rs k' m) M15 due')/\[some (.fz (ns.map D.int)),some (.tup (bA rs)),some (.ref pl),some (.tup (bZ m)),some (.ref pr),some (.int (k:Int)),some d,some (.int ((lst (gD rs k) k:Nat):Int))]=[some (.fz (ns.map D.int)),some (.tup (bA rs)),some (.ref pl),some (.tup (bZ m)),some (.ref pr),some (.int (k:Int)),some due',o7']:=λM15 d h td=>⟨s14.trans h,_,_,.inr ⟨k,rfl,kl,td⟩,rfl⟩;unfold aEd at goal;unfold aBY;generalize lkS (cQ rs k m) 0 []=ol at goal ⊢;cases ol with
         |inr i=>exact λp9 M15 s15 _ h15=>goal M15 _ s15 ⟨p9,rfl,h15⟩
         |inl b =>
          by_cases c60:hmS (gdS (cQ rs k m))<=60
          ·simp only[if_pos c60] at goal ⊢;exact λM15 s15=>goal M15 _ s15 rfl
          ·simp only[if_neg c60] at goal ⊢;exact λp9 M15 s15 _ h15=>goal M15 _ s15 ⟨p9,rfl,h15⟩
      ·refine ifF (decide_eq_false zl) ?_;exact⟨.refl _,_,_,.inl ⟨.inr (by omega),out (.inr (by omega))⟩,rfl⟩
     ·refine ifF (decide_eq_false zn) ?_;exact⟨.refl _,_,_,.inl ⟨.inl (by omega),out (.inl (by omega))⟩,rfl⟩
    ·rintro ρ' M10 ⟨s10,due',o7',hdu,rfl⟩;have inv:∀M11,aU M10 M11->aU M6 M11:=λM11 h=>((((sx.trans s7).trans s8).trans s9).trans s10).trans h;ac_nf;refine .inr (.inl ⟨rs,z,m,rfl,d8,by omega,by omega,?_⟩);rcases hdu with⟨zo,rfl⟩|⟨k,rfl,kl,td⟩
     ·have hA:=s10 _ _ h9;exact .inl ⟨zo,λp9 M11 s11 hn9 h11=>vT h11 (s11 _ _ hA) (λe=>by rw[e,hA] at hn9;cases hn9) rfl rfl (ifF rfl ⟨inv _ s11,_,_,_,rfl⟩)⟩
     ·have hmp:=sV m rs k;have hmm:=mo.hm;refine .inr ⟨k,rfl,kl,⟨yD mo.va rs k b9.va,aBP mo rs k b9.ow b9.va (by omega)⟩,by omega,?_⟩;unfold aBY;unfold aEd at td;generalize lkS (cQ rs k m) 0 []=ol at td ⊢;cases ol with
      |inr i =>
       obtain⟨pq,rfl,hA⟩:=td;exact λp9 M11 s11 hn9 h11=>vT h11 (s11 _ _ hA) (λe=>by rw[e,hA] at hn9;cases hn9) rfl rfl (ifF rfl ⟨inv _ s11,_,_,_,rfl⟩)
      |inl b =>
       by_cases c60:hmS (gdS (cQ rs k m))<=60
       ·simp only[if_pos c60] at td ⊢;subst td;exact λM11 s11=>wC (aOi (aGW mo md rs k 4 b9.dp (by omega)) (yD mo.va rs k b9.va)) (ifF rfl ⟨inv _ s11,_,_,_,rfl⟩)
       ·simp only[if_neg c60] at td ⊢;obtain⟨pq,rfl,hA⟩:=td;exact λp9 M11 s11 hn9 h11=>vT h11 (s11 _ _ hA) (λe=>by rw[e,hA] at hn9;cases hn9) rfl rfl (ifF rfl ⟨inv _ s11,_,_,_,rfl⟩)
 ·rintro ρ M' ⟨sx,o5,o6,o7,rfl⟩;ac_nf;refine⟨ns,rfl,λrs' M9 _ _ bef' _=>?_⟩;obtain rfl:=bef.det bef';have pu1:bB 60 (.tup (bA rs))=true:=by have:=aK7 (ts:=ofS rs) (by rw[iN];exact d8) b9.va;rw[aA7] at this;exact this
  have pu2:bB 60 (.tup (bZ m))=true:=aK7 ⟨by have:=pN (gdS m);have:=mo.hm;omega,λr hr=>dL (d':=7) (md r hr) (by decide)⟩ mo.va;refine wC pu1 (ifT rfl ⟨ns,rfl,λm' M10 _ _ _ pu' _=>?_⟩);obtain rfl:=pu.det pu';exact wC pu2 (bE (fin _))
theorem law_here (ns:List Int)(hl:ns.length<=63)(M:DM):sp_law [.fz (ns.map D.int)] M λd _=>d=.bl true:=⟨ns,rfl,hl,λ_=>rfl⟩
end
noncomputable def aNt:Stmt->Stmt
 |.ClassDef _ _ _ body _ _ _ _ _ _ _=>body.getD 0 (.Pass ⟨0,0,0,0⟩)
 |s=>s
noncomputable abbrev wA:Stmt:=aNt (top 3)
theorem aBF:aR ["self","row"] ["self","row"] (aJ wA):=by ac_rfl
local macro_rules | `(tactic|subst_eqs) => `(tactic|(intro _ _ _ _ _ _ us hl;first |(obtain ⟨_,h⟩ := us1 hl;subst h;rfl) |(obtain ⟨_,_,h⟩ := us2 hl;subst h;rfl) |(obtain ⟨_,_,_,h⟩ := us3 hl;subst h;rfl) |(obtain ⟨_,_,_,_,h⟩ := us4 hl;subst h;rfl)))
theorem all_mk {l:PySem.W.OpenLaw}{w:World}{K:Frag}{h:Heap}{mg:Str->Option Value}{fa f0 f1 f2 f3 f4 f5 f6 f7 f8 f9 f10 f11 f12 f13 f14 f15 f16 f17 f18 f19 f20 f21 f22 f23 f24 f25 f26 f27 f28 f29 f30 f31 f32 f33 f34 f35 f36 f37 f38 f39 f40 f41 f42 f43 f44 f45 f46 f47 f48 f49 f50 f51 f52 f53 f54 f55 f56 f57 f58 f59 f60 f61 f62 f63 f64 f65 f66 f67 f68 f69 f70 f71:Addr}(X:K.In h)(G:h.Ns mainGlobals mg)(hfa:mg "law"=some (.ref fa)){od71 an71:Option Addr}{sl71:Array (Option Value)}{oc71 kV71 dc71 pm71 cd71 ct71:Value}(b0:FK K "greatest_divisor" f0 jC)(b1:FK K "plus" f1 aEJ)(b2:FK K "times" f2 zH)(b3:FK K "below" f3 aCh)(b4:FK K "on_one_bottom" f4 lE)(b5:FK K "sign" f5 aEn)(b6:FK K "scaled_far" f6 pV)(b7:FK K "farther" f7 wO)(b8:FK K "first" f8 aCw)(b9:FK K "_law_ratio" f9 mY)(b10:FK K "_law_plus" f10 uO)(b11:FK K "_law_times" f11 mW)(b12:FK K "_law_drawn" f12 rB)(b13:FK K "_law_done" f13 uQ)(b14:FK K "_law_draws" f14 rL)(b15:FK K "_law_size" f15 pG)(b16:FK K "_law_is_endless" f16 iF)(b17:FK K "_law_close" f17 qP)(b18:FK K "at_place" f18 tW)(b19:FK K "side_deed" f19 rF)(b20:FK K "go_deed" f20 xU)(b21:FK K "skip_deed" f21 qY)(b22:FK K "dot_deed" f22 uG)(b23:FK K "left_deed" f23 qU)(b24:FK K "round_deed" f24 oV)(b25:FK K "right_deed" f25 qB)(b26:FK K "mirror_deed" f26 nL)(b27:FK K "grow_deed" f27 rH)(b28:FK K "quarter_deed" f28 mI)(b29:FK K "half_deed" f29 qM)(b30:FK K "arc_deed" f30 uD)(b31:FK K "deed_of" f31 xK)(b32:FK K "rows_within" f32 kQ)(b33:FK K "how_many_done" f33 lD)(b34:FK K "how_many_numbers" f34 eT)(b35:FK K "numbers_of_rows" f35 gR)(b36:FK K "_law_row" f36 xP)(b37:FK K "_law_bow" f37 wQ)(b38:FK K "_law_plain" f38 rA)(b39:FK K "_law_program" f39 kP)(b40:FK K "how_many_rows" f40 lH)(b41:FK K "_law_many" f41 uA)(b42:FK K "not_too_long" f42 jZ)(b43:FK K "may_grow" f43 tS)(b44:FK K "is_whole" f44 uF)(b45:FK K "is_reduced" f45 pS)(b46:FK K "is_fraction" f46 nP)(b47:FK K "numbers_behind" f47 kJ)(b48:FK K "is_worded" f48 qZ)(b49:FK K "is_bend" f49 xI)(b50:FK K "is_plain_row" f50 jU)(b51:FK K "is_block" f51 uN)(b52:FK K "has_room" f52 tP)(b53:FK K "draws" f53 aCr)(b54:FK K "raised_whole" f54 mP)(b55:FK K "raised" f55 aAn)(b56:FK K "move_size" f56 rQ)(b57:FK K "can_go_on" f57 qW)(b58:FK K "look_at_rows" f58 kC)(b59:FK K "program_of" f59 kD)(b60:FK K "_law_cell_at" f60 nS)(b61:FK K "place_of" f61 tZ)(b62:FK K "put_at" f62 aAG)(b63:FK K "row_at" f63 uT)(b64:FK K "changed" f64 oC)(b65:FK K "_law_lines" f65 qR)(b66:FK K "_law_rows" f66 uK)(b67:FK K "_law_end_of" f67 pF)(b68:FK K "_law_told" f68 uL)(b69:FK K "_law_before" f69 oZ)(b70:FK K "_law_put" f70 wP)(a71:nsIn K mainGlobals "law" = some (some (.ref f71)))(l71:K.lookup f71 = some ⟨oc71,od71,.func (fnOf "law" "law" (pR vG) (fC vG) (aJ vG) .none kV71 dc71 pm71 an71 cd71 ct71),sl71⟩)(c71:codeIn K cd71 "law"=true)(k71:keepIn K (.ref f71)=true)(z_abs:nsIn K mainGlobals "abs"=some none)(z_all:nsIn K mainGlobals "all"=some none)(z_bool:nsIn K mainGlobals "bool"=some none)(z_enumerate:nsIn K mainGlobals "enumerate"=some none)(z_int:nsIn K mainGlobals "int"=some none)(z_isinstance:nsIn K mainGlobals "isinstance"=some none)(z_len:nsIn K mainGlobals "len"=some none)(z_min:nsIn K mainGlobals "min"=some none)(z_range:nsIn K mainGlobals "range"=some none)(z_str:nsIn K mainGlobals "str"=some none)(z_sum:nsIn K mainGlobals "sum"=some none)(z_tuple:nsIn K mainGlobals "tuple"=some none){GNUMBERS:Addr}{esGNUMBERS:Array DictEntry}{epGNUMBERS:Nat}(at_NUMBERS:nsIn K mainGlobals "NUMBERS" = some (some (.ref GNUMBERS)))(am_NUMBERS:(GNUMBERS==sysModules) = false)(lt_NUMBERS:K.lookup GNUMBERS = some ⟨.type "dict",none,.dict esGNUMBERS epGNUMBERS,#[]⟩)(kt_NUMBERS:KeysLit w.params esGNUMBERS.toList){tk_NUMBERS_go:Tok}(et_NUMBERS_go:nsIn K GNUMBERS "go"=some (some (.int 1 tk_NUMBERS_go))){tk_NUMBERS_skip:Tok}(et_NUMBERS_skip:nsIn K GNUMBERS "skip"=some (some (.int 1 tk_NUMBERS_skip))){tk_NUMBERS_side:Tok}(et_NUMBERS_side:nsIn K GNUMBERS "side"=some (some (.int 2 tk_NUMBERS_side))){tk_NUMBERS_dot:Tok}(et_NUMBERS_dot:nsIn K GNUMBERS "dot"=some (some (.int 0 tk_NUMBERS_dot))){tk_NUMBERS_left:Tok}(et_NUMBERS_left:nsIn K GNUMBERS "left"=some (some (.int 0 tk_NUMBERS_left))){tk_NUMBERS_right:Tok}(et_NUMBERS_right:nsIn K GNUMBERS "right"=some (some (.int 0 tk_NUMBERS_right))){tk_NUMBERS_round:Tok}(et_NUMBERS_round:nsIn K GNUMBERS "round"=some (some (.int 0 tk_NUMBERS_round))){tk_NUMBERS_mirror:Tok}(et_NUMBERS_mirror:nsIn K GNUMBERS "mirror"=some (some (.int 0 tk_NUMBERS_mirror))){tk_NUMBERS_grow:Tok}(et_NUMBERS_grow:nsIn K GNUMBERS "grow"=some (some (.int 1 tk_NUMBERS_grow))){tk_NUMBERS_quarter:Tok}(et_NUMBERS_quarter:nsIn K GNUMBERS "quarter"=some (some (.int 1 tk_NUMBERS_quarter))){tk_NUMBERS_half:Tok}(et_NUMBERS_half:nsIn K GNUMBERS "half"=some (some (.int 1 tk_NUMBERS_half))){tk_NUMBERS_arc:Tok}(et_NUMBERS_arc:nsIn K GNUMBERS "arc"=some (some (.int 4 tk_NUMBERS_arc)))(en_NUMBERS_0:nsIn K GNUMBERS "again"=some none)(en_NUMBERS_1:nsIn K GNUMBERS "keep"=some none)(en_NUMBERS_2:nsIn K GNUMBERS "ever"=some none)(en_NUMBERS_3:nsIn K GNUMBERS "none"=some none){GDEEDS:Addr}{esGDEEDS:Array DictEntry}{epGDEEDS:Nat}(at_DEEDS:nsIn K mainGlobals "DEEDS" = some (some (.ref GDEEDS)))(lt_DEEDS:K.lookup GDEEDS = some ⟨.type "dict",none,.dict esGDEEDS epGDEEDS,#[]⟩)(kt_DEEDS:KeysLit w.params esGDEEDS.toList)(et_DEEDS_go:nsIn K GDEEDS "go"=some (some (.ref f20)))(et_DEEDS_skip:nsIn K GDEEDS "skip"=some (some (.ref f21)))(et_DEEDS_side:nsIn K GDEEDS "side"=some (some (.ref f19)))(et_DEEDS_dot:nsIn K GDEEDS "dot"=some (some (.ref f22)))(et_DEEDS_left:nsIn K GDEEDS "left"=some (some (.ref f23)))(et_DEEDS_right:nsIn K GDEEDS "right"=some (some (.ref f25)))(et_DEEDS_round:nsIn K GDEEDS "round"=some (some (.ref f24)))(et_DEEDS_mirror:nsIn K GDEEDS "mirror"=some (some (.ref f26)))(et_DEEDS_grow:nsIn K GDEEDS "grow"=some (some (.ref f27)))(et_DEEDS_quarter:nsIn K GDEEDS "quarter"=some (some (.ref f28)))(et_DEEDS_half:nsIn K GDEEDS "half"=some (some (.ref f29)))(et_DEEDS_arc:nsIn K GDEEDS "arc"=some (some (.ref f30))){GLEAST_CHANGE:Addr}{odGLEAST_CHANGE:Option Addr}{nGLEAST_CHANGE:Nat}{slGLEAST_CHANGE:Array (Option Value)}{tGLEAST_CHANGE_0:Tok}{tGLEAST_CHANGE_1:Tok}(ag_LEAST_CHANGE:nsIn K mainGlobals "LEAST_CHANGE"=some (some (.ref GLEAST_CHANGE)))(lGLEAST_CHANGE:K.lookup GLEAST_CHANGE = some ⟨.type "tuple",odGLEAST_CHANGE,.seq #[.int 3 tGLEAST_CHANGE_0,.int 4 tGLEAST_CHANGE_1] nGLEAST_CHANGE,slGLEAST_CHANGE⟩){GMIDDLE:Addr}{odGMIDDLE:Option Addr}{nGMIDDLE:Nat}{slGMIDDLE:Array (Option Value)}{GMIDDLE_0:Addr}{odGMIDDLE_0:Option Addr}{nGMIDDLE_0:Nat}{slGMIDDLE_0:Array (Option Value)}{tGMIDDLE_0_0:Tok}{tGMIDDLE_0_1:Tok}{GMIDDLE_1:Addr}{odGMIDDLE_1:Option Addr}{nGMIDDLE_1:Nat}{slGMIDDLE_1:Array (Option Value)}{tGMIDDLE_1_0:Tok}{tGMIDDLE_1_1:Tok}(ag_MIDDLE:nsIn K mainGlobals "MIDDLE"=some (some (.ref GMIDDLE)))(lGMIDDLE:K.lookup GMIDDLE = some ⟨.type "tuple",odGMIDDLE,.seq #[.ref GMIDDLE_0,.ref GMIDDLE_1] nGMIDDLE,slGMIDDLE⟩)(lGMIDDLE_0:K.lookup GMIDDLE_0 = some ⟨.type "tuple",odGMIDDLE_0,.seq #[.int 0 tGMIDDLE_0_0,.int 1 tGMIDDLE_0_1] nGMIDDLE_0,slGMIDDLE_0⟩)(lGMIDDLE_1:K.lookup GMIDDLE_1 = some ⟨.type "tuple",odGMIDDLE_1,.seq #[.int 0 tGMIDDLE_1_0,.int 1 tGMIDDLE_1_1] nGMIDDLE_1,slGMIDDLE_1⟩){tGMOST_AGAIN:Tok}(ag_MOST_AGAIN:nsIn K mainGlobals "MOST_AGAIN"=some (some (.int 12 tGMOST_AGAIN))){tGMOST_BLOCKS:Tok}(ag_MOST_BLOCKS:nsIn K mainGlobals "MOST_BLOCKS"=some (some (.int 4 tGMOST_BLOCKS))){tGMOST_IN_A_ROUND:Tok}(ag_MOST_IN_A_ROUND:nsIn K mainGlobals "MOST_IN_A_ROUND"=some (some (.int 300 tGMOST_IN_A_ROUND))){tGMOST_IN_GROW:Tok}(ag_MOST_IN_GROW:nsIn K mainGlobals "MOST_IN_GROW"=some (some (.int 12 tGMOST_IN_GROW))){tGMOST_ROWS:Tok}(ag_MOST_ROWS:nsIn K mainGlobals "MOST_ROWS"=some (some (.int 60 tGMOST_ROWS))){GNOTHING:Addr}{odGNOTHING:Option Addr}{nGNOTHING:Nat}{slGNOTHING:Array (Option Value)}{tGNOTHING_0:Tok}{tGNOTHING_1:Tok}(ag_NOTHING:nsIn K mainGlobals "NOTHING"=some (some (.ref GNOTHING)))(lGNOTHING:K.lookup GNOTHING = some ⟨.type "tuple",odGNOTHING,.seq #[.int 0 tGNOTHING_0,.int 1 tGNOTHING_1] nGNOTHING,slGNOTHING⟩){GONE:Addr}{odGONE:Option Addr}{nGONE:Nat}{slGONE:Array (Option Value)}{tGONE_0:Tok}{tGONE_1:Tok}(ag_ONE:nsIn K mainGlobals "ONE"=some (some (.ref GONE)))(lGONE:K.lookup GONE = some ⟨.type "tuple",odGONE,.seq #[.int 1 tGONE_0,.int 1 tGONE_1] nGONE,slGONE⟩){C_NoRow:Addr}(ac_NoRow:nsIn K mainGlobals "NoRow"=some (some (.ref C_NoRow)))(kc_NoRow:keepIn K (.ref C_NoRow)=true)(ob_NoRow:∃M nm qn N bs hdct sn sub ab col dd k0 k1 k2 k3 k5,K.lookup C_NoRow = some (excClassObj nm qn C_NoRow N bs (.ref M :: bmV) hdct sn sub ab col dd k0 k1 k2 k3 k5 "ValueError.__new__")/\excIn K M bmV "ValueError.__new__"=true/\∃cdM,clsIn K M=some cdM/\cdM.mro=.ref M::bmV)(in_NoRow:∃fI fd,findIn K (.ref C_NoRow) "__init__" = some (some (.ref fI))/\typeIn K (.ref fI) = some (.type "function")/\L2.Fun K "__init__" "NoRow.__init__" wA fI fd)(fa_NoRow:findIn K (.ref C_NoRow) "__setattr__" = some (some (.builtin "object.__setattr__")))(fc_NoRow:∃cd,clsIn K C_NoRow = some cd/\aKw cd.mro = true/\cd.hasDict = true)(fm_NoRow:mroIn K C_NoRow (.type "object") = some true)(fn_NoRow:findIn K (.ref C_NoRow) "row"=some none){C_MillError C_TooMuch:Addr}(ac_MillError:nsIn K mainGlobals "MillError" = some (some (.ref C_MillError)))(xc_MillError:excIn K C_MillError bmV "ValueError.__new__"=true)(ac_TooMuch:nsIn K mainGlobals "TooMuch" = some (some (.ref C_TooMuch)))(xc_TooMuch:excIn K C_TooMuch bmV "ValueError.__new__"=true)(ex0_NoRow:findIn K (.ref C_NoRow) "__getattribute__" = some (some (.builtin "BaseException.__getattribute__")))(ex1_NoRow:findIn K (.ref C_NoRow) "__getattr__"=some none)(ex2_NoRow:findIn K (.ref C_NoRow) "__class__" = some (some (.builtin "object.__class__")))(ex3_NoRow:PySem.W.specialIn K (.builtin "object.__class__") "__get__" = some (some (.builtin "getset_descriptor.__get__")))(ex4_NoRow:PySem.W.takesIn K (.builtin "object.__class__")=some true)(ex5_NoRow:mroIn K C_NoRow (.type "object")=some true)(ex6_NoRow:mroIn K C_NoRow (.type "BaseException")=some true)(ex0_TooMuch:findIn K (.ref C_TooMuch) "__getattribute__" = some (some (.builtin "BaseException.__getattribute__")))(ex1_TooMuch:findIn K (.ref C_TooMuch) "__getattr__"=some none)(ex2_TooMuch:findIn K (.ref C_TooMuch) "__class__" = some (some (.builtin "object.__class__")))(ex3_TooMuch:PySem.W.specialIn K (.builtin "object.__class__") "__get__" = some (some (.builtin "getset_descriptor.__get__")))(ex4_TooMuch:PySem.W.takesIn K (.builtin "object.__class__")=some true)(ex5_TooMuch:mroIn K C_TooMuch (.type "object")=some true)(ex6_TooMuch:mroIn K C_TooMuch (.type "BaseException")=some true)(fD:exmOne K (.ref C_NoRow) (.ref C_MillError)=some true)(eF:exmOne K (.ref C_TooMuch) (.ref C_MillError)=some true)(gM:kitOne K (.ref C_TooMuch) (.ref C_NoRow)=some false)(eZ:kitOne K (.ref C_NoRow) (.ref C_TooMuch)=some false):∃fd:FuncData,(∀(s:Shared)(v:Value),BindsTo s fd ⟨[v],[]⟩ [("_law_script",v)])/\∀base:Heap,K.In base->base.Ns mainGlobals mg->lP l.prog w K mg base CX0 151 fa fd ["_law_script"] (rC K sp_law):=by
 have e:=hfa.symm.trans (mg_of X G a71);cases e;have H0:=b0.has X G (ps:=["one","other"]) (by subst_eqs)
 have H1:=b1.has X G (ps:=["one","other"]) (by subst_eqs)
 have H2:=b2.has X G (ps:=["one","other"]) (by subst_eqs)
 have H3:=b3.has X G (ps:=["one","other"]) (by subst_eqs)
 have H4:=b4.has X G (ps:=["p"]) (by subst_eqs)
 have H5:=b5.has X G (ps:=["number"]) (by subst_eqs)
 have H6:=b6.has X G (ps:=["c","p"]) (by subst_eqs)
 have H7:=b7.has X G (ps:=["c","p","q"]) (by subst_eqs)
 have H8:=b8.has X G (ps:=[]) λ_ _ _ _ _ _ us hl=>by obtain rfl:=us0 hl;rfl
 have H9:=b9.has X G (ps:=["_law_top","_law_bottom"]) (by subst_eqs)
 have H10:=b10.has X G (ps:=["_law_one","_law_other"]) (by subst_eqs)
 have H11:=b11.has X G (ps:=["_law_one","_law_other"]) (by subst_eqs)
 have H12:=b12.has X G (ps:=["_law_one","_law_other"]) (by subst_eqs)
 have H13:=b13.has X G (ps:=["_law_rows_here"]) (by subst_eqs)
 have H14:=b14.has X G (ps:=["_law_rows_here"]) (by subst_eqs)
 have H15:=b15.has X G (ps:=["_law_rows_here"]) (by subst_eqs)
 have H16:=b16.has X G (ps:=["_law_rows_here"]) (by subst_eqs)
 have H17:=b17.has X G (ps:=["_law_stack"]) (by subst_eqs)
 have H18:=b18.has X G (ps:=["place","turns"]) (by subst_eqs)
 have H19:=b19.has X G (ps:=["row"]) (by subst_eqs)
 have H20:=b20.has X G (ps:=["row"]) (by subst_eqs)
 have H21:=b21.has X G (ps:=["row"]) (by subst_eqs)
 have H22:=b22.has X G (ps:=["row"]) (by subst_eqs)
 have H23:=b23.has X G (ps:=["row"]) (by subst_eqs)
 have H24:=b24.has X G (ps:=["row"]) (by subst_eqs)
 have H25:=b25.has X G (ps:=["row"]) (by subst_eqs)
 have H26:=b26.has X G (ps:=["row"]) (by subst_eqs)
 have H27:=b27.has X G (ps:=["row"]) (by subst_eqs)
 have H28:=b28.has X G (ps:=["row"]) (by subst_eqs)
 have H29:=b29.has X G (ps:=["row"]) (by subst_eqs)
 have H30:=b30.has X G (ps:=["row"]) (by subst_eqs)
 have H31:=b31.has X G (ps:=["row"]) (by subst_eqs)
 have H32:=b32.has X G (ps:=["row"]) (by subst_eqs)
 have H33:=b33.has X G (ps:=["rows"]) (by subst_eqs)
 have H34:=b34.has X G (ps:=["row"]) (by subst_eqs)
 have H35:=b35.has X G (ps:=["rows"]) (by subst_eqs)
 have H36:=b36.has X G (ps:=["_law_cell","_law_many_here"]) (by subst_eqs)
 have H37:=b37.has X G (ps:=["_law_row_here"]) (by subst_eqs)
 have H38:=b38.has X G (ps:=["_law_row_here"]) (by subst_eqs)
 have H39:=b39.has X G (ps:=["_law_cells"]) (by subst_eqs)
 have H40:=b40.has X G (ps:=["rows"]) (by subst_eqs)
 have H41:=b41.has X G (ps:=["_law_rows_here"]) (by subst_eqs)
 have H42:=b42.has X G (ps:=["program"]) (by subst_eqs)
 have H43:=b43.has X G (ps:=["number"]) (by subst_eqs)
 have H44:=b44.has X G (ps:=["thing"]) (by subst_eqs)
 have H45:=b45.has X G (ps:=["top","bottom"]) (by subst_eqs)
 have H46:=b46.has X G (ps:=["thing"]) (by subst_eqs)
 have H47:=b47.has X G (ps:=["word"]) (by subst_eqs)
 have H48:=b48.has X G (ps:=["thing"]) (by subst_eqs)
 have H49:=b49.has X G (ps:=["row"]) (by subst_eqs)
 have H50:=b50.has X G (ps:=["thing"]) (by subst_eqs)
 have H51:=b51.has X G (ps:=["thing"]) (by subst_eqs)
 have H52:=b52.has X G (ps:=["block","around"]) (by subst_eqs)
 have H53:=b53.has X G (ps:=["rows"]) (by subst_eqs)
 have H54:=b54.has X G (ps:=["number","n"]) (by subst_eqs)
 have H55:=b55.has X G (ps:=["number","n"]) (by subst_eqs)
 have H56:=b56.has X G (ps:=["rows"]) (by subst_eqs)
 have H57:=b57.has X G (ps:=["rows"]) (by subst_eqs)
 have H58:=b58.has X G (ps:=["rows","number","around"]) (by subst_eqs)
 have H59:=b59.has X G (ps:=["rows"]) (by subst_eqs)
 have H60:=b60.has X G (ps:=["_law_script","_law_k"]) (by subst_eqs)
 have H61:=b61.has X G (ps:=["rows","number"]) (by subst_eqs)
 have H62:=b62.has X G (ps:=["own","number","rows"]) (by subst_eqs)
 have H63:=b63.has X G (ps:=["program","number"]) (by subst_eqs)
 have H64:=b64.has X G (ps:=["program","number","rows"]) (by subst_eqs)
 have H65:=b65.has X G (ps:=["_law_rows_here"]) (by subst_eqs)
 have H66:=b66.has X G (ps:=["_law_lines_here"]) (by subst_eqs)
 have H67:=b67.has X G (ps:=["_law_lines_here","_law_number"]) (by subst_eqs)
 have H68:=b68.has X G (ps:=["_law_way","_law_rows_here","_law_number","_law_more"]) (by subst_eqs)
 have H69:=b69.has X G (ps:=["_law_script"]) (by subst_eqs)
 have H70:=b70.has X G (ps:=["_law_script"]) (by subst_eqs)
 have F71:=fun_mk (st:=vG) l71 c71 k71;have oH:=mg_none_of X G z_abs;have aIV:=mg_none_of X G z_all;have aEm:=mg_none_of X G z_bool;have rD:=mg_none_of X G z_enumerate;have lS:=mg_none_of X G z_int;have bC:=mg_none_of X G z_isinstance;have cF:=mg_none_of X G z_len;have aHY:=mg_none_of X G z_min;have iX:=mg_none_of X G z_range;have aHJ:=mg_none_of X G z_str;have aHe:=mg_none_of X G z_sum;have dA:=mg_none_of X G z_tuple;have aCF:aJ5 w K mg "DEEDS" [("go","go_deed"),("skip","skip_deed"),("side","side_deed"),("dot","dot_deed"),("left","left_deed"),("right","right_deed"),("round","round_deed"),("mirror","mirror_deed"),("grow","grow_deed"),("quarter","quarter_deed"),("half","half_deed"),("arc","arc_deed")]:=⟨_,_,_,mg_of X G at_DEEDS,lt_DEEDS,kt_DEEDS,λk n e=>by
  by_cases c_go:k = "go"
  ·subst c_go;cases e;exact⟨_,et_DEEDS_go,mg_of X G b20.1⟩
  by_cases c_skip:k = "skip"
  ·subst c_skip;cases e;exact⟨_,et_DEEDS_skip,mg_of X G b21.1⟩
  by_cases c_side:k = "side"
  ·subst c_side;cases e;exact⟨_,et_DEEDS_side,mg_of X G b19.1⟩
  by_cases c_dot:k = "dot"
  ·subst c_dot;cases e;exact⟨_,et_DEEDS_dot,mg_of X G b22.1⟩
  by_cases c_left:k = "left"
  ·subst c_left;cases e;exact⟨_,et_DEEDS_left,mg_of X G b23.1⟩
  by_cases c_right:k = "right"
  ·subst c_right;cases e;exact⟨_,et_DEEDS_right,mg_of X G b25.1⟩
  by_cases c_round:k = "round"
  ·subst c_round;cases e;exact⟨_,et_DEEDS_round,mg_of X G b24.1⟩
  by_cases c_mirror:k = "mirror"
  ·subst c_mirror;cases e;exact⟨_,et_DEEDS_mirror,mg_of X G b26.1⟩
  by_cases c_grow:k = "grow"
  ·subst c_grow;cases e;exact⟨_,et_DEEDS_grow,mg_of X G b27.1⟩
  by_cases c_quarter:k = "quarter"
  ·subst c_quarter;cases e;exact⟨_,et_DEEDS_quarter,mg_of X G b28.1⟩
  by_cases c_half:k = "half"
  ·subst c_half;cases e;exact⟨_,et_DEEDS_half,mg_of X G b29.1⟩
  by_cases c_arc:k = "arc"
  ·subst c_arc;cases e;exact⟨_,et_DEEDS_arc,mg_of X G b30.1⟩
  simp only[List.lookup,beq_eq_false_iff_ne.mpr c_go,beq_eq_false_iff_ne.mpr c_skip,beq_eq_false_iff_ne.mpr c_side,beq_eq_false_iff_ne.mpr c_dot,beq_eq_false_iff_ne.mpr c_left,beq_eq_false_iff_ne.mpr c_right,beq_eq_false_iff_ne.mpr c_round,beq_eq_false_iff_ne.mpr c_mirror,beq_eq_false_iff_ne.mpr c_grow,beq_eq_false_iff_ne.mpr c_quarter,beq_eq_false_iff_ne.mpr c_half,beq_eq_false_iff_ne.mpr c_arc] at e;cases e⟩
 have xJ:aFh w K mg "NUMBERS" aHX aI5:=by
  refine⟨_,_,_,mg_of X G at_NUMBERS,am_NUMBERS,lt_NUMBERS,kt_NUMBERS,?_,?_⟩
  ·intro k n e;unfold aHX at e;by_cases c_go:k = "go"
   ·subst c_go;cases e;exact⟨_,et_NUMBERS_go⟩
   by_cases c_skip:k = "skip"
   ·subst c_skip;cases e;exact⟨_,et_NUMBERS_skip⟩
   by_cases c_side:k = "side"
   ·subst c_side;cases e;exact⟨_,et_NUMBERS_side⟩
   by_cases c_dot:k = "dot"
   ·subst c_dot;cases e;exact⟨_,et_NUMBERS_dot⟩
   by_cases c_left:k = "left"
   ·subst c_left;cases e;exact⟨_,et_NUMBERS_left⟩
   by_cases c_right:k = "right"
   ·subst c_right;cases e;exact⟨_,et_NUMBERS_right⟩
   by_cases c_round:k = "round"
   ·subst c_round;cases e;exact⟨_,et_NUMBERS_round⟩
   by_cases c_mirror:k = "mirror"
   ·subst c_mirror;cases e;exact⟨_,et_NUMBERS_mirror⟩
   by_cases c_grow:k = "grow"
   ·subst c_grow;cases e;exact⟨_,et_NUMBERS_grow⟩
   by_cases c_quarter:k = "quarter"
   ·subst c_quarter;cases e;exact⟨_,et_NUMBERS_quarter⟩
   by_cases c_half:k = "half"
   ·subst c_half;cases e;exact⟨_,et_NUMBERS_half⟩
   by_cases c_arc:k = "arc"
   ·subst c_arc;cases e;exact⟨_,et_NUMBERS_arc⟩
   simp only[List.lookup,beq_eq_false_iff_ne.mpr c_go,beq_eq_false_iff_ne.mpr c_skip,beq_eq_false_iff_ne.mpr c_side,beq_eq_false_iff_ne.mpr c_dot,beq_eq_false_iff_ne.mpr c_left,beq_eq_false_iff_ne.mpr c_right,beq_eq_false_iff_ne.mpr c_round,beq_eq_false_iff_ne.mpr c_mirror,beq_eq_false_iff_ne.mpr c_grow,beq_eq_false_iff_ne.mpr c_quarter,beq_eq_false_iff_ne.mpr c_half,beq_eq_false_iff_ne.mpr c_arc] at e;cases e
  ·intro k hk;unfold aI5 at hk;simp only[mem_cons,not_mem_nil,or_false] at hk;rcases hk with rfl|rfl|rfl|rfl
   ·exact en_NUMBERS_0
   ·exact en_NUMBERS_1
   ·exact en_NUMBERS_2
   ·exact en_NUMBERS_3
 have f_NoRow:aBp K C_NoRow "row":=⟨fa_NoRow,fc_NoRow,fm_NoRow,fn_NoRow⟩;have sJ:tV K C_NoRow:=⟨ex0_NoRow,ex1_NoRow,ex2_NoRow,ex3_NoRow,ex4_NoRow,ex5_NoRow,ex6_NoRow⟩;have oM:tV K C_TooMuch:=⟨ex0_TooMuch,ex1_TooMuch,ex2_TooMuch,ex3_TooMuch,ex4_TooMuch,ex5_TooMuch,ex6_TooMuch⟩;have nO:kitOne K (.ref C_NoRow) (.ref C_NoRow)=some true:=aDu;have gW:kitOne K (.ref C_TooMuch) (.ref C_TooMuch)=some true:=aDu;have rN:aDc K mg "MillError" C_MillError:=⟨mg_of X G ac_MillError,xc_MillError⟩;have iM:aDc K mg "TooMuch" C_TooMuch:=⟨mg_of X G ac_TooMuch,xc_TooMuch⟩;have mR:gG K mg "LEAST_CHANGE" (.tup [.int 3,.int 4]):=⟨_,.ref GLEAST_CHANGE,mg_of X G ag_LEAST_CHANGE,rfl,λH=>(cH (xs:=[.int (3),.int (4)]) (.inr ⟨_,_,_,lGLEAST_CHANGE,rfl,rfl,by show(2:Nat)<=sizeLine;decide,(.cons ⟨_,rfl⟩ (.cons ⟨_,rfl⟩ .nil))⟩) (cK bU (cK bU dG)))⟩;have bH:gG K mg "MIDDLE" uU:=⟨_,.ref GMIDDLE,mg_of X G ag_MIDDLE,rfl,λH=>(cH (xs:=[.ref GMIDDLE_0,.ref GMIDDLE_1]) (.inr ⟨_,_,_,lGMIDDLE,rfl,rfl,by show(2:Nat)<=sizeLine;decide,(.cons rfl (.cons rfl .nil))⟩) (cK (cH (xs:=[.int (0),.int (1)]) (.inr ⟨_,_,_,lGMIDDLE_0,rfl,rfl,by show(2:Nat)<=sizeLine;decide,(.cons ⟨_,rfl⟩ (.cons ⟨_,rfl⟩ .nil))⟩) (cK bU (cK bU dG))) (cK (cH (xs:=[.int (0),.int (1)]) (.inr ⟨_,_,_,lGMIDDLE_1,rfl,rfl,by show(2:Nat)<=sizeLine;decide,(.cons ⟨_,rfl⟩ (.cons ⟨_,rfl⟩ .nil))⟩) (cK bU (cK bU dG))) dG)))⟩;have pQ:gG K mg "MOST_AGAIN" (.int 12):=⟨_,.int 12,mg_of X G ag_MOST_AGAIN,⟨_,rfl⟩,λH=>bU⟩;have nQ:gG K mg "MOST_BLOCKS" (.int 4):=⟨_,.int 4,mg_of X G ag_MOST_BLOCKS,⟨_,rfl⟩,λH=>bU⟩;have kA:gG K mg "MOST_IN_A_ROUND" (.int 300):=⟨_,.int 300,mg_of X G ag_MOST_IN_A_ROUND,⟨_,rfl⟩,λH=>bU⟩;have kB:gG K mg "MOST_IN_GROW" (.int 12):=⟨_,.int 12,mg_of X G ag_MOST_IN_GROW,⟨_,rfl⟩,λH=>bU⟩;have jJ:gG K mg "MOST_ROWS" (.int 60):=⟨_,.int 60,mg_of X G ag_MOST_ROWS,⟨_,rfl⟩,λH=>bU⟩;have dW:gG K mg "NOTHING" aDM:=⟨_,.ref GNOTHING,mg_of X G ag_NOTHING,rfl,λH=>(cH (xs:=[.int (0),.int (1)]) (.inr ⟨_,_,_,lGNOTHING,rfl,rfl,by show(2:Nat)<=sizeLine;decide,(.cons ⟨_,rfl⟩ (.cons ⟨_,rfl⟩ .nil))⟩) (cK bU (cK bU dG)))⟩;have mK:gG K mg "ONE" aEY:=⟨_,.ref GONE,mg_of X G ag_ONE,rfl,λH=>(cH (xs:=[.int (1),.int (1)]) (.inr ⟨_,_,_,lGONE,rfl,rfl,by show(2:Nat)<=sizeLine;decide,(.cons ⟨_,rfl⟩ (.cons ⟨_,rfl⟩ .nil))⟩) (cK bU (cK bU dG)))⟩;refine⟨fnOf "law" "law" (pR vG) (fC vG) (aJ vG) .none kV71 dc71 pm71 an71 cd71 ct71,λs v=>.of_eq rfl,λbase _ _=>?_⟩;have fG:qD l.prog w K mg base "NoRow" C_NoRow "row":=by obtain⟨fI,fdI,i1,i2,FI⟩:=in_NoRow;exact⟨mg_of X G ac_NoRow,kc_NoRow,ob_NoRow,fI,fdI,"self","row",i1,i2,aI8 FI aBF f_NoRow rfl (by first|exact Or.inl rfl|exact Or.inr (Or.inl rfl)|exact Or.inr (Or.inr rfl)) (by first|exact Or.inl rfl|exact Or.inr (Or.inl rfl)|exact Or.inr (Or.inr rfl)) (by decide) (by decide) (by decide) (by decide) (λ_=>rfl) 0,FI.binds (ps:=["self","row"]) (by subst_eqs)⟩
 have bD:=qN (P:=l.prog) (w:=w) (base:=base) H0 oH;have aEW:=aH6 H1 bD;have h_times:=aGg H2 bD;have w_times:=aF6 H2 bD;have aCq:=aGi (P:=l.prog) (w:=w) (base:=base) H3;have iY:=vQ (P:=l.prog) (w:=w) (base:=base) H4;have aEM:=aHG (P:=l.prog) (w:=w) (base:=base) H5;have lV:=zX H6 iY;have xE:=aDV H7 lV aEM;have aCx:=aGo (P:=l.prog) (w:=w) (base:=base) H8 bH mK;have bX:=aBe (P:=l.prog) (w:=w) (base:=base) H9 oH;have w_law_ratio:=aBq (P:=l.prog) (w:=w) (base:=base) H9 oH;have kI:=aCe H10 bX;have cL:=aBD H11 bX;have w_law_times:=aBy H11 w_law_ratio;have gE:=aBv H12 bX;have cX:=aCs (P:=l.prog) (w:=w) (base:=base) H13;have dO:=aBj (P:=l.prog) (w:=w) (base:=base) H14;have gI:=aC2 H15 iX cL;have w_law_size:=aC9 H15 iX w_law_times;have iJ:=uI H16 cX gI dO;have w_law_is_endless:=uR H16 cX w_law_size dO;have mZ:=aBh H17 lS dA cX iJ dO;have bM:=aCn (P:=l.prog) (w:=w) (base:=base) H18 mK;have jO:=aBk H19 bH bM;have xO:=aDm H20 dW jO;have qV:=aBl H21 dW bM;have tU:=aCZ H22 bH aCx;have qX:=aBf H23 bH bM;have pB:=aAI H24 bH bM;have oS:=aAc H25 bH bM;have nR:=yW (P:=l.prog) (w:=w) (base:=base) H26 bH mK;have rW:=aBu (P:=l.prog) (w:=w) (base:=base) H27 bH;have mQ:=xA H28 bH dW bM;have sA:=aBo H29 bH dW aEW bM;have uM:=aCP H30 bH bM;have xM:=aDS H31 aCF xO jO qV tU qX pB oS nR rW mQ sA uM;have aT:=yV (P:=l.prog) (w:=w) (base:=base) H32;have w_rows_within:=yY (P:=l.prog) (w:=w) (base:=base) H32;have gL:=vS H33 aT;have aY:=sS H35 H34 aT aHe;have eO:=rP H34 aT aY;have eY:=aDp (P:=l.prog) (w:=w) (base:=base) H36 oH iX;have xV:=aDx H37 gE bX kI cL aHY;have rZ:=aBC H38 lS gE bX xV;have gP:=yT H39 cF dA eY rZ mZ cX;have dF:=vM H40 cF aT;have mG:=aCu (P:=l.prog) (w:=w) (base:=base) H41;have fX:=xG H42 jJ dF;have mL:=wN H42 iM jJ dF;have tQ:=aC4 (P:=l.prog) (w:=w) (base:=base) H43 kB;have jE:=aC6 (P:=l.prog) (w:=w) (base:=base) H44 bC lS aEm;have pA:=aAH H45 bD;have nV:=yR H46 bC dA cF jE pA;have kO:=tK (P:=l.prog) (w:=w) (base:=base) H47 xJ;have jP:=aBs (P:=l.prog) (w:=w) (base:=base) H48 bC dA aHJ cF;have xX:=aDv H49 bH xE;have eQ:=wY H50 cF aIV jP kO nV tQ xX;have jF:=aCI H51 bC dA cF pQ jP jE;have jB:=aCt (P:=l.prog) (w:=w) (base:=base) H52 cF nQ;have vF:=aFS H53 aT xM;have gB:=xH (P:=l.prog) (w:=w) (base:=base) H54;have aAF:=aEl H55 gB;have lB:=aBg H56 mK w_times aAF;have hU:=aBz H57 kA mK mR gL vF lB aCq;have cE:=oF H58 eQ jF jB w_rows_within hU 8 (by decide);have iA:=wV H58 fG eQ jF jB w_rows_within hU 8 (by decide);have eI:=aAX H59 cE fX;have w_program_of:=aAz H59 cE mL;have fJ:=aAr H59 fG iA cE fX;have dJ:=yU (P:=l.prog) (w:=w) (base:=base) H60 cF;have eP:=aCE H61 rD cF eO;have gO:=aEG H62 cF eP aT;have aAP:=aEx H63 cF aY eP aT;have aA9:=aE5 H63 fG cF aY eP aT;have xN:=aEh H64 aY gO eI;have w_changed:=aDK H64 aY gO w_program_of;have wZ:=aDf H64 fG aY gO fJ eI;have jK:=aBd (P:=l.prog) (w:=w) (base:=base) H65 bC dA cF;have pW:=aCJ (P:=l.prog) (w:=w) (base:=base) H66 dA;have lX:=zU (P:=l.prog) (w:=w) (base:=base) H67 iX cF lS;have mF:=aCi H68 bC fG iM rN sJ oM f_NoRow fD eF nO eZ gM gW aAP aA9 xN wZ w_changed eI fJ w_program_of;have lW:=aAN H69 dJ eY gP mG;have sI:=aDZ H70 dJ eY gP;exact aJZ (P:=l.prog) (w:=w) (base:=base) F71 cF dJ eY lW sI jK pW lX mF
end Lw
namespace PySem.W.Fast
local macro_rules|`(#check $s:str)=>do
 let mut n:=0;let mut k:=0;let mut o:=#[]
 for c in s.getString.toList do
  n:=n*85+(if c.toNat<91 then c.toNat-35 else c.toNat-37);k:=k+1
  if k=10 then
   let i:=Lean.mkIdent (.mkSimple s!"tw{n}")
   o:=o.push (←`(command|noncomputable def $i:ident:Unit:=()));n:=0;k:=0
 return Lean.mkNullNode (o.map (·.raw))
#check ";:0_wU*JHtD;(?B`L2Aek]QG$;EKpr)D,,8*O+xaCut,y7Xgu-/<X@Mo)V5vb1jU5XI0^p6%W*J-o-@sT?8]bWM;]asA4TGZNj;'=bL4E'GObDRiNqp6m66Z/QhF=ZifkbC:SZ%Y9</Q$d:UGwL8P)51-qvo+2-pVlu83%Hm`a*J8`b3SFT&6]>U)XUL9CVefAIImR3K?-P7sj$xa&7riiU%#$K3F'K:il<3;jSYW$2Fd?@`rGJJbU/11_MI=K;D].taO/cDRmO1_<Np;(B-:D5Q;TG>1U6DiEOE>WI3Vcwk-vL0TkZLnr.nNBh6kVg>Y,(_i*^2cPnr66u:k&^l6m_N$:nDp'/*1tk(p_]goh@-M+s/#nh.8G0$3>BQcA'(dVq5]?M/xHf-3+M=miY)j;XO-nDX$Ndgd0mnZbOEg5Fnr&b5&yC<YJ0_4]wWq:c=oIbo4h;wnQv2Nh=>V1u5?WK&8x8`U?Q]>ZEq)tScco7Yg%5S57^kCNOfD,L$tNE_Gh#95emsNxlEPfW7t)P(L.ND8I6w^T=XJ5mZP82>_f^9xc1aFd'4K#mZ#m3T>FDrPJ,tIkt7I_d'*M69OFV=W5HK)]cRPEV/^KACH`7_%1y_V51IZl=AkoNPo8Q$%-o8-Ku?&y;2#dhQ6*V5T5>;5$]u^no%N=0(vdW&h^1xF,xj5fRqbY2XC3=3EVd5'RjNWvU)?Z(h#3x`;L.#sNP0XyeHIaJo^'rX+NN,hU=dtUVZx@#Oy.6B8*xY.LruYS^MZOYlLajH_Hf_hw&oUkl/5K-IclmjG'F#oTeP?=gg/jj.<V0if'hV:o_LVwQcPB`b3@q>%g:=2p4t7^D3)FE&rR+H/l>MX0Y+w^i_bvBSTN(/3jcLdRb3??N:6&&yJ-_6^*/lHyH>>B3.5Ea:cRq)7K)NEaJx]SnRSG8gvbSVp<+u4k%rsIkj5$UCpq/qE0A9X8`/]HyK`3I+MLb8jH,9:Ln(gYw%E'bkqZ.VHa^j-6p8w^DCR'U/i]y=Zf5p<5BfYk&1t9b1d0:L%1s_PZk713S=T0R5/%DU7NIejQhc]]]e'JrA:iVp8Gy2OFUF5-yv%BU+s02$X;PiETW.CJ`5r=i##QUW;>BiS-o+0qj?Ve1VB)-Ym6F1@ZUYAKux$GJD=ih?@^4Xq;26jMr,ONdsljb8OLI8s_#u)#5UrB+E1+R_2S7hV%o>TVNf&LU)k9Y$c_Sj$,GwW?a:Doq>m5V-bKyKffTHte:'p?)APIXjc2_95Dtm_g'/c]oXQ4B6Q)]hoVWq6wR-a+CZ%&b=plyRE&QR_%ZX9rt*nM8:ZqP8#<rm?92tqCEN=L^ll9=%25l#'@B$aMFr^D_YKn&hYK9EARx1:c+aE:@7NgD>/FR'LcHY+TZ&x6ajuhiP8i)+SauUp1.=9QSv;O:wSj/`D9e^ZcsvVeuoEhR,oX(r&@0/a#@)kS>R%(Q6:?1,;4k@?qYLCfRu$=20Oe;E:-f@m@^@f)=/el1l?l`rXe'/<h/EWp]r=K#<;7nU=';xKK=H;VS1@wL.-#n]#TY_$XGy`<+jdm7FQ=<'U34#^s92%Q>qhgKF&ETdR:`QF1ZhNB7-D3M7KCp]hT.clT>+X>DjYe<pC`3RCoP%^97VCUN=*4D9QYu>W;yF7Ulv%6Z#vX%Bs<Xn#K.D^drvdXUCI=KoAX0:+dLs_E't6EEVUJ7XJ%(A]iwSlRq1$tJ1tEFP+BO$6@R3qC7'>qQF+h_?ArEu,,pKci=cnladpVI/+6c_8GLFN,@w,-#o:2BxLR:8&(q(`@Jr(.t#pt%SUlVVXo?X]GGysuWW)E^yc3`g6Q3q0dTQG^&es:-PVrd6Kh.i-t.Xi`P<g#>9WZ=3b7DayolGX``)j%IRU$3nU,#*Ycib@Q^u%iWEV:bPu^?KX(dQ1+ShFhTDEUGB6*P7LS;msl%@L-Cbl5uByG+A1EiV*psTWrK:gc_f74y;xLWSd><qd7d9kHe9h@sDZASm(Z'HYZxGAtA=#e,oq44GO+JbIf9N^cauWvv,UfX6YJ_dGF*49;6E:2w3M@;0s%1FSuGb@u`cxBPU3f9:-ycAF;L1CnG?_X00#4)Zf$;IF&^ktTF/PT%C6ei'WL(^]r^n*BiYIG,,sYH05xsk-?Q4NWX.*,]8JRqQ,&nBOsOa4p8&3aLEfugC'1iGv=(abY_d^a&iK0#<J5d95r$]B5yWZVxm8rT:cW.udY0SU'mF&LfmfbTpr?1V#e+0NSnlQ82>w*P=#ZL6#vD]SUpvi8lbYK8$4?&?60lVsyA</BF:<ii2JmT<o0s#EwZ5AyPW-R+9GY5Ob%XKp'+LQO58YNU*gPTH8+QHSP2g%xaj`A3]F%5<#67G#r,YCWaZ#>=>rI7uWoV)G^SIrVw<liT]-(<Usx'g?h`Z2VQytd(<5v+6KeR^)w'8*h#aVQ9c:-'YNip%k1,=nu,rl?Qmg,?bpg'vmojxDv@T&j^^$p2/WDQVPm#8Uy((v.P(CN/>jK:RQF>rfGp>bgYsmHmn7HC3Rj4fkh$j+3.&6eBCJ$LDrPw$@,)].+@kge06ia4UGjcjpG9Mj)Eektr;_(9f4,sKIiS6TKp,U8YMSp_6KQf@Ni#Qn6+'B:PEBWCw`%:+_i7+pJ,%7FeSWtu&h-vt+?W0y`,a>w-Oy<y*E:<bw^Dl>(/%5DcWNcZQ$T'9:K0i,pltmu1]Mnrvevly)jrL;oYU8,8j,uB7.B2OUB4SsEY/sas<(EG,+]BvGOq_t%B,^CAGuLXf%M2)i;q&L`1,.tC(,G`<'(9NJ@t6$e7TL(t`*hre%UD$wUq+Ox]-A/'.r2A860)G3^1k+oIZ@PebI_sMq'$f*+ouL_)d.YS<P%#K#o.UExDj@MPKVu:Ddqkf5kxJ'2TV-u_js<Mqd,5OOZEnR5nG2ipH9$-t_,)s$'-I0_SW3LB:E/xW4-Vh)'1x9kwZ0v/S$7MnHD&?erXP0prQ8CooMY#QF^J-=`ELqAxFnhOqX;cplwit)+vW(PX7s?,_gE0TfWZtEctSi'-kIv`#;@*]^:AZ/ARr.,Z4JEch,mK]C8G=<u80qqu*?#FB]))KdIola0($b5(n<*#scv5gRN;H%W0m$>X.gpVTx=cJsm2oUtEb]PBWvC&H*Mp'&MS<?LPNyxx.k,m+sf,sJh#5'eT#HpqU;9,pA?j&+/@C*PI&J^W/w%,qtcRr]jk@])f^r6mq^pN`1J=ILLnTF7)@7U;+.0Hb'eFW-&N0A3Q=h--S7d9+qDawNXFUU?cLg.#+^XbxC.Q7)B3:5kEtcf_r_JF-&+*;qEV/ZS)D'FmJ1$$(SkO5x$54Kw,E$7ZCZl+6v^DR1W+W@:%_FRv71:Na#;`n4+=.BDNRKcMF:vOd&QL`dVdb'Kk0qu$r8K.BqE;@OpB2pN';aDl]KPiksvHI9M?yJxipw_4uh@M1_;_2PSag<rrwxPcYvFO*5]`lVar#jK?_#co1mIG<b^2iATB-)sXGOcw'n=ovQs:BpN?Z@k_)Eq9lIEX^-?RT0&j]G#_HdiTjNl)&('wk),g9*(Se.w%9&-HLi8:PpCKwQB0tRjlgnVZN^X:l,.gAXv8Y7Dh^'W3ukgk$n?i]#)_^)3TWvSER*iYri6V6/o1GQ53WHy:kTTbE'M'y+UNGXHN#2UhGe=<i]TIDb*KY%R_c+XtM8fblq+0Ic/.)&8gphC)KvGKJtT]h=;T)H=hX'.//2eF-Q$^k(TB8&4cAsj?b(SC_03i*.l<_$1,AgZjFZ($C'rs5eIVNLlF)sfkY9H#?fQAj`X<ypd?kE-o]`WeN%^cSN'Y7k^Y:wQ#GFsRIVMpcLXqOjJR-7DL2f<;Qosi+KQ^vAte:C:JsM)@x0HN9JaXgFYR3OqIq=o#ZP4/4I)2d9>7_@gH:/,2#2M_M&ZjsSL.he*G>?y?S(&Cv&N,c(TF2g<EjM/1tsniv&F0W:5=jdVDS%/rA6@(mCgpoUn$W&<Cb0+8h$y%4CL2g(TO9dvCDn:Oq/r$qBhj;IUIw>CB&hl1dY=#4"
end PySem.W.Fast
open PySem PySem.W PyProof.Rows
set_option maxRecDepth 100000 in
set_option maxHeartbeats 0 in
theorem PySem.Challenge.cw_arcmill_k93_programs_changed_holds : PySem.Challenge.rw_arcmill_k93_programs_changed.Holds := by
 w_on;o_law;k_head;(case hw=>w_witness2)
 k_fill
 refine Dd.walk_ofD (l:=PySem.Challenge.rw_arcmill_k93_programs_changed) (n:=63) (k:=151) (x:="_law_script") (sp:=Lw.sp_law) rfl (by decide) rfl ⟨rfl,by decide,by decide⟩ (λw h Y=>PySem.W.kIn_of Y) ?F Lw.law_here
 case F =>
  intro w mg fa h KX G hmg
  refine' Lw.all_mk KX G hmg ?b0 ?b1 ?b2 ?b3 ?b4 ?b5 ?b6 ?b7 ?b8 ?b9 ?b10 ?b11 ?b12 ?b13 ?b14 ?b15 ?b16 ?b17 ?b18 ?b19 ?b20 ?b21 ?b22 ?b23 ?b24 ?b25 ?b26 ?b27 ?b28 ?b29 ?b30 ?b31 ?b32 ?b33 ?b34 ?b35 ?b36 ?b37 ?b38 ?b39 ?b40 ?b41 ?b42 ?b43 ?b44 ?b45 ?b46 ?b47 ?b48 ?b49 ?b50 ?b51 ?b52 ?b53 ?b54 ?b55 ?b56 ?b57 ?b58 ?b59 ?b60 ?b61 ?b62 ?b63 ?b64 ?b65 ?b66 ?b67 ?b68 ?b69 ?b70 ?a71 ?l71 ?c71 ?k71 ?z_abs ?z_all ?z_bool ?z_enumerate ?z_int ?z_isinstance ?z_len ?z_min ?z_range ?z_str ?z_sum ?z_tuple ?at_NUMBERS ?am_NUMBERS ?lt_NUMBERS ?kt_NUMBERS ?et_NUMBERS_go ?et_NUMBERS_skip ?et_NUMBERS_side ?et_NUMBERS_dot ?et_NUMBERS_left ?et_NUMBERS_right ?et_NUMBERS_round ?et_NUMBERS_mirror ?et_NUMBERS_grow ?et_NUMBERS_quarter ?et_NUMBERS_half ?et_NUMBERS_arc ?en_NUMBERS_0 ?en_NUMBERS_1 ?en_NUMBERS_2 ?en_NUMBERS_3 ?at_DEEDS ?lt_DEEDS ?kt_DEEDS ?et_DEEDS_go ?et_DEEDS_skip ?et_DEEDS_side ?et_DEEDS_dot ?et_DEEDS_left ?et_DEEDS_right ?et_DEEDS_round ?et_DEEDS_mirror ?et_DEEDS_grow ?et_DEEDS_quarter ?et_DEEDS_half ?et_DEEDS_arc ?ag_LEAST_CHANGE ?lGLEAST_CHANGE ?ag_MIDDLE ?lGMIDDLE ?lGMIDDLE_0 ?lGMIDDLE_1 ?ag_MOST_AGAIN ?ag_MOST_BLOCKS ?ag_MOST_IN_A_ROUND ?ag_MOST_IN_GROW ?ag_MOST_ROWS ?ag_NOTHING ?lGNOTHING ?ag_ONE ?lGONE ?ac_NoRow ?kc_NoRow ?ob_NoRow ?in_NoRow ?fa_NoRow ?fc_NoRow ?fm_NoRow ?fn_NoRow ?ac_MillError ?xc_MillError ?ac_TooMuch ?xc_TooMuch ?ex0_NoRow ?ex1_NoRow ?ex2_NoRow ?ex3_NoRow ?ex4_NoRow ?ex5_NoRow ?ex6_NoRow ?ex0_TooMuch ?ex1_TooMuch ?ex2_TooMuch ?ex3_TooMuch ?ex4_TooMuch ?ex5_TooMuch ?ex6_TooMuch ?fD ?eF ?gM ?eZ
  (case b0|b1|b2|b3|b4|b5|b6|b7|b8|b9|b10|b11|b12|b13|b14|b15|b16|b17|b18|b19|b20|b21|b22|b23|b24|b25|b26|b27|b28|b29|b30|b31|b32|b33|b34|b35|b36|b37|b38|b39|b40|b41|b42|b43|b44|b45|b46|b47|b48|b49|b50|b51|b52|b53|b54|b55|b56|b57|b58|b59|b60|b61|b62|b63|b64|b65|b66|b67|b68|b69|b70 =>exact⟨by k_is,_,L2.fun_mk (by k_is) (by k_is) (by k_is)⟩)
  (case a71|l71|c71|k71|z_abs|z_all|z_bool|z_enumerate|z_int|z_isinstance|z_len|z_min|z_range|z_str|z_sum|z_tuple|at_NUMBERS =>k_is)
  (case am_NUMBERS=>decide)
  (case lt_NUMBERS=>k_is)
  (case kt_NUMBERS=>k_keys)
  (case et_NUMBERS_go|et_NUMBERS_skip|et_NUMBERS_side|et_NUMBERS_dot|et_NUMBERS_left|et_NUMBERS_right|et_NUMBERS_round|et_NUMBERS_mirror|et_NUMBERS_grow|et_NUMBERS_quarter|et_NUMBERS_half|et_NUMBERS_arc|en_NUMBERS_0|en_NUMBERS_1|en_NUMBERS_2|en_NUMBERS_3|at_DEEDS|lt_DEEDS =>k_is)
  (case kt_DEEDS=>k_keys)
  (case et_DEEDS_go|et_DEEDS_skip|et_DEEDS_side|et_DEEDS_dot|et_DEEDS_left|et_DEEDS_right|et_DEEDS_round|et_DEEDS_mirror|et_DEEDS_grow|et_DEEDS_quarter|et_DEEDS_half|et_DEEDS_arc|ag_LEAST_CHANGE|lGLEAST_CHANGE|ag_MIDDLE|lGMIDDLE|lGMIDDLE_0|lGMIDDLE_1|ag_MOST_AGAIN|ag_MOST_BLOCKS|ag_MOST_IN_A_ROUND|ag_MOST_IN_GROW|ag_MOST_ROWS|ag_NOTHING|lGNOTHING|ag_ONE|lGONE|ac_NoRow|kc_NoRow =>k_is)
  (case ob_NoRow=>exact⟨_,_,_,_,_,_,_,_,_,_,_,_,_,_,_,_,by k_is,by (unfold Dd.bmV;k_exc),_,by k_is,rfl⟩)
  (case in_NoRow=>exact⟨_,_,by k_is,by k_is,L2.fun_mk (by k_is) (by k_is) (by k_is)⟩)
  (case fa_NoRow=>k_is)
  (case fc_NoRow=>exact⟨_,by k_is,rfl,rfl⟩)
  (case fm_NoRow|fn_NoRow|ac_MillError =>k_is)
  (case xc_MillError=>unfold Dd.bmV;k_exc)
  (case ac_TooMuch=>k_is)
  (case xc_TooMuch=>unfold Dd.bmV;k_exc)
  (case ex0_NoRow|ex1_NoRow|ex2_NoRow|ex3_NoRow|ex4_NoRow|ex5_NoRow|ex6_NoRow|ex0_TooMuch|ex1_TooMuch|ex2_TooMuch|ex3_TooMuch|ex4_TooMuch|ex5_TooMuch|ex6_TooMuch =>k_is)
  (case fD=>kts_exm)
  (case eF=>kts_exm)
  (case gM=>kit_is)
  (case eZ=>kit_is)
