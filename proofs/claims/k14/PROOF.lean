import PyProof.Rows.All
import Wide.All
import OpenK.AllK
import Wide.FinOn
import Lean
import PyProof.EqAt
import PyProof.EqKinds
import PyProof.TupleCall
import PyProof.NeKinds
import PyProof.IsRules
import PyProof.CompFree
import KE.LcSums
import PyProof.FactsAll.range_1
import PyProof.SeqRoads2
import KE.KRevSl
import PyProof.ZipIter
import PyProof.TupleIter
import PyProof.FitsBits
import PyProof.NoPylong
import KE.IntBitsLaws
import PyProof.CompMap
import PyProof.AutoSeq1
import PyProof.SeqInW
import PySem.Challenge.RW_arcmill_k14_arcs_made
-- CHANGE: your row's module here, as the last of these rows
set_option Elab.async false
set_option linter.all false
set_option maxRecDepth 100000
namespace L2
open PySem PySem.Spec PyProof.Rows

abbrev Key := Sum Int Str
def keyIs : Key → Value → Bool
  | .inl k, v => Value.isInt k v
  | .inr x, v => Value.isStrOf x v
def keyH (w : World) : Key → Int
  | .inl k => hashInt k
  | .inr x => hashStr w x
theorem keyIs_shape : ∀ {k : Key} {v : Value}, keyIs k v = true → (∃ i t, k = Sum.inl i ∧ v = Value.int i t) ∨ (∃ x t, k = Sum.inr x ∧ v = Value.str x t)
  | .inl i, v, h => by
    obtain ⟨t, e⟩ := Value.isInt_shape (k := i) (v := v) h
    exact .inl ⟨i, t, rfl, e⟩
  | .inr x, v, h => by
    obtain ⟨t, e⟩ := Value.isStrOf_shape (x := x) (v := v) h
    exact .inr ⟨x, t, rfl, e⟩
theorem key_ll (a b : Int) : decide ((Sum.inl a : Key) = Sum.inl b) = (a == b) := by
  by_cases e : a = b
  · subst e; simp
  · have h : ¬ (Sum.inl a : Key) = Sum.inl b := fun q => e (Sum.inl.inj q)
    rw [decide_eq_false h]
    exact (beq_eq_false_iff_ne.mpr e).symm
theorem key_rr (a b : Str) : decide ((Sum.inr a : Key) = Sum.inr b) = decide (a = b) := by
  by_cases e : a = b
  · subst e; simp
  · have h : ¬ (Sum.inr a : Key) = Sum.inr b := fun q => e (Sum.inr.inj q)
    rw [decide_eq_false h, decide_eq_false e]
theorem key_lr (a : Int) (b : Str) : decide ((Sum.inl a : Key) = Sum.inr b) = false := decide_eq_false (fun q => nomatch q)
theorem key_rl (a : Str) (b : Int) : decide ((Sum.inr a : Key) = Sum.inl b) = false := decide_eq_false (fun q => nomatch q)

def mixKind (prog : Program) (w : World) : PySem.KeyKind prog w Key where
  is := keyIs
  hash := keyH w
  inj := fun v a b ha hb => by
    rcases keyIs_shape ha with ⟨i, t, rfl, rfl⟩ | ⟨x, t, rfl, rfl⟩
    · rcases keyIs_shape hb with ⟨j, u, rfl, e⟩ | ⟨y, u, rfl, e⟩
      · injection e with e1 _; rw [e1]
      · exact nomatch e
    · rcases keyIs_shape hb with ⟨j, u, rfl, e⟩ | ⟨y, u, rfl, e⟩
      · exact nomatch e
      · injection e with e1 _; rw [e1]
  byValue := fun k v h => by
    rcases keyIs_shape h with ⟨i, t, rfl, rfl⟩ | ⟨x, t, rfl, rfl⟩ <;> rfl
  pyHash := fun hv h => by
    rcases keyIs_shape hv with ⟨i, t, rfl, rfl⟩ | ⟨x, t, rfl, rfl⟩
    · exact wpAny_pyHash_int h
    · exact wpAny_pyHash_str h
  eqBool := fun hu hv h => by
    rcases keyIs_shape hu with ⟨i, t, rfl, rfl⟩ | ⟨x, t, rfl, rfl⟩
    · rcases keyIs_shape hv with ⟨j, u, rfl, rfl⟩ | ⟨y, u, rfl, rfl⟩
      · rw [key_ll] at h; exact wpAny_eqBool_int h
      · rw [key_lr] at h; exact SeqAt.EqAt.int_str i t y u _ _ _ _ h
    · rcases keyIs_shape hv with ⟨j, u, rfl, rfl⟩ | ⟨y, u, rfl, rfl⟩
      · rw [key_rl] at h; exact SeqAt.EqAt.str_int x t j u _ _ _ _ h
      · rw [key_rr] at h; exact wpAny_eqBool_str h
  «strs» := fun k x t v h => by
    rcases keyIs_shape h with ⟨i, u, rfl, e⟩ | ⟨y, u, rfl, e⟩
    · exact nomatch e
    · injection e with e1 _
      subst e1
      cases v <;> rfl

end L2

namespace L2
open PySem PySem.Spec PyProof.Rows

inductive V where
  | non | bl (b : Bool) | int (i : Int) | str (x : Str) | byt (b : Array UInt8) | flt (b : UInt64) | ref (a : Addr) | ty (n : String)
  deriving DecidableEq

def RelV : V → Value → Prop
  | .non, u => u = Value.none
  | .bl b, u => u = Value.bool b
  | .int i, u => ∃ t, u = Value.int i t
  | .str x, u => ∃ t, u = Value.str x t
  | .byt b, u => ∃ t, u = Value.bytes b t
  | .flt b, u => ∃ t, u = Value.float b t
  | .ref a, u => u = Value.ref a
  | .ty n, u => u = Value.type n

abbrev Vals : List V → List Value → Prop := Paired RelV
theorem Vals.length {xs : List V} {us : List Value} (r : Vals xs us) : xs.length = us.length := Paired.length r
theorem Vals.get : ∀ {xs : List V} {us : List Value} {i : Nat} {x : V}, Vals xs us → xs[i]? = some x → ∃ u, us[i]? = some u ∧ RelV x u
  | _, _, _, _, .nil, e => by simp at e
  | _, _, 0, _, .cons r _, e => by simp at e; subst e; exact ⟨_, rfl, r⟩
  | _, _, i + 1, x, .cons _ t, e => by
    obtain ⟨u, h1, h2⟩ := Vals.get (i := i) (x := x) t (by simpa using e)
    exact ⟨u, by simpa using h1, h2⟩
theorem Vals.set {x : V} {u : Value} (r : RelV x u) : ∀ {xs : List V} {us : List Value} (i : Nat), Vals xs us → Vals (xs.set i x) (us.set i u)
  | _, _, _, .nil => .nil
  | _, _, 0, .cons _ t => .cons r t
  | _, _, i + 1, .cons q t => .cons q (Vals.set r i t)
theorem Vals.append : ∀ {xs ys : List V} {us ws : List Value}, Vals xs us → Vals ys ws → Vals (xs ++ ys) (us ++ ws)
  | _, _, _, _, .nil, s => s
  | _, _, _, _, .cons r t, s => .cons r (Vals.append t s)
theorem Vals.take : ∀ {xs : List V} {us : List Value} (n : Nat), Vals xs us → Vals (xs.take n) (us.take n)
  | _, _, 0, _ => .nil
  | _, _, _ + 1, .nil => .nil
  | _, _, n + 1, .cons r t => .cons r (Vals.take n t)
theorem Vals.drop : ∀ {xs : List V} {us : List Value} (n : Nat), Vals xs us → Vals (xs.drop n) (us.drop n)
  | _, _, 0, r => r
  | _, _, _ + 1, .nil => .nil
  | _, _, n + 1, .cons _ t => Vals.drop n t
def RelO : Option V → Option Value → Prop
  | some v, some u => RelV v u
  | none, none => True
  | _, _ => False
def KV {κ : Type} : List (κ × V) → List (κ × Value) → Prop := Paired fun (p : κ × V) (q : κ × Value) => p.1 = q.1 ∧ RelV p.2 q.2

def kV : Key → V
  | .inl i => .int i
  | .inr x => .str x

inductive HO where
    | lst (xs : List V)
    | tup (xs : List V)
    | dK (kvs : List (Key × V)) | dT (kvs : List (List Key × V))
    | set (S : Int → Bool) (n : Nat)
    | ins (C dx : Addr) (fs : List (Str × V))
    | own (x : Addr)
    | xd (fs : List (Str × V))
    | met (f x : Addr)
    | rng (lo hi : Int)
    | frz (o : Obj) (u : HO)
    | tbl (ps : Array Value)
    | ext (φ : Heap → Prop)

abbrev Hp := Addr → Option HO
def upd (H : Hp) (a : Addr) (o : HO) : Hp := fun b => if b = a then some o else H b
theorem upd_same {H : Hp} {a : Addr} {o : HO} : upd H a o a = some o := by unfold upd; rw [if_pos rfl]
theorem upd_ne {H : Hp} {a b : Addr} {o : HO} (h : b ≠ a) : upd H a o b = H b := by unfold upd; rw [if_neg h]
theorem ne_of {H : Hp} {a b : Addr} {o u : HO} (h : H a = some o) (h' : H b = some u) (d : o ≠ u) : a ≠ b := by
  intro e; subst e; rw [h] at h'; exact d (Option.some.inj h')
theorem ne_of_none {H : Hp} {a b : Addr} {o : HO} (h : H a = some o) (h' : H b = none) : a ≠ b := by
  intro e; subst e; rw [h] at h'; cases h'

section
variable (P : Program) (w : World)
def ObjOk (H : Hp) (h : Heap) (a : Addr) : HO → Prop
  | .lst xs => xs.length ≤ sizeLine ∧ ∃ (its : List Value) (n : Nat), Vals xs its ∧ h.get? a = some { cls := .type "list", data := .seq its.toArray n }
  | .tup xs => xs.length ≤ sizeLine ∧ ∃ its : List Value, Vals xs its ∧ IsTup h a its.toArray
  | .dK kvs => kvs.length ≤ sizeLine ∧ (a == sysModules) = false ∧ ∃ vs, KV kvs vs ∧ h.DictOf (mixKind P w) a vs
  | .dT kvs => kvs.length ≤ sizeLine ∧ (a == sysModules) = false ∧ ∃ xs : List (List Key × Addr × Value),
      Paired (fun (p : List Key × V) (q : List Key × Addr × Value) => p.1 = q.1 ∧ H q.2.1 = some (.tup (p.1.map kV)) ∧ RelV p.2 q.2.2) kvs xs ∧
      ∃ o es ep, h.get? a = some o ∧ o.ExactDict ∧ o.data = .dict es ep ∧ es.toList = xs.map (entryOfKey (tupleKind (mixKind P w))) ∧ (xs.map (·.1)).Nodup
  | .set S n => h.SetOf (intKind P w) a S n
  | .ins C dx fs => H dx = some (.own a) ∧ fs.length ≤ 1000 ∧ dx ≠ a ∧ h.get? a = some (PySem.W.instObj C dx) ∧
      ∃ mA, h.Ns1 dx mA ∧ (∀ f, RelO (fs.lookup f) (mA f)) ∧ PySem.Within mA (fs.map (·.1))
  | .own _ => ∃ o, h.get? a = some o
  | .xd fs => ∃ mA, h.Ns1 a mA ∧ ∀ f, RelO (fs.lookup f) (mA f)
  | .rng lo hi => ∃ t u v, h.get? a = some { cls := .type "range", data := .fields #[.int lo t, .int hi u, .int 1 v] }
  | .frz o u => h.get? a = some o ∧ ObjOk H h a u
  | .tbl ps => h.get? a = some { cls := .none, data := .fields ps }
  | .met f x => h.get? a = some (PySem.W.methodObj (.ref f) (.ref x))
  | .ext φ => φ h ∧ (∃ o, h.get? a = some o) ∧ ∀ h1 h2 : Heap, φ h1 → (∀ o, h1.get? a = some o → h2.get? a = some o) → φ h2
def HOk (H : Hp) (h : Heap) : Prop := ∀ a o, H a = some o → ObjOk P w H h a o
end

section
variable {P : Program} {w : World} {H H' : Hp} {h h' : Heap} {a : Addr} {o : HO}
theorem ObjOk.lt (x : ObjOk P w H h a o) : a < h.objs.size := by
  cases o with
  | lst xs => obtain ⟨_, _, _, _, e⟩ := x; exact Heap.lt_size e
  | tup xs => obtain ⟨_, _, _, p⟩ := x; exact p.lt
  | dK kvs => obtain ⟨_, _, _, _, o, _, _, e, _⟩ := x; exact Heap.lt_size e
  | dT kvs => obtain ⟨_, _, _, _, o, _, _, e, _⟩ := x; exact Heap.lt_size e
  | set S n => obtain ⟨o, _, _, _, e, _⟩ := x; exact Heap.lt_size e
  | ins C dx fs => obtain ⟨_, _, _, e, _⟩ := x; exact Heap.lt_size e
  | own y => obtain ⟨_, e⟩ := x; exact Heap.lt_size e
  | xd fs => obtain ⟨_, ⟨_, _, _, e, _⟩, _⟩ := x; exact Heap.lt_size e
  | rng lo hi => obtain ⟨_, _, _, e⟩ := x; exact Heap.lt_size e
  | frz ob u => obtain ⟨e, _⟩ := x; exact Heap.lt_size e
  | tbl ps => exact Heap.lt_size (show h.get? a = some _ from x)
  | met f y => exact Heap.lt_size (show h.get? a = some _ from x)
  | ext φ => obtain ⟨_, ⟨_, e⟩, _⟩ := x; exact Heap.lt_size e
theorem Paired.mapP {α β : Type} {F G : α → β → Prop} : ∀ {l₁ : List α} {l₂ : List β}, Paired F l₁ l₂ → (∀ a b, F a b → G a b) → Paired G l₁ l₂
  | _, _, .nil, _ => .nil
  | _, _, .cons r t, f => .cons (f _ _ r) (Paired.mapP t f)
theorem ObjOk.stay (x : ObjOk P w H h a o) (k : ∀ b u, (b = a ∨ H b = some (.own a)) → h.get? b = some u → h'.get? b = some u)
    (ho : ∀ b, H b = some (.own a) → H' b = some (.own a)) (ht : ∀ b xs, H b = some (.tup xs) → H' b = some (.tup xs)) : ObjOk P w H' h' a o := by
  induction o with
  | lst xs => obtain ⟨z, its, n, r, e⟩ := x; exact ⟨z, its, n, r, k _ _ (.inl rfl) e⟩
  | tup xs => obtain ⟨z, its, r, ob, e, c⟩ := x; exact ⟨z, its, r, ob, k _ _ (.inl rfl) e, c⟩
  | dK kvs => obtain ⟨z, y, vs, r, ob, es, ep, e, c⟩ := x; exact ⟨z, y, vs, r, ob, es, ep, k _ _ (.inl rfl) e, c⟩
  | dT kvs =>
    obtain ⟨z, y, xs, r, ob, es, ep, e, c⟩ := x
    exact ⟨z, y, xs, Paired.mapP r fun p q z => ⟨z.1, ht _ _ z.2.1, z.2.2⟩, ob, es, ep, k _ _ (.inl rfl) e, c⟩
  | set S n => obtain ⟨ob, es, ep, t, e, c⟩ := x; exact ⟨ob, es, ep, t, k _ _ (.inl rfl) e, c⟩
  | ins C dx fs =>
    obtain ⟨d, z, ne, e, mA, ⟨od, es, ep, e2, c⟩, r⟩ := x
    exact ⟨ho _ d, z, ne, k _ _ (.inl rfl) e, mA, ⟨od, es, ep, k _ _ (.inr d) e2, c⟩, r⟩
  | own y => obtain ⟨ob, e⟩ := x; exact ⟨ob, k _ _ (.inl rfl) e⟩
  | xd fs => obtain ⟨mA, ⟨od, es, ep, e, c⟩, r⟩ := x; exact ⟨mA, ⟨od, es, ep, k _ _ (.inl rfl) e, c⟩, r⟩
  | rng lo hi => obtain ⟨t, u, v, e⟩ := x; exact ⟨t, u, v, k _ _ (.inl rfl) e⟩
  | frz ob u ih => obtain ⟨e, q⟩ := x; exact ⟨k _ _ (.inl rfl) e, ih q⟩
  | tbl ps =>
    have e : h.get? a = some { cls := .none, data := .fields ps } := x
    show h'.get? a = some { cls := .none, data := .fields ps }
    exact k a _ (.inl rfl) e
  | met f y =>
    have e : h.get? a = some (PySem.W.methodObj (.ref f) (.ref y)) := x
    show h'.get? a = some (PySem.W.methodObj (.ref f) (.ref y))
    exact k a _ (.inl rfl) e
  | ext φ => obtain ⟨p, ⟨o, e⟩, st⟩ := x; exact ⟨st _ _ p fun o q => k _ _ (.inl rfl) q, ⟨o, k _ _ (.inl rfl) e⟩, st⟩
theorem HOk.lt (x : HOk P w H h) (e : H a = some o) : a < h.objs.size := (x a o e).lt
theorem HOk.fresh (x : HOk P w H h) (e : h.objs.size ≤ a) : H a = none := by
  cases q : H a with
  | none => rfl
  | some u => exact absurd (Nat.lt_of_lt_of_le (x.lt q) e) (Nat.lt_irrefl _)
theorem HOk.kept (x : HOk P w H h) (k : ∀ b u, h.get? b = some u → h'.get? b = some u) : HOk P w H h' := fun a o e =>
  (x a o e).stay (fun b u _ q => k b u q) (fun _ q => q) fun _ _ q => q
theorem HOk.laid (x : HOk P w H h) (k : ∀ b u, h.get? b = some u → h'.get? b = some u) (hp : h.objs.size ≤ a) (new : ObjOk P w (upd H a o) h' a o) : HOk P w (upd H a o) h' := fun b u e => by
  have hn := x.fresh hp
  by_cases hb : b = a
  · subst hb; rw [upd_same] at e; cases e; exact new
  · rw [upd_ne hb] at e
    exact (x b u e).stay (fun c v _ q => k c v q) (fun c q => by rw [upd_ne (ne_of_none q hn)]; exact q) fun c xs q => by rw [upd_ne (ne_of_none q hn)]; exact q
end

def Rd (H : Hp) (a : Addr) (u : HO) : Prop := H a = some u ∨ ∃ o, H a = some (.frz o u)
theorem Rd.of {H : Hp} {a : Addr} {u : HO} (h : H a = some u) : Rd H a u := .inl h
theorem Rd.ok {P : Program} {w : World} {H : Hp} {h : Heap} {a : Addr} {u : HO} (r : Rd H a u) (x : HOk P w H h) : ObjOk P w H h a u := by
  rcases r with r | ⟨o, r⟩
  · exact x a u r
  · obtain ⟨_, q⟩ := x a _ r
    exact q
def Mut : Option HO → Prop
  | some (.lst _) => True
  | some (.dK _) => True
  | some (.dT _) => True
  | some (.set _ _) => True
  | some (.ins _ _ _) => True
  | some (.ext _) => True
  | _ => False
section
variable {P : Program} {w : World} {H : Hp} {h h' : Heap} {x e : Addr} {o' : HO}
theorem HOk.write (ok : HOk P w H h) (mu : Mut (H x)) (he : e = x ∨ H e = some (.own x)) (k : ∀ b u, b ≠ e → h.get? b = some u → h'.get? b = some u) (heo : ∃ u, h'.get? e = some u)
    (new : ObjOk P w (upd H x o') h' x o') : HOk P w (upd H x o') h' := fun b u q => by
  have nown : ∀ c y, H c = some (.own y) → c ≠ x := fun c y r z => by subst z; rw [r] at mu; exact mu
  have ntup : ∀ c xs, H c = some (.tup xs) → c ≠ x := fun c xs r z => by subst z; rw [r] at mu; exact mu
  by_cases hb : b = x
  · subst hb; rw [upd_same] at q; cases q; exact new
  · rw [upd_ne hb] at q
    by_cases hbe : b = e
    · have q' : H b = some (.own x) := by
        rcases he with z | z
        · exact absurd (hbe.trans z) hb
        · rw [hbe]; exact z
      rw [q] at q'; cases q'
      obtain ⟨v, hv⟩ := heo
      exact ⟨v, by rw [hbe]; exact hv⟩
    · refine (ok b u q).stay (fun c v hc r => k c v ?_ r) (fun c r => by rw [upd_ne (nown c b r)]; exact r) fun c xs r => by rw [upd_ne (ntup c xs r)]; exact r
      rcases hc with rfl | hc
      · exact hbe
      · rintro rfl
        rcases he with z | z
        · exact nown c b hc z
        · rw [hc] at z; cases z; exact hb rfl
end

structure Un (fs ex : List Addr) (H H' : Hp) (h h' : Heap) : Prop where
  keep : ∀ b o, h.get? b = some o → H b = none → b ∉ fs → b ∉ ex → h'.get? b = some o
  slot : ∀ b o, h.get? b = some o → H b = none → b ∈ fs → b ∉ ex → ∃ sl, h'.get? b = some { o with slots := sl }
  free : ∀ b o, h.get? b = some o → H b = none → b ∉ ex → H' b = none
  there : ∀ b o, h.get? b = some o → b ∉ ex → ∃ o', h'.get? b = some o'
  tups : ∀ b xs, H b = some (.tup xs) → H' b = some (.tup xs)
  frzs : ∀ b o u, H b = some (.frz o u) → H' b = some (.frz o u)
  tbls : ∀ b ps, H b = some (.tbl ps) → ∃ more, H' b = some (.tbl (ps ++ more))
section
variable {fs fs' ex ex' : List Addr} {H H1 H2 : Hp} {h h1 h2 h' : Heap} {a x e : Addr} {o : HO}
theorem Un.any (u : Un fs ex H H1 h h1) {b : Addr} {ob : Obj} (q : h.get? b = some ob) (n : H b = none) (hx : b ∉ ex) : ∃ sl, h1.get? b = some { ob with slots := sl } := by
  by_cases hb : b ∈ fs
  · exact u.slot b ob q n hb hx
  · exact ⟨ob.slots, u.keep b ob q n hb hx⟩
theorem Un.trans (a : Un fs ex H H1 h h1) (b : Un fs ex H1 H2 h1 h2) : Un fs ex H H2 h h2 where
  keep := fun c ob q n hc hx => b.keep c ob (a.keep c ob q n hc hx) (a.free c ob q n hx) hc hx
  slot := fun c ob q n hc hx => by
    obtain ⟨sl, e1⟩ := a.slot c ob q n hc hx
    obtain ⟨sl', e2⟩ := b.slot c _ e1 (a.free c ob q n hx) hc hx
    exact ⟨sl', e2⟩
  free := fun c ob q n hx => by
    obtain ⟨o', e1⟩ := a.there c ob q hx
    exact b.free c o' e1 (a.free c ob q n hx) hx
  there := fun c ob q hx => by
    obtain ⟨o', e1⟩ := a.there c ob q hx
    exact b.there c o' e1 hx
  tups := fun c xs q => b.tups c xs (a.tups c xs q)
  frzs := fun c ob xs q => b.frzs c ob xs (a.frzs c ob xs q)
  tbls := fun c ps q => by
    obtain ⟨m1, e1⟩ := a.tbls c ps q
    obtain ⟨m2, e2⟩ := b.tbls c _ e1
    exact ⟨m1 ++ m2, by rw [e2, Array.append_assoc]⟩
theorem Un.kept (k : ∀ b u, h.get? b = some u → h'.get? b = some u) : Un fs ex H H h h' :=
  ⟨fun b ob q _ _ _ => k b ob q, fun b ob q _ _ _ => ⟨ob.slots, k b ob q⟩, fun _ _ _ n _ => n, fun b ob q _ => ⟨ob, k b ob q⟩, fun _ _ q => q, fun _ _ _ q => q, fun _ ps q => ⟨#[], by rw [q]; simp⟩⟩
theorem Un.refl : Un fs ex H H h h := Un.kept fun _ _ q => q
theorem Un.laid (k : ∀ b u, h.get? b = some u → h'.get? b = some u) (hp : h.objs.size ≤ a) (hn : H a = none) : Un fs ex H (upd H a o) h h' where
  keep := fun b u q _ _ _ => k b u q
  slot := fun b u q _ _ _ => ⟨u.slots, k b u q⟩
  free := fun b u q n _ => by rw [upd_ne (Nat.ne_of_lt (Nat.lt_of_lt_of_le (Heap.lt_size q) hp))]; exact n
  there := fun b u q _ => ⟨u, k b u q⟩
  tups := fun b xs q => by rw [upd_ne (ne_of_none q hn)]; exact q
  frzs := fun b u xs q => by rw [upd_ne (ne_of_none q hn)]; exact q
  tbls := fun b ps q => ⟨#[], by rw [upd_ne (ne_of_none q hn), q]; simp⟩
theorem Un.write (mu : Mut (H x)) (he : e = x ∨ H e = some (.own x)) (k : ∀ b u, b ≠ e → h.get? b = some u → h'.get? b = some u) (heo : ∃ u, h'.get? e = some u) : Un fs ex H (upd H x o) h h' := by
  have hx : ∀ b, H b = none → b ≠ x := fun b n z => by subst z; rw [n] at mu; exact mu
  have hb : ∀ b, H b = none → b ≠ e := fun b n z => by
    subst z
    rcases he with r | r
    · exact hx b n r
    · rw [n] at r; cases r
  have hm : ∀ b u, H b = some u → ¬ Mut (some u) → b ≠ x := fun b u q nm z => by subst z; rw [q] at mu; exact nm mu
  refine ⟨fun b u q n _ _ => k b u (hb b n) q, fun b u q n _ _ => ⟨u.slots, k b u (hb b n) q⟩, fun b u q n _ => by rw [upd_ne (hx b n)]; exact n, fun b u q _ => ?_,
    fun b xs q => by rw [upd_ne (hm b _ q fun z => z)]; exact q, fun b u xs q => by rw [upd_ne (hm b _ q fun z => z)]; exact q, fun b ps q => ⟨#[], by rw [upd_ne (hm b _ q fun z => z), q]; simp⟩⟩
  by_cases hbe : b = e
  · subst hbe; exact heo
  · exact ⟨u, k b u hbe q⟩
theorem Un.mono (u : Un fs ex H H1 h h1) (hs : ∀ b ∈ fs, b ∈ fs') (hx : ∀ b ∈ ex, b ∈ ex') : Un fs' ex' H H1 h h1 :=
  ⟨fun b ob q n hb he => u.keep b ob q n (fun z => hb (hs b z)) fun z => he (hx b z), fun _ _ q n _ he => u.any q n fun z => he (hx _ z), fun b ob q n he => u.free b ob q n fun z => he (hx b z), fun b ob q he => u.there b ob q fun z => he (hx b z), u.tups, u.frzs, u.tbls⟩
end

def trk (h : Heap) (H : Hp) : List Addr := (List.range h.objs.size).filter fun a => (H a).isSome
def hidT (h : Heap) (H : Hp) : Heap := PySem.W.hideAll h (trk h H)
theorem hidT_size (h : Heap) (H : Hp) : (hidT h H).objs.size = h.objs.size := PySem.W.hideAll_size _ _
theorem hidT_get {h : Heap} {H : Hp} {b : Addr} {o : Obj} (e : h.get? b = some o) (n : H b = none) : (hidT h H).get? b = some o :=
  PySem.W.hideAll_get _ e fun hm => by
    have q : (H b).isSome = true := (List.mem_filter.mp hm).2
    rw [n] at q; simp at q
theorem of_hidT {h : Heap} {H : Hp} {b : Addr} {o : Obj} (e : (hidT h H).get? b = some o) : h.get? b = some o ∧ H b = none := by
  have e' : h.get? b = some o := PySem.W.of_hideAll (trk h H) e
  refine ⟨e', ?_⟩
  cases q : H b with
  | none => rfl
  | some x =>
    have hm : b ∈ trk h H := List.mem_filter.mpr ⟨List.mem_range.mpr (Heap.lt_size e'), by simp [q]⟩
    have z : (hidT h H).get? b = none := PySem.W.hideAll_none (trk h H) hm
    rw [z] at e; cases e

def allNews (g h : Heap) (L : Addr) : List (Addr × Obj) := (List.range h.objs.size).filterMap fun a => if a = L ∨ (g.get? a).isSome = true then none else (h.get? a).map fun o => (a, o)
def rest (g h : Heap) (L d : Addr) : List (Addr × Obj) := (allNews g h L).filter fun p => decide (p.1 ≠ d)
end L2

namespace L2
open PySem PySem.Spec PyProof.Rows

structure Mod (K : PySem.W.Frag) (mg : Str → Option Value) (base : Heap) : Prop where
  kin : K.In base
  glob : base.Ns mainGlobals mg
  blt : ∃ mb, base.Ns builtinsNs mb ∧ ∀ x : Str, x ≠ "__name__" → mb x = bootBuiltins x
  nolimit : base.NoLimit

structure Cx where
  prog : Program
  w : World
  K : PySem.W.Frag
  mg : Str → Option Value
  base : Heap
  A : Around
  N : List Str
  s₀ : Shared
  H₀ : Hp
  env : Env
  outer : List Env
  stack : List Env
  ex : List Addr
  fn : Str → Bool
  calm : Bool
  pn : List (Addr × Obj)
  xe : Value → Shared → Prop
def frs (l : List Env) : List Addr := l.filterMap (·.frame)
abbrev Cx.fs (X : Cx) : List Addr := frs X.outer

def Vis (sc : Scope) (x : Str) : Prop := sc.names.lookup x = some .local ∨ sc.names.lookup x = some .cell ∨ sc.names.lookup x = some .free
def Loc (sc : Scope) (x : Str) : Prop := sc.names.lookup x = some .local ∨ sc.names.lookup x = some .cell
def Look (env : Env) (h : Heap) (m : Str → Option Value) (x : Str) (u : Value) : Prop :=
  (env.kindOf x = some .local ∧ m x = some u) ∨ ((env.kindOf x = some .cell ∨ env.kindOf x = some .free) ∧ ∃ c, env.cells.lookup x = some c ∧ h.IsCell c (some u))

structure Cx.Ok (X : Cx) : Prop where
  mod : Mod X.K X.mg X.base
  kind : X.env.scope.kind = .function
  glob : X.env.globals = mainGlobals
  blt : X.env.builtins = builtinsNs
  above : X.s₀.heap.objs.size ≤ X.env.locals
  inj : ∀ x y c, X.env.cells.lookup x = some c → X.env.cells.lookup y = some c → x = y
  has : ∀ x, (X.env.kindOf x = some .cell ∨ X.env.kindOf x = some .free) → ∃ c, X.env.cells.lookup x = some c
  cab : ∀ x c, X.fn x = true → X.env.cells.lookup x = some c → X.s₀.heap.objs.size ≤ c
  hd : X.calm = true → X.A.handled = none
  frames : X.A.frames = some X.stack
  stk : X.stack = X.outer ∨ (X.stack = X.env :: X.outer ∧ X.env.frame = some X.env.locals)
  exf : ∀ b ∈ X.ex, b ≠ X.env.locals ∧ ∀ x c, X.env.cells.lookup x = some c → c ≠ b
  bs : ∀ b o, X.base.get? b = some o → X.s₀.heap.get? b = some o ∧ X.H₀ b = none
  bsz : X.base.objs.size ≤ X.s₀.heap.objs.size
  noex : ∀ b o, X.base.get? b = some o → b ∉ X.ex
  exfs : ∀ b ∈ X.ex, b ∉ X.fs
  funs : X.s₀.heap.FunFrames X.base X.outer
  frf : ∀ b ∈ X.fs, X.H₀ b = none

structure Inv (X : Cx) (pins : List (Addr × Obj)) (σ : List (Option V)) (H : Hp) (s : Shared) : Prop where
  ok : X.Ok
  os : s.os = X.s₀.os
  bare : AllBare s.gens
  base : Un X.fs X.ex X.H₀ H X.s₀.heap s.heap
  loc : ∃ m, s.heap.Ns X.env.locals m ∧ ∀ (i : Nat) (x : Str) (v : V), X.N[i]? = some x → σ[i]? = some (some v) → Vis X.env.scope x → ∃ u, RelV v u ∧ Look X.env s.heap m x u
  cell : ∀ x c, X.env.cells.lookup x = some c → ∃ v, s.heap.IsCell c v
  free : H X.env.locals = none
  freeC : ∀ x c, X.env.cells.lookup x = some c → H c = none
  pin : ∀ p ∈ X.pn ++ pins, s.heap.get? p.1 = some p.2 ∧ H p.1 = none ∧ p.1 ≠ X.env.locals ∧ p.1 ∉ X.fs ∧ ∀ v, p.2.data ≠ .cell v
  hok : HOk X.prog X.w H s.heap
  len : σ.length = X.N.length

section
variable {X : Cx} {pins : List (Addr × Obj)} {σ : List (Option V)} {H H' : Hp} {s : Shared} {h' : Heap}

theorem Cx.Ok.nofr (ok : X.Ok) {b : Addr} {o : Obj} (e : X.base.get? b = some o) : b ∉ X.fs := fun hb => by
  have := (ok.funs.mem hb).1
  rw [e] at this; cases this
theorem Inv.bs (I : Inv X pins σ H s) : ∀ b o, X.base.get? b = some o → s.heap.get? b = some o ∧ H b = none := fun b o e =>
  ⟨I.base.keep b o (I.ok.bs b o e).1 (I.ok.bs b o e).2 (I.ok.nofr e) (I.ok.noex b o e), I.base.free b o (I.ok.bs b o e).1 (I.ok.bs b o e).2 (I.ok.noex b o e)⟩
theorem Inv.bk (I : Inv X pins σ H s) : ∀ b o, X.base.get? b = some o → s.heap.get? b = some o := fun b o e => (I.bs b o e).1
theorem Inv.mod (I : Inv X pins σ H s) : Mod X.K X.mg X.base := I.ok.mod
theorem Inv.kIn (I : Inv X pins σ H s) : X.K.In s.heap := I.ok.mod.kin.keeps I.bk
theorem Inv.nolimit (I : Inv X pins σ H s) : s.heap.NoLimit := I.ok.mod.nolimit.keeps I.bk
theorem Inv.fr (I : Inv X pins σ H s) : ∃ m, Fr X.base X.env.locals s.heap m :=
  let ⟨m, hn, _⟩ := I.loc
  ⟨m, hn, I.bk, Nat.le_trans I.ok.bsz I.ok.above⟩
theorem Inv.lt (I : Inv X pins σ H s) : X.env.locals < s.heap.objs.size := let ⟨_, hn, _⟩ := I.loc; hn.lt
theorem Inv.sz (I : Inv X pins σ H s) : X.s₀.heap.objs.size ≤ s.heap.objs.size := Nat.le_trans I.ok.above (Nat.le_of_lt I.lt)
theorem Inv.nofs (I : Inv X pins σ H s) {a : Addr} (h : s.heap.objs.size ≤ a) : a ∉ X.fs := fun hb => by
  obtain ⟨_, o, ho, _⟩ := I.ok.funs.mem hb
  exact absurd (Nat.lt_of_lt_of_le (Heap.lt_size ho) (Nat.le_trans I.sz h)) (Nat.lt_irrefl _)
theorem Inv.cne (I : Inv X pins σ H s) : ∀ x c, X.env.cells.lookup x = some c → c ≠ X.env.locals := fun x c e z => by
  obtain ⟨v, o, ho, hd⟩ := I.cell x c e
  obtain ⟨m, ⟨o', es, ep, ho', hd', _⟩, _⟩ := I.loc
  rw [z, ho'] at ho; cases ho; rw [hd'] at hd; cases hd
theorem Inv.funs (I : Inv X pins σ H s) : s.heap.FunFrames X.base X.outer := by
  have all : ∀ (l : List Env), (∀ b ∈ frs l, b ∈ X.fs) → X.s₀.heap.FunFrames X.base l → s.heap.FunFrames X.base l := by
    intro l
    induction l with
    | nil => intro _ _; trivial
    | cons env r ih =>
      intro hs hl
      obtain ⟨hk, ⟨L, o, hf, hn, ho, hd⟩, hr⟩ := hl
      have hL : L ∈ X.fs := hs L (by unfold frs; rw [List.filterMap_cons, hf]; exact List.mem_cons_self)
      obtain ⟨sl, e⟩ := I.base.slot L o ho (I.ok.frf L hL) hL fun z => I.ok.exfs L z hL
      exact ⟨hk, ⟨L, _, hf, hn, e, hd⟩, ih (fun b hb => hs b (by unfold frs; rw [List.filterMap_cons, hf]; exact List.mem_cons_of_mem _ hb)) hr⟩
  exact all X.outer (fun _ hb => hb) I.ok.funs

theorem Inv.stack (I : Inv X pins σ H s) : s.heap.FunFrames X.base X.stack := by
  rcases I.ok.stk with e | ⟨e, hf⟩
  · rw [e]; exact I.funs
  · rw [e]
    obtain ⟨m, hn, _⟩ := I.loc
    refine .cons (by rw [I.ok.kind]; decide) hf hn ?_ I.funs
    exact Heap.get?_none_of_le (Nat.le_trans I.ok.bsz I.ok.above)
theorem Inv.stkSub (I : Inv X pins σ H s) : ∀ b ∈ frs X.stack, b ∈ X.env.locals :: X.fs := fun b hb => by
  rcases I.ok.stk with e | ⟨e, hf⟩
  · rw [e] at hb; exact List.mem_cons_of_mem _ hb
  · rw [e] at hb
    unfold frs at hb
    rw [List.filterMap_cons, hf] at hb
    exact hb
theorem Inv.stkFree (I : Inv X pins σ H s) : ∀ b ∈ frs X.stack, H b = none := fun b hb => by
  rcases List.mem_cons.mp (I.stkSub b hb) with e | hb
  · rw [e]; exact I.free
  · obtain ⟨_, o, ho, _⟩ := I.ok.funs.mem hb
    exact I.base.free b o ho (I.ok.frf b hb) fun z => I.ok.exfs b z hb

theorem Inv.step {g' : Array GenState} {t' : Nat} {d' : Drawn} {ch : List Addr} (I : Inv X pins σ H s)
    (hch : ∀ b ∈ ch, (b ∈ X.ex ∨ X.s₀.heap.objs.size ≤ b) ∧ b ≠ X.env.locals ∧ (∀ x c, X.env.cells.lookup x = some c → c ≠ b) ∧ ∀ p ∈ X.pn ++ pins, p.1 ≠ b)
    (keep : ∀ b o, b ≠ X.env.locals → b ∉ X.fs → b ∉ ch → s.heap.get? b = some o → H b = none → h'.get? b = some o)
    (slot : ∀ b o, b ≠ X.env.locals → b ∈ X.fs → b ∉ ch → s.heap.get? b = some o → H b = none → ∃ sl, h'.get? b = some { o with slots := sl }) (free : ∀ b o, b ∉ ch → s.heap.get? b = some o → H b = none → H' b = none)
    (there : ∀ b o, b ∉ ch → s.heap.get? b = some o → ∃ o', h'.get? b = some o')
    (tups : ∀ b xs, H b = some (.tup xs) → H' b = some (.tup xs)) (frzs : ∀ b o u, H b = some (.frz o u) → H' b = some (.frz o u)) (tbls : ∀ b ps, H b = some (.tbl ps) → ∃ more, H' b = some (.tbl (ps ++ more)))
    (ns : ∀ m, s.heap.Ns X.env.locals m → h'.Ns X.env.locals m) (hok : HOk X.prog X.w H' h') (hg : AllBare g') :
    Inv X pins σ H' { s with heap := h', gens := g', drawn := d', toks := t' } := by
  have neL : ∀ b o, X.s₀.heap.get? b = some o → b ≠ X.env.locals := fun b o e => Nat.ne_of_lt (Nat.lt_of_lt_of_le (Heap.lt_size e) I.ok.above)
  have neC : ∀ b o, X.s₀.heap.get? b = some o → b ∉ X.ex → b ∉ ch := fun b o e hx hb => by
    rcases (hch b hb).1 with z | z
    · exact hx z
    · exact absurd (Nat.lt_of_lt_of_le (Heap.lt_size e) z) (Nat.lt_irrefl _)
  have cellK : ∀ x c, X.env.cells.lookup x = some c → ∀ v, s.heap.IsCell c v → h'.IsCell c v := fun x c e v ⟨o, ho, hd⟩ => by
    have nch : c ∉ ch := fun z => (hch c z).2.2.1 x c e rfl
    by_cases hc : c ∈ X.fs
    · obtain ⟨sl, q⟩ := slot c o (I.cne x c e) hc nch ho (I.freeC x c e)
      exact ⟨_, q, hd⟩
    · exact ⟨o, keep c o (I.cne x c e) hc nch ho (I.freeC x c e), hd⟩
  refine ⟨I.ok, I.os, hg, ⟨fun b o e n hb hx => ?_, fun b o e n hb hx => ?_, fun b o e n hx => ?_, fun b o e hx => ?_, fun b xs e => tups b xs (I.base.tups b xs e), fun b o xs e => frzs b o xs (I.base.frzs b o xs e), fun b ps e => ?_⟩, ?_, fun x c e => ?_, ?_, fun x c e => ?_, fun p hp => ?_, hok, I.len⟩
  · exact keep b o (neL b o e) hb (neC b o e hx) (I.base.keep b o e n hb hx) (I.base.free b o e n hx)
  · obtain ⟨sl, e1⟩ := I.base.slot b o e n hb hx
    obtain ⟨sl', e2⟩ := slot b _ (neL b o e) hb (neC b o e hx) e1 (I.base.free b o e n hx)
    exact ⟨sl', e2⟩
  · obtain ⟨o', e1⟩ := I.base.there b o e hx
    exact free b o' (neC b o e hx) e1 (I.base.free b o e n hx)
  · obtain ⟨o', e1⟩ := I.base.there b o e hx
    exact there b o' (neC b o e hx) e1
  · obtain ⟨m1, e1⟩ := I.base.tbls b ps e
    obtain ⟨m2, e2⟩ := tbls b _ e1
    exact ⟨m1 ++ m2, by rw [e2, Array.append_assoc]⟩
  · obtain ⟨m, hn, hl⟩ := I.loc
    refine ⟨m, ns m hn, fun i x v e1 e2 e3 => ?_⟩
    obtain ⟨u, r, l⟩ := hl i x v e1 e2 e3
    refine ⟨u, r, ?_⟩
    rcases l with l | ⟨k, c, e, z⟩
    · exact .inl l
    · exact .inr ⟨k, c, e, cellK x c e _ z⟩
  · obtain ⟨v, z⟩ := I.cell x c e
    exact ⟨v, cellK x c e v z⟩
  · obtain ⟨m, ⟨o, _, _, ho, _⟩, _⟩ := I.loc
    exact free _ o (fun z => (hch _ z).2.1 rfl) ho I.free
  · obtain ⟨v, o, ho, hd⟩ := I.cell x c e
    exact free c o (fun z => (hch c z).2.2.1 x c e rfl) ho (I.freeC x c e)
  · obtain ⟨e, n, ne, nf, d⟩ := I.pin p hp
    have nch : p.1 ∉ ch := fun z => (hch p.1 z).2.2.2 p hp rfl
    exact ⟨keep p.1 p.2 ne nf nch e n, free p.1 p.2 nch e n, ne, nf, d⟩
theorem Inv.un {t' : Nat} (I : Inv X pins σ H s) (u : Un X.fs [] H H' s.heap h') (hok : HOk X.prog X.w H' h') : Inv X pins σ H' { s with heap := h', toks := t' } := by
  obtain ⟨m, ⟨o, es, ep, ho, r⟩, _⟩ := id I.loc
  obtain ⟨sl, hL⟩ := u.any ho I.free (by simp)
  exact I.step (g' := s.gens) (d' := s.drawn) (ch := []) (fun _ z => nomatch z) (fun b o _ hb _ e n => u.keep b o e n hb (by simp)) (fun b o _ hb _ e n => u.slot b o e n hb (by simp)) (fun b o _ e n => u.free b o e n (by simp)) (fun b o _ e => u.there b o e (by simp)) u.tups u.frzs u.tbls (fun m' hm => by
    obtain ⟨o', es', ep', ho', r'⟩ := hm
    rw [ho] at ho'; cases ho'
    exact ⟨_, es', ep', hL, r'⟩) hok I.bare
theorem Inv.call {g' : Array GenState} {t' : Nat} {d' : Drawn} {ch : List Addr} (I : Inv X pins σ H s) (u : Un (frs X.stack) ch H H' s.heap h') (hok : HOk X.prog X.w H' h') (hg : AllBare g')
    (hch : ∀ b ∈ ch, (b ∈ X.ex ∨ X.s₀.heap.objs.size ≤ b) ∧ b ≠ X.env.locals ∧ (∀ x c, X.env.cells.lookup x = some c → c ≠ b) ∧ ∀ p ∈ X.pn ++ pins, p.1 ≠ b) :
    Inv X pins σ H' { s with heap := h', gens := g', drawn := d', toks := t' } := by
  obtain ⟨m, ⟨o, es, ep, ho, r⟩, _⟩ := id I.loc
  obtain ⟨sl, hL⟩ := u.any ho I.free fun z => (hch _ z).2.1 rfl
  exact I.step (ch := ch) hch (fun b o hL hb hc e n => u.keep b o e n (fun z => (List.mem_cons.mp (I.stkSub b z)).elim hL hb) hc) (fun b o _ _ hc e n => u.any e n hc) (fun b o hc e n => u.free b o e n hc) (fun b o hc e => u.there b o e hc) u.tups u.frzs u.tbls (fun m' hm => by
    obtain ⟨o', es', ep', ho', r'⟩ := hm
    rw [ho] at ho'; cases ho'
    exact ⟨_, es', ep', hL, r'⟩) hok hg
theorem Inv.turned {t' : Nat} {it : Addr} (I : Inv X pins σ H s) (k : ∀ b o, b ≠ it → s.heap.get? b = some o → h'.get? b = some o) (hn : H it = none) (hL : it ≠ X.env.locals)
    (h1 : it ∈ X.ex ∨ X.s₀.heap.objs.size ≤ it) (h2 : ∀ x c, X.env.cells.lookup x = some c → c ≠ it) (h3 : ∀ p ∈ X.pn ++ pins, p.1 ≠ it) : Inv X pins σ H { s with heap := h', toks := t' } := by
  have nit : ∀ b u, H b = some u → b ≠ it := fun b u e z => by rw [z, hn] at e; cases e
  refine I.step (g' := s.gens) (d' := s.drawn) (ch := [it]) (fun b hb => ?_) (fun b o _ _ hc e _ => k b o (fun z => hc (by simp [z])) e) (fun b o _ _ hc e _ => ⟨o.slots, k b o (fun z => hc (by simp [z])) e⟩) (fun _ _ _ _ n => n)
    (fun b o hc e => ⟨o, k b o (fun z => hc (by simp [z])) e⟩) (fun _ _ e => e) (fun _ _ _ e => e) (fun b ps e => ⟨#[], by rw [e]; simp⟩) (fun m hm => ?_) (fun b u e => ?_) I.bare
  · have e : b = it := by simpa using hb
    subst e
    exact ⟨h1, hL, h2, h3⟩
  · obtain ⟨o, es, ep, ho, r⟩ := hm
    exact ⟨o, es, ep, k _ o (Ne.symm hL) ho, r⟩
  · refine (I.hok b u e).stay (fun c v hc q => k c v ?_ q) (fun _ q => q) fun _ _ q => q
    rcases hc with z | z
    · rw [z]; exact nit b u e
    · exact nit c _ z
theorem Inv.tok (I : Inv X pins σ H s) (t : Nat) : Inv X pins σ H { s with toks := t } := I.un (h' := s.heap) (t' := t) Un.refl I.hok
theorem Inv.kept {t' : Nat} (I : Inv X pins σ H s) (k : ∀ b u, s.heap.get? b = some u → h'.get? b = some u) : Inv X pins σ H { s with heap := h', toks := t' } := I.un (Un.kept k) (I.hok.kept k)
theorem Inv.laid {a : Addr} {o : HO} {t' : Nat} (I : Inv X pins σ H s) (k : ∀ b u, s.heap.get? b = some u → h'.get? b = some u) (hp : s.heap.objs.size ≤ a) (new : ObjOk X.prog X.w (upd H a o) h' a o) :
    Inv X pins σ (upd H a o) { s with heap := h', toks := t' } := I.un (Un.laid k hp (I.hok.fresh hp)) (I.hok.laid k hp new)
theorem Inv.write {x e : Addr} {o : HO} {t' : Nat} (I : Inv X pins σ H s) (mu : Mut (H x)) (he : e = x ∨ H e = some (.own x)) (k : ∀ b u, b ≠ e → s.heap.get? b = some u → h'.get? b = some u) (heo : ∃ u, h'.get? e = some u)
    (new : ObjOk X.prog X.w (upd H x o) h' x o) : Inv X pins σ (upd H x o) { s with heap := h', toks := t' } := I.un (Un.write mu he k heo) (I.hok.write mu he k heo new)
theorem Inv.pins_of {pins' : List (Addr × Obj)} (I : Inv X pins σ H s) (h : ∀ p ∈ pins', s.heap.get? p.1 = some p.2 ∧ H p.1 = none ∧ p.1 ≠ X.env.locals ∧ p.1 ∉ X.fs ∧ ∀ v, p.2.data ≠ .cell v) : Inv X pins' σ H s :=
  ⟨I.ok, I.os, I.bare, I.base, I.loc, I.cell, I.free, I.freeC, fun p hp => (List.mem_append.mp hp).elim (fun z => I.pin p (List.mem_append_left _ z)) (h p), I.hok, I.len⟩

theorem nodup_ix {N : List Str} (hN : N.Nodup) {i j : Nat} {x : Str} (a : N[i]? = some x) (b : N[j]? = some x) : i = j := by
  obtain ⟨h1, e1⟩ := List.getElem?_eq_some_iff.mp a
  obtain ⟨h2, e2⟩ := List.getElem?_eq_some_iff.mp b
  exact (List.getElem_inj hN).mp (e1.trans e2.symm)

theorem store_ok2 {M : Model} {A : Around} {E : Value → Shared → Prop} {i : Nat} {x : Str} {v : V} {u : Value} {Q : Unit → Shared → Prop} (I : Inv X pins σ H s) (hN : X.N.Nodup) (hi : X.N[i]? = some x) (hx : Loc X.env.scope x) (r : RelV v u)
    (h : ∀ s', Inv X pins (σ.set i (some v)) H s' → (∃ a, Heap.SameBut a s.heap s'.heap ∧ (a = X.env.locals ∨ X.env.cells.lookup x = some a)) → Q () s') (hf : X.fn x = true ∨ X.env.scope.names.lookup x = some .local := by first | exact .inl rfl | exact .inr rfl | assumption) : wpAny M A (storeName X.env x u) Q E s := by
  obtain ⟨m, hn, hl⟩ := id I.loc
  have hcls : (X.env.scope.kind == .class || (X.env.scope.kind == .module && X.env.locals != X.env.globals)) = false := by rw [I.ok.kind]; rfl
  have hiσ : i < σ.length := by rw [I.len]; exact (List.getElem?_eq_some_iff.mp hi).1
  have cne := I.cne
  have tracked : ∀ {a : Addr} {h' : Heap}, (∃ o, s.heap.get? a = some o ∧ H a = none) → Heap.SameBut a s.heap h' → HOk X.prog X.w H h' := fun {a h'} ha hs b ob e => by
    obtain ⟨_, _, hfree⟩ := ha
    refine (I.hok b ob e).stay (fun c w' hc q => (hs.2 c ?_).trans q) (fun _ q => q) fun _ _ q => q
    rintro rfl
    rcases hc with rfl | hc
    · rw [hfree] at e; cases e
    · rw [hfree] at hc; cases hc
  rcases hx with hk | hk
  · refine wpAny_storeName_local hk hn (fun h' hn' hs => ?_) hcls
    obtain ⟨oL, _, _, hoL, _⟩ := id hn
    refine h _ ⟨I.ok, I.os, I.bare, ⟨fun b o e n hb hx => ?_, fun b o e n hb hx => ?_, I.base.free, fun b o e hx => ?_, I.base.tups, I.base.frzs, I.base.tbls⟩, ⟨_, hn', fun j y v' e1 e2 e3 => ?_⟩, fun y c e => ?_, I.free, I.freeC, fun p hp => ?_, tracked ⟨oL, hoL, I.free⟩ hs, by simpa using I.len⟩ ⟨_, hs, .inl rfl⟩
    · exact (hs.2 b (Nat.ne_of_lt (Nat.lt_of_lt_of_le (Heap.lt_size e) I.ok.above))).trans (I.base.keep b o e n hb hx)
    · obtain ⟨sl, e1⟩ := I.base.slot b o e n hb hx
      exact ⟨sl, (hs.2 b (Nat.ne_of_lt (Nat.lt_of_lt_of_le (Heap.lt_size e) I.ok.above))).trans e1⟩
    · obtain ⟨o', e1⟩ := I.base.there b o e hx
      exact ⟨o', (hs.2 b (Nat.ne_of_lt (Nat.lt_of_lt_of_le (Heap.lt_size e) I.ok.above))).trans e1⟩
    · by_cases hj : j = i
      · subst hj
        rw [hi] at e1; cases e1
        rw [List.getElem?_set_self hiσ] at e2
        cases e2
        exact ⟨u, r, .inl ⟨hk, by simp⟩⟩
      · rw [List.getElem?_set_ne (Ne.symm hj)] at e2
        obtain ⟨u', r', q⟩ := hl j y v' e1 e2 e3
        refine ⟨u', r', ?_⟩
        rcases q with ⟨k, e⟩ | ⟨k, c, e, z⟩
        · refine .inl ⟨k, ?_⟩
          have : y ≠ x := fun e => hj (nodup_ix hN e1 (e ▸ hi))
          simp [this, e]
        · exact .inr ⟨k, c, e, z.sameBut hs (cne y c e)⟩
    · obtain ⟨w', z⟩ := I.cell y c e
      exact ⟨w', z.sameBut hs (cne y c e)⟩
    · obtain ⟨e, n, ne, nf, d⟩ := I.pin p hp
      exact ⟨(hs.2 p.1 ne).trans e, n, ne, nf, d⟩
  · have hfn : X.fn x = true := by
      rcases hf with z | z
      · exact z
      · rw [z] at hk; cases hk
    obtain ⟨c, hc⟩ := I.ok.has x (.inl hk)
    obtain ⟨w', z⟩ := I.cell x c hc
    refine wpAny_storeName_cell I.ok.kind hk hc z (fun h' hc' hs => ?_)
    obtain ⟨oc, hoc, hocd⟩ := id z
    refine h { s with heap := h' } ⟨I.ok, I.os, I.bare, ⟨fun b o e n hb hx => ?_, fun b o e n hb hx => ?_, I.base.free, fun b o e hx => ?_, I.base.tups, I.base.frzs, I.base.tbls⟩, ⟨m, hn.sameBut hs (Ne.symm (cne x c hc)), fun j y v' e1 e2 e3 => ?_⟩, fun y c' e => ?_, I.free, I.freeC, fun p hp => ?_, tracked ⟨oc, hoc, I.freeC x c hc⟩ hs, by simpa using I.len⟩ ⟨c, hs, .inr hc⟩
    · exact (hs.2 b (Nat.ne_of_lt (Nat.lt_of_lt_of_le (Heap.lt_size e) (I.ok.cab x c hfn hc)))).trans (I.base.keep b o e n hb hx)
    · obtain ⟨sl, e1⟩ := I.base.slot b o e n hb hx
      exact ⟨sl, (hs.2 b (Nat.ne_of_lt (Nat.lt_of_lt_of_le (Heap.lt_size e) (I.ok.cab x c hfn hc)))).trans e1⟩
    · obtain ⟨o', e1⟩ := I.base.there b o e hx
      exact ⟨o', (hs.2 b (Nat.ne_of_lt (Nat.lt_of_lt_of_le (Heap.lt_size e) (I.ok.cab x c hfn hc)))).trans e1⟩
    · by_cases hj : j = i
      · subst hj
        rw [hi] at e1; cases e1
        rw [List.getElem?_set_self hiσ] at e2
        cases e2
        exact ⟨u, r, .inr ⟨.inl hk, c, hc, hc'⟩⟩
      · rw [List.getElem?_set_ne (Ne.symm hj)] at e2
        obtain ⟨u', r', q⟩ := hl j y v' e1 e2 e3
        refine ⟨u', r', ?_⟩
        rcases q with q | ⟨k, c', e, z'⟩
        · exact .inl q
        · refine .inr ⟨k, c', e, z'.sameBut hs ?_⟩
          rintro rfl
          exact hj (nodup_ix hN e1 (I.ok.inj _ _ _ e hc ▸ hi))
    · by_cases hcc : c' = c
      · subst hcc; exact ⟨_, hc'⟩
      · obtain ⟨w2, z2⟩ := I.cell y c' e
        exact ⟨w2, z2.sameBut hs hcc⟩
    · obtain ⟨e, n, ne, nf, d⟩ := I.pin p hp
      refine ⟨(hs.2 p.1 ?_).trans e, n, ne, nf, d⟩
      intro q
      rw [q, hoc] at e
      have q' : oc = p.2 := Option.some.inj e
      exact d w' (by rw [← q']; exact hocd)
theorem store_ok {M : Model} {A : Around} {E : Value → Shared → Prop} {i : Nat} {x : Str} {v : V} {u : Value} {Q : Unit → Shared → Prop} (I : Inv X pins σ H s) (hN : X.N.Nodup) (hi : X.N[i]? = some x) (hx : Loc X.env.scope x) (r : RelV v u)
    (h : ∀ s', Inv X pins (σ.set i (some v)) H s' → Q () s') (hf : X.fn x = true ∨ X.env.scope.names.lookup x = some .local := by first | exact .inl rfl | exact .inr rfl | assumption) : wpAny M A (storeName X.env x u) Q E s :=
  store_ok2 I hN hi hx r (fun s' I' _ => h s' I') hf
theorem Inv.call' {s' : Shared} {ch : List Addr} (I : Inv X pins σ H s) (ho : s'.os = s.os) (u : Un (frs X.stack) ch H H' s.heap s'.heap) (hok : HOk X.prog X.w H' s'.heap) (hg : AllBare s'.gens)
    (hch : ∀ b ∈ ch, (b ∈ X.ex ∨ X.s₀.heap.objs.size ≤ b) ∧ b ≠ X.env.locals ∧ (∀ x c, X.env.cells.lookup x = some c → c ≠ b) ∧ ∀ p ∈ X.pn ++ pins, p.1 ≠ b) : Inv X pins σ H' s' := by
  obtain ⟨h', g', d', t', o'⟩ := s'
  have e : o' = s.os := ho
  subst e
  exact I.call (g' := g') (t' := t') (d' := d') u hok hg hch
end

abbrev XK := Value → Option Addr → Hp → Prop
abbrev St := List (Option V)
abbrev VK := V → Hp → Prop
abbrev TE := St → Hp → VK → Prop
abbrev TT := St → Hp → (Bool → Hp → Prop) → Prop
abbrev TA := St → Hp → (List V → Hp → Prop) → Prop
structure Ends where
  nx : St → Hp → Prop
  rt : VK
  bk : St → Hp → Prop := fun _ _ => False
  ct : St → Hp → Prop := fun _ _ => False
abbrev TS := Ends → St → Hp → Prop

def EP (X : Cx) (pins : List (Addr × Obj)) (σ : St) (Q : VK) (u : Value) (s' : Shared) : Prop := ∃ v H', Inv X pins σ H' s' ∧ RelV v u ∧ Q v H'
def TP (X : Cx) (pins : List (Addr × Obj)) (σ : St) (Q : Bool → Hp → Prop) (b : Bool) (s' : Shared) : Prop := ∃ H', Inv X pins σ H' s' ∧ Q b H'
def AP (X : Cx) (pins : List (Addr × Obj)) (σ : St) (Q : List V → Hp → Prop) (us : List Value) (s' : Shared) : Prop := ∃ vs H', Inv X pins σ H' s' ∧ Vals vs us ∧ Q vs H'
def SP (X : Cx) (pins : List (Addr × Obj)) (D : Ends) (f : Flow) (s' : Shared) : Prop :=
  match f with
  | .next => ∃ σ' H', Inv X pins σ' H' s' ∧ D.nx σ' H'
  | .brk => ∃ σ' H', Inv X pins σ' H' s' ∧ D.bk σ' H'
  | .cont => ∃ σ' H', Inv X pins σ' H' s' ∧ D.ct σ' H'
  | .ret u => ∃ v σ' H', Inv X pins σ' H' s' ∧ RelV v u ∧ D.rt v H'

def PE (X : Cx) (e : Expr) (t : TE) : Prop :=
  ∀ (pins : List (Addr × Obj)) (s : Shared) (σ : St) (H : Hp) (Q : VK), Inv X pins σ H s → t σ H Q → wpAny (model X.prog X.w) X.A (eval e X.env) (EP X pins σ Q) X.xe s
def PT (X : Cx) (e : Expr) (t : TT) : Prop :=
  ∀ (pins : List (Addr × Obj)) (s : Shared) (σ : St) (H : Hp) (Q : Bool → Hp → Prop), Inv X pins σ H s → t σ H Q → wpAny (model X.prog X.w) X.A (isTrue e X.env (eval e X.env)) (TP X pins σ Q) X.xe s
def PW (X : Cx) (e : Expr) (t : TT) : Prop :=
  ∀ (whole : Sem Value) (pins : List (Addr × Obj)) (s : Shared) (σ : St) (H : Hp) (Q : Bool → Hp → Prop), Inv X pins σ H s → t σ H Q → wpAny (model X.prog X.w) X.A (isTrue e X.env whole) (TP X pins σ Q) X.xe s
theorem PW.pt {X : Cx} {e : Expr} {t : TT} (h : PW X e t) : PT X e t := h _
def PA (X : Cx) (es : List Expr) (t : TA) : Prop :=
  ∀ (pos : Pos) (pins : List (Addr × Obj)) (s : Shared) (σ : St) (H : Hp) (Q : List V → Hp → Prop), Inv X pins σ H s → t σ H Q → wpAny (model X.prog X.w) X.A (spliced (backTo pos (starEach es X.env))) (AP X pins σ Q) X.xe s
def PS (X : Cx) (st : Stmt) (t : TS) : Prop :=
  ∀ (pins : List (Addr × Obj)) (s : Shared) (σ : St) (H : Hp) (D : Ends), Inv X pins σ H s → t D σ H → wpAny (model X.prog X.w) X.A (exec st X.env) (SP X pins D) X.xe s
def PSs (X : Cx) (st : List Stmt) (t : TS) : Prop :=
  ∀ (pins : List (Addr × Obj)) (s : Shared) (σ : St) (H : Hp) (D : Ends), Inv X pins σ H s → t D σ H → wpAny (model X.prog X.w) X.A (execs st X.env) (SP X pins D) X.xe s
theorem thn {α : Type} {t : Sem α} {Q Q' : α → Shared → Prop} {M : Model} {A : Around} {E : Value → Shared → Prop} {s : Shared} (h : wpAny M A t Q E s) (hQ : ∀ a s, Q a s → Q' a s) : wpAny M A t Q' E s := wpAny_mono h hQ fun _ _ x => x
end L2

namespace L2
open PySem PySem.Spec PyProof.Rows
section
variable {X : Cx}

def tVar (i : Nat) : TE := fun σ H Q => ∃ v, σ[i]? = some (some v) ∧ Q v H
def tC (v : V) : TE := fun _ H Q => Q v H
theorem pe_var {i : Nat} {x : Str} {pos : Pos} (hN : X.N[i]? = some x) (hv : Vis X.env.scope x) (hd : (x == ("__debug__" : Str)) = false := by decide) (hcd : (x == ("__classdict__" : Str)) = false := by decide) : PE X (.Name x pos) (tVar i) := by
  intro pins s σ H Q I h
  obtain ⟨v, e, h⟩ := h
  obtain ⟨m, hn, hl⟩ := I.loc
  obtain ⟨u, r, l⟩ := hl i x v hN e hv
  have fin : EP X pins σ Q u s := ⟨v, H, I, r, h⟩
  rcases l with ⟨hk, hm⟩ | ⟨hk, c, hc, hcell⟩
  · exact wpAny_Name (wpAny_loadName_local I.ok.kind hk hn hm fin) hd
  · rcases hk with hk | hk
    · exact wpAny_Name (wpAny_loadName_cell I.ok.kind hk hc hcell fin) hd
    · exact wpAny_Name (wpAny_loadName_free I.ok.kind hk hc hcell fin hcd) hd
theorem pe_int {i j pos} : PE X (.Constant (.int i) j pos) (tC (.int i)) := fun _ _ _ H _ I h => wpAny_Constant_int ⟨.int i, H, I.tok _, ⟨_, rfl⟩, h⟩
theorem pe_bl {b j pos} : PE X (.Constant (.bool b) j pos) (tC (.bl b)) := fun _ _ _ H _ I h => Constant_bool ⟨.bl b, H, I, rfl, h⟩
theorem pe_non {j pos} : PE X (.Constant .none j pos) (tC .non) := fun _ _ _ H _ I h => Constant_none ⟨.non, H, I, rfl, h⟩
theorem pe_str {x j pos} : PE X (.Constant (.str x) j pos) (tC (.str x)) := fun _ _ _ H _ I h => Calls.Constant_str ⟨.str x, H, I.tok _, ⟨_, rfl⟩, h⟩

def Gl (X : Cx) (x : Str) : Prop := X.env.kindOf x = some .globalImplicit
theorem ld_glob {E : Value → Shared → Prop} {pins : List (Addr × Obj)} {s : Shared} {σ : St} {H : Hp} {x : Str} {u : Value} {pos : Pos} {Q : Value → Shared → Prop} (I : Inv X pins σ H s) (hg : Gl X x) (hm : X.mg x = some u) (h : Q u s)
    (hd : (x == ("__debug__" : Str)) = false := by decide) : wpAny (model X.prog X.w) X.A (eval (.Name x pos) X.env) Q E s :=
  Calls.Name_function_global I.ok.kind hg (Calls.loadGlobal_global (by rw [I.ok.glob]; exact I.mod.glob.keeps I.bk) hm h) hd
theorem ld_blt {E : Value → Shared → Prop} {pins : List (Addr × Obj)} {s : Shared} {σ : St} {H : Hp} {x : Str} {u : Value} {pos : Pos} {Q : Value → Shared → Prop} (I : Inv X pins σ H s) (hg : Gl X x) (hm : X.mg x = none) (hv : bootBuiltins x = some u) (h : Q u s)
    (hn : x ≠ "__name__" := by decide) (hd : (x == ("__debug__" : Str)) = false := by decide) : wpAny (model X.prog X.w) X.A (eval (.Name x pos) X.env) Q E s := by
  obtain ⟨mb, h1, h2⟩ := I.mod.blt
  exact Calls.Name_function_global I.ok.kind hg (Calls.loadGlobal_builtin (by rw [I.ok.glob]; exact I.mod.glob.keeps I.bk) hm (by rw [I.ok.blt]; exact h1.keeps I.bk) ((h2 x hn).trans hv) h) hd
theorem pe_glob {x : Str} {v : V} {u : Value} {pos : Pos} (hg : Gl X x) (hm : X.mg x = some u) (r : RelV v u) (hd : (x == ("__debug__" : Str)) = false := by decide) : PE X (.Name x pos) (tC v) :=
  fun _ _ _ H _ I h => ld_glob I hg hm ⟨v, H, I, r, h⟩ hd
theorem pe_bltn {x : Str} {v : V} {u : Value} {pos : Pos} (hg : Gl X x) (hm : X.mg x = none) (hv : bootBuiltins x = some u) (r : RelV v u) (hn : x ≠ "__name__" := by decide) (hd : (x == ("__debug__" : Str)) = false := by decide) : PE X (.Name x pos) (tC v) :=
  fun _ _ _ H _ I h => ld_blt I hg hm hv ⟨v, H, I, r, h⟩ hn hd

variable {a b : Expr} {ta tb : TE} {pos : Pos}
def tB (t : TE) : TT := fun σ H Q => t σ H fun x H1 => ∃ c, x = .bl c ∧ Q c H1
theorem pt_val {e : Expr} {t : TE} (h : PE X e t) (he : ∀ whole, isTrue e X.env whole = (do let v ← whole; standAt e.pos; holding [v] (truthy v)) := by intro _; rfl) : PT X e (tB t) := by
  intro pins s σ H Q I hw
  refine isTrue_plain (thn (h pins s σ H _ I hw) fun v s1 ⟨x, H1, I1, r1, q1⟩ => ?_) (he _)
  obtain ⟨d, rfl, q⟩ := q1
  cases r1
  exact wpAny_truthy_bool ⟨H1, I1, q⟩

variable {tA tB' : TT} {rest : List Expr}
def tAnd (t u : TT) : TT := fun σ H Q => t σ H fun c H1 => if c = true then u σ H1 Q else Q false H1
def tOr (t u : TT) : TT := fun σ H Q => t σ H fun c H1 => if c = true then Q true H1 else u σ H1 Q
def tNot (t : TT) : TT := fun σ H Q => t σ H fun c H1 => Q (!c) H1
theorem pw_and1 (ha : PT X a tA) : PW X (.BoolOp .And [a] pos) tA := by
  intro wh pins s σ H Q I h
  refine isTrue_and (thn (ha pins s σ H Q I h) fun c s1 e => ?_)
  cases c with
  | true => exact isTrue_and_nil e
  | false => exact e
theorem pw_or1 (ha : PT X a tA) : PW X (.BoolOp .Or [a] pos) tA := by
  intro wh pins s σ H Q I h
  refine isTrue_or (thn (ha pins s σ H Q I h) fun c s1 e => ?_)
  cases c with
  | false => exact isTrue_or_nil e
  | true => exact e
theorem pw_and (ha : PT X a tA) (hb : PW X (.BoolOp .And (b :: rest) pos) tB') : PW X (.BoolOp .And (a :: b :: rest) pos) (tAnd tA tB') := by
  intro wh pins s σ H Q I h
  refine isTrue_and (thn (ha pins s σ H _ I h) fun c s1 ⟨H1, I1, q1⟩ => ?_)
  cases c with
  | true => exact hb wh pins s1 σ H1 Q I1 q1
  | false => exact ⟨H1, I1, q1⟩
theorem pw_or (ha : PT X a tA) (hb : PW X (.BoolOp .Or (b :: rest) pos) tB') : PW X (.BoolOp .Or (a :: b :: rest) pos) (tOr tA tB') := by
  intro wh pins s σ H Q I h
  refine isTrue_or (thn (ha pins s σ H _ I h) fun c s1 ⟨H1, I1, q1⟩ => ?_)
  cases c with
  | true => exact ⟨H1, I1, q1⟩
  | false => exact hb wh pins s1 σ H1 Q I1 q1
theorem pt_not (ha : PT X a tA) : PT X (.UnaryOp .Not a pos) (tNot tA) := by
  intro pins s σ H Q I h
  exact isTrue_not (ha pins s σ H (fun c H1 => Q (!c) H1) I h)
def tAndV (ta tb : TE) : TE := fun σ H Q => ta σ H fun x H1 => ∃ c, x = .bl c ∧ if c = true then tb σ H1 Q else Q (.bl false) H1
def tNotV (ta : TE) : TE := fun σ H Q => ta σ H fun x H1 => ∃ c, x = .bl c ∧ Q (.bl (!c)) H1
theorem pe_one {op} {t : TE} (h : PE X a t) : PE X (.BoolOp op [a] pos) t := fun pins s σ H Q I hw => BoolOp_one (h pins s σ H Q I hw)
theorem pe_and (ha : PE X a ta) (hb : PE X (.BoolOp .And (b :: rest) pos) tb) : PE X (.BoolOp .And (a :: b :: rest) pos) (tAndV ta tb) := by
  intro pins s σ H Q I h
  refine BoolOp_and (thn (ha pins s σ H _ I h) fun v s1 ⟨x, H1, I1, r1, q1⟩ => ?_)
  obtain ⟨c, rfl, q1⟩ := q1
  cases r1
  refine wpAny_truthy_bool ?_
  cases c with
  | true => exact hb pins s1 σ H1 Q I1 q1
  | false => exact ⟨.bl false, H1, I1, rfl, q1⟩
theorem pe_not (ha : PE X a ta) : PE X (.UnaryOp .Not a pos) (tNotV ta) := by
  intro pins s σ H Q I h
  refine UnaryOp_ (thn (ha pins s σ H _ I h) fun v s1 ⟨x, H1, I1, r1, q1⟩ => ?_)
  obtain ⟨c, rfl, q1⟩ := q1
  cases r1
  exact not_of (wpAny_truthy_bool ⟨.bl (!c), H1, I1, rfl, q1⟩)
def tIf (t : TT) (ta tb : TE) : TE := fun σ H Q => t σ H fun c H1 => if c = true then ta σ H1 Q else tb σ H1 Q
theorem pe_ifExp {c : Expr} (hc : PT X c tA) (ha : PE X a ta) (hb : PE X b tb) : PE X (.IfExp c a b pos) (tIf tA ta tb) := by
  intro pins s σ H Q I h
  refine wpAny_IfExp (thn (hc pins s σ H _ I h) fun d s1 ⟨H1, I1, q1⟩ => ?_)
  cases d with
  | true => exact ha pins s1 σ H1 Q I1 q1
  | false => exact hb pins s1 σ H1 Q I1 q1
end
end L2

namespace L2
open PySem PySem.Spec PyProof.Rows

def SqL (K : PySem.W.Frag) (H : Hp) (a : Addr) (xs : List V) : Prop :=
  Rd H a (.lst xs) ∨
    ∃ (o : Obj) (its : Array Value) (n : Nat), K.lookup a = some o ∧ o.cls = .type "list" ∧ o.dict = none ∧ o.data = .seq its n ∧ its.size ≤ sizeLine ∧ Vals xs its.toList
def SqT (K : PySem.W.Frag) (H : Hp) (a : Addr) (xs : List V) : Prop :=
  Rd H a (.tup xs) ∨
    ∃ (o : Obj) (its : Array Value) (n : Nat), K.lookup a = some o ∧ o.cls = .type "tuple" ∧ o.data = .seq its n ∧ its.size ≤ sizeLine ∧ Vals xs its.toList
def absV : Value → Option V
  | .none => some .non
  | .bool b => some (.bl b)
  | .int i _ => some (.int i)
  | .str x _ => some (.str x)
  | .bytes b _ => some (.byt b)
  | .float b _ => some (.flt b)
  | .ref a => some (.ref a)
  | .type n => some (.ty n)
  | _ => none
theorem RelV.abs {x : V} {u : Value} (r : RelV x u) : absV u = some x := by
  cases x with
  | non => cases r; rfl
  | bl _ => cases r; rfl
  | int _ => obtain ⟨t, rfl⟩ := r; rfl
  | str _ => obtain ⟨t, rfl⟩ := r; rfl
  | byt _ => obtain ⟨t, rfl⟩ := r; rfl
  | flt _ => obtain ⟨t, rfl⟩ := r; rfl
  | ref _ => cases r; rfl
  | ty _ => cases r; rfl
theorem RelV.inj {x y : V} {u : Value} (r : RelV x u) (q : RelV y u) : x = y := Option.some.inj (r.abs.symm.trans q.abs)
theorem Vals.inj : ∀ {xs ys : List V} {us : List Value}, Vals xs us → Vals ys us → xs = ys
  | _, _, _, .nil, .nil => rfl
  | _, _, _, .cons r t, .cons r' t' => by rw [r.inj r', Vals.inj t t']
section
variable {X : Cx} {pins : List (Addr × Obj)} {σ : St} {H : Hp} {s : Shared} {a : Addr} {xs ys : List V}
theorem SqL.of {K : PySem.W.Frag} (h : H a = some (.lst xs)) : SqL K H a xs := .inl (.inl h)
theorem SqT.of {K : PySem.W.Frag} (h : H a = some (.tup xs)) : SqT K H a xs := .inl (.inl h)
theorem Inv.list (I : Inv X pins σ H s) (h : SqL X.K H a xs) : ∃ its : List Value, Vals xs its ∧ PlainL s.heap a its.toArray ∧ xs.length ≤ sizeLine := by
  rcases h with h | ⟨o, its, n, hk, hc, hd, hs, hz, r⟩
  · obtain ⟨z, its, n, r, e⟩ := h.ok I.hok
    exact ⟨its, r, ⟨_, n, e, rfl, rfl, rfl⟩, z⟩
  · refine ⟨its.toList, r, ⟨o, n, I.kIn a o hk, hc, hd, by simpa using hs⟩, ?_⟩
    have e := r.length
    simp only [Array.length_toList] at e
    omega
theorem Inv.tuple (I : Inv X pins σ H s) (h : SqT X.K H a xs) : ∃ its : List Value, Vals xs its ∧ IsTup s.heap a its.toArray ∧ xs.length ≤ sizeLine := by
  rcases h with h | ⟨o, its, n, hk, hc, hs, hz, r⟩
  · obtain ⟨z, its, r, p⟩ := h.ok I.hok
    exact ⟨its, r, p, z⟩
  · refine ⟨its.toList, r, ⟨o, I.kIn a o hk, hc, n, by simpa using hs⟩, ?_⟩
    have e := r.length
    simp only [Array.length_toList] at e
    omega
theorem Inv.list_inj (I : Inv X pins σ H s) (h : SqL X.K H a xs) (h' : SqL X.K H a ys) : xs = ys := by
  obtain ⟨its, r, ⟨o, n, e, _, _, d⟩, _⟩ := I.list h
  obtain ⟨its', r', ⟨o', n', e', _, _, d'⟩, _⟩ := I.list h'
  rw [e] at e'; cases e'
  rw [d] at d'
  injection d' with d1 _
  have : its = its' := by simpa using congrArg Array.toList d1
  subst this
  exact r.inj r'
theorem Inv.tuple_inj (I : Inv X pins σ H s) (h : SqT X.K H a xs) (h' : SqT X.K H a ys) : xs = ys := by
  obtain ⟨its, r, ⟨o, e, _, n, d⟩, _⟩ := I.tuple h
  obtain ⟨its', r', ⟨o', e', _, n', d'⟩, _⟩ := I.tuple h'
  rw [e] at e'; cases e'
  rw [d] at d'
  injection d' with d1 _
  have : its = its' := by simpa using congrArg Array.toList d1
  subst this
  exact r.inj r'
end

abbrev Cx.wish (X : Cx) (E : Value → Shared → Prop) : Cx := { X with xe := E }
abbrev Cx.nox (X : Cx) : Cx := X.wish fun _ _ => False
theorem Cx.Ok.wish {X : Cx} (ok : X.Ok) (E : Value → Shared → Prop) : (X.wish E).Ok :=
  ⟨ok.mod, ok.kind, ok.glob, ok.blt, ok.above, ok.inj, ok.has, ok.cab, ok.hd, ok.frames, ok.stk, ok.exf, ok.bs, ok.bsz, ok.noex, ok.exfs, ok.funs, ok.frf⟩
theorem Cx.Ok.unwish {X : Cx} {E : Value → Shared → Prop} (ok : (X.wish E).Ok) : X.Ok :=
  ⟨ok.mod, ok.kind, ok.glob, ok.blt, ok.above, ok.inj, ok.has, ok.cab, ok.hd, ok.frames, ok.stk, ok.exf, ok.bs, ok.bsz, ok.noex, ok.exfs, ok.funs, ok.frf⟩
section
variable {X : Cx} {pins : List (Addr × Obj)} {σ : St} {H : Hp} {s : Shared} {E : Value → Shared → Prop}
theorem Inv.wish (I : Inv X pins σ H s) (E : Value → Shared → Prop) : Inv (X.wish E) pins σ H s := ⟨I.ok.wish E, I.os, I.bare, I.base, I.loc, I.cell, I.free, I.freeC, I.pin, I.hok, I.len⟩
theorem Inv.unwish (I : Inv (X.wish E) pins σ H s) : Inv X pins σ H s := ⟨I.ok.unwish, I.os, I.bare, I.base, I.loc, I.cell, I.free, I.freeC, I.pin, I.hok, I.len⟩
theorem SP.unwish {D : Ends} {f : Flow} {s' : Shared} (h : SP (X.wish E) pins D f s') : SP X pins D f s' := by
  cases f with
  | next => obtain ⟨σ', H', I, q⟩ := h; exact ⟨σ', H', I.unwish, q⟩
  | brk => obtain ⟨σ', H', I, q⟩ := h; exact ⟨σ', H', I.unwish, q⟩
  | cont => obtain ⟨σ', H', I, q⟩ := h; exact ⟨σ', H', I.unwish, q⟩
  | ret u => obtain ⟨v, σ', H', I, r, q⟩ := h; exact ⟨v, σ', H', I.unwish, r, q⟩
theorem PE.nox {e : Expr} {t : TE} (h : PE X.nox e t) : PE X e t := fun pins s σ H Q I hw =>
  wpAny_mono (h pins s σ H Q (I.wish _) hw) (fun _ _ ⟨v, H', I', r, q⟩ => ⟨v, H', I'.unwish, r, q⟩) fun _ _ z => False.elim z
theorem PT.nox {e : Expr} {t : TT} (h : PT X.nox e t) : PT X e t := fun pins s σ H Q I hw =>
  wpAny_mono (h pins s σ H Q (I.wish _) hw) (fun _ _ ⟨H', I', q⟩ => ⟨H', I'.unwish, q⟩) fun _ _ z => False.elim z
theorem PSs.nox {st : List Stmt} {t : TS} (h : PSs X.nox st t) : PSs X st t := fun pins s σ H D I hw =>
  wpAny_mono (h pins s σ H D (I.wish _) hw) (fun _ _ q => q.unwish) fun _ _ z => False.elim z
end

section
variable {X : Cx} {st : Stmt} {rest : List Stmt} {t u : TS} {e : Expr} {te : TE} {pos : Pos}
def tNext : TS := fun D σ H => D.nx σ H
def tSeq (t u : TS) : TS := fun D σ H => t { D with nx := u D } σ H
theorem pss_nil : PSs X [] tNext := fun _ _ σ H _ I h => wpAny_execs_nil ⟨σ, H, I, h⟩
theorem pss_cons (h1 : PS X st t) (h2 : PSs X rest u) : PSs X (st :: rest) (tSeq t u) := by
  intro pins s σ H D I h
  refine wpAny_execs_cons (thn (h1 pins s σ H { D with nx := u D } I h) fun f s1 q => ?_)
  cases f with
  | next =>
    obtain ⟨σ', H', I', q⟩ := q
    exact h2 pins s1 σ' H' D I' q
  | ret v => exact q
  | brk => exact q
  | cont => exact q
theorem pss_one (h1 : PS X st t) : PSs X [st] t := by
  intro pins s σ H D I h
  refine wpAny_execs_cons (thn (h1 pins s σ H D I h) fun f s1 q => ?_)
  cases f with
  | next => exact wpAny_execs_nil q
  | ret v => exact q
  | brk => exact q
  | cont => exact q
theorem Inv.quiet {pins : List (Addr × Obj)} {σ : St} {H : Hp} {s : Shared} (I : Inv X pins σ H s) : interactive X.env = false := by simp [interactive, I.ok.kind]
def tDrop (te : TE) : TS := fun D σ H => te σ H fun _ H1 => D.nx σ H1
theorem ps_expr (he : PE X e te) (hs : swapsWith e none pos.line X.env = pure false := by rfl) : PS X (.Expr e pos) (tDrop te) := by
  intro pins s σ H D I h
  exact wpAny_Expr_any (thn (he pins s σ H _ I h) fun v s1 ⟨x, H1, I1, r1, q1⟩ => ⟨σ, H1, I1, q1⟩) I.quiet hs
def tRet (te : TE) : TS := fun D σ H => te σ H D.rt
theorem ps_ret (he : PE X e te) : PS X (.Return (some e) pos) (tRet te) := by
  intro pins s σ H D I h
  exact wpAny_Return_some (thn (he pins s σ H _ I h) fun v s1 ⟨x, H1, I1, r1, q1⟩ => ⟨x, σ, H1, I1, r1, q1⟩)
def tIfS (c : TT) (t u : TS) : TS := fun D σ H => c σ H fun b H1 => if b = true then t D σ H1 else u D σ H1
theorem ps_if {c : Expr} {a b : List Stmt} {tc : TT} (hc : PT X c tc) (ha : PSs X a t) (hb : PSs X b u) : PS X (.If c a b pos) (tIfS tc t u) := by
  intro pins s σ H D I h
  refine wpAny_If (thn (hc pins s σ H _ I h) fun d s1 ⟨H1, I1, q1⟩ => ?_)
  cases d with
  | true => exact ha pins s1 σ H1 D I1 q1
  | false => exact hb pins s1 σ H1 D I1 q1
end

abbrev TG := V → St → Hp → (St → Hp → Prop) → Prop
abbrev TGs := List V → St → Hp → (St → Hp → Prop) → Prop
def PG (X : Cx) (target : Expr) (t : TG) : Prop :=
  ∀ (pins : List (Addr × Obj)) (s : Shared) (σ : St) (H : Hp) (v : V) (u : Value) (Q : St → Hp → Prop), Inv X pins σ H s → RelV v u → t v σ H Q →
    wpAny (model X.prog X.w) X.A (assign target X.env u) (fun _ s' => ∃ σ' H', Inv X pins σ' H' s' ∧ Q σ' H') X.xe s
def PGs (X : Cx) (ts : List Expr) (t : TGs) : Prop :=
  ∀ (pins : List (Addr × Obj)) (s : Shared) (σ : St) (H : Hp) (vs : List V) (us : List Value) (Q : St → Hp → Prop), Inv X pins σ H s → Vals vs us → t vs σ H Q →
    wpAny (model X.prog X.w) X.A (assignInOrder ((assignEach ts X.env).map (·.2)) us) (fun _ s' => ∃ σ' H', Inv X pins σ' H' s' ∧ Q σ' H') X.xe s
abbrev TSet := V → V → V → Hp → (Hp → Prop) → Prop
def PSet (X : Cx) (t : TSet) : Prop :=
  ∀ (pins : List (Addr × Obj)) (s : Shared) (σ : St) (H : Hp) (o i v : V) (ov iv u : Value) (Q : Hp → Prop), Inv X pins σ H s → RelV o ov → RelV i iv → RelV v u → t o i v H Q →
    wpAny (model X.prog X.w) X.A (setItem ov iv u) (fun _ s' => ∃ H', Inv X pins σ H' s' ∧ Q H') X.xe s
section
variable {X : Cx} {pos : Pos}
def gName (i : Nat) : TG := fun v σ H Q => Q (σ.set i (some v)) H
theorem pg_name {i : Nat} {x : Str} (hN : X.N.Nodup) (hi : X.N[i]? = some x) (hx : Loc X.env.scope x) (hf : X.fn x = true ∨ X.env.scope.names.lookup x = some .local := by first | exact .inl rfl | exact .inr rfl | assumption) : PG X (.Name x pos) (gName i) := by
  intro pins s σ H v u Q I r h
  exact wpAny_assign_Name (store_ok I hN hi hx r (fun s' I' => ⟨_, H, I', h⟩) hf)
def gNil : TGs := fun vs σ H Q => vs = [] ∧ Q σ H
def gCons (t : TG) (u : TGs) : TGs := fun vs σ H Q => ∃ v r, vs = v :: r ∧ t v σ H fun σ' H' => u r σ' H' Q
theorem pgs_nil : PGs X [] gNil := by
  intro pins s σ H vs us Q I r h
  obtain ⟨e, h⟩ := h
  subst e
  cases r
  exact assignInOrder_nil ⟨σ, H, I, h⟩
theorem pgs_cons {e : Expr} {es : List Expr} {t : TG} {u : TGs} (h1 : PG X e t) (h2 : PGs X es u)
    (hs : (assignEach (e :: es) X.env).map (·.2) = assign e X.env :: (assignEach es X.env).map (·.2) := by rfl) : PGs X (e :: es) (gCons t u) := by
  intro pins s σ H vs us Q I r h
  obtain ⟨v, vr, e1, h⟩ := h
  subst e1
  cases r with
  | cons r rr =>
    rw [hs]
    refine assignInOrder_cons (thn (h1 pins s σ H _ _ _ I r h) fun _ s1 ⟨σ1, H1, I1, q1⟩ => ?_)
    exact h2 pins s1 σ1 H1 _ _ Q I1 rr q1
def gTup (K : PySem.W.Frag) (n : Nat) (t : TGs) : TG := fun v σ H Q => ∃ a xs, v = .ref a ∧ SqT K H a xs ∧ xs.length = n ∧ t xs σ H Q
theorem pg_tup {es : List Expr} {k : Nat} {t : TGs} {n : Nat} (hc : X.calm = true) (h : PGs X es t)
    (hn : (assignEach es X.env).length = n := by rfl) (hst : (assignEach es X.env).findIdx? (·.1) = none := by rfl) : PG X (.Tuple es k pos) (gTup X.K n t) := by
  intro pins s σ H v u Q I r hw
  obtain ⟨a, xs, e1, hq, hl, hw⟩ := hw
  subst e1
  cases r
  obtain ⟨its, rv, ht, hz⟩ := I.tuple hq
  refine assign_Tuple_tuple (I.ok.hd hc) ht (by simp [hn, ← hl, rv.length]) hst fun h' hx => ?_
  have I1 : Inv X pins σ H { s with heap := h' } := I.kept (t' := s.toks) fun b o e => hx b o (Nat.ne_of_lt (Heap.lt_size e)) e
  exact h pins _ σ H xs _ Q I1 (by simpa using rv) hw
def gSub (to ti : TE) (t : TSet) : TG := fun v σ H Q => to σ H fun o H1 => ti σ H1 fun i H2 => t o i v H2 fun H3 => Q σ H3
theorem pg_sub {o i : Expr} {to ti : TE} {t : TSet} (ho : PE X o to) (hi : PE X i ti) (hs : PSet X t)
    (ha : ∀ v, assign (.Subscript o i pos) X.env v = (do
      let ov ← holding [v] (eval o X.env)
      let iv ← holding [v, ov] (eval i X.env)
      standAt pos
      holding [v, ov, iv] (setItem ov iv v)
      release [v, ov, iv] []) := by intro _; rfl) : PG X (.Subscript o i pos) (gSub to ti t) := by
  intro pins s σ H v u Q I r h
  rw [ha]
  refine wpAny_bind (wpAny_holding (thn (ho pins s σ H _ I h) fun ov s1 ⟨x, H1, I1, r1, q1⟩ => ?_))
  refine wpAny_bind (wpAny_holding (thn (hi pins s1 σ H1 _ I1 q1) fun iv s2 ⟨y, H2, I2, r2, q2⟩ => ?_))
  refine wpAny_bind (wpAny_standAt (wpAny_bind (wpAny_holding (thn (hs pins s2 σ H2 x y v ov iv u _ I2 r1 r2 r q2) fun _ s3 ⟨H3, I3, q3⟩ => ?_))))
  exact wpAny_release ⟨σ, H3, I3, q3⟩
def tAsg (te : TE) (g : TG) : TS := fun D σ H => te σ H fun x H1 => g x σ H1 D.nx
theorem ps_asg {tg e : Expr} {te : TE} {g : TG} (he : PE X e te) (hg : PG X tg g) (hs : swapsWithSole [tg] e pos.line X.env = pure false := by rfl) (hw : swappedStores [tg] e X.env = pure none := by rfl)
    (h1 : (assignEach [tg] X.env).map (·.2) = [assign tg X.env] := by rfl) : PS X (.Assign [tg] e pos) (tAsg te g) := by
  intro pins s σ H D I h
  refine wpAny_Assign_stores (thn (he pins s σ H _ I h) fun v s1 ⟨x, H1, I1, r1, q1⟩ => ?_) hs hw
  rw [h1]
  exact thn (hg pins s1 σ H1 x v _ I1 r1 q1) fun _ s2 q => q
theorem ps_set {i : Nat} {x : Str} {e : Expr} {te : TE} {pos' : Pos} (hN : X.N.Nodup) (hi : X.N[i]? = some x) (hx : Loc X.env.scope x) (he : PE X e te) (hs : swapsWith e (some (.Name x pos')) pos.line X.env = pure false := by rfl) (hf : X.fn x = true ∨ X.env.scope.names.lookup x = some .local := by first | exact .inl rfl | exact .inr rfl | assumption) :
    PS X (.Assign [.Name x pos'] e pos) (tAsg te (gName i)) := by
  intro pins s σ H D I h
  refine wpAny_Assign_Name (thn (he pins s σ H _ I h) fun v s1 ⟨y, H1, I1, r1, q1⟩ => ?_) hs
  exact store_ok I1 hN hi hx r1 (fun s2 I2 => ⟨_, H1, I2, q1⟩) hf
def tPar (i j : Nat) (ta : TA) : TS := fun D σ H => ta σ H fun vs H1 => ∃ v w, vs = [v, w] ∧ D.nx ((σ.set i (some v)).set j (some w)) H1
theorem ps_par {i j : Nat} {x y : Str} {a b : Expr} {ta : TA} {px py pt : Pos} {kt k2 pt2} (hc : X.calm = true) (hN : X.N.Nodup) (hi : X.N[i]? = some x) (hj : X.N[j]? = some y) (hij : i ≠ j)
    (hx : X.env.scope.names.lookup x = some .local) (hy : X.env.scope.names.lookup y = some .local) (ha : PA X [a, b] ta)
    (hw : swappedStores [.Tuple [.Name x px, .Name y py] kt pt] (.Tuple [a, b] k2 pt2) X.env = pure (some [x, y]))
    (hs : swapsWithSole [.Tuple [.Name x px, .Name y py] kt pt] (.Tuple [a, b] k2 pt2) pos.line X.env = pure false := by rfl) :
    PS X (.Assign [.Tuple [.Name x px, .Name y py] kt pt] (.Tuple [a, b] k2 pt2) pos) (tPar i j ta) := by
  intro pins s σ H D I h
  rw [exec_Assign_arm]
  refine wpAny_bind (wpAny_standAt ?_)
  rw [hs]
  refine wpAny_bind (wpAny_pure ?_)
  rw [if_neg (by decide)]
  refine wpAny_bind (Tuple_ (thn (ha _ pins s σ H _ I h) fun us s1 ⟨vs, H1, I1, r1, q1⟩ => ?_))
  obtain ⟨v, w, e1, q1⟩ := q1
  subst e1
  obtain ⟨u1, u2, rfl, rv, rw'⟩ : ∃ u1 u2, us = [u1, u2] ∧ RelV v u1 ∧ RelV w u2 := by
    cases r1 with
    | cons p q =>
      cases q with
      | cons p' q' =>
        cases q'
        exact ⟨_, _, rfl, p, p'⟩
  refine wpAny_newObj_type ?_ (by show 2 ≤ sizeLine; decide)
  have I2 : Inv X pins σ H1 { s1 with heap := s1.heap.push { cls := .type "tuple", data := .seq [u1, u2].toArray } } := I1.kept (t' := s1.toks) fun b o e => Heap.get?_push_of_some _ e
  rw [hw]
  refine wpAny_bind (wpAny_pure ?_)
  show wpAny (model X.prog X.w) X.A (do rule "assign.swapped-stores"; let items ← unpackItems (.ref s1.heap.objs.size) 2 none; assignInOrder [fun v => bindName X.env y v, fun v => bindName X.env x v] items.reverse; pure Flow.next) _ _ _
  refine wpAny_bind (wpAny_rule (wpAny_bind (unpackItems_tuple (items := #[u1, u2]) (I.ok.hd hc) (IsTup.new s1.heap _) fun h' hx' => ?_)))
  have I3 := I2.kept (h' := h') (t' := s1.toks) fun b o e => hx' b o (Nat.ne_of_lt (Heap.lt_size e)) e
  show wpAny _ _ (assignInOrder [fun v => bindName X.env y v, fun v => bindName X.env x v] [u2, u1] >>= fun _ => pure Flow.next) _ _ _
  refine wpAny_bind (assignInOrder_cons (wpAny_bindName (store_ok I3 hN hj (.inl hy) rw' (fun s2 I4 => ?_) (.inr hy))))
  refine assignInOrder_cons (wpAny_bindName (store_ok I4 hN hi (.inl hx) rv (fun s3 I5 => assignInOrder_nil (wpAny_pure ?_)) (.inr hx)))
  rw [List.set_comm _ _ (Ne.symm hij)] at I5
  exact ⟨_, H1, I5, q1⟩
end

section
variable {X : Cx} {pos : Pos}
def tWhile (c : TT) (tb : TS) : TS := fun D σ H => ∃ W : Nat → St → Hp → Prop, (∃ m, W m σ H) ∧ ∀ m σ H, W m σ H →
  c σ H fun b H1 => if b = true then ∃ N : St → Hp → Prop, (∀ σ' H', N σ' H' → ∃ m', m' < m ∧ W m' σ' H') ∧ tb { D with nx := N, ct := N, bk := D.nx } σ H1 else D.nx σ H1
theorem ps_while {c : Expr} {body : List Stmt} {tc : TT} {tb : TS} (hp : PassesOwn (model X.prog X.w) X.A X.env X.xe) (hc : PT X c tc) (hb : PSs X body tb) : PS X (.While c body [] pos) (tWhile tc tb) := by
  intro pins s σ H D I h
  obtain ⟨W, ⟨m0, w0⟩, turn⟩ := h
  refine wpAny_While (codeAny_whileLoop (fun n s' => ∃ σ' H', Inv X pins σ' H' s' ∧ W n σ' H') ?_ m0 ⟨σ, H, I, w0⟩)
  rintro n s1 ⟨σ1, H1, I1, w1⟩
  refine wpAny_passesOwn hp (thn (hc pins s1 σ1 H1 _ I1 (turn n σ1 H1 w1)) fun b s2 ⟨H2, I2, q2⟩ => ?_)
  cases b with
  | true =>
    obtain ⟨N, hN, q2⟩ := q2
    rw [if_pos rfl]
    refine wpAny_passesOwn hp (thn (hb pins s2 σ1 H2 _ I2 q2) fun f s3 q3 => ?_)
    cases f with
    | next =>
      obtain ⟨σ3, H3, I3, n3⟩ := q3
      obtain ⟨m', hm, w3⟩ := hN σ3 H3 n3
      exact ⟨m', hm, σ3, H3, I3, w3⟩
    | cont =>
      obtain ⟨σ3, H3, I3, n3⟩ := q3
      obtain ⟨m', hm, w3⟩ := hN σ3 H3 n3
      exact ⟨m', hm, σ3, H3, I3, w3⟩
    | brk => exact q3
    | ret v => exact q3
  | false =>
    rw [if_neg Bool.false_ne_true]
    exact wpAny_execs_nil ⟨σ1, H2, I2, q2⟩
end

structure It where
  go : Nat → Hp → Prop
  yld : Nat → Hp → V → Hp → Prop
  stop : Nat → Hp → Prop
def FpOk (X : Cx) (pins : List (Addr × Obj)) (H : Hp) (b : Addr) : Prop :=
  H b = none ∧ b ≠ X.env.locals ∧ b ∉ X.fs ∧ (b ∈ X.ex ∨ X.s₀.heap.objs.size ≤ b) ∧ (∀ x c, X.env.cells.lookup x = some c → c ≠ b) ∧ ∀ p ∈ X.pn ++ pins, p.1 ≠ b
theorem Inv.fpOk {X : Cx} {pins : List (Addr × Obj)} {σ : St} {H H' : Hp} {s : Shared} {b : Addr} (I : Inv X pins σ H s) (hb : s.heap.objs.size ≤ b) (hn : H' b = none) : FpOk X pins H' b := by
  refine ⟨hn, Nat.ne_of_gt (Nat.lt_of_lt_of_le I.lt hb), I.nofs hb, .inr (Nat.le_trans I.sz hb), fun x c e z => ?_, fun p hp z => ?_⟩
  · obtain ⟨v, q⟩ := I.cell x c e
    exact absurd (Nat.lt_of_lt_of_le q.lt (by rw [z]; exact hb)) (Nat.lt_irrefl _)
  · exact absurd (Nat.lt_of_lt_of_le (Heap.lt_size (I.pin p hp).1) (by rw [z]; exact hb)) (Nat.lt_irrefl _)
structure Turn (P : Program) (w : World) (K : PySem.W.Frag) (tg : Expr) (J : It) (fp : List Addr) (it : Addr) (tn : Nat → Heap → Prop) : Prop where
  mem : it ∈ fp
  obj : ∀ i h, tn i h → ∀ b ∈ fp, ∃ o, h.get? b = some o ∧ ∀ v, o.data ≠ .cell v
  keep : ∀ i h h', tn i h → (∀ b ∈ fp, ∀ o, h.get? b = some o → h'.get? b = some o) → tn i h'
  item : ∀ (X : Cx), X.prog = P → X.w = w → X.K = K → X.calm = true → ∀ (i : Nat) (pins : List (Addr × Obj)) (s : Shared) (σ : St) (H : Hp) (E : Value → Shared → Prop), Inv X pins σ H s → (∀ b ∈ fp, FpOk X pins H b) → tn i s.heap → J.go i H →
    wpAny (model P w) X.A (pyNext (.ref it)) (fun r s1 => ∃ u, r = some u ∧
      wpAny (model P w) X.A (letOwnedTupleGo tg (.ref it) u) (fun _ s2 => ∃ x H', Inv X pins σ H' s2 ∧ RelV x u ∧ J.yld i H x H' ∧ tn (i + 1) s2.heap ∧ ∀ b ∈ fp, H' b = none) E s1) E s
  done : ∀ (X : Cx), X.prog = P → X.w = w → X.K = K → X.calm = true → ∀ (i : Nat) (pins : List (Addr × Obj)) (s : Shared) (σ : St) (H : Hp) (E : Value → Shared → Prop), Inv X pins σ H s → (∀ b ∈ fp, FpOk X pins H b) → tn i s.heap → J.stop i H →
    wpAny (model P w) X.A (pyNext (.ref it)) (fun r s1 => r = none ∧ Inv X pins σ H s1) E s
  self : ∀ (A : Around) (i : Nat) (s : Shared) (Q : Value → Shared → Prop) (E : Value → Shared → Prop), tn i s.heap → Q (.ref it) s → wpAny (model P w) A (pyIter (.ref it)) Q E s
abbrev TI := St → Hp → (It → Hp → Prop) → Prop
def PIE (X : Cx) (pins : List (Addr × Obj)) (σ : St) (tg : Expr) (R : It → Hp → Prop) (itv : Value) (s2 : Shared) : Prop :=
  ∃ (it : Addr) (fp : List Addr) (tn : Nat → Heap → Prop) (J : It) (H' : Hp), itv = .ref it ∧ Inv X pins σ H' s2 ∧ Turn X.prog X.w X.K tg J fp it tn ∧ tn 0 s2.heap ∧ (∀ b ∈ fp, FpOk X pins H' b) ∧ R J H'
def PI (X : Cx) (tg iter : Expr) (wi : TI) : Prop :=
  ∀ (pins : List (Addr × Obj)) (s : Shared) (σ : St) (H : Hp) (R : It → Hp → Prop), Inv X pins σ H s → wi σ H R →
    wpAny (model X.prog X.w) X.A (eval iter X.env) (fun v s1 => wpAny (model X.prog X.w) X.A (pyIter v) (PIE X pins σ tg R) X.xe s1) X.xe s

theorem go_of {M : Model} {A : Around} {E : Value → Shared → Prop} {s : Shared} {tg : Expr} {it : Addr} {u : Value} {o : Obj} {n : String} {vs : Array Value} {Q : Unit → Shared → Prop} (ho : s.heap.get? it = some o) (hc : o.cls = .type n) (hd : o.data = .fields vs)
    (hn : ["enumerate", "zip", "dict_itemiterator", "dict_reverseitemiterator", "odict_iterator", "itertools.zip_longest", "itertools.pairwise"].contains n = false) (hQ : Q () s) : wpAny M A (letOwnedTupleGo tg (.ref it) u) Q E s := by
  unfold letOwnedTupleGo
  cases tg <;> first
    | exact wpAny_pure hQ
    | (cases u <;> first
        | exact wpAny_pure hQ
        | (refine wpAny_bind (wpAny_load ho ?_)
           rw [hc, hd]
           show wpAny M A (if (["enumerate", "zip", "dict_itemiterator", "dict_reverseitemiterator", "odict_iterator", "itertools.zip_longest", "itertools.pairwise"].contains n && vs[0]? == some (rawInt _)) = true then _ else _) Q E s
           rw [if_neg (by intro h; rw [hn, Bool.false_and] at h; cases h)]
           exact wpAny_pure hQ))

def Itl (K : PySem.W.Frag) (a : Addr) : It :=
  ⟨fun i H => ∃ xs x, SqL K H a xs ∧ xs[i]? = some x, fun i H x H' => H' = H ∧ ∀ xs, SqL K H a xs → xs[i]? = some x, fun i H => ∃ xs, SqL K H a xs ∧ xs.length ≤ i⟩
def Itr (lo : Int) (n : Nat) : It := ⟨fun i _ => i < n, fun i H x H' => H' = H ∧ x = .int (lo + i), fun i _ => n ≤ i⟩
theorem turn_list {P : Program} {w : World} {K : PySem.W.Frag} {tg : Expr} (a it : Addr) : Turn P w K tg (Itl K a) [it] it (fun i h => h.IsListIter it a i) where
  mem := by simp
  obj := fun i h st b hb => by
    have e : b = it := by simpa using hb
    subst e
    obtain ⟨o, e, c, d⟩ := st
    exact ⟨o, e, fun v z => by rw [d] at z; cases z⟩
  keep := fun i h h' st k => st.at fun o e => k it (by simp) o e
  item := by
    intro X hP hw hK hc i pins s σ H E I hf st hg
    subst hP hw hK
    obtain ⟨xs, x, hq, hx⟩ := hg
    obtain ⟨its, rv, p, hz⟩ := I.list hq
    obtain ⟨u, hu, ru⟩ := rv.get hx
    obtain ⟨f0, f1, f2, f3, f4, f5⟩ := hf it (by simp)
    refine wpAny_pyNext_list_item st p.isList (x := u) (by simpa using hu) fun h' st' sb => ?_
    have I1 : Inv X pins σ H { s with heap := h' } := I.turned (t' := s.toks) (fun b o hb e => (sb.2 b hb).trans e) f0 f1 f3 f4 f5
    obtain ⟨o, e, c, d⟩ := id st'
    exact ⟨u, rfl, go_of (s := { s with heap := h' }) e c d (by decide) ⟨x, H, I1, ru, ⟨rfl, fun ys hy => by rw [I.list_inj hy hq]; exact hx⟩, st', fun b hb => (hf b hb).1⟩⟩
  done := by
    intro X hP hw hK hc i pins s σ H E I hf st hg
    subst hP hw hK
    obtain ⟨xs, hq, hx⟩ := hg
    obtain ⟨its, rv, p, hz⟩ := I.list hq
    obtain ⟨f0, f1, f2, f3, f4, f5⟩ := hf it (by simp)
    have hl := rv.length
    exact wpAny_pyNext_list_end (I.ok.hd hc) st p.isList (by simp; omega) fun h' eb => ⟨rfl, I.turned (t' := s.toks) (fun b o hb e => eb b o hb e) f0 f1 f3 f4 f5⟩
  self := fun _ _ _ _ _ st h => wpAny_pyIter_listiter st h
theorem turn_range {P : Program} {w : World} {K : PySem.W.Frag} {tg : Expr} (it : Addr) (lo : Int) (n : Nat) : Turn P w K tg (Itr lo n) [it] it (fun i h => IsRangeIter h it (lo + (i : Nat) * 1) ((n : Int) - (i : Nat)) 1) where
  mem := by simp
  obj := fun i h st b hb => by
    have e : b = it := by simpa using hb
    subst e
    exact ⟨_, st, fun v z => by
      have z' : Data.fields _ = Data.cell v := z
      cases z'⟩
  keep := fun i h h' st k => k it (by simp) _ st
  item := by
    intro X hP hw hK hc i pins s σ H E I hf st hg
    subst hP hw hK
    obtain ⟨f0, f1, f2, f3, f4, f5⟩ := hf it (by simp)
    have W := Walks.range (prog := X.prog) (w := X.w) (I.ok.hd hc) it lo 1 n
    refine W.item i s _ _ hg st fun v h' tk hv st' kk => ?_
    obtain ⟨t, rfl⟩ := hv
    have I1 : Inv X pins σ H { s with heap := h', toks := tk } := I.turned (fun b o hb e => kk b o (by simpa using hb) e) f0 f1 f3 f4 f5
    refine ⟨_, rfl, go_of (s := { s with heap := h', toks := tk }) (n := "range_iterator") st' rfl rfl (by decide) ⟨.int (lo + i), H, I1, ⟨t, ?_⟩, ⟨rfl, rfl⟩, st', fun b hb => (hf b hb).1⟩⟩
    rw [Int.mul_one]
  done := by
    intro X hP hw hK hc i pins s σ H E I hf st hg
    subst hP hw hK
    obtain ⟨f0, f1, f2, f3, f4, f5⟩ := hf it (by simp)
    exact wpAny_pyNext_range_end (I.ok.hd hc) st (by have : n ≤ i := hg; omega) fun h' eb => ⟨rfl, I.turned (t' := s.toks) (fun b o hb e => eb b o hb e) f0 f1 f3 f4 f5⟩
  self := fun _ _ _ _ _ st h => wpAny_pyIter_rangeiter st h
end L2

namespace L2
open PySem PySem.Spec PyProof.Rows
section
variable {X : Cx} {tg : Expr}
def iList (K : PySem.W.Frag) (tl : TE) : TI := fun σ H R => tl σ H fun x H1 => ∃ a, x = .ref a ∧ (∃ xs, SqL K H1 a xs) ∧ R (Itl K a) H1
theorem pi_list {l : Expr} {tl : TE} (hl : PE X l tl) : PI X tg l (iList X.K tl) := by
  intro pins s σ H R I h
  refine thn (hl pins s σ H _ I h) fun v s1 ⟨x, H1, I1, r1, q1⟩ => ?_
  obtain ⟨a, e, ⟨xs, hq⟩, q⟩ := q1
  subst e
  cases r1
  obtain ⟨its, rv, p, hz⟩ := I1.list hq
  refine wpAny_pyIter_list p.isList ?_
  refine ⟨s1.heap.objs.size, [s1.heap.objs.size], _, _, H1, rfl, I1.kept (t' := s1.toks) fun b o e => Heap.get?_push_of_some _ e, turn_list a _, ⟨_, Heap.get?_push_size _ rfl, rfl, rfl⟩, fun b hb => ?_, q⟩
  have e : b = s1.heap.objs.size := by simpa using hb
  subst e
  exact I1.fpOk (Nat.le_refl _) (I1.hok.fresh (Nat.le_refl _))
theorem range_it {pins : List (Addr × Obj)} {σ : St} {H : Hp} {s : Shared} {R : It → Hp → Prop} {E : Value → Shared → Prop} {lo hi : Int} {t u v : Tok} {tk : Nat} (I : Inv X pins σ H s) (h1 : -(2 ^ 62) ≤ lo) (h2 : lo < 2 ^ 62) (h3 : -(2 ^ 62) ≤ hi) (h4 : hi < 2 ^ 62)
    (q : R (Itr lo (hi - lo).toNat) H) : wpAny (model X.prog X.w) X.A (pyIter (.ref s.heap.objs.size)) (PIE X pins σ tg R) E { s with heap := s.heap.push { cls := .type "range", data := .fields #[.int lo t, .int hi u, .int 1 v] }, toks := tk } := by
  refine wpAny_pyIter_range (IsRange.new ..) (small_one h1 h2 h3 h4) ?_
  have I1 : Inv X pins σ H { s with heap := s.heap.push { cls := .type "range", data := .fields #[.int lo t, .int hi u, .int 1 v] }, toks := tk } := I.kept fun b o e => Heap.get?_push_of_some _ e
  refine ⟨(s.heap.push { cls := .type "range", data := .fields #[.int lo t, .int hi u, .int 1 v] }).objs.size, [(s.heap.push { cls := .type "range", data := .fields #[.int lo t, .int hi u, .int 1 v] }).objs.size], _, _, H, rfl,
    I1.kept (t' := tk) fun b o e => Heap.get?_push_of_some _ e, turn_range _ lo (hi - lo).toNat, ?_, fun b hb => ?_, q⟩
  · have e1 : lo + ((0 : Nat) : Int) * 1 = lo := by simp
    have e2 : (((hi - lo).toNat : Nat) : Int) - ((0 : Nat) : Int) = Builtin.Range.rangeSize lo hi 1 := by rw [rangeSize_one]; split <;> omega
    show IsRangeIter _ _ (lo + ((0 : Nat) : Int) * 1) ((((hi - lo).toNat : Nat) : Int) - ((0 : Nat) : Int)) 1
    rw [e1, e2]
    exact Heap.get?_push_size _ rfl
  · have e : b = (s.heap.push { cls := .type "range", data := .fields #[.int lo t, .int hi u, .int 1 v] }).objs.size := by simpa using hb
    subst e
    exact I1.fpOk (Nat.le_refl _) (I1.hok.fresh (Nat.le_refl _))
def iRng1 (ta : TA) : TI := fun σ H R => ta σ H fun vs H1 => ∃ j : Int, vs = [.int j] ∧ -(2 ^ 62) ≤ j ∧ j < 2 ^ 62 ∧ R (Itr 0 j.toNat) H1
theorem pi_range1 {a : Expr} {ta : TA} {p pos : Pos} (hg : Gl X "range") (hm : X.mg "range" = none) (ha : PA X [a] ta) (hs : starEach [a] X.env = [(false, eval a X.env)] := by rfl) : PI X tg (.Call (.Name "range" p) [a] [] pos) (iRng1 ta) := by
  intro pins s σ H R I h
  refine Call_ (ld_blt I hg hm boot_range (PyProof.Rows.callWith_type1 (thn (ha pos pins s σ H _ I h) fun us s1 ⟨vs, H1, I1, r1, q1⟩ => ?_) hs rfl))
  obtain ⟨j, e, q1, q2, q⟩ := q1
  subst e
  cases r1 with
  | cons r rr =>
    cases rr
    obtain ⟨t, rfl⟩ := r
    exact call_range_1 (range_it I1 (by omega) (by omega) q1 q2 (by simpa using q))
def tFor (wi : TI) (g : TG) (tb : TS) : TS := fun D σ H => wi σ H fun J H1 => ∃ W : Nat → Nat → St → Hp → Prop, (∃ m, W 0 m σ H1) ∧ ∀ i m σ H, W i m σ H →
  (J.stop i H ∧ D.nx σ H) ∨ (J.go i H ∧ ∃ N : St → Hp → Prop, (∀ σ' H', N σ' H' → ∃ m', m' < m ∧ W (i + 1) m' σ' H') ∧ ∀ x H', J.yld i H x H' → g x σ H' fun σ2 H2 => tb { D with nx := N, ct := N, bk := D.nx } σ2 H2)
def pinsAt (fp : List Addr) (h : Heap) : List (Addr × Obj) := fp.filterMap fun b => (h.get? b).map fun o => (b, o)
theorem mem_pinsAt {fp : List Addr} {h : Heap} {b : Addr} {o : Obj} (hb : b ∈ fp) (e : h.get? b = some o) : (b, o) ∈ pinsAt fp h := List.mem_filterMap.mpr ⟨b, hb, by rw [e]; rfl⟩
theorem of_pinsAt {fp : List Addr} {h : Heap} {p : Addr × Obj} (hp : p ∈ pinsAt fp h) : p.1 ∈ fp ∧ h.get? p.1 = some p.2 := by
  obtain ⟨b, hb, e⟩ := List.mem_filterMap.mp hp
  cases q : h.get? b with
  | none => rw [q] at e; cases e
  | some o =>
    rw [q] at e
    have e' : (b, o) = p := Option.some.inj e
    subst e'
    exact ⟨hb, q⟩
theorem Inv.pinned {pins : List (Addr × Obj)} {σ : St} {H : Hp} {s : Shared} {fp : List Addr} (I : Inv X pins σ H s) (hf : ∀ b ∈ fp, FpOk X pins H b) (ho : ∀ b ∈ fp, ∃ o, s.heap.get? b = some o ∧ ∀ v, o.data ≠ .cell v) : Inv X (pins ++ pinsAt fp s.heap) σ H s :=
  I.pins_of fun p hp => (List.mem_append.mp hp).elim (fun z => I.pin p (List.mem_append_right _ z)) fun z => by
    obtain ⟨hb, e⟩ := of_pinsAt z
    obtain ⟨f0, f1, f2, _⟩ := hf p.1 hb
    obtain ⟨o, e', d⟩ := ho p.1 hb
    rw [e] at e'; cases e'
    exact ⟨e, f0, f1, f2, d⟩
theorem Inv.unpinned {pins pl : List (Addr × Obj)} {σ : St} {H : Hp} {s : Shared} (I : Inv X (pins ++ pl) σ H s) : Inv X pins σ H s := I.pins_of fun p hp => I.pin p (List.mem_append_right _ (List.mem_append_left _ hp))
theorem ps_for {iter : Expr} {body : List Stmt} {wi : TI} {g : TG} {tb : TS} {pos : Pos} (hp : PassesOwn (model X.prog X.w) X.A X.env X.xe) (hc : X.calm = true) (hi : PI X tg iter wi) (hg : PG X tg g) (hb : PSs X body tb)
    (hs : ∀ x, foldedSetIterable iter X.env x = pure x := by intro _; rfl) : PS X (.For tg iter body [] pos) (tFor wi g tb) := by
  intro pins s σ H D I h
  refine wpAny_For (thn (hi pins s σ H _ I h) fun v s1 h1 => thn h1 fun itv s2 h2 => ?_) hs
  obtain ⟨it, fp, tn, J, H2, e, I2, T, st2, f2, W, ⟨m0, w0⟩, turn⟩ := h2
  subst e
  -- what stays true of the iterator's objects through the loop
  have stat : ∀ {H' : Hp}, (∀ b ∈ fp, H' b = none) → ∀ b ∈ fp, FpOk X pins H' b := fun hn b hb => ⟨hn b hb, (f2 b hb).2⟩
  refine codeAny_forLoop_any (fun n s' => ∃ i σ' H', Inv X pins σ' H' s' ∧ tn i s'.heap ∧ (∀ b ∈ fp, H' b = none) ∧ W i n σ' H') ?_ m0 ⟨0, σ, H2, I2, st2, fun b hb => (f2 b hb).1, w0⟩
  rintro n s3 ⟨i, σ3, H3, I3, st3, fr3, w3⟩
  rcases turn i n σ3 H3 w3 with ⟨stop, qn⟩ | ⟨go, N, hN, step⟩
  · refine wpAny_passesOwn hp (thn (T.done X rfl rfl rfl hc i pins s3 σ3 H3 X.xe I3 (stat fr3) st3 stop) fun r s4 ⟨hr, I4⟩ => ?_)
    subst hr
    exact wpAny_execs_nil ⟨σ3, H3, I4, qn⟩
  · refine wpAny_passesOwn hp (thn (T.item X rfl rfl rfl hc i pins s3 σ3 H3 X.xe I3 (stat fr3) st3 go) fun r s4 ⟨u, hr, h4⟩ => ?_)
    subst hr
    refine wpAny_passesOwn hp (thn h4 fun _ s5 ⟨x, H5, I5, r5, y5, st5, fr5⟩ => ?_)
    have I5' := I5.pinned (stat fr5) (T.obj _ _ st5)
    refine wpAny_passesOwn hp (thn (hg _ s5 σ3 H5 x u _ I5' r5 (step x H5 y5)) fun _ s6 ⟨σ6, H6, I6, q6⟩ => ?_)
    refine wpAny_passesOwn hp (thn (hb _ s6 σ6 H6 _ I6 q6) fun f s7 q7 => ?_)
    have again : ∀ {σ7 : St} {H7 : Hp}, Inv X (pins ++ pinsAt fp s5.heap) σ7 H7 s7 → N σ7 H7 → ∃ m, m < n ∧ ∃ i σ' H', Inv X pins σ' H' s7 ∧ tn i s7.heap ∧ (∀ b ∈ fp, H' b = none) ∧ W i m σ' H' := fun {σ7 H7} I7 n7 => by
      obtain ⟨m', hm, w7⟩ := hN σ7 H7 n7
      refine ⟨m', hm, i + 1, σ7, H7, I7.unpinned, T.keep _ _ _ st5 fun b hb o e => (I7.pin (b, o) (List.mem_append_right _ (List.mem_append_right _ (mem_pinsAt hb e)))).1, fun b hb => ?_, w7⟩
      obtain ⟨o, e, d⟩ := T.obj _ _ st5 b hb
      exact (I7.pin (b, o) (List.mem_append_right _ (List.mem_append_right _ (mem_pinsAt hb e)))).2.1
    cases f with
    | next => obtain ⟨σ7, H7, I7, n7⟩ := q7; exact again I7 n7
    | cont => obtain ⟨σ7, H7, I7, n7⟩ := q7; exact again I7 n7
    | brk => obtain ⟨σ7, H7, I7, q7⟩ := q7; exact ⟨σ7, H7, I7.unpinned, q7⟩
    | ret v => obtain ⟨x7, σ7, H7, I7, r7, q7⟩ := q7; exact ⟨x7, σ7, H7, I7.unpinned, r7, q7⟩
end

end L2

namespace L2
open PySem PySem.Spec PyProof.Rows

abbrev R2 := V → V → Hp → VK → Prop
def OpR (X : Cx) (f : Value → Value → Sem Value) (r : R2) : Prop :=
  ∀ (pins : List (Addr × Obj)) (s : Shared) (σ : St) (H : Hp) (x y : V) (v u : Value) (Q : VK), Inv X pins σ H s → RelV x v → RelV y u → r x y H Q →
    wpAny (model X.prog X.w) X.A (f v u) (EP X pins σ Q) X.xe s
def UnR (X : Cx) (f : Value → Sem Value) (r : V → Hp → VK → Prop) : Prop :=
  ∀ (pins : List (Addr × Obj)) (s : Shared) (σ : St) (H : Hp) (x : V) (v : Value) (Q : VK), Inv X pins σ H s → RelV x v → r x H Q →
    wpAny (model X.prog X.w) X.A (f v) (EP X pins σ Q) X.xe s
def CallR (X : Cx) (f : Value) (r : List V → Hp → VK → Prop) : Prop :=
  ∀ (pins : List (Addr × Obj)) (s : Shared) (σ : St) (H : Hp) (xs : List V) (us : List Value) (Q : VK), Inv X pins σ H s → Vals xs us → r xs H Q →
    wpAny (model X.prog X.w) X.A (call f us) (EP X pins σ Q) X.xe s
def tOp (r : R2) (ta tb : TE) : TE := fun σ H Q => ta σ H fun x H1 => tb σ H1 fun y H2 => r x y H2 Q
def tUn (r : V → Hp → VK → Prop) (ta : TE) : TE := fun σ H Q => ta σ H fun x H1 => r x H1 Q
def rI (C : Int → Int → Prop) (g : Int → Int → V) : R2 := fun x y H Q => ∃ i j, x = .int i ∧ y = .int j ∧ C i j ∧ Q (g i j) H
def rI0 (g : Int → Int → V) : R2 := fun x y H Q => ∃ i j, x = .int i ∧ y = .int j ∧ Q (g i j) H
def rU (g : Int → V) : V → Hp → VK → Prop := fun x H Q => ∃ i, x = .int i ∧ Q (g i) H

section
variable {X : Cx} {a b c : Expr} {ta tb tc : TE} {pos : Pos}

theorem binT (ha : PE X a ta) (hb : PE X b tb) {pins : List (Addr × Obj)} {s : Shared} {σ : St} {H : Hp} {R : V → V → Hp → Prop} (I : Inv X pins σ H s)
    (h : ta σ H fun x H1 => tb σ H1 fun y H2 => R x y H2) {Q : Value → Shared → Prop} {f : Value → Value → Sem Value}
    (hf : ∀ v u s2 x y H2, Inv X pins σ H2 s2 → RelV x v → RelV y u → R x y H2 → wpAny (model X.prog X.w) X.A (f v u) Q X.xe s2) :
    wpAny (model X.prog X.w) X.A (eval a X.env) (fun v s₁ => wpAny (model X.prog X.w) X.A (eval b X.env) (fun u s₂ => wpAny (model X.prog X.w) X.A (f v u) Q X.xe s₂) X.xe s₁) X.xe s := by
  refine thn (ha pins s σ H _ I h) fun v s1 ⟨x, H1, I1, r1, q1⟩ => ?_
  refine thn (hb pins s1 σ H1 _ I1 q1) fun u s2 ⟨y, H2, I2, r2, q2⟩ => ?_
  exact hf v u s2 x y H2 I2 r1 r2 q2

theorem pe_op {op : Operator} {r : R2} (ho : OpR X (binaryOp op) r) (ha : PE X a ta) (hb : PE X b tb) : PE X (.BinOp a op b pos) (tOp r ta tb) := by
  intro pins s σ H Q I h
  exact wpAny_BinOp (binT ha hb I h fun v u s2 x y H2 I2 rx ry q => ho pins s2 σ H2 x y v u Q I2 rx ry q)
theorem pe_un {op : UnaryOp} {r : V → Hp → VK → Prop} (ho : UnR X (unaryOp op) r) (ha : PE X a ta) : PE X (.UnaryOp op a pos) (tUn r ta) := by
  intro pins s σ H Q I h
  exact UnaryOp_ (thn (ha pins s σ H _ I h) fun v s1 ⟨x, H1, I1, r1, q1⟩ => ho pins s1 σ H1 x v Q I1 r1 q1)
theorem opI {f : Value → Value → Sem Value} {C : Int → Int → Prop} {g : Int → Int → Int}
    (rule : ∀ (i j : Int) (t u : Tok) (s : Shared) (Q : Value → Shared → Prop) (E : Value → Shared → Prop), C i j → Q (.int (g i j) s.toks) { s with toks := s.toks + 1 } → wpAny (model X.prog X.w) X.A (f (.int i t) (.int j u)) Q E s) :
    OpR X f (rI C fun i j => .int (g i j)) := by
  intro pins s σ H x y v u Q I rx ry h
  obtain ⟨i, j, rfl, rfl, hc, q⟩ := h
  obtain ⟨t, rfl⟩ := rx
  obtain ⟨t', rfl⟩ := ry
  exact rule i j t t' s _ _ hc ⟨.int (g i j), H, I.tok _, ⟨_, rfl⟩, q⟩
theorem opI0 {f : Value → Value → Sem Value} {g : Int → Int → Int}
    (rule : ∀ (i j : Int) (t u : Tok) (s : Shared) (Q : Value → Shared → Prop) (E : Value → Shared → Prop), Q (.int (g i j) s.toks) { s with toks := s.toks + 1 } → wpAny (model X.prog X.w) X.A (f (.int i t) (.int j u)) Q E s) :
    OpR X f (rI0 fun i j => .int (g i j)) := by
  intro pins s σ H x y v u Q I rx ry h
  obtain ⟨i, j, rfl, rfl, q⟩ := h
  obtain ⟨t, rfl⟩ := rx
  obtain ⟨t', rfl⟩ := ry
  exact rule i j t t' s _ _ ⟨.int (g i j), H, I.tok _, ⟨_, rfl⟩, q⟩
theorem opB0 {f : Value → Value → Sem Value} {g : Int → Int → Bool}
    (rule : ∀ (i j : Int) (t u : Tok) (s : Shared) (Q : Value → Shared → Prop) (E : Value → Shared → Prop), Q (.bool (g i j)) s → wpAny (model X.prog X.w) X.A (f (.int i t) (.int j u)) Q E s) :
    OpR X f (rI0 fun i j => .bl (g i j)) := by
  intro pins s σ H x y v u Q I rx ry h
  obtain ⟨i, j, rfl, rfl, q⟩ := h
  obtain ⟨t, rfl⟩ := rx
  obtain ⟨t', rfl⟩ := ry
  exact rule i j t t' s _ _ ⟨.bl (g i j), H, I, rfl, q⟩

def CPow (i j : Int) : Prop := 0 ≤ j ∧ j ≤ 1000000 ∧ i.natAbs < 2 ^ 64
def CMul (i j : Int) : Prop := (-(2 ^ 64) < i ∧ i < 2 ^ 64) ∨ (-(2 ^ 64) < j ∧ j < 2 ^ 64)
theorem CMul.ok {i j : Int} (h : CMul i j) : IntMulOk i j := by
  rcases h with ⟨h1, h2⟩ | ⟨h1, h2⟩
  · exact .of_left (intBits_le_64 h1 h2)
  · exact .of_right (intBits_le_64 h1 h2)
theorem op_add : OpR X (binaryOp .Add) (rI0 fun i j => .int (i + j)) := opI0 fun _ _ _ _ _ _ _ q => add_int q
theorem op_sub : OpR X (binaryOp .Sub) (rI0 fun i j => .int (i - j)) := opI0 fun _ _ _ _ _ _ _ q => sub_int q
theorem op_modN : OpR X (binaryOp .Mod) (rI (fun _ j => j ≠ 0) fun i j => .int (i.fmod j)) := opI fun _ _ _ _ _ _ _ hc q => mod_int' hc q
theorem op_pow : OpR X (binaryOp .Pow) (rI CPow fun i j => .int (i ^ j.toNat)) := opI fun _ _ _ _ _ _ _ hc q => pow_int_small hc.1 hc.2.1 hc.2.2 q
theorem unI {f : Value → Sem Value} {g : Int → Int}
    (rule : ∀ (i : Int) (t : Tok) (s : Shared) (Q : Value → Shared → Prop) (E : Value → Shared → Prop), Q (.int (g i) s.toks) { s with toks := s.toks + 1 } → wpAny (model X.prog X.w) X.A (f (.int i t)) Q E s) :
    UnR X f (rU fun i => .int (g i)) := by
  intro pins s σ H x v Q I rx h
  obtain ⟨i, rfl, q⟩ := h
  obtain ⟨t, rfl⟩ := rx
  exact rule i t s _ _ ⟨.int (g i), H, I.tok _, ⟨_, rfl⟩, q⟩
theorem un_neg : UnR X (unaryOp .USub) (rU fun i => .int (-i)) := unI fun _ _ _ _ _ q => neg_int q
end

section
variable {X : Cx} {a b c : Expr} {ta tb tc : TE} {pos : Pos}
theorem op_lt : OpR X (compareOp .Lt) (rI0 fun i j => .bl (decide (i < j))) := opB0 fun _ _ _ _ _ _ _ q => lt_int q
theorem op_gt : OpR X (compareOp .Gt) (rI0 fun i j => .bl (decide (j < i))) := opB0 fun _ _ _ _ _ _ _ q => gt_int q
theorem op_ge : OpR X (compareOp .GtE) (rI0 fun i j => .bl (decide (j ≤ i))) := opB0 fun _ _ _ _ _ _ _ q => ge_int q
theorem nomark (b : Expr) {op : CmpOp} (h : op ≠ .In := by decide) (h2 : op ≠ .NotIn := by decide) : behindInMarks op b = false := by
  have e1 : (op == CmpOp.In) = false := by cases op <;> first | rfl | exact absurd rfl h
  have e2 : (op == CmpOp.NotIn) = false := by cases op <;> first | rfl | exact absurd rfl h2
  cases b <;> simp [behindInMarks, e1, e2]
theorem pe_cmpR {op : CmpOp} {r : R2} (ho : OpR X (compareOp op) r) (ha : PE X a ta) (hb : PE X b tb) (hm : behindInMarks op b = false) : PE X (.Compare a [op] [b] pos) (tOp r ta tb) := by
  intro pins s σ H Q I h
  exact wpAny_Compare1 (binT ha hb I h fun v u s2 x y H2 I2 rx ry q => ho pins s2 σ H2 x y v u Q I2 rx ry q) hm
def tTest (t : TE) : TT := fun σ H Q => t σ H fun x H' => ∃ k, x = .bl k ∧ Q k H'
theorem pt_cmpR {op : CmpOp} {r : R2} (ho : OpR X (compareOp op) r) (ha : PE X a ta) (hb : PE X b tb) (hm : behindInMarks op b = false) : PT X (.Compare a [op] [b] pos) (tTest (tOp r ta tb)) := by
  intro pins s σ H Q I h
  refine wpAny_isTrue_Compare1 (thn (ha pins s σ H _ I h) fun v s1 ⟨x, H1, I1, r1, q1⟩ => thn (hb pins s1 σ H1 _ I1 q1) fun u s2 ⟨y, H2, I2, r2, q2⟩ =>
    thn (ho pins s2 σ H2 x y v u _ I2 r1 r2 q2) fun c s3 ⟨z, H3, I3, r3, k, e, q3⟩ => ?_) hm
  subst e
  cases r3
  exact wpAny_truthy_bool ⟨H3, I3, q3⟩
theorem line63 : (sizeLine : Nat) < 2 ^ 63 := by rw [sizeLine_eq]; decide
theorem vals1 {x : V} {us : List Value} (r : Vals [x] us) : ∃ u, us = [u] ∧ RelV x u := by
  cases r with
  | cons r1 r2 => cases r2; exact ⟨_, rfl, r1⟩
theorem call_abs : CallR X (.builtin "abs") (fun xs H Q => ∃ i, xs = [.int i] ∧ Q (.int (if i < 0 then -i else i)) H) := by
  intro pins s σ H xs us Q I r h
  obtain ⟨i, rfl, q⟩ := h
  obtain ⟨u, rfl, t, rfl⟩ := vals1 r
  exact call_abs_int fun u tk => ⟨.int (if i < 0 then -i else i), H, I.tok _, ⟨_, rfl⟩, q⟩
theorem call_int1 : CallR X (.type "int") (fun xs H Q => (∃ i, xs = [.int i] ∧ Q (.int i) H) ∨ ∃ k, xs = [.bl k] ∧ Q (.int (if k then 1 else 0)) H) := by
  intro pins s σ H xs us Q I r h
  rcases h with ⟨i, rfl, q⟩ | ⟨k, rfl, q⟩
  · obtain ⟨u, rfl, t, rfl⟩ := vals1 r
    exact call_int_int ⟨.int i, H, I, ⟨_, rfl⟩, q⟩
  · obtain ⟨u, rfl, r1⟩ := vals1 r
    cases r1
    exact call_int_bool ⟨.int (if k then 1 else 0), H, I.tok _, ⟨_, rfl⟩, q⟩
end
end L2

namespace L2
open PySem PySem.Spec PyProof.Rows

structure ObjM (h : Heap) (x dx C : Addr) (mA : Str → Option Value) : Prop where
  obj : h.get? x = some (PySem.W.instObj C dx)
  ns : h.Ns1 dx mA
  ne : dx ≠ x

theorem lookIn_ns {h : Heap} {dx : Addr} {mA : Str → Option Value} (n : h.Ns1 dx mA) : ∃ od, h.get? dx = some od ∧ ∀ name, PySem.W.lookIn name od = some (mA name) := by
  obtain ⟨o, es, ep, ho, hd, hk, _, hm⟩ := n
  refine ⟨o, ho, fun name => ?_⟩
  have e := hm name
  unfold nsFind findBy at e
  rw [← Array.find?_toList] at e
  unfold PySem.W.lookIn
  rw [hd]
  dsimp only
  split
  · rename_i y q
    rw [q] at e
    exact congrArg some e
  · rename_i q
    rw [q] at e
    have a : es.toList.any (·.refKey) = false := by
      rw [List.any_eq_false]
      intro y hy
      obtain ⟨z, t, hkey⟩ := hk y (Array.mem_toList_iff.mp hy)
      simp [DictEntry.refKey, hkey]
    have a' : ¬ es.toList.any (·.refKey) = true := by rw [a]; exact Bool.false_ne_true
    rw [if_neg a']
    exact congrArg some e

theorem ObjM.look {h : Heap} {x dx C : Addr} {mA : Str → Option Value} (I : ObjM h x dx C mA) : ∃ od, PySem.W.InstAt h x (PySem.W.instObj C dx) C (some od) ∧ ∀ name, PySem.W.lookIn name od = some (mA name) :=
  let ⟨od, ho, hl⟩ := lookIn_ns I.ns
  ⟨od, ⟨I.obj, rfl, rfl, ho⟩, hl⟩

section
variable {prog : Program} {w : World} {A : Around} {E : Value → Shared → Prop} {s : Shared} {K : PySem.W.Frag} {x dx C f : Addr} {mA : Str → Option Value} {name : Str} {v : Value}

end

section
variable {P : Program} {w : World} {H H' : Hp} {h h' : Heap} {a C dx : Addr} {fs fs' : List (Str × V)}
theorem ins_get (hok : HOk P w H h) (e : H a = some (.ins C dx fs)) : ∃ mA, ObjM h a dx C mA ∧ (∀ f, RelO (fs.lookup f) (mA f)) ∧ PySem.Within mA (fs.map (·.1)) ∧ fs.length ≤ 1000 ∧ H dx = some (.own a) := by
  obtain ⟨d, z, ne, ob, mA, n, r, q⟩ := (show ObjOk P w H h a (.ins C dx fs) from hok a _ e)
  exact ⟨mA, ⟨ob, n, ne⟩, r, q, z, d⟩
end

structure Cls (K : PySem.W.Frag) (C : Addr) : Prop where
  pg : PySem.W.plainGet K C Str.empty = true
  hd : PySem.W.hasDictIn K C = true
  po : PySem.W.plainOver K C = true
  sa : PySem.W.findIn K (.ref C) "__setattr__" = some (some (.builtin "object.__setattr__"))
theorem Cls.get {K : PySem.W.Frag} {C : Addr} (c : Cls K C) (f : Str) : PySem.W.plainGet K C f = true := c.pg
section
variable {X : Cx} {pins : List (Addr × Obj)} {σ : St} {H : Hp} {s : Shared} {a C dx : Addr} {fs : List (Str × V)} {f : Str} {v : V} {A : Around} {E : Value → Shared → Prop}

end

section
variable {X : Cx} {o e value : Expr} {f : Str} {pos pos' tpos : Pos} {ta tv : TE}
end

section
variable {X : Cx} {pins : List (Addr × Obj)} {σ : St} {H : Hp} {s : Shared} {A : Around} {E : Value → Shared → Prop} {Q : Value → Shared → Prop} {c : Value} {b : Bool}
inductive TyOf (K : PySem.W.Frag) (H : Hp) : V → Value → Prop where
  | non : TyOf K H .non (.type "NoneType")
  | bl (x : Bool) : TyOf K H (.bl x) (.type "bool")
  | int (i : Int) : TyOf K H (.int i) (.type "int")
  | str (x : Str) : TyOf K H (.str x) (.type "str")
  | flt (x : UInt64) : TyOf K H (.flt x) (.type "float")
  | lst {a : Addr} {xs : List V} (e : H a = some (.lst xs)) : TyOf K H (.ref a) (.type "list")
  | frz {a : Addr} {o : Obj} {xs : List V} (e : H a = some (.frz o (.lst xs))) : TyOf K H (.ref a) (.type "list")
  | tup {a : Addr} {xs : List V} (e : H a = some (.tup xs)) : TyOf K H (.ref a) (.type "tuple")
  | dK {a : Addr} {kvs : List (Key × V)} (e : H a = some (.dK kvs)) : TyOf K H (.ref a) (.type "dict")
  | dT {a : Addr} {kvs : List (List Key × V)} (e : H a = some (.dT kvs)) : TyOf K H (.ref a) (.type "dict")
  | ins {a C dx : Addr} {fs : List (Str × V)} (e : H a = some (.ins C dx fs)) (cl : Cls K C) (ha : PySem.W.findIn K (.ref C) "__class__" = some (some (.builtin "object.__class__")))
      (hn : PySem.W.specialIn K (.builtin "object.__class__") "__get__" = some (some (.builtin "getset_descriptor.__get__"))) (htk : PySem.W.takesIn K (.builtin "object.__class__") = some true)
      (hm : PySem.W.mroIn K C (.type "object") = some true) : TyOf K H (.ref a) (.ref C)
theorem isinst_ok {x : V} {u t : Value} (I : Inv X pins σ H s) (rx : RelV x u) (ty : TyOf X.K H x t) (e : PySem.W.kitOne X.K t c = some b) (h : ∀ tk, Q (.bool b) { s with toks := tk }) :
    wpAny (model X.prog X.w) A (call (.builtin "isinstance") [u, c]) Q E s := by
  cases ty with
  | non => cases (show u = Value.none from rx); exact PySem.W.kia_one PySem.W.kitx_none I.kIn True.intro e (fun z => nomatch z) h
  | bl y => cases (show u = Value.bool y from rx); exact PySem.W.kia_one PySem.W.kitx_bool I.kIn True.intro e (fun z => nomatch z) h
  | int i => obtain ⟨t, q⟩ := (show ∃ t, u = Value.int i t from rx); cases q; exact PySem.W.kia_one PySem.W.kitx_int I.kIn True.intro e (fun z => nomatch z) h
  | str y => obtain ⟨t, q⟩ := (show ∃ t, u = Value.str y t from rx); cases q; exact PySem.W.kia_one PySem.W.kitx_str I.kIn True.intro e (fun z => nomatch z) h
  | flt y => obtain ⟨t, q⟩ := (show ∃ t, u = Value.float y t from rx); cases q; exact PySem.W.kia_one PySem.W.kitx_float I.kIn True.intro e (fun z => nomatch z) h
  | @lst a xs ea =>
    cases (show u = Value.ref a from rx)
    obtain ⟨_, _, n, _, h1⟩ := (show ObjOk X.prog X.w H s.heap a (.lst xs) from I.hok a _ ea)
    exact PySem.W.kia_one PySem.W.kitx_list I.kIn ⟨_, h1, rfl⟩ e (fun z => nomatch z) h
  | @frz a ob xs ea =>
    cases (show u = Value.ref a from rx)
    obtain ⟨_, _, _, n, _, h1⟩ := (show ObjOk X.prog X.w H s.heap a (.frz ob (.lst xs)) from I.hok a _ ea)
    exact PySem.W.kia_one PySem.W.kitx_list I.kIn ⟨_, h1, rfl⟩ e (fun z => nomatch z) h
  | @tup a xs ea =>
    cases (show u = Value.ref a from rx)
    obtain ⟨_, _, _, p⟩ := (show ObjOk X.prog X.w H s.heap a (.tup xs) from I.hok a _ ea)
    obtain ⟨o, h1, h2, _⟩ := p
    exact PySem.W.kia_one PySem.W.kitx_tuple I.kIn ⟨o, h1, h2⟩ e (fun z => nomatch z) h
  | @dK a kvs ea =>
    cases (show u = Value.ref a from rx)
    obtain ⟨_, _, vs, _, p⟩ := (show ObjOk X.prog X.w H s.heap a (.dK kvs) from I.hok a _ ea)
    obtain ⟨o, es, ep, h1, h2, _⟩ := p
    exact PySem.W.kia_one PySem.W.kitx_dict I.kIn ⟨o, h1, h2.1⟩ e (fun z => nomatch z) h
  | @dT a kvs ea =>
    cases (show u = Value.ref a from rx)
    obtain ⟨_, _, xs, _, o, es, ep, h1, h2, _⟩ := (show ObjOk X.prog X.w H s.heap a (.dT kvs) from I.hok a _ ea)
    exact PySem.W.kia_one PySem.W.kitx_dict I.kIn ⟨o, h1, h2.1⟩ e (fun z => nomatch z) h
  | @ins a C dx fs ea cl ha hn htk hm =>
    cases (show u = Value.ref a from rx)
    obtain ⟨mA, O, _⟩ := ins_get I.hok ea
    obtain ⟨od, J, _⟩ := O.look
    exact PySem.W.kia_one (PySem.W.kitx_own (cl.get _) cl.hd ha hn htk hm) I.kIn J e (fun z => nomatch z) h
end
end L2

namespace L2
open PySem PySem.Spec PyProof.Rows

structure Room (k : Nat) (A : Around) : Prop where
  hd : A.handled = none
  dp : A.depth + 3 * k + 5 < recursionLimit
  un : A.units + 16 * k + 200 < cLine
theorem Room.mono {j k : Nat} {A : Around} (r : Room k A) (h : j ≤ k) : Room j A := ⟨r.hd, by have := r.dp; omega, by have := r.un; omega⟩
theorem Room.deeper {k : Nat} {A : Around} (r : Room (k + 1) A) (env : Env) : Room k (A.deeper env) :=
  ⟨r.hd, by have := r.dp; show A.depth + 1 + 3 * k + 5 < _; omega, by have := r.un; show A.units + 3 + 16 * k + 200 < _; omega⟩
theorem Room.in1 {k : Nat} {A : Around} (r : Room (k + 1) A) : Room k A.in1 :=
  ⟨r.hd, by have := r.dp; show A.depth + 3 * k + 5 < _; omega, by have := r.un; show A.units + 1 + 16 * k + 200 < _; omega⟩
theorem make_depth {A : Around} {C : Addr} {us : List Value} {kw : List (Str × Value)} : (A.under (.builtin "type.__call__" ⟨.ref C :: us, kw⟩)).depth = A.depth + 1 := by
  first | rfl | simp [Around.under, Code.weight, Code.isCreation, Code.isGuard, Code.isCaller, Code.frames, Code.isFrame, guardIds]
theorem make_units {A : Around} {C : Addr} {us : List Value} {kw : List (Str × Value)} : (A.under (.builtin "type.__call__" ⟨.ref C :: us, kw⟩)).units = A.units + 1 := by
  first | rfl | simp [Around.under, Code.cUnits, Code.frames, Code.isFrame]
theorem Room.make {k : Nat} {A : Around} (r : Room (k + 1) A) (C : Addr) (us : List Value) (kw : List (Str × Value)) : Room k (A.under (.builtin "type.__call__" ⟨.ref C :: us, kw⟩)) :=
  ⟨r.hd, by have := r.dp; rw [make_depth]; omega, by have := r.un; rw [make_units]; omega⟩
theorem Room.depth {k : Nat} {A : Around} (r : Room k A) : A.depth < recursionLimit := by have := r.dp; omega
theorem Room.units {k : Nat} {A : Around} (r : Room k A) : A.units + 64 < cLine := by have := r.un; omega
def tNil : TA := fun _ H Q => Q [] H
def tCons (ta : TE) (tr : TA) : TA := fun σ H Q => ta σ H fun x H1 => tr σ H1 fun xs H2 => Q (x :: xs) H2
section
variable {X : Cx} {e : Expr} {es : List Expr} {te : TE} {t : TA} {pos : Pos}
theorem pa_nil : PA X [] tNil := fun _ _ _ _ H Q I h => Calls.spliced_nil ⟨[], H, I, .nil, h⟩
theorem pa_cons (ha : PE X e te) (hr : PA X es t) (hs : starEach (e :: es) X.env = (false, eval e X.env) :: starEach es X.env := by rfl) : PA X (e :: es) (tCons te t) := by
  intro pos pins s σ H Q I h
  rw [hs]
  show wpAny _ _ (spliced ((false, eval e X.env) :: backTo pos (starEach es X.env))) _ _ s
  refine Calls.spliced_cons (thn (ha pins s σ H _ I h) fun u s1 ⟨x, H1, I1, r1, q1⟩ => ?_)
  exact thn (hr pos pins s1 σ H1 _ I1 q1) fun us s2 ⟨xs, H2, I2, r2, q2⟩ => ⟨x :: xs, H2, I2, .cons r1 r2, q2⟩

def tTup (t : TA) : TE := fun σ H Q => t σ H fun xs H1 => xs.length ≤ sizeLine ∧ ∀ p, H1 p = none → Q (.ref p) (upd H1 p (.tup xs))
def tLst (t : TA) : TE := fun σ H Q => t σ H fun xs H1 => xs.length ≤ sizeLine ∧ ∀ p, H1 p = none → Q (.ref p) (upd H1 p (.lst xs))
theorem pe_tup {x1} (h : PA X es t) : PE X (.Tuple es x1 pos) (tTup t) := by
  intro pins s σ H Q I hq
  refine wpAny_Tuple_spliced (thn (h pos pins s σ H _ I hq) fun us s1 ⟨xs, H1, I1, r, z, q⟩ => ⟨by rw [← r.length]; exact z, ?_⟩)
  have hf : H1 s1.heap.objs.size = none := I1.hok.fresh (Nat.le_refl _)
  refine ⟨.ref s1.heap.objs.size, upd H1 s1.heap.objs.size (.tup xs), I1.laid (t' := s1.toks) (fun b u e => Heap.get?_push_of_some _ e) (Nat.le_refl _) ?_, rfl, q _ hf⟩
  exact ⟨z, us, r, ⟨_, Heap.get?_push_size _ rfl, rfl, _, rfl⟩⟩
theorem pe_lst (h : PA X es t) : PE X (.List es pos) (tLst t) := by
  intro pins s σ H Q I hq
  refine wpAny_List_spliced (thn (h pos pins s σ H _ I hq) fun us s1 ⟨xs, H1, I1, r, z, q⟩ => ⟨by rw [← r.length]; exact z, ?_⟩)
  have hf : H1 s1.heap.objs.size = none := I1.hok.fresh (Nat.le_refl _)
  refine ⟨.ref s1.heap.objs.size, upd H1 s1.heap.objs.size (.lst xs), I1.laid (t' := s1.toks) (fun b u e => Heap.get?_push_of_some _ e) (Nat.le_refl _) ?_, rfl, q _ hf⟩
  exact ⟨z, us, 0, r, Heap.get?_push_size _ rfl⟩
end

abbrev Sp := List V → Hp → VK → XK → Prop
abbrev CXT := List Env → Hp → Shared → XK → Value → Shared → Prop

structure Env0 (P : Program) (w : World) (K : PySem.W.Frag) (mg : Str → Option Value) (base : Heap) (A : Around) (outer : List Env) (s : Shared) (H : Hp) : Prop where
  frames : A.frames = some outer
  mod : Mod K mg base
  bs : ∀ b o, base.get? b = some o → s.heap.get? b = some o ∧ H b = none
  bsz : base.objs.size ≤ s.heap.objs.size
  funs : s.heap.FunFrames base outer
  frf : ∀ b ∈ frs outer, H b = none
  hok : HOk P w H s.heap
  bare : AllBare s.gens
def CE (outer : List Env) (P : Program) (w : World) (H : Hp) (s : Shared) (Q : VK) (u : Value) (s' : Shared) : Prop :=
  ∃ v H', s'.os = s.os ∧ AllBare s'.gens ∧ Un (frs outer) [] H H' s.heap s'.heap ∧ HOk P w H' s'.heap ∧ RelV v u ∧ Q v H'
def CR (CX : CXT) (outer : List Env) (P : Program) (w : World) (H : Hp) (s : Shared) (Q : VK) (E : XK) (r : Result) (s' : Shared) : Prop :=
  match r with
  | .ok (.ret u) => CE outer P w H s Q u s'
  | .ok _ => False
  | .error e => CX outer H s E e s'
structure FnOk (P : Program) (w : World) (K : PySem.W.Frag) (mg : Str → Option Value) (base : Heap) (CX : CXT) (k : Nat) (f : Addr) (fd : FuncData) (ps : List Str) (sp : Sp) : Prop where
  len : ∀ vs H Q E, sp vs H Q E → vs.length = ps.length
  run : ∀ (A : Around) (outer : List Env) (s : Shared) (H : Hp) (args : Args) (us : List Value) (vs : List V) (Q : VK) (E : XK), Room k A → Env0 P w K mg base A outer s H → BindsTo s fd args (ps.zip us) → Vals vs us → sp vs H Q E →
    codeAny (model P w) A (.call (.ref f) args) (CR CX outer P w H s Q E) s
theorem FnOk.mono {P : Program} {w : World} {K : PySem.W.Frag} {mg : Str → Option Value} {base : Heap} {CX : CXT} {j k : Nat} {f : Addr} {fd : FuncData} {ps : List Str} {sp : Sp} (F : FnOk P w K mg base CX j f fd ps sp) (h : j ≤ k) :
    FnOk P w K mg base CX k f fd ps sp := ⟨F.len, fun A outer s H args us vs Q E hr => F.run A outer s H args us vs Q E (hr.mono h)⟩
theorem FnOk.imp {P : Program} {w : World} {K : PySem.W.Frag} {mg : Str → Option Value} {base : Heap} {CX : CXT} {k : Nat} {f : Addr} {fd : FuncData} {ps : List Str} {sp sp' : Sp} (F : FnOk P w K mg base CX k f fd ps sp)
    (h : ∀ vs H Q E, sp' vs H Q E → sp vs H Q E) : FnOk P w K mg base CX k f fd ps sp' :=
  ⟨fun vs H Q E q => F.len vs H Q E (h _ _ _ _ q), fun A outer s H args us vs Q E hr he hb hv hs => F.run A outer s H args us vs Q E hr he hb hv (h _ _ _ _ hs)⟩

theorem Env0.make {P : Program} {w : World} {K : PySem.W.Frag} {mg : Str → Option Value} {base : Heap} {A : Around} {outer : List Env} {s : Shared} {H : Hp} (e : Env0 P w K mg base A outer s H) (C : Addr) (us : List Value) (kw : List (Str × Value)) :
    Env0 P w K mg base (A.under (.builtin "type.__call__" ⟨.ref C :: us, kw⟩)) outer s H := ⟨by first | exact e.frames | (simpa [Around.under, Code.envs, Code.isFrame, pushEnvs] using e.frames), e.mod, e.bs, e.bsz, e.funs, e.frf, e.hok, e.bare⟩
theorem Env0.in1 {P : Program} {w : World} {K : PySem.W.Frag} {mg : Str → Option Value} {base : Heap} {A : Around} {outer : List Env} {s : Shared} {H : Hp} (e : Env0 P w K mg base A outer s H) :
    Env0 P w K mg base A.in1 outer s H := ⟨e.frames, e.mod, e.bs, e.bsz, e.funs, e.frf, e.hok, e.bare⟩

section
variable {X : Cx} {pins : List (Addr × Obj)} {σ : St} {H : Hp} {s s' : Shared}
theorem Inv.env0 (I : Inv X pins σ H s) : Env0 X.prog X.w X.K X.mg X.base X.A X.stack s H :=
  ⟨I.ok.frames, I.ok.mod, I.bs, Nat.le_trans I.ok.bsz I.sz, I.stack, I.stkFree, I.hok, I.bare⟩
theorem Inv.after {Q : VK} {u : Value} (I : Inv X pins σ H s) (h : CE X.stack X.prog X.w H s Q u s') : EP X pins σ Q u s' := by
  obtain ⟨v, H', os, bare, un, hok, r, q⟩ := h
  obtain ⟨hh, g, d, t, os'⟩ := s'
  obtain rfl : os' = s.os := os
  exact ⟨v, H', I.call (h' := hh) (g' := g) (d' := d) (t' := t) (ch := []) un hok bare (fun b z => absurd z (by simp)), r, q⟩
end

def tCall (sp : Sp) (dvs : List V) (E : XK) (t : TA) : TE := fun σ H Q => t σ H fun vs H1 => sp (vs ++ dvs) H1 Q E
def Binds (K : PySem.W.Frag) (fd : FuncData) (ps : List Str) (ds : List Value) : Prop :=
  ∀ (s : Shared) (us : List Value), K.In s.heap → (us ++ ds).length = ps.length → BindsTo s fd ⟨us, []⟩ (ps.zip (us ++ ds))
theorem Binds.all {K : PySem.W.Frag} {fd : FuncData} {ps : List Str} (h : ∀ us : List Value, us.length = ps.length → bindArgs fd ⟨us, []⟩ = pure (ps.zip us)) : Binds K fd ps [] := fun s us _ hl => by
  rw [List.append_nil] at hl ⊢
  exact .of_eq (h us hl)

def Passes (CX : CXT) (X : Cx) (E : XK) : Prop := ∀ (pins : List (Addr × Obj)) (σ : St) (H : Hp) (s : Shared) (e : Value) (s' : Shared), Inv X pins σ H s → CX X.stack H s E e s' → X.xe e s'

section
variable {X : Cx} {CX : CXT} {k : Nat} {f C : Addr} {fd : FuncData} {ps : List Str} {sp : Sp} {dvs : List V} {ds : List Value} {E : XK} {x m : Str} {p pos apos : Pos} {e o : Expr} {es : List Expr} {ta : TE} {t : TA}

theorem run_fn {pins : List (Addr × Obj)} {σ : St} {H : Hp} {s : Shared} {Q : VK} {us : List Value} {vs : List V} (F : FnOk X.prog X.w X.K X.mg X.base CX k f fd ps sp) (hr : Room k X.A) (hb : Binds X.K fd ps ds) (hd : Vals dvs ds) (hx : Passes CX X E)
    (I : Inv X pins σ H s) (r : Vals vs us) (h : sp (vs ++ dvs) H Q E) : wpAny (model X.prog X.w) X.A (call (.ref f) us) (EP X pins σ Q) X.xe s := by
  have r2 : Vals (vs ++ dvs) (us ++ ds) := r.append hd
  have hl : (us ++ ds).length = ps.length := by rw [← r2.length]; exact F.len _ _ _ _ h
  refine wpAny_call (codeAny_mono (F.run X.A X.stack s H ⟨us, []⟩ (us ++ ds) (vs ++ dvs) Q E hr I.env0 (hb s us I.kIn hl) r2 h) fun r s' hq => ?_)
  cases r with
  | error e => exact hx pins σ H s e s' I hq
  | ok fl =>
    cases fl with
    | ret u => exact I.after hq
    | next => exact False.elim hq
    | brk => exact False.elim hq
    | cont => exact False.elim hq

theorem pe_call (F : FnOk X.prog X.w X.K X.mg X.base CX k f fd ps sp) (hr : Room k X.A) (hg : Gl X x) (hm : X.mg x = some (.ref f)) (hk : PySem.W.keepIn X.K (.ref f) = true) (hb : Binds X.K fd ps ds) (hd : Vals dvs ds) (hx : Passes CX X E)
    (ha : PA X (e :: es) t) (hdb : (x == ("__debug__" : Str)) = false := by decide) (he : starEach (e :: es) X.env = (false, eval e X.env) :: starEach es X.env := by rfl) (hpl : (backTo pos (starEach es X.env)).any (·.1) = false := by rfl) :
    PE X (.Call (.Name x p) (e :: es) [] pos) (tCall sp dvs E t) := by
  intro pins s σ H Q I h
  refine wpAny_Call_Name_kw (ld_glob I hg hm ?_ hdb)
  refine PySem.W.callWith_K (h₀ := X.base) I.ok.mod.kin hk (thn (ha pos pins s σ H _ I h) fun us s1 ⟨vs, H1, I1, r, q⟩ => ⟨I1.kIn, ?_⟩) he hpl
  exact run_fn F hr hb hd hx I1 r q
end

section
variable {X : Cx} {CX : CXT} {k : Nat} {f C : Addr} {fd : FuncData} {ps ks : List Str} {sp : Sp} {E : XK} {x m : Str} {p pos apos kpos : Pos} {e o : Expr} {es : List Expr} {kws : List Keyword} {te ta : TE} {t tk : TA} {nm : Option Str}
variable {g : List Value → List Value → List Value} {gV : List V → List V → List V}
end

structure FnScope (N P : List Str) (sc : Scope) : Prop where
  kind : sc.kind = .function
  co : sc.isCoroutine = false
  gen : sc.isGenerator = false
  nd : N.Nodup
  pre : N.take P.length = P
  par : ∀ x ∈ P, sc.names.lookup x = some .local ∨ sc.names.lookup x = some .cell
  nofree : ∀ y ∈ sc.names, y.2 ≠ .free

theorem bindL_out {kindOf : Str → Option NameKind} {x : Str} : ∀ {binds : List (Str × Value)} {m : Str → Option Value}, (∀ v, (x, v) ∉ binds) → bindL kindOf binds m x = m x
  | [], _, _ => rfl
  | (n, v) :: r, m, h => by
    unfold bindL
    rw [bindL_out fun w hw => h w (List.mem_cons_of_mem _ hw)]
    split
    · have : x ≠ n := by rintro rfl; exact h v List.mem_cons_self
      simp [this]
    · rfl
theorem bindC_out {kindOf : Str → Option NameKind} {x : Str} : ∀ {binds : List (Str × Value)} {m : Str → Option Value}, (∀ v, (x, v) ∉ binds) → bindC kindOf binds m x = m x
  | [], _, _ => rfl
  | (n, v) :: r, m, h => by
    unfold bindC
    rw [bindC_out fun w hw => h w (List.mem_cons_of_mem _ hw)]
    split
    · rfl
    · have : x ≠ n := by rintro rfl; exact h v List.mem_cons_self
      simp [this]
theorem bindL_get {kindOf : Str → Option NameKind} {x : Str} {v : Value} : ∀ {P : List Str} {vs : List Value} {i : Nat} {m : Str → Option Value}, P.Nodup → P[i]? = some x → vs[i]? = some v → kindOf x = some .local →
    bindL kindOf (P.zip vs) m x = some v
  | [], _, _, _, _, h, _, _ => by simp at h
  | _ :: _, [], _, _, _, _, h, _ => by simp at h
  | p :: P, w :: vs, 0, m, nd, h1, h2, hk => by
    simp at h1 h2; subst h1; subst h2
    show bindL kindOf ((p, w) :: P.zip vs) m p = _
    unfold bindL
    rw [bindL_out fun v hv => (List.nodup_cons.mp nd).1 (List.of_mem_zip hv).1, if_pos hk]
    simp
  | p :: P, w :: vs, i + 1, m, nd, h1, h2, hk => by
    show bindL kindOf ((p, w) :: P.zip vs) m x = _
    unfold bindL
    exact bindL_get (i := i) (List.nodup_cons.mp nd).2 (by simpa using h1) (by simpa using h2) hk
theorem bindC_get {kindOf : Str → Option NameKind} {x : Str} {v : Value} : ∀ {P : List Str} {vs : List Value} {i : Nat} {m : Str → Option Value}, P.Nodup → P[i]? = some x → vs[i]? = some v → kindOf x ≠ some .local →
    bindC kindOf (P.zip vs) m x = some v
  | [], _, _, _, _, h, _, _ => by simp at h
  | _ :: _, [], _, _, _, _, h, _ => by simp at h
  | p :: P, w :: vs, 0, m, nd, h1, h2, hk => by
    simp at h1 h2; subst h1; subst h2
    show bindC kindOf ((p, w) :: P.zip vs) m p = _
    unfold bindC
    rw [bindC_out fun v hv => (List.nodup_cons.mp nd).1 (List.of_mem_zip hv).1, if_neg hk]
    simp
  | p :: P, w :: vs, i + 1, m, nd, h1, h2, hk => by
    show bindC kindOf ((p, w) :: P.zip vs) m x = _
    unfold bindC
    exact bindC_get (i := i) (List.nodup_cons.mp nd).2 (by simpa using h1) (by simpa using h2) hk

def start (N : List Str) (vs : List V) : St := vs.map some ++ List.replicate (N.length - vs.length) none

def cxOf (CX : CXT) (P : Program) (w : World) (K : PySem.W.Frag) (mg : Str → Option Value) (base : Heap) (N : List Str) (qual : Str) (scope : Scope) (f : Addr) (cd : Value) (A : Around) (outer : List Env) (s : Shared) (H : Hp) (E : XK) : Cx where
  prog := P
  w := w
  K := K
  mg := mg
  base := base
  A := A.deeper (envOfC qual scope s.heap.objs.size f cd)
  N := N
  s₀ := s
  H₀ := H
  env := envOfC qual scope s.heap.objs.size f cd
  outer := outer
  stack := envOfC qual scope s.heap.objs.size f cd :: outer
  ex := []
  calm := true
  fn := fun _ => true
  pn := []
  xe := fun e s' => wpAny (model P w) (A.deeper (envOfC qual scope s.heap.objs.size f cd)) (leaving (envOfC qual scope s.heap.objs.size f cd) e) (fun _ s'' => CX outer H s E e s'') (fun e' s'' => CX outer H s E e' s'') s'

theorem cell_has {sc : Scope} {n : Nat} {x : Str} (h : sc.names.lookup x = some .cell) : ∃ c, (cellsFrom n sc.names []).lookup x = some c := by
  have q := PySem.W.cellsFrom_some sc.names n [] (.inl h)
  exact Option.isSome_iff_exists.mp q

theorem inv_start {CX : CXT} {P : Program} {w : World} {K : PySem.W.Frag} {mg : Str → Option Value} {base : Heap} {N ps : List Str} {qual : Str} {scope : Scope} {f : Addr} {cd : Value} {A : Around} {outer : List Env} {s s1 : Shared} {H : Hp} {E : XK} {us : List Value} {vs : List V}
    (S : FnScope N ps scope) (hd : A.handled = none) (e0 : Env0 P w K mg base A outer s H) (hl : vs.length = ps.length) (r : Vals vs us)
    (x : InCallC s s.heap.objs.size (bindL (envOfC qual scope s.heap.objs.size f cd).kindOf (ps.zip us) fun _ => none) (cellsFrom (s.heap.objs.size + 1) scope.names []) (bindC (envOfC qual scope s.heap.objs.size f cd).kindOf (ps.zip us) fun _ => none) s1) :
    Inv (cxOf CX P w K mg base N qual scope f cd A outer s H E) [] (start N vs) H s1 := by
  have hpl : ps.length ≤ N.length := by have := congrArg List.length S.pre; rw [List.length_take] at this; omega
  obtain ⟨h1, tk, rfl, hk⟩ := x.done
  have noA : ∀ b : Addr, b ∉ (cxOf CX P w K mg base N qual scope f cd A outer s H E).ex := fun b z => absurd (show b ∈ ([] : List Addr) from z) (by simp)
  refine ⟨⟨e0.mod, S.kind, rfl, rfl, Nat.le_refl _, fun y z c h1 h2 => ?_, fun y hy => ?_, fun y c _ h => ?_, fun _ => hd, Around.frames_deeper e0.frames, .inr ⟨rfl, rfl⟩, fun b z => absurd z (noA b), e0.bs, e0.bsz, fun b _ _ => noA b, fun b z => absurd z (noA b), e0.funs, e0.frf⟩,
    rfl, e0.bare, Un.kept hk, ⟨_, x.toInCall.ns, fun i y v h1 h2 h3 => ?_⟩, fun y c h => ⟨_, x.cell y c h⟩, e0.hok.fresh (Nat.le_refl _), fun y c h => ?_, fun p hp => absurd (show p ∈ ([] : List (Addr × Obj)) from hp) (by simp), e0.hok.kept hk, ?_⟩
  · exact name_of_addr x.apart (PySem.mem_of_lookup h1) (PySem.mem_of_lookup h2)
  · have hy : scope.names.lookup y = some .cell ∨ scope.names.lookup y = some .free := hy
    rcases hy with hy | hy
    · exact cell_has hy
    · exact absurd rfl (S.nofree _ (PySem.mem_of_lookup hy))
  · exact Nat.le_of_lt (x.above y c (PySem.mem_of_lookup h))
  · have hi : i < vs.length := by
      unfold start at h2
      by_cases hi : i < vs.length
      · exact hi
      · rw [List.getElem?_append_right (by simpa using hi)] at h2
        rw [List.getElem?_replicate] at h2
        split at h2 <;> cases h2
    have ha : vs[i]? = some v := by
      unfold start at h2
      rw [List.getElem?_append_left (by simpa using hi), List.getElem?_map] at h2
      cases e : vs[i]? with
      | none => rw [e] at h2; cases h2
      | some a => rw [e] at h2; cases h2; rfl
    obtain ⟨u, hu, rv⟩ := r.get ha
    have hp : ps[i]? = some y := by
      rw [← S.pre, List.getElem?_take_of_lt (by omega)]; exact h1
    have ndP : ps.Nodup := by rw [← S.pre]; exact S.nd.sublist (List.take_sublist _ _)
    refine ⟨u, rv, ?_⟩
    rcases S.par y (List.mem_of_getElem? hp) with k | k
    · exact .inl ⟨k, bindL_get ndP hp hu k⟩
    · obtain ⟨c, e⟩ := cell_has (n := s.heap.objs.size + 1) k
      refine .inr ⟨.inl k, c, e, ?_⟩
      have q := x.cell y c e
      rw [bindC_get ndP hp hu (by show scope.names.lookup y ≠ _; rw [k]; decide)] at q
      exact q
  · exact e0.hok.fresh (Nat.le_of_lt (x.above y c (PySem.mem_of_lookup h)))
  · unfold start
    show _ = N.length
    rw [List.length_append, List.length_map, List.length_replicate]
    omega

theorem fn_of {CX : CXT} {P : Program} {w : World} {K : PySem.W.Frag} {mg : Str → Option Value} {base : Heap} {k : Nat} {f : Addr} {name qual : Str} {params : Arguments} {body : List Stmt} {scope : Scope} {dV kV doc pm cdv ct oc : Value} {an od : Option Addr}
    {osl : Array (Option Value)} {N ps : List Str} {sp : Sp} (lk : K.lookup f = some ⟨oc, od, .func (PySem.W.fnOf name qual params body scope dV kV doc pm an cdv ct), osl⟩) (hcd : PySem.W.codeIn K cdv qual = true) (S : FnScope N ps scope)
    (len : ∀ vs H Q E, sp vs H Q E → vs.length = ps.length)
    (hbody : ∀ (A : Around) (outer : List Env) (s : Shared) (H : Hp) (vs : List V) (Q : VK) (E : XK), Room k (A.deeper (envOfC qual scope s.heap.objs.size f cdv)) → sp vs H Q E →
      ∃ t, PSs (cxOf CX P w K mg base N qual scope f cdv A outer s H E) body t ∧ t { nx := fun _ H' => Q .non H', rt := Q } (start N vs) H) :
    FnOk P w K mg base CX (k + 1) f (PySem.W.fnOf name qual params body scope dV kV doc pm an cdv ct) ps sp := by
  refine ⟨len, fun A outer s H args us vs Q E hr e0 hb r hsp => ?_⟩
  have hl := len _ _ _ _ hsp
  have KX : K.In s.heap := e0.mod.kin.keeps fun b o e => (e0.bs b o e).1
  have lim : s.heap.NoLimit := e0.mod.nolimit.keeps fun b o e => (e0.bs b o e).1
  have hkind : ∀ y ∈ ps.zip us, scope.names.lookup y.1 = some .local ∨ (scope.names.lookup y.1 = some .cell ∧ ((cellsFrom (s.heap.objs.size + 1) scope.names []).lookup y.1).isSome = true) := fun ⟨n, v⟩ hy => by
    rcases S.par n (List.of_mem_zip hy).1 with q | q
    · exact .inl q
    · exact .inr ⟨q, PySem.W.cellsFrom_some _ _ _ (.inl q)⟩
  refine codeAny_call_function hr.depth (KX _ _ lk) rfl S.co S.gen rfl (PySem.W.codeRec_of KX hcd) (hb _ _ _ _ ?_)
  refine wpAny_newFunctionEnv_cells S.kind hkind fun env he s1 x => ?_
  subst he
  refine ⟨lim.keeps x.toInCall.keep, codeAny_func ?_⟩
  obtain ⟨t, ht, hq⟩ := hbody A outer s H vs Q E (hr.deeper _) hsp
  have I : Inv (cxOf CX P w K mg base N qual scope f cdv A outer s H E) [] (start N vs) H s1 := inv_start S hr.hd e0 hl r x
  refine wpAny_mono (ht [] s1 (start N vs) H _ I hq) (fun fl s' hs => ?_) fun e s' hs => hs
  have fin : ∀ {σ' : St} {H' : Hp} {v : V} {u : Value}, Inv (cxOf CX P w K mg base N qual scope f cdv A outer s H E) [] σ' H' s' → RelV v u → Q v H' → CE outer P w H s Q u s' :=
    fun {σ' H' v u} J rv q => ⟨v, H', J.os, J.bare, J.base, J.hok, rv, q⟩
  cases fl with
  | ret u =>
    obtain ⟨v, σ', H', J, rv, q⟩ := hs
    exact fin J rv q
  | next =>
    obtain ⟨σ', H', J, q⟩ := hs
    exact fin (v := V.non) (u := Value.none) J rfl q
  | brk =>
    obtain ⟨_, _, _, q⟩ := hs
    exact False.elim q
  | cont =>
    obtain ⟨_, _, _, q⟩ := hs
    exact False.elim q
end L2

namespace L2
open PySem PySem.Spec PyProof.Rows
section
variable {X : Cx} {x : Str} {p pos : Pos} {e : Expr} {es : List Expr} {t : TA} {id T : String} {r : List V → Hp → VK → Prop}

def tCB (r : List V → Hp → VK → Prop) (t : TA) : TE := fun σ H Q => t σ H fun vs H1 => r vs H1 Q
theorem pe_callB (hc : CallR X (.builtin id) r) (hg : Gl X x) (hm : X.mg x = none) (hv : bootBuiltins x = some (.builtin id)) (ha : PA X (e :: es) t) (hn : x ≠ "__name__" := by decide) (hdb : (x == ("__debug__" : Str)) = false := by decide)
    (he : starEach (e :: es) X.env = (false, eval e X.env) :: starEach es X.env := by rfl) (hpl : (backTo pos (starEach es X.env)).any (·.1) = false := by rfl) : PE X (.Call (.Name x p) (e :: es) [] pos) (tCB r t) := by
  intro pins s σ H Q I h
  refine wpAny_Call_Name_kw (ld_blt I hg hm hv ?_ hn hdb)
  exact PyProof.Rows.callWith_builtin1 (thn (ha pos pins s σ H _ I h) fun us s1 ⟨vs, H1, I1, r1, q1⟩ => hc pins s1 σ H1 vs us Q I1 r1 q1) he hpl
theorem pe_callTy (hc : CallR X (.type T) r) (hg : Gl X x) (hm : X.mg x = none) (hv : bootBuiltins x = some (.type T)) (ha : PA X (e :: es) t) (hn : x ≠ "__name__" := by decide) (hdb : (x == ("__debug__" : Str)) = false := by decide)
    (he : starEach (e :: es) X.env = (false, eval e X.env) :: starEach es X.env := by rfl) (hpl : (backTo pos (starEach es X.env)).any (·.1) = false := by rfl) : PE X (.Call (.Name x p) (e :: es) [] pos) (tCB r t) := by
  intro pins s σ H Q I h
  refine wpAny_Call_Name_kw (ld_blt I hg hm hv ?_ hn hdb)
  exact PyProof.Rows.callWith_type1 (thn (ha pos pins s σ H _ I h) fun us s1 ⟨vs, H1, I1, r1, q1⟩ => hc pins s1 σ H1 vs us Q I1 r1 q1) he hpl
end
end L2

namespace HT
open PySem PyProof.Rows

section
open PySem.SeqAt
open PySem.AutoSeq1 (wpAny_loadPart')
open PySem.MeetsSeq PySem.MeetsSeq2 PySem.MeetsSeq3

end

section
variable {prog : Program} {w : World} {A : Around} {E : Value → Shared → Prop} {s : Shared}

theorem cat_tup {t b : Addr} {vs ws : List Value} {Q : Value → Shared → Prop} (ht : IsTup s.heap t vs.toArray) (hb : IsTup s.heap b ws.toArray) (hv : vs ≠ [])
    (h1 : ws = [] → Q (.ref t) s) (h2 : ws ≠ [] → Q (.ref s.heap.objs.size) { s with heap := s.heap.push { cls := .type "tuple", data := .seq (vs ++ ws).toArray } })
    (hsz : vs.length + ws.length ≤ sizeLine) : wpAny (model prog w) A (binaryOp .Add (.ref t) (.ref b)) Q E s := by
  obtain ⟨⟨cls, dd, data, sl⟩, ho, hc, n, hd⟩ := id ht
  obtain ⟨⟨cls2, dd2, data2, sl2⟩, ho2, hc2, n2, hd2⟩ := id hb
  simp only at hc hd hc2 hd2
  subst hc hd hc2 hd2
  have e : vs.toArray ++ ws.toArray = (vs ++ ws).toArray := by simp
  by_cases hw : ws = []
  · exact concat_meets ⟨_, ho, rfl⟩ ⟨_, ho2, rfl⟩ noFill_tuple_add seq_tuple_add PySem.F.slot_tuple_add PySem.F.entry_tuple_add (PySem.F.args_tuple_add_2 _ _)
      (tuple_addW1 t b vs.toArray ws.toArray n n2 dd dd2 sl sl2 (by simpa using hv) (by simp [hw])) ⟨ho, ho2, h1 hw⟩
  · refine concat_meets ⟨_, ho, rfl⟩ ⟨_, ho2, rfl⟩ noFill_tuple_add seq_tuple_add PySem.F.slot_tuple_add PySem.F.entry_tuple_add (PySem.F.args_tuple_add_2 _ _)
      (tuple_addW2 t b vs.toArray ws.toArray n n2 dd dd2 sl sl2 (by simpa using hv) (by simpa using hw) (by rw [List.size_toArray, List.size_toArray]; exact hsz)) ⟨ho, ho2, ?_⟩
    rw [e]
    exact h2 hw

def sIx (n d : Nat) : Option Int → Nat
  | none => d
  | some v => if v < 0 then (v + (n : Int)).toNat else min v.toNat n
end
end HT

namespace L2
open PySem PySem.Spec PyProof.Rows

abbrev TO := St → Hp → (Option Int → Hp → Prop) → Prop
def PO (X : Cx) (e : Option Expr) (t : TO) : Prop :=
  ∀ (pins : List (Addr × Obj)) (s : Shared) (σ : St) (H : Hp) (Q : Option Int → Hp → Prop), Inv X pins σ H s → t σ H Q →
    wpAny (model X.prog X.w) X.A (evalPart e X.env) (fun u s' => ∃ o H', Inv X pins σ H' s' ∧ IsPart u o ∧ Q o H') X.xe s
def tNoPart : TO := fun _ H Q => Q none H
def tPart (t : TE) : TO := fun σ H Q => t σ H fun x H1 => ∃ i, x = .int i ∧ Q (some i) H1

section
variable {X : Cx} {e : Expr} {te : TE} {lo hi : Option Expr} {tl th : TO} {pos p2 : Pos}

theorem po_none : PO X none tNoPart := by
  intro pins s σ H Q I h
  rw [evalPart_none]
  exact wpAny_pure ⟨none, H, I, .none, h⟩
theorem po_some (h : PE X e te) : PO X (some e) (tPart te) := by
  intro pins s σ H Q I hw
  rw [evalPart_some]
  refine thn (h pins s σ H _ I hw) fun u s1 ⟨x, H1, I1, r1, q1⟩ => ?_
  obtain ⟨i, rfl, q⟩ := q1
  obtain ⟨t, rfl⟩ := r1
  exact ⟨some i, H1, I1, .int i t, q⟩

def SlR (X : Cx) (r : V → Option Int → Option Int → Hp → VK → Prop) : Prop :=
  ∀ (pins : List (Addr × Obj)) (s : Shared) (σ : St) (H : Hp) (x : V) (v vl vu : Value) (lo hi : Option Int) (sl : Addr) (Q : VK), Inv X pins σ H s → RelV x v → s.heap.IsSliceOf sl vl vu .none → IsPart vl lo → IsPart vu hi → r x lo hi H Q →
    ∃ T id, typeLookup (.type T) "__getitem__" = pure (some (.builtin id)) ∧ s.TypeIs v T ∧ wpAny (model X.prog X.w) X.A (getItem v (.ref sl)) (EP X pins σ Q) X.xe s
def tSl (r : V → Option Int → Option Int → Hp → VK → Prop) (te : TE) (tl th : TO) : TE := fun σ H Q => te σ H fun x H1 => tl σ H1 fun l H2 => th σ H2 fun u H3 => r x l u H3 Q
theorem pe_slice {r : V → Option Int → Option Int → Hp → VK → Prop} (hr : SlR X r) (he : PE X e te) (hl : PO X lo tl) (hu : PO X hi th) : PE X (.Subscript e (.Slice lo hi none p2) pos) (tSl r te tl th) := by
  intro pins s σ H Q I h
  refine Subscript_ (thn (he pins s σ H _ I h) fun v s1 ⟨x, H1, I1, r1, q1⟩ => ?_)
  refine wpAny_Slice (thn (hl pins s1 σ H1 _ I1 q1) fun vl s2 ⟨l, H2, I2, pl, q2⟩ => thn (hu pins s2 σ H2 _ I2 q2) fun vu s3 ⟨u, H3, I3, pu, q3⟩ => ?_)
  rw [evalPart_none]
  refine wpAny_pure ?_
  have I4 : Inv X pins σ H3 { s3 with heap := s3.heap.push { cls := .type "slice", data := .fields #[vl, vu, .none] } } := I3.kept (t' := s3.toks) fun b ob q => Heap.get?_push_of_some _ q
  obtain ⟨T, id, hT, ht, hg⟩ := hr pins { s3 with heap := s3.heap.push { cls := .type "slice", data := .fields #[vl, vu, .none] } } σ H3 x v vl vu l u s3.heap.objs.size Q I4 r1 (Heap.IsSliceOf.new ..) pl pu q3
  show wpAny (model X.prog X.w) X.A (subscriptTail e (.Slice lo hi none p2) v (.ref s3.heap.objs.size)) (EP X pins σ Q) X.xe { s3 with heap := s3.heap.push { cls := .type "slice", data := .fields #[vl, vu, .none] } }
  exact tail_any (ops := [.ref s3.heap.objs.size, v]) ht hT hg (by with_unfolding_all rfl)

def cutV (xs : List V) (lo hi : Option Int) : List V := (xs.drop (HT.sIx xs.length 0 lo)).take (HT.sIx xs.length xs.length hi - HT.sIx xs.length 0 lo)
theorem cutV_length (xs : List V) (lo hi : Option Int) : (cutV xs lo hi).length ≤ xs.length := by
  unfold cutV
  rw [List.length_take, List.length_drop]
  omega
def rCatT (K : PySem.W.Frag) : R2 := fun x y H Q => ∃ a b xs ys, x = .ref a ∧ y = .ref b ∧ SqT K H a xs ∧ SqT K H b ys ∧ xs ≠ [] ∧ xs.length + ys.length ≤ sizeLine ∧
  (ys = [] → Q (.ref a) H) ∧ (ys ≠ [] → ∀ p, H p = none → Q (.ref p) (upd H p (.tup (xs ++ ys))))
theorem Vals.nil_iff {xs : List V} {us : List Value} (r : Vals xs us) : us = [] ↔ xs = [] := by
  cases r with
  | nil => simp
  | cons _ _ => simp
theorem op_catT : OpR X (binaryOp .Add) (rCatT X.K) := by
  intro pins s σ H x y v u Q I rx ry h
  obtain ⟨a, b, xs, ys, rfl, rfl, ha, hb, hx, hz, q1, q2⟩ := h
  cases rx
  cases ry
  obtain ⟨its, r1, p1, _⟩ := I.tuple ha
  obtain ⟨its2, r2, p2, _⟩ := I.tuple hb
  refine HT.cat_tup p1 p2 (fun z => hx (r1.nil_iff.mp z)) (fun z => ⟨.ref a, H, I, rfl, q1 (r2.nil_iff.mp z)⟩) (fun z => ?_) (by rw [← r1.length, ← r2.length]; exact hz)
  refine ⟨.ref s.heap.objs.size, _, I.laid (t' := s.toks) (o := .tup (xs ++ ys)) (fun b ob q => Heap.get?_push_of_some _ q) (Nat.le_refl _) ?_, rfl, q2 (fun w => z (r2.nil_iff.mpr w)) _ (I.hok.fresh (Nat.le_refl _))⟩
  exact ⟨by rw [List.length_append]; exact hz, _, r1.append r2, IsTup.new _ _⟩
end
end L2

namespace L2
open PySem PySem.Spec PyProof.Rows

def ixN (n : Nat) (i : Int) : Option Nat := if 0 ≤ i then (if i < n then some i.toNat else none) else if -(n : Int) ≤ i then some (i + n).toNat else none
def atI {α : Type} (xs : List α) (i : Int) : Option α := (ixN xs.length i).bind fun j => xs[j]?
theorem ixN_seq {n : Nat} {i : Int} {j : Nat} (h : ixN n i = some j) : seqIndex? i n = some j ∧ j < n ∧ -(n : Int) ≤ i ∧ i < n := by
  unfold ixN at h
  by_cases h0 : 0 ≤ i
  · rw [if_pos h0] at h
    by_cases h1 : i < n
    · rw [if_pos h1] at h
      have e : i.toNat = j := Option.some.inj h
      exact ⟨by rw [seqIndex_of h0 h1, e], by omega, by omega, h1⟩
    · rw [if_neg h1] at h; cases h
  · rw [if_neg h0] at h
    by_cases h1 : -(n : Int) ≤ i
    · rw [if_pos h1] at h
      have e : (i + n).toNat = j := Option.some.inj h
      exact ⟨by rw [seqIndex_neg (by omega) h1, e], by omega, h1, by omega⟩
    · rw [if_neg h1] at h; cases h
theorem atI_get {α : Type} {xs : List α} {i : Int} {v : α} (h : atI xs i = some v) : ∃ j, seqIndex? i xs.length = some j ∧ xs[j]? = some v ∧ j < xs.length ∧ -(xs.length : Int) ≤ i ∧ i < xs.length := by
  unfold atI at h
  cases e : ixN xs.length i with
  | none => rw [e] at h; cases h
  | some j =>
    rw [e] at h
    obtain ⟨h1, h2, h3, h4⟩ := ixN_seq e
    exact ⟨j, h1, h, h2, h3, h4⟩
theorem atI_nat {α : Type} {xs : List α} {j : Nat} {v : α} (h : xs[j]? = some v) : atI xs (j : Int) = some v := by
  have hj : j < xs.length := (List.getElem?_eq_some_iff.mp h).1
  have e : ixN xs.length (j : Int) = some j := by
    unfold ixN
    rw [if_pos (by omega), if_pos (by omega)]; simp
  unfold atI; rw [e]; exact h
def PlainIx (b : Expr) : Prop := ∀ o i, subscripted b false o i = operate [o, i] (getItem o i)
def IxR (X : Cx) (r : R2) : Prop :=
  ∀ (value slice : Expr) (pins : List (Addr × Obj)) (s : Shared) (σ : St) (H : Hp) (x y : V) (v u : Value) (Q : VK), Inv X pins σ H s → RelV x v → RelV y u → r x y H Q →
    subscripted slice false v u = operate [v, u] (getItem v u) → wpAny (model X.prog X.w) X.A (subscriptTail value slice v u) (EP X pins σ Q) X.xe s
def MtR (X : Cx) (id : String) (r : V → List V → Hp → VK → Prop) : Prop :=
  ∀ (pins : List (Addr × Obj)) (s : Shared) (σ : St) (H : Hp) (x : V) (xs : List V) (v : Value) (us : List Value) (Q : VK), Inv X pins σ H s → RelV x v → Vals xs us → r x xs H Q →
    wpAny (model X.prog X.w) X.A (call (.builtin id) (v :: us)) (EP X pins σ Q) X.xe s
section
variable {X : Cx} {a b : Expr} {ta tb : TE} {pos : Pos}
theorem pe_ix {r : R2} (hr : IxR X r) (ha : PE X a ta) (hb : PE X b tb) (hs : PlainIx b) : PE X (.Subscript a b pos) (tOp r ta tb) := by
  intro pins s σ H Q I h
  exact Subscript_ (binT ha hb I h fun v u s2 x y H2 I2 rx ry q => hr a b pins s2 σ H2 x y v u Q I2 rx ry q (hs _ _))

def rIxL (K : PySem.W.Frag) : R2 := fun x y H Q => ∃ p xs i v, x = .ref p ∧ y = .int i ∧ SqL K H p xs ∧ atI xs i = some v ∧ Q v H
def rIxT (K : PySem.W.Frag) : R2 := fun x y H Q => ∃ p xs i v, x = .ref p ∧ y = .int i ∧ SqT K H p xs ∧ atI xs i = some v ∧ Q v H
theorem ix_list : IxR X (rIxL X.K) := by
  intro value slice pins s σ H x y v u Q I rx ry h hs
  obtain ⟨p, xs, i, z, rfl, rfl, hq, he, q⟩ := h
  cases rx
  obtain ⟨t, rfl⟩ := ry
  obtain ⟨its, r, pl, hz⟩ := I.list hq
  obtain ⟨j, h1, h2, h3, h4, h5⟩ := atI_get he
  obtain ⟨w, ew, rw'⟩ := r.get h2
  have hl := r.length
  have hn := line63
  have fin : EP X pins σ Q w s := ⟨z, H, I, rw', q⟩
  by_cases h0 : 0 ≤ i
  · have hj : i.toNat = j := by
      rw [seqIndex_of h0 h5] at h1
      exact Option.some.inj h1
    exact item_listR pl.isList h0 (by omega) (by rw [hj]; simpa using ew) fin hs
  · have hj : (i + (its.toArray.size : Int)).toNat = j := by
      rw [seqIndex_neg (by omega) h4] at h1
      rw [List.size_toArray, ← hl]
      exact Option.some.inj h1
    exact subscriptTail_builtinR (x := w) pl.isList.typeIs slot_list_getitem.lookup
      (wpAny_getItem_list_neg (Q := fun r s' => r = w ∧ EP X pins σ Q r s') pl.isList (by omega) (by rw [List.size_toArray] <;> omega) (by omega) (by rw [hj]; simpa using ew) ⟨rfl, fin⟩) hs
theorem ix_tup : IxR X (rIxT X.K) := by
  intro value slice pins s σ H x y v u Q I rx ry h hs
  obtain ⟨p, xs, i, z, rfl, rfl, hq, he, q⟩ := h
  cases rx
  obtain ⟨t, rfl⟩ := ry
  obtain ⟨its, r, pl, hz⟩ := I.tuple hq
  obtain ⟨j, h1, h2, h3, h4, h5⟩ := atI_get he
  obtain ⟨w, ew, rw'⟩ := r.get h2
  have hl := r.length
  have hn := line63
  have fin : EP X pins σ Q w s := ⟨z, H, I, rw', q⟩
  exact subscriptTail_builtinR (x := w) pl.typeIs slot_tuple_getitem.lookup
    (getItem_tuple (j := j) (Q := fun r s' => r = w ∧ EP X pins σ Q r s') pl (by omega) (by omega) (by rw [List.size_toArray, ← hl]; exact h1) (by simpa using ew) ⟨rfl, fin⟩) hs
theorem mapSeq_set (its : List Value) (n j : Nat) (u : Value) : Obj.mapSeq (·.setIfInBounds j u) { cls := .type "list", data := .seq its.toArray n } = { cls := .type "list", data := .seq (its.set j u).toArray n } := by
  simp [Obj.mapSeq]
theorem Inv.lst {pins : List (Addr × Obj)} {σ : St} {H : Hp} {s : Shared} {p : Addr} {xs : List V} (I : Inv X pins σ H s) (h : H p = some (.lst xs)) :
    ∃ (its : List Value) (n : Nat), Vals xs its ∧ s.heap.get? p = some { cls := .type "list", data := .seq its.toArray n } ∧ xs.length ≤ sizeLine := by
  obtain ⟨z, its, n, r, e⟩ := I.hok p _ h
  exact ⟨its, n, r, e, z⟩
theorem Inv.lstUpd {pins : List (Addr × Obj)} {σ : St} {H : Hp} {s : Shared} {p : Addr} {xs ys : List V} {its its' : List Value} {n n' : Nat} {f : Obj → Obj} (I : Inv X pins σ H s) (h : H p = some (.lst xs))
    (ho : s.heap.get? p = some { cls := .type "list", data := .seq its.toArray n }) (hf : f { cls := .type "list", data := .seq its.toArray n } = { cls := .type "list", data := .seq its'.toArray n' }) (r : Vals ys its') (hz : ys.length ≤ sizeLine) (t : Nat) :
    Inv X pins σ (upd H p (.lst ys)) { s with heap := s.heap.update p f, toks := t } := by
  have e : (s.heap.update p f).get? p = some { cls := .type "list", data := .seq its'.toArray n' } := by
    rw [Heap.get?_update_self f ho (by rw [hf] <;> rfl), hf]
  refine I.write (x := p) (e := p) (by rw [h]; trivial) (.inl rfl) (fun b u hb q => (Heap.get?_update_other _ _ (Ne.symm hb)).trans q) ⟨_, e⟩ ?_
  exact ⟨hz, its', n', r, e⟩
def rSetL : V → V → V → Hp → (Hp → Prop) → Prop := fun o i v H Q => ∃ p xs k j, o = .ref p ∧ i = .int k ∧ H p = some (.lst xs) ∧ ixN xs.length k = some j ∧ Q (upd H p (.lst (xs.set j v)))
theorem set_list : PSet X rSetL := by
  intro pins s σ H o i v ov iv u Q I ro ri rv h
  obtain ⟨p, xs, k, j, rfl, rfl, hp, hj, q⟩ := h
  cases ro
  obtain ⟨t, rfl⟩ := ri
  obtain ⟨its, n, r, ho, hz⟩ := I.lst hp
  obtain ⟨h1, h2, h3, h4⟩ := ixN_seq hj
  have hl := r.length
  have hn := line63
  have I' : Inv X pins σ (upd H p (.lst (xs.set j v))) { s with heap := s.heap.update p (Obj.mapSeq (·.setIfInBounds j u)) } :=
    I.lstUpd hp ho (mapSeq_set its n j u) (r.set rv j) (by rw [List.length_set]; exact hz) s.toks
  by_cases h0 : 0 ≤ k
  · have hk : k.toNat = j := by
      rw [seqIndex_of h0 h4] at h1
      exact Option.some.inj h1
    exact PySem.W.ki_setAt ho h0 (by omega) (by rw [List.size_toArray, ← hl]; exact h4) (by rw [hk]; exact ⟨_, I', q⟩)
  · have hk : (k + (its.toArray.size : Int)).toNat = j := by
      rw [seqIndex_neg (by omega) h3] at h1
      rw [List.size_toArray, ← hl]
      exact Option.some.inj h1
    exact PySem.W.ki_setBack ho (by omega) (by rw [List.size_toArray, ← hl]; exact h3) (by omega) (by rw [hk]; exact ⟨_, I', q⟩)

theorem slice_bounds (lo hi : Option Int) (n : Nat) : (sliceBounds lo hi none n).1 = ((HT.sIx n 0 lo : Nat) : Int) ∧ (sliceBounds lo hi none n).2.1 = ((HT.sIx n n hi : Nat) : Int) ∧ (sliceBounds lo hi none n).2.2 = 1 := by
  refine ⟨?_, ?_, rfl⟩
  · cases lo with
    | none => simp [sliceBounds, HT.sIx]
    | some i =>
      simp only [sliceBounds, HT.sIx, Option.getD_none, show (1 : Int) > 0 by decide, if_true]
      by_cases h : i < 0
      · simp only [h, if_true] <;> omega
      · simp only [h, if_false] <;> omega
  · cases hi with
    | none => simp [sliceBounds, HT.sIx]
    | some i =>
      simp only [sliceBounds, HT.sIx, Option.getD_none, show (1 : Int) > 0 by decide, if_true]
      by_cases h : i < 0
      · simp only [h, if_true] <;> omega
      · simp only [h, if_false] <;> omega
theorem slicePick_cut (its : List Value) (lo hi : Option Int) : slicePick its.toArray lo hi none = ((its.drop (HT.sIx its.length 0 lo)).take (HT.sIx its.length its.length hi - HT.sIx its.length 0 lo)).toArray := by
  obtain ⟨h1, h2, h3⟩ := slice_bounds lo hi its.toArray.size
  unfold slicePick
  rw [h1, h2, h3]
  simp only [sliceRange_one, pick_run, List.size_toArray] <;> rfl
def rSlL (K : PySem.W.Frag) : V → Option Int → Option Int → Hp → VK → Prop := fun x lo hi H Q => ∃ a xs, x = .ref a ∧ SqL K H a xs ∧ ∀ p, H p = none → Q (.ref p) (upd H p (.lst (cutV xs lo hi)))
theorem sl_list : SlR X (rSlL X.K) := by
  intro pins s σ H x v vl vu lo hi sl Q I rx hs pl pu h
  obtain ⟨a, xs, rfl, hx, q⟩ := h
  cases rx
  obtain ⟨its, r, ht, hz⟩ := I.list hx
  have hlen := r.length
  refine ⟨"list", _, slot_list_getitem.lookup, ht.isList.typeIs, ?_⟩
  refine wpAny_getItem_list_slice ht.isList hs pl pu .none (by simp) ?_ (by rw [List.size_toArray] <;> omega)
  rw [slicePick_cut, ← hlen]
  refine ⟨.ref s.heap.objs.size, _, I.laid (t' := s.toks) (o := .lst (cutV xs lo hi)) (fun b ob q => Heap.get?_push_of_some _ q) (Nat.le_refl _) ?_, rfl, q _ (I.hok.fresh (Nat.le_refl _))⟩
  exact ⟨Nat.le_trans (cutV_length xs lo hi) hz, _, 0, (r.drop (HT.sIx xs.length 0 lo)).take (HT.sIx xs.length xs.length hi - HT.sIx xs.length 0 lo), Heap.get?_push_size _ rfl⟩

def flatV : V → Bool
  | .non => true
  | .bl _ => true
  | .int _ => true
  | .str _ => true
  | _ => false
def eqV : V → V → Bool
  | .non, .non => true
  | .bl a, .bl b => a == b
  | .bl a, .int b => (if a then 1 else 0) == b
  | .int a, .bl b => a == (if b then 1 else 0)
  | .int a, .int b => a == b
  | .str a, .str b => a == b
  | _, _ => false
theorem eqAt_V {A : Around} {s : Shared} {y x : V} {u v : Value} (ry : RelV y u) (rx : RelV x v) (fy : flatV y = true) (fx : flatV x = true) : SeqAt.EqAt A s u v (eqV y x) := by
  cases y with
  | non =>
    cases ry
    cases x with
    | non => cases rx; exact SeqAt.EqAt.same _
    | bl b => cases rx; exact SeqAt.EqAt.none_bool b
    | int b => obtain ⟨t, rfl⟩ := rx; exact SeqAt.EqAt.none_int b t
    | str b => obtain ⟨t, rfl⟩ := rx; exact SeqAt.EqAt.none_str b t
    | _ => exact absurd (show false = true from fx) Bool.false_ne_true
  | bl a =>
    cases ry
    cases x with
    | non => cases rx; exact SeqAt.EqAt.bool_none a
    | bl b => cases rx; exact SeqAt.EqAt.bool_bool a b
    | int b => obtain ⟨t, rfl⟩ := rx; exact SeqAt.EqAt.bool_int a b t
    | str b => obtain ⟨t, rfl⟩ := rx; exact SeqAt.EqAt.bool_str a b t
    | _ => exact absurd (show false = true from fx) Bool.false_ne_true
  | int a =>
    obtain ⟨t', rfl⟩ := ry
    cases x with
    | non => cases rx; exact SeqAt.EqAt.int_none a t'
    | bl b => cases rx; exact SeqAt.EqAt.int_bool a t' b
    | int b => obtain ⟨t, rfl⟩ := rx; exact SeqAt.EqAt.int_int a t' b t
    | str b => obtain ⟨t, rfl⟩ := rx; exact SeqAt.EqAt.int_str a t' b t
    | _ => exact absurd (show false = true from fx) Bool.false_ne_true
  | str a =>
    obtain ⟨t', rfl⟩ := ry
    cases x with
    | non => cases rx; exact SeqAt.EqAt.str_none a t'
    | bl b => cases rx; exact SeqAt.EqAt.str_bool a t' b
    | int b => obtain ⟨t, rfl⟩ := rx; exact SeqAt.EqAt.str_int a t' b t
    | str b => obtain ⟨t, rfl⟩ := rx; exact SeqAt.EqAt.str_str a t' b t
    | _ => exact absurd (show false = true from fx) Bool.false_ne_true
  | _ => exact absurd (show false = true from fy) Bool.false_ne_true
def tyV (K : PySem.W.Frag) (T : String) (x : V) (H : Hp) : Prop := match x with
  | .str _ => T = "str"
  | .int _ => T = "int"
  | .ref p => (T = "list" ∧ ∃ xs, SqL K H p xs) ∨ (T = "tuple" ∧ ∃ o, K.lookup p = some o ∧ o.cls = .type "tuple" ∧ o.dict = none) ∨
      (T = "dict" ∧ ((∃ kvs, H p = some (.dK kvs)) ∨ ∃ kvs, H p = some (.dT kvs))) ∨ (T = "set" ∧ ∃ S n, H p = some (.set S n))
  | _ => False
theorem tyV_is {pins : List (Addr × Obj)} {σ : St} {H : Hp} {s : Shared} {T : String} {x : V} {v : Value} (I : Inv X pins σ H s) (r : RelV x v) (ty : tyV X.K T x H) :
    s.TypeIs v T ∧ ∀ a, v = .ref a → ∃ ob, s.heap.get? a = some ob ∧ ob.dict = none := by
  cases x with
  | str z =>
    obtain ⟨t, rfl⟩ := r
    cases (show T = "str" from ty)
    exact ⟨typeIs_str s z t, fun _ e => nomatch e⟩
  | int i =>
    obtain ⟨t, rfl⟩ := r
    cases (show T = "int" from ty)
    exact ⟨typeIs_int s i t, fun _ e => nomatch e⟩
  | ref p =>
    cases r
    rcases ty with ⟨rfl, xs, hq⟩ | ⟨rfl, o, hk, hc, hd⟩ | ⟨rfl, hk⟩ | ⟨rfl, S, n, hk⟩
    · obtain ⟨its, _, pl, _⟩ := I.list hq
      refine ⟨pl.isList.typeIs, fun a e => ?_⟩
      cases e
      obtain ⟨o, n, e, c, hd, _⟩ := pl
      exact ⟨o, e, hd⟩
    · refine ⟨⟨o, I.kIn p o hk, hc⟩, fun a e => ?_⟩
      cases e
      exact ⟨o, I.kIn _ o hk, hd⟩
    · have z : ∃ o, s.heap.get? p = some o ∧ o.ExactDict := by
        rcases hk with ⟨kvs, hk⟩ | ⟨kvs, hk⟩
        · obtain ⟨_, _, _, _, o, _, _, e, ex, _⟩ := I.hok p _ hk
          exact ⟨o, e, ex⟩
        · obtain ⟨_, _, _, _, o, _, _, e, ex, _⟩ := I.hok p _ hk
          exact ⟨o, e, ex⟩
      obtain ⟨o, e, ex⟩ := z
      refine ⟨⟨o, e, ex.1⟩, fun a e2 => ?_⟩
      cases e2
      exact ⟨o, e, ex.2.1⟩
    · obtain ⟨o, _, _, _, e, ex, _⟩ := I.hok p _ hk
      refine ⟨⟨o, e, ex.1⟩, fun a e2 => ?_⟩
      cases e2
      exact ⟨o, e, ex.2.1⟩
  | _ => exact False.elim ty
def tBM (K : PySem.W.Frag) (T : String) (r : V → List V → Hp → VK → Prop) (to : TE) (t : TA) : TE := fun σ H Q => to σ H fun x H1 => tyV K T x H1 ∧ t σ H1 fun xs H2 => r x xs H2 Q
variable {o e : Expr} {es : List Expr} {to : TE} {t : TA} {name : Str} {apos cpos : Pos} {T id : String} {r : V → List V → Hp → VK → Prop}
theorem pe_bm (pa : PlainAttrs T) (slot : Slot T name id) (hty : typeOf (.builtin id) = pure (.type "method_descriptor")) (hm : MtR X id r) (ho : PE X o to) (ha : PA X (e :: es) t)
    (hbase : attributeBase o name X.env (eval o X.env) = eval o X.env := by rfl)
    (hfew : ((backTo cpos (starEach (e :: es) X.env)).all (fun x => !x.1) && (backToKw cpos (keywordEach [] X.env)).all (fun x => x.1.isSome)
      && decide ((e :: es).length + ([] : List Keyword).length + (if ([] : List Keyword).isEmpty then 0 else 1) < 30)) = true := by rfl)
    (hline : (apos.endLine == cpos.line) = true := by rfl) (hs : starEach (e :: es) X.env = (false, eval e X.env) :: starEach es X.env := by rfl) (hplain : (backTo cpos (starEach es X.env)).any (·.1) = false := by rfl) :
    PE X (.Call (.Attribute o name apos) (e :: es) [] cpos) (tBM X.K T r to t) := by
  intro pins s σ H Q I h
  refine wpAny_Call_method_late hbase hfew hline rfl (thn (ho pins s σ H _ I h) fun v s1 ⟨x, H1, I1, r1, ty, q1⟩ => ?_)
  obtain ⟨h1, h2⟩ := tyV_is I1 r1 ty
  refine ⟨T, id, pa, slot, hty, h1, h2, ?_⟩
  have hA := ha cpos pins s1 σ H1 _ I1 q1
  rw [hs] at hA ⊢
  refine Calls.callWith_builtin (by show (false || (backTo cpos (starEach es X.env)).any (·.1)) = false; rw [hplain] <;> rfl) (Calls.evalArgs_plain ?_)
  exact thn hA fun us s2 ⟨vs, H2, I2, r2, q2⟩ => hm pins s2 σ H2 x vs v us Q I2 r1 r2 q2
end
end L2

namespace L2
open PySem PySem.Spec PyProof.Rows

def MtM (X : Cx) (id : String) (r : V → List V → Hp → VK → Prop) : Prop :=
  ∀ (pins : List (Addr × Obj)) (s : Shared) (σ : St) (H : Hp) (x : V) (xs : List V) (v : Value) (us : List Value) (Q : VK), Inv X pins σ H s → RelV x v → Vals xs us → r x xs H Q →
    wpAny (model X.prog X.w) X.A (call (.builtin id) (v :: us)) (EP X pins σ Q) X.xe s

theorem Vals.one : ∀ {x : V} {us : List Value}, Vals [x] us → ∃ u, us = [u] ∧ RelV x u
  | _, _, .cons r .nil => ⟨_, rfl, r⟩
theorem Vals.two : ∀ {x y : V} {us : List Value}, Vals [x, y] us → ∃ u v, us = [u, v] ∧ RelV x u ∧ RelV y v
  | _, _, _, .cons r (.cons q .nil) => ⟨_, _, rfl, r, q⟩
theorem Vals.zero : ∀ {us : List Value}, Vals [] us → us = []
  | _, .nil => rfl
theorem Vals.dropLast {xs : List V} {us : List Value} (h : Vals xs us) : Vals xs.dropLast us.dropLast := by
  induction h with
  | nil => exact .nil
  | cons r t ih =>
    cases t with
    | nil => exact .nil
    | cons q t' => exact .cons r ih
theorem Vals.reverse {xs : List V} {us : List Value} (h : Vals xs us) : Vals xs.reverse us.reverse := by
  induction h with
  | nil => exact .nil
  | cons r t ih => rw [List.reverse_cons, List.reverse_cons]; exact Vals.append ih (.cons r .nil)
section
variable {X : Cx} {pins : List (Addr × Obj)} {σ : St} {H : Hp} {s : Shared} {l b : Addr} {xs ys zs : List V}

theorem Inv.lset {its its' : List Value} {n : Nat} {f : Array Value → Array Value} {t' : Nat} (I : Inv X pins σ H s) (hH : H l = some (.lst xs))
    (e : s.heap.get? l = some { cls := .type "list", data := .seq its.toArray n }) (hf : f its.toArray = its'.toArray) (hv : Vals ys its') (hz : ys.length ≤ sizeLine) :
    Inv X pins σ (upd H l (.lst ys)) { s with heap := s.heap.update l (Obj.mapSeq f), toks := t' } := by
  have q := PySem.IsL.update e f
  rw [hf] at q
  refine I.write (x := l) (e := l) (by rw [hH]; exact trivial) (.inl rfl) (fun b' u hb hu => (Heap.get?_update_other s.heap (Obj.mapSeq f) (Ne.symm hb)).trans hu) ⟨_, q⟩ ?_
  exact ⟨hz, its', _, hv, q⟩
theorem Inv.lnew {its : List Value} {t' : Nat} (I : Inv X pins σ H s) (hv : Vals ys its) (hz : ys.length ≤ sizeLine) :
    Inv X pins σ (upd H s.heap.objs.size (.lst ys)) { s with heap := s.heap.push { cls := .type "list", data := .seq its.toArray }, toks := t' } :=
  I.laid (fun _ _ q => Heap.get?_push_of_some _ q) (Nat.le_refl _) ⟨hz, its, 0, hv, Heap.get?_push_size _ rfl⟩
theorem Inv.fresh (I : Inv X pins σ H s) : H s.heap.objs.size = none := I.hok.fresh (Nat.le_refl _)
theorem Inv.lstM (I : Inv X pins σ H s) (hH : H l = some (.lst xs)) : xs.length ≤ sizeLine ∧ ∃ (its : List Value) (n : Nat), Vals xs its ∧ xs.length = its.length ∧ s.heap.get? l = some { cls := .type "list", data := .seq its.toArray n } := by
  obtain ⟨z, its, n, r, e⟩ := I.hok l _ hH
  exact ⟨z, its, n, r, r.length, e⟩

end

section
variable {X : Cx}

def rAppend : V → List V → Hp → VK → Prop := fun x vs H Q => ∃ l xs y, x = .ref l ∧ vs = [y] ∧ H l = some (.lst xs) ∧ xs.length < sizeLine ∧ Q .non (upd H l (.lst (xs ++ [y])))
theorem mt_append : MtM X "list.append" rAppend := by
  intro pins s σ H x vs v us Q I rx rv h
  obtain ⟨l, xs, y, rfl, rfl, hH, hz, q⟩ := h
  cases rx
  obtain ⟨u, rfl, ru⟩ := rv.one
  obtain ⟨z, its, n, r, hl, e⟩ := I.lstM hH
  refine call_meets F.slot_list_append ⟨_, e, rfl⟩ F.entry_list_append (F.args_list_append_2 _ _) (PySem.list_append l its.toArray n u (by rw [List.size_toArray]; omega)) ⟨e, ?_⟩
  refine ⟨.non, _, I.lset (its' := its ++ [u]) hH e (by simp) (r.append (.cons ru .nil)) ?_, rfl, q⟩
  rw [List.length_append, List.length_singleton]
  omega

def rCat : R2 := fun x y H Q => ∃ l b xs zs, x = .ref l ∧ y = .ref b ∧ H l = some (.lst xs) ∧ H b = some (.lst zs) ∧ xs.length + zs.length ≤ sizeLine ∧ ∀ p, H p = none → Q (.ref p) (upd H p (.lst (xs ++ zs)))
theorem op_cat : OpR X (binaryOp .Add) rCat := by
  intro pins s σ H x y v u Q I rx ry h
  obtain ⟨l, b, xs, zs, rfl, rfl, hH, hB, hz, q⟩ := h
  cases rx
  cases ry
  obtain ⟨z, its, n, r, hl, e⟩ := I.lstM hH
  obtain ⟨z2, its2, n2, r2, hl2, e2⟩ := I.lstM hB
  refine PySem.P.add_list e e2 ?_ (by rw [List.size_toArray, List.size_toArray]; omega)
  have ea : its.toArray ++ its2.toArray = (its ++ its2).toArray := by simp
  rw [ea]
  exact ⟨.ref _, _, I.lnew (t' := s.toks) (r.append r2) (by rw [List.length_append]; omega), rfl, q _ I.fresh⟩
end

section
variable {prog : Program} {w : World} {A : Around} {E : Value → Shared → Prop} {s : Shared}
end

section
variable {X : Cx}
end
end L2

namespace Att
open PySem PySem.W PySem.Calls PyProof.Rows

theorem ints_of_wellAll {P : Params} {h : Heap} : ∀ (ns : List Int) (vs : List Value), WellAll P h vs (ns.map WData.int) → IntsAre vs ns := by
  intro ns
  induction ns with
  | nil =>
    intro vs w
    rw [List.map_nil] at w
    cases w
    exact .nil
  | cons n ns ih =>
    intro vs w
    rw [List.map_cons] at w
    cases w with
    | cons a b =>
      cases a
      exact .cons _ _ (ih _ b)

theorem script_of {l : OpenLaw} {n : Nat} (hn : l.most = some n) {P : Params} {h : Heap} {args : List WData} {vals : List Value}
    (hpre : l.row.toRowW.claim.pre args = true) (hwl : WellAll P h vals args) :
    ∃ a vs ns, vals = [Value.ref a] ∧ args = [WData.list (ns.map WData.int)] ∧ h.get? a = some { cls := .type "list", data := .seq vs.toArray } ∧ IntsAre vs ns ∧ ns.length ≤ n := by
  have hsh : WShape.hasAll [] args [.list .int] = true := (pre_splitW hpre).1
  have hc : l.pre.holds [] { args := args } = true := (pre_splitW hpre).2
  obtain ⟨d, r, rfl, h1, h2⟩ := hasAllW_cons hsh
  obtain rfl := hasAllW_nil h2
  obtain ⟨xs, rfl, h3⟩ := hasW_list h1
  obtain ⟨ns, rfl⟩ := items_int h3
  have hlen : ns.length ≤ n := by
    unfold OpenLaw.pre at hc
    have h4 : (WTm.not (.lt (.lit (.int (n : Int))) (.len (.arg 0)))).holds [] { args := [.list (ns.map .int)] } = true := by
      have h4 := (holds_andW hc).1
      rw [hn] at h4
      exact h4
    have h5 := condW_of h4 (w_not (w_lt w_lit (w_len_list (w_arg rfl))))
    rw [List.length_map] at h5
    refine Nat.le_of_not_lt fun q => ?_
    have q' : (n : Int) < ((ns.length : Nat) : Int) := by omega
    first
      | (rw [decide_eq_true q'] at h5; exact absurd h5 (by decide))
      | (simp at h5; omega)
  cases hwl with
  | cons w1 w2 =>
    cases w2
    cases w1 with
    | list ho hall => exact ⟨_, _, ns, rfl, rfl, ho, ints_of_wellAll ns _ hall, hlen⟩

theorem post_true (l : OpenLaw) (args : List WData) : l.row.toRowW.claim.post args (.bool true) args = true :=
  postW_of (r := l.row.toRowW) (X := (true == true))
    (show WShape.has [] (.bool true) .bool = true by first | rfl | decide | simp [WShape.has, WShape.arms, WShape.armsAll])
    (show (WTm.eq .res (.lit (.bool true))).value [] { args := args, res := some (.bool true), after := args } = some (.bool (true == true)) from w_eq_bool (w_res rfl) w_lit) rfl

theorem attach_call {l : OpenLaw} {n : Nat} {q : Program} {loose : List Str} {XP : (Str → Option Value) → Heap → Prop} {YP : World → Heap → Prop} {d : DefRec}
    (hn : l.most = some n) (hdf : d.params.defaults = [])
    (call : ∀ (w : World) (s₀ s₁ : Shared) (mg mb : Str → Option Value) (fa : Addr) (o : Obj) (pm cd doc : Value) (a : Addr) (vs : List Value) (ns : List Int),
      Ground q loose [] XP w s₀ mg mb s₁.heap → YP w s₁.heap →
      s₁.heap.get? fa = some o → o.data = .func (docDef d.name d.params d.body d.scope pm cd doc) → s₁.heap.CodeRec cd d.name → mg d.name = some (.ref fa) →
      s₁.heap.get? a = some { cls := .type "list", data := .seq vs.toArray } → IntsAre vs ns → ns.length ≤ n → s₁.gens = #[] →
      codeAny (model l.prog w) callerA (.call (.ref fa) ⟨[.ref a], []⟩) (fun r s' => r = .ok (.ret (.bool true)) ∧ OldK s₁.heap s'.heap ∧ s'.os = s₁.os ∧ AllBare s'.gens) s₁) :
    WalkO q loose XP YP l.row.toRowW d [] (fun f vs => PySem.call f vs) := by
  intro w s₀ s₁ mg mb G Y fa o pm cd doc dV kV ho hd hcd hD hmg hg args vals as hpre hlay hrd hwl hlo
  obtain rfl : dV = .none := Dflts.none hD hdf
  obtain rfl : kV = .none := Dflts.noKw hD
  obtain ⟨a, vs, ns, rfl, rfl, hobj, hints, hlen⟩ := script_of hn hpre hwl
  refine enter_call (codeAny_mono (call w s₀ s₁ mg mb fa o pm cd doc a vs ns G Y ho (fd_plain hd) hcd hmg hobj hints hlen hg) fun r s' hq => ?_)
  obtain ⟨rfl, h2, h3, h4⟩ := hq
  exact ⟨.inl ⟨.bool true, .bool true, [], rfl, fun _ => rfl, .bool true, post_true l _, fun _ => ⟨List.Pairwise.nil, fun _ hm => (nomatch hm)⟩⟩, h2, h3, h4⟩

section
variable {prog : Program} {w : World} {A : Around} {E : Value → Shared → Prop} {s : Shared} {K : Frag}

end
end Att

namespace L2
open PySem PySem.Spec PyProof.Rows

theorem vals_ints : ∀ {vs : List Value} {ns : List Int}, IntsAre vs ns → Vals (ns.map V.int) vs
  | _, _, .nil => .nil
  | _, _, .cons n t h => .cons ⟨t, rfl⟩ (vals_ints h)

def Only (H : Hp) : Prop := ∀ b, H b = none ∨ ∃ o xs, H b = some (.frz o (.lst xs))

theorem law_call {P : Program} {w : World} {K : PySem.W.Frag} {mg mb : Str → Option Value} {CX : CXT} {k : Nat} {fa a : Addr} {fd : FuncData} {x : Str} {sp : Sp} {s₁ : Shared} {vs : List Value} {ns : List Int}
    (KX : K.In s₁.heap) (hns : s₁.heap.Ns mainGlobals mg) (hb : s₁.heap.Ns builtinsNs mb) (hbb : ∀ x : Str, x ≠ "__name__" → mb x = bootBuiltins x) (hlim : s₁.heap.NoLimit) (hg : s₁.gens = #[])
    (ha : s₁.heap.get? a = some { cls := .type "list", data := .seq vs.toArray }) (hi : IntsAre vs ns) (hl : ns.length ≤ sizeLine) (hr : Room k callerA)
    (F : ∀ base : Heap, K.In base → base.Ns mainGlobals mg → FnOk P w K mg base CX k fa fd [x] sp) (hbind : ∀ (s : Shared) (u : Value), BindsTo s fd ⟨[u], []⟩ [(x, u)])
    (hsp : ∀ H : Hp, Only H → SqL K H a (ns.map V.int) → sp [.ref a] H (fun v _ => v = .bl true) fun _ _ _ => False)
    (hCX : ∀ H e s', CX [] H s₁ (fun _ _ _ => False) e s' → False) :
    codeAny (model P w) callerA (.call (.ref fa) ⟨[.ref a], []⟩) (fun r s' => r = .ok (.ret (.bool true)) ∧ OldK s₁.heap s'.heap ∧ s'.os = s₁.os ∧ AllBare s'.gens) s₁ := by
  have rv := vals_ints hi
  have lenV := hi.length
  -- from an abstract heap in which nothing but the script may be tracked
  have core : ∀ H : Hp, Only H → SqL K H a (ns.map V.int) → HOk P w H s₁.heap → (∀ b, H b ≠ none → b = a) → (H a ≠ none → K.lookup a = none) →
      codeAny (model P w) callerA (.call (.ref fa) ⟨[.ref a], []⟩) (fun r s' => r = .ok (.ret (.bool true)) ∧ OldK s₁.heap s'.heap ∧ s'.os = s₁.os ∧ AllBare s'.gens) s₁ := by
    intro H hO hS hok hA hK
    have base_of : ∀ {b : Addr} {o : Obj}, s₁.heap.get? b = some o → H b = none → (hidT s₁.heap H).get? b = some o := fun e n => hidT_get e n
    have noA : ∀ {b : Addr} {o : Obj} {es : Array DictEntry} {ep : Nat}, s₁.heap.get? b = some o → o.data = .dict es ep → H b = none := fun {b o es ep} e d => by
      cases q : H b with
      | none => rfl
      | some u =>
        have e' : b = a := hA b (by rw [q]; simp)
        subst e'
        rw [ha] at e; cases e
        have d' : Data.seq vs.toArray _ = Data.dict es ep := d
        cases d'
    have nsK : ∀ {b : Addr} {m : Str → Option Value}, s₁.heap.Ns b m → (hidT s₁.heap H).Ns b m := fun {b m} ⟨o, es, ep, e, d, r⟩ => ⟨o, es, ep, base_of e (noA e d), d, r⟩
    have hKb : K.In (hidT s₁.heap H) := fun b o e => base_of (KX b o e) (by
      cases q : H b with
      | none => rfl
      | some u =>
        have e' : b = a := hA b (by rw [q]; simp)
        subst e'
        rw [hK (by rw [q]; simp)] at e; cases e)
    have hM : Mod K mg (hidT s₁.heap H) := ⟨hKb, nsK hns, ⟨mb, nsK hb, hbb⟩, let ⟨mc, h1, h2⟩ := hlim; ⟨mc, nsK h1, h2⟩⟩
    have e0 : Env0 P w K mg (hidT s₁.heap H) callerA [] s₁ H := ⟨rfl, hM, fun b o e => of_hidT e, Nat.le_of_eq (hidT_size _ _), trivial, fun b hb => absurd (show b ∈ ([] : List Addr) from hb) (by simp), hok, .of_eq hg⟩
    refine codeAny_mono ((F _ hKb (nsK hns)).run callerA [] s₁ H ⟨[.ref a], []⟩ [.ref a] [.ref a] _ _ hr e0 (hbind s₁ (.ref a)) (.cons rfl .nil) (hsp H hO hS)) fun r s' h => ?_
    cases r with
    | error e => exact (hCX H e s' h).elim
    | ok fl =>
      cases fl with
      | next => exact False.elim h
      | brk => exact False.elim h
      | cont => exact False.elim h
      | ret u =>
        obtain ⟨v, H', os, bare, un, hok', r', q⟩ := h
        have q' : v = .bl true := q
        subst q'
        obtain rfl : u = Value.bool true := r'
        refine ⟨rfl, OldK.of_keep fun b o e => ?_, os, bare⟩
        cases q : H b with
        | none => exact un.keep b o e q (by intro z; exact absurd (show b ∈ ([] : List Addr) from z) (by simp)) (by simp)
        | some u =>
          rcases hO b with z | ⟨ob, xs, z⟩
          · rw [q] at z; cases z
          · have z2 := un.frzs b ob _ z
            obtain ⟨e1, _⟩ := hok b _ z
            obtain ⟨e2, _⟩ := hok' b _ z2
            rw [e] at e1; cases e1
            exact e2
  cases hk : K.lookup a with
  | some o =>
    -- the script is one of the module's own objects
    have e := KX a o hk
    rw [ha] at e
    cases e
    refine core (fun _ => none) (fun _ => .inl rfl) (.inr ⟨_, vs.toArray, _, hk, rfl, rfl, rfl, by rw [List.size_toArray, lenV]; exact hl, by simpa using rv⟩) (fun b u z => by have z' : (none : Option HO) = some u := z; cases z') (fun b z => absurd rfl z) fun z => absurd rfl z
  | none =>
    refine core (fun b => if b = a then some (.frz { cls := .type "list", data := .seq vs.toArray } (.lst (ns.map V.int))) else none) (fun b => ?_) (.inl (.inr ⟨{ cls := .type "list", data := .seq vs.toArray }, if_pos rfl⟩)) (fun b u z => ?_) (fun b z => ?_) fun _ => hk
    · by_cases hb : b = a
      · exact .inr ⟨_, _, if_pos hb⟩
      · exact .inl (if_neg hb)
    · by_cases hb : b = a
      · have z' := (if_pos hb).symm.trans z
        cases z'
        subst hb
        exact ⟨ha, by rw [List.length_map]; exact hl, vs, _, rv, ha⟩
      · have z' := (if_neg hb).symm.trans z
        cases z'
    · by_cases hb : b = a
      · exact hb
      · exact absurd (if_neg hb) z
end L2

namespace L2
open PySem PySem.Spec PyProof.Rows

end L2

namespace L2
open PySem PySem.Spec PyProof.Rows

def defArgs (s : Stmt) : Arguments := match s with
  | .FunctionDef _ a _ _ _ _ _ _ _ _ => a
  | _ => { posonlyargs := [], args := [], vararg := none, kwonlyargs := [], kw_defaults := [], kwarg := none, defaults := [] }
def defBody (s : Stmt) : List Stmt := match s with
  | .FunctionDef _ _ b _ _ _ _ _ _ _ => b
  | _ => []
def defScope (s : Stmt) : Scope := match s with
  | .FunctionDef _ _ _ _ _ _ sc _ _ _ => sc
  | _ => { kind := .function, names := [], isGenerator := false, isCoroutine := false }

abbrev CX0 : CXT := fun _ _ _ _ _ _ => False
abbrev E0 : XK := fun _ _ _ => False
theorem pass0 {X : Cx} : Passes CX0 X E0 := fun _ _ _ _ _ _ _ h => h.elim

structure Fun (K : PySem.W.Frag) (x qual : Str) (st : Stmt) (f : Addr) (fd : FuncData) : Prop where
  ex : ∃ (oc : Value) (od : Option Addr) (kV doc pm : Value) (an : Option Addr) (cdv ct : Value) (osl : Array (Option Value)),
    fd = PySem.W.fnOf x qual (defArgs st) (defBody st) (defScope st) .none kV doc pm an cdv ct ∧ K.lookup f = some ⟨oc, od, .func fd, osl⟩ ∧ PySem.W.codeIn K cdv qual = true
  kp : PySem.W.keepIn K (.ref f) = true
section
variable {P : Program} {w : World} {K : PySem.W.Frag} {mg : Str → Option Value} {base : Heap}
theorem Fun.ok {x qual : Str} {st : Stmt} {f : Addr} {fd : FuncData} {N ps : List Str} {k : Nat} {sp : Sp} (F : Fun K x qual st f fd) (S : FnScope N ps (defScope st)) (len : ∀ vs H Q E, sp vs H Q E → vs.length = ps.length)
    (hbody : ∀ (cdv : Value) (A : Around) (outer : List Env) (s : Shared) (H : Hp) (vs : List V) (Q : VK) (E : XK), Room k (A.deeper (envOfC qual (defScope st) s.heap.objs.size f cdv)) → sp vs H Q E →
      ∃ t, PSs (cxOf CX0 P w K mg base N qual (defScope st) f cdv A outer s H E).nox (defBody st) t ∧ t { nx := fun _ H' => Q .non H', rt := Q } (start N vs) H) : FnOk P w K mg base CX0 (k + 1) f fd ps sp := by
  obtain ⟨oc, od, kV, doc, pm, an, cdv, ct, osl, rfl, lk, hcd⟩ := F.ex
  refine fn_of lk hcd S len fun A outer s H vs Q E hr hsp => ?_
  obtain ⟨t, h, q⟩ := hbody cdv A outer s H vs Q E hr hsp
  exact ⟨t, h.nox, q⟩
theorem Fun.binds {x qual : Str} {st : Stmt} {f : Addr} {fd : FuncData} {ps : List Str} (F : Fun K x qual st f fd)
    (h : ∀ (kV doc pm : Value) (an : Option Addr) (cdv ct : Value) (us : List Value), us.length = ps.length → bindArgs (PySem.W.fnOf x qual (defArgs st) (defBody st) (defScope st) .none kV doc pm an cdv ct) ⟨us, []⟩ = pure (ps.zip us)) : Binds K fd ps [] := by
  obtain ⟨oc, od, kV, doc, pm, an, cdv, ct, osl, rfl, lk, hcd⟩ := F.ex
  exact .all (h kV doc pm an cdv ct)
theorem fun_mk {x qual : Str} {st : Stmt} {f : Addr} {oc : Value} {od an : Option Addr} {osl : Array (Option Value)} {kV doc pm cdv ct : Value} (l : K.lookup f = some ⟨oc, od, .func (PySem.W.fnOf x qual (defArgs st) (defBody st) (defScope st) .none kV doc pm an cdv ct), osl⟩)
    (c : PySem.W.codeIn K cdv qual = true) (k : PySem.W.keepIn K (.ref f) = true) : Fun K x qual st f (PySem.W.fnOf x qual (defArgs st) (defBody st) (defScope st) .none kV doc pm an cdv ct) := ⟨⟨oc, od, kV, doc, pm, an, cdv, ct, osl, rfl, l, c⟩, k⟩
end
theorem small1000 {n : Nat} (h : n ≤ 1000) : n < sizeLine := Nat.lt_of_le_of_lt h (by decide)

section
variable {X : Cx}
end

def Same (H H' : Hp) : Prop := ∀ b o, H b = some o → H' b = some o
theorem Same.refl (H : Hp) : Same H H := fun _ _ h => h
theorem Same.trans {H H1 H2 : Hp} (a : Same H H1) (b : Same H1 H2) : Same H H2 := fun c o h => b c o (a c o h)
theorem Same.free {H H' : Hp} (e : Same H H') {l : Addr} (h : H' l = Option.none) : H l = Option.none := by
  cases q : H l with
  | none => rfl
  | some o =>
    rw [e l o q] at h
    cases h
theorem Same.seq {K : PySem.W.Frag} {H H' : Hp} {a : Addr} {xs : List V} (e : Same H H') (h : SqL K H a xs) : SqL K H' a xs := by
  rcases h with (h | ⟨o, h⟩) | h
  · exact .inl (.inl (e _ _ h))
  · exact .inl (.inr ⟨o, e _ _ h⟩)
  · exact .inr h

end L2

set_option Elab.async false
set_option linter.all false
set_option maxRecDepth 100000
set_option maxHeartbeats 4000000

namespace Dd
open PySem PySem.Spec PyProof.Rows L2

inductive D where
  | non | bl (b : Bool) | int (i : Int) | str (x : Str) | tup (xs : List D) | fz (xs : List D) | ref (a : Addr)

def SqX (K : PySem.W.Frag) (H : Hp) (a : Addr) (xs : List V) : Prop :=
  (∃ o, H a = some (.frz o (.lst xs))) ∨
  ∃ (its : Array Value) (n : Nat), K.lookup a = some { cls := .type "list", data := .seq its n } ∧ its.size ≤ sizeLine ∧ Vals xs its.toList
theorem SqX.sq {K : PySem.W.Frag} {H : Hp} {a : Addr} {xs : List V} (h : SqX K H a xs) : SqL K H a xs := by
  rcases h with ⟨o, h⟩ | ⟨its, n, h, z, r⟩
  · exact .inl (.inr ⟨o, h⟩)
  · exact .inr ⟨_, its, n, h, rfl, rfl, rfl, z, r⟩

mutual
def Rep (K : PySem.W.Frag) (H : Hp) : D → V → Prop
  | .non, v => v = .non
  | .bl b, v => v = .bl b
  | .int i, v => v = .int i
  | .str x, v => v = .str x
  | .ref a, v => v = .ref a
  | .tup ds, v => ∃ a xs, v = .ref a ∧ SqT K H a xs ∧ Reps K H ds xs
  | .fz ds, v => ∃ a xs, v = .ref a ∧ SqX K H a xs ∧ Reps K H ds xs
def Reps (K : PySem.W.Frag) (H : Hp) : List D → List V → Prop
  | [], vs => vs = []
  | d :: ds, vs => ∃ v r, vs = v :: r ∧ Rep K H d v ∧ Reps K H ds r
end
structure Ext (H H' : Hp) : Prop where
  tup : ∀ a xs, H a = some (.tup xs) → H' a = some (.tup xs)
  frz : ∀ a o u, H a = some (.frz o u) → H' a = some (.frz o u)
theorem Ext.refl (H : Hp) : Ext H H := ⟨fun _ _ h => h, fun _ _ _ h => h⟩
theorem Ext.trans {H H1 H2 : Hp} (a : Ext H H1) (b : Ext H1 H2) : Ext H H2 := ⟨fun c xs h => b.tup c xs (a.tup c xs h), fun c o u h => b.frz c o u (a.frz c o u h)⟩
theorem Ext.new {H : Hp} {p : Addr} (h : H p = none) (o : HO) : Ext H (upd H p o) :=
  ⟨fun a xs e => by rw [upd_ne (ne_of_none e h)]; exact e, fun a ob u e => by rw [upd_ne (ne_of_none e h)]; exact e⟩
theorem Ext.put {H : Hp} {p : Addr} {xs : List V} (h : H p = some (.lst xs)) (o : HO) : Ext H (upd H p o) :=
  ⟨fun a ys e => by rw [upd_ne (ne_of e h (by intro z; cases z))]; exact e, fun a ob u e => by rw [upd_ne (ne_of e h (by intro z; cases z))]; exact e⟩
section
variable {K : PySem.W.Frag} {H H' : Hp}
theorem sqT_ext (e : Ext H H') {a : Addr} {xs : List V} (h : SqT K H a xs) : SqT K H' a xs := by
  rcases h with (h | ⟨o, h⟩) | h
  · exact .inl (.inl (e.tup _ _ h))
  · exact .inl (.inr ⟨o, e.frz _ _ _ h⟩)
  · exact .inr h
theorem sqX_ext (e : Ext H H') {a : Addr} {xs : List V} (h : SqX K H a xs) : SqX K H' a xs := by
  rcases h with ⟨o, h⟩ | h
  · exact .inl ⟨o, e.frz _ _ _ h⟩
  · exact .inr h
mutual
theorem Rep.ext (e : Ext H H') : ∀ {d : D} {v : V}, Rep K H d v → Rep K H' d v
  | .non, _, h => by unfold Rep at h ⊢; exact h
  | .bl _, _, h => by unfold Rep at h ⊢; exact h
  | .int _, _, h => by unfold Rep at h ⊢; exact h
  | .str _, _, h => by unfold Rep at h ⊢; exact h
  | .ref _, _, h => by unfold Rep at h ⊢; exact h
  | .tup ds, _, h => by
    unfold Rep at h ⊢
    obtain ⟨a, xs, e1, sq, r⟩ := h
    exact ⟨a, xs, e1, sqT_ext e sq, Reps.ext e r⟩
  | .fz ds, _, h => by
    unfold Rep at h ⊢
    obtain ⟨a, xs, e1, sq, r⟩ := h
    exact ⟨a, xs, e1, sqX_ext e sq, Reps.ext e r⟩
theorem Reps.ext (e : Ext H H') : ∀ {ds : List D} {vs : List V}, Reps K H ds vs → Reps K H' ds vs
  | [], _, h => by unfold Reps at h ⊢; exact h
  | d :: ds, _, h => by
    unfold Reps at h ⊢
    obtain ⟨v, r, e1, hv, hr⟩ := h
    exact ⟨v, r, e1, Rep.ext e hv, Reps.ext e hr⟩
end
theorem rep_int {i : Int} : Rep K H (.int i) (.int i) := by unfold Rep; rfl
theorem rep_bl {b : Bool} : Rep K H (.bl b) (.bl b) := by unfold Rep; rfl
theorem rep_str {x : Str} : Rep K H (.str x) (.str x) := by unfold Rep; rfl
theorem rep_non : Rep K H .non .non := by unfold Rep; rfl
theorem rep_ref {a : Addr} : Rep K H (.ref a) (.ref a) := by unfold Rep; rfl
theorem rep_int_eq {i : Int} {v : V} (h : Rep K H (.int i) v) : v = .int i := by unfold Rep at h; exact h
theorem rep_bl_eq {b : Bool} {v : V} (h : Rep K H (.bl b) v) : v = .bl b := by unfold Rep at h; exact h
theorem rep_str_eq {x : Str} {v : V} (h : Rep K H (.str x) v) : v = .str x := by unfold Rep at h; exact h
theorem rep_non_eq {v : V} (h : Rep K H .non v) : v = .non := by unfold Rep at h; exact h
theorem rep_ref_eq {a : Addr} {v : V} (h : Rep K H (.ref a) v) : v = .ref a := by unfold Rep at h; exact h
theorem rep_tup {ds : List D} {v : V} (h : Rep K H (.tup ds) v) : ∃ a xs, v = .ref a ∧ SqT K H a xs ∧ Reps K H ds xs := by unfold Rep at h; exact h
theorem rep_fz {ds : List D} {v : V} (h : Rep K H (.fz ds) v) : ∃ a xs, v = .ref a ∧ SqX K H a xs ∧ Reps K H ds xs := by unfold Rep at h; exact h
theorem rep_tup_mk {ds : List D} {a : Addr} {xs : List V} (sq : SqT K H a xs) (r : Reps K H ds xs) : Rep K H (.tup ds) (.ref a) := by unfold Rep; exact ⟨a, xs, rfl, sq, r⟩
theorem reps_nil : Reps K H [] [] := by unfold Reps; rfl
theorem reps_nil_eq {vs : List V} (h : Reps K H [] vs) : vs = [] := by unfold Reps at h; exact h
theorem reps_cons {d : D} {ds : List D} {v : V} {vs : List V} (h : Rep K H d v) (r : Reps K H ds vs) : Reps K H (d :: ds) (v :: vs) := by unfold Reps; exact ⟨v, vs, rfl, h, r⟩
theorem reps_cons_eq {d : D} {ds : List D} {vs : List V} (h : Reps K H (d :: ds) vs) : ∃ v r, vs = v :: r ∧ Rep K H d v ∧ Reps K H ds r := by unfold Reps at h; exact h
theorem Reps.length : ∀ {ds : List D} {vs : List V}, Reps K H ds vs → ds.length = vs.length
  | [], _, h => by rw [reps_nil_eq h]; rfl
  | d :: ds, _, h => by
    obtain ⟨v, r, rfl, _, hr⟩ := reps_cons_eq h
    rw [List.length_cons, List.length_cons, Reps.length hr]
theorem Reps.get : ∀ {ds : List D} {vs : List V} {i : Nat} {d : D}, Reps K H ds vs → ds[i]? = some d → ∃ v, vs[i]? = some v ∧ Rep K H d v
  | [], _, i, d, h, e => by simp at e
  | d0 :: ds, _, 0, d, h, e => by
    obtain ⟨v, r, rfl, hv, hr⟩ := reps_cons_eq h
    simp at e; subst e
    exact ⟨v, rfl, hv⟩
  | d0 :: ds, _, i + 1, d, h, e => by
    obtain ⟨v, r, rfl, hv, hr⟩ := reps_cons_eq h
    exact Reps.get (i := i) hr (by simpa using e)
theorem Reps.getV : ∀ {ds : List D} {vs : List V} {i : Nat} {v : V}, Reps K H ds vs → vs[i]? = some v → ∃ d, ds[i]? = some d ∧ Rep K H d v
  | [], _, i, v, h, e => by rw [reps_nil_eq h] at e; simp at e
  | d0 :: ds, _, 0, v, h, e => by
    obtain ⟨v0, r, rfl, hv, hr⟩ := reps_cons_eq h
    simp at e; subst e
    exact ⟨d0, rfl, hv⟩
  | d0 :: ds, _, i + 1, v, h, e => by
    obtain ⟨v0, r, rfl, hv, hr⟩ := reps_cons_eq h
    exact Reps.getV (i := i) hr (by simpa using e)
theorem Reps.set {d : D} {v : V} (h : Rep K H d v) : ∀ {ds : List D} {vs : List V} (i : Nat), Reps K H ds vs → Reps K H (ds.set i d) (vs.set i v)
  | [], _, i, r => by rw [reps_nil_eq r]; exact reps_nil
  | d0 :: ds, _, 0, r => by
    obtain ⟨v0, r0, rfl, hv, hr⟩ := reps_cons_eq r
    exact reps_cons h hr
  | d0 :: ds, _, i + 1, r => by
    obtain ⟨v0, r0, rfl, hv, hr⟩ := reps_cons_eq r
    exact reps_cons hv (Reps.set h i hr)
theorem Reps.append : ∀ {ds es : List D} {vs us : List V}, Reps K H ds vs → Reps K H es us → Reps K H (ds ++ es) (vs ++ us)
  | [], es, vs, us, h, q => by rw [reps_nil_eq h]; exact q
  | d :: ds, es, _, us, h, q => by
    obtain ⟨v, r, rfl, hv, hr⟩ := reps_cons_eq h
    exact reps_cons hv (Reps.append hr q)
theorem Reps.take : ∀ {ds : List D} {vs : List V} (n : Nat), Reps K H ds vs → Reps K H (ds.take n) (vs.take n)
  | ds, vs, 0, h => by rw [List.take_zero, List.take_zero]; exact reps_nil
  | [], _, n + 1, h => by rw [reps_nil_eq h]; exact reps_nil
  | d :: ds, _, n + 1, h => by
    obtain ⟨v, r, rfl, hv, hr⟩ := reps_cons_eq h
    exact reps_cons hv (Reps.take n hr)
theorem Reps.drop : ∀ {ds : List D} {vs : List V} (n : Nat), Reps K H ds vs → Reps K H (ds.drop n) (vs.drop n)
  | ds, vs, 0, h => h
  | [], _, n + 1, h => by rw [reps_nil_eq h]; exact reps_nil
  | d :: ds, _, n + 1, h => by
    obtain ⟨v, r, rfl, hv, hr⟩ := reps_cons_eq h
    exact Reps.drop n hr
theorem reps_ints : ∀ (ns : List Int), Reps K H (ns.map D.int) (ns.map V.int)
  | [] => reps_nil
  | n :: ns => reps_cons rep_int (reps_ints ns)
end

abbrev DM := Addr → Option (List D)
def putM (M : DM) (a : Addr) (ds : List D) : DM := fun b => if b = a then some ds else M b
theorem putM_same {M : DM} {a : Addr} {ds : List D} : putM M a ds a = some ds := if_pos rfl
theorem putM_ne {M : DM} {a b : Addr} {ds : List D} (h : b ≠ a) : putM M a ds b = M b := if_neg h
theorem ne_of_noneM {M : DM} {a b : Addr} {o : List D} (h : M a = some o) (h' : M b = none) : a ≠ b := by
  intro e; subst e; rw [h] at h'; cases h'
def HRep (K : PySem.W.Frag) (M : DM) (H : Hp) : Prop := ∀ a ds, M a = some ds → ∃ xs, H a = some (.lst xs) ∧ Reps K H ds xs
section
variable {K : PySem.W.Frag} {H H' : Hp} {M M' : DM}
theorem HRep.fresh (h : HRep K M H) {p : Addr} (e : H p = none) : M p = none := by
  cases q : M p with
  | none => rfl
  | some ds => obtain ⟨xs, z, _⟩ := h p ds q; rw [e] at z; cases z
theorem HRep.new (h : HRep K M H) {p : Addr} (e : H p = none) (o : HO) : HRep K M (upd H p o) := fun a ds q => by
  obtain ⟨xs, z, r⟩ := h a ds q
  exact ⟨xs, by rw [upd_ne (ne_of_none z e)]; exact z, r.ext (Ext.new e o)⟩
theorem HRep.lnew (h : HRep K M H) {p : Addr} (e : H p = none) {xs : List V} {ds : List D} (r : Reps K H ds xs) : HRep K (putM M p ds) (upd H p (.lst xs)) := fun a es q => by
  by_cases ha : a = p
  · subst ha
    rw [putM_same] at q
    cases q
    exact ⟨xs, upd_same, r.ext (Ext.new e _)⟩
  · rw [putM_ne ha] at q
    obtain ⟨ys, z, r2⟩ := h a es q
    exact ⟨ys, by rw [upd_ne ha]; exact z, r2.ext (Ext.new e _)⟩
theorem HRep.put (h : HRep K M H) {p : Addr} {xs0 : List V} (e : H p = some (.lst xs0)) {xs : List V} {ds : List D} (r : Reps K H ds xs) : HRep K (putM M p ds) (upd H p (.lst xs)) := fun a es q => by
  by_cases ha : a = p
  · subst ha
    rw [putM_same] at q
    cases q
    exact ⟨xs, upd_same, r.ext (Ext.put e _)⟩
  · rw [putM_ne ha] at q
    obtain ⟨ys, z, r2⟩ := h a es q
    exact ⟨ys, by rw [upd_ne ha]; exact z, r2.ext (Ext.put e _)⟩
def SubM (M M' : DM) : Prop := ∀ a o, M a = some o → M' a = some o
theorem SubM.refl (M : DM) : SubM M M := fun _ _ h => h
theorem SubM.trans {M1 M2 M3 : DM} (a : SubM M1 M2) (b : SubM M2 M3) : SubM M1 M3 := fun c o h => b c o (a c o h)
theorem SubM.new {M : DM} {p : Addr} (h : M p = none) (ds : List D) : SubM M (putM M p ds) := fun a o e => by rw [putM_ne (ne_of_noneM e h)]; exact e
theorem HRep.sub (h : HRep K M' H) (s : SubM M M') : HRep K M H := fun a ds q => h a ds (s a ds q)
end

abbrev DEnv := List (Option D)
structure RepE (K : PySem.W.Frag) (H : Hp) (ρ : DEnv) (σ : L2.St) : Prop where
  len : ρ.length = σ.length
  get : ∀ (i : Nat) d, ρ[i]? = some (some d) → ∃ v, σ[i]? = some (some v) ∧ Rep K H d v
section
variable {K : PySem.W.Frag} {H H' : Hp} {ρ : DEnv} {σ : L2.St}
theorem RepE.ext (h : RepE K H ρ σ) (e : Ext H H') : RepE K H' ρ σ := ⟨h.len, fun i d q => let ⟨v, a, b⟩ := h.get i d q; ⟨v, a, b.ext e⟩⟩
theorem RepE.set (h : RepE K H ρ σ) {d : D} {v : V} (r : Rep K H d v) (i : Nat) : RepE K H (ρ.set i (some d)) (σ.set i (some v)) := by
  refine ⟨by rw [List.length_set, List.length_set, h.len], fun j d' q => ?_⟩
  rw [List.getElem?_set] at q
  by_cases hij : i = j
  · subst hij
    rw [if_pos rfl] at q
    by_cases hl : i < ρ.length
    · rw [if_pos hl] at q
      cases q
      exact ⟨v, by rw [List.getElem?_set, if_pos rfl, if_pos (by rw [← h.len]; exact hl)], r⟩
    · rw [if_neg hl] at q
      cases q
  · rw [if_neg hij] at q
    obtain ⟨u, a, b⟩ := h.get j d' q
    exact ⟨u, by rw [List.getElem?_set, if_neg hij]; exact a, b⟩
end

abbrev DQ := D → DM → Prop
abbrev DE := DEnv → DM → DQ → Prop
abbrev DT := DEnv → DM → (Bool → DM → Prop) → Prop
abbrev DA := DEnv → DM → (List D → DM → Prop) → Prop
structure DEnds where
  nx : DEnv → DM → Prop
  rt : DQ
  bk : DEnv → DM → Prop := fun _ _ => False
  ct : DEnv → DM → Prop := fun _ _ => False
abbrev DS := DEnds → DEnv → DM → Prop
abbrev DG := D → DEnv → DM → (DEnv → DM → Prop) → Prop
abbrev DGs := List D → DEnv → DM → (DEnv → DM → Prop) → Prop
def LQ (K : PySem.W.Frag) (H : Hp) (Q : DQ) : VK := fun v H' => ∃ d M', Rep K H' d v ∧ HRep K M' H' ∧ Ext H H' ∧ Q d M'
def LT (K : PySem.W.Frag) (H : Hp) (Q : Bool → DM → Prop) : Bool → Hp → Prop := fun b H' => ∃ M', HRep K M' H' ∧ Ext H H' ∧ Q b M'
def LA (K : PySem.W.Frag) (H : Hp) (Q : List D → DM → Prop) : List V → Hp → Prop := fun vs H' => ∃ ds M', Reps K H' ds vs ∧ HRep K M' H' ∧ Ext H H' ∧ Q ds M'
def LN (K : PySem.W.Frag) (H : Hp) (Q : DEnv → DM → Prop) : L2.St → Hp → Prop := fun σ' H' => ∃ ρ' M', RepE K H' ρ' σ' ∧ HRep K M' H' ∧ Ext H H' ∧ Q ρ' M'
structure EndsOk (K : PySem.W.Frag) (H : Hp) (D : DEnds) (E : Ends) : Prop where
  nx : ∀ σ' H', LN K H D.nx σ' H' → E.nx σ' H'
  rt : ∀ v H', LQ K H D.rt v H' → E.rt v H'
  bk : ∀ σ' H', LN K H D.bk σ' H' → E.bk σ' H'
  ct : ∀ σ' H', LN K H D.ct σ' H' → E.ct σ' H'
def low (K : PySem.W.Frag) (t : DE) : TE := fun σ H Q => ∃ ρ M Q', RepE K H ρ σ ∧ HRep K M H ∧ t ρ M Q' ∧ ∀ v H', LQ K H Q' v H' → Q v H'
def lowT (K : PySem.W.Frag) (t : DT) : TT := fun σ H Q => ∃ ρ M Q', RepE K H ρ σ ∧ HRep K M H ∧ t ρ M Q' ∧ ∀ v H', LT K H Q' v H' → Q v H'
def lowA (K : PySem.W.Frag) (t : DA) : TA := fun σ H Q => ∃ ρ M Q', RepE K H ρ σ ∧ HRep K M H ∧ t ρ M Q' ∧ ∀ v H', LA K H Q' v H' → Q v H'
def lowS (K : PySem.W.Frag) (t : DS) : TS := fun E σ H => ∃ ρ M D, RepE K H ρ σ ∧ HRep K M H ∧ t D ρ M ∧ EndsOk K H D E
def lowG (K : PySem.W.Frag) (g : DG) : TG := fun v σ H Q => ∃ d ρ M Q', Rep K H d v ∧ RepE K H ρ σ ∧ HRep K M H ∧ g d ρ M Q' ∧ ∀ σ' H', LN K H Q' σ' H' → Q σ' H'
def lowGs (K : PySem.W.Frag) (g : DGs) : TGs := fun vs σ H Q => ∃ ds ρ M Q', Reps K H ds vs ∧ RepE K H ρ σ ∧ HRep K M H ∧ g ds ρ M Q' ∧ ∀ σ' H', LN K H Q' σ' H' → Q σ' H'
abbrev PDE (X : Cx) (e : Expr) (t : DE) : Prop := PE X e (low X.K t)
abbrev PDT (X : Cx) (e : Expr) (t : DT) : Prop := PT X e (lowT X.K t)
abbrev PDW (X : Cx) (e : Expr) (t : DT) : Prop := PW X e (lowT X.K t)
abbrev PDA (X : Cx) (es : List Expr) (t : DA) : Prop := PA X es (lowA X.K t)
abbrev PDS (X : Cx) (st : Stmt) (t : DS) : Prop := PS X st (lowS X.K t)
abbrev PDSs (X : Cx) (st : List Stmt) (t : DS) : Prop := PSs X st (lowS X.K t)
abbrev PDG (X : Cx) (e : Expr) (g : DG) : Prop := PG X e (lowG X.K g)
abbrev PDGs (X : Cx) (es : List Expr) (g : DGs) : Prop := PGs X es (lowGs X.K g)
section
variable {K : PySem.W.Frag} {H H1 : Hp}
theorem LQ.back {Q : DQ} {v : V} {H2 : Hp} (e : Ext H H1) (h : LQ K H1 Q v H2) : LQ K H Q v H2 := let ⟨d, M, a, b, c, q⟩ := h; ⟨d, M, a, b, e.trans c, q⟩
theorem LT.back {Q : Bool → DM → Prop} {v : Bool} {H2 : Hp} (e : Ext H H1) (h : LT K H1 Q v H2) : LT K H Q v H2 := let ⟨M, b, c, q⟩ := h; ⟨M, b, e.trans c, q⟩
theorem LA.back {Q : List D → DM → Prop} {v : List V} {H2 : Hp} (e : Ext H H1) (h : LA K H1 Q v H2) : LA K H Q v H2 := let ⟨d, M, a, b, c, q⟩ := h; ⟨d, M, a, b, e.trans c, q⟩
theorem LN.back {Q : DEnv → DM → Prop} {v : L2.St} {H2 : Hp} (e : Ext H H1) (h : LN K H1 Q v H2) : LN K H Q v H2 := let ⟨d, M, a, b, c, q⟩ := h; ⟨d, M, a, b, e.trans c, q⟩
theorem EndsOk.at {D : DEnds} {E : Ends} (h : EndsOk K H D E) (e : Ext H H1) : EndsOk K H1 D E :=
  ⟨fun s H2 q => h.nx s H2 (q.back e), fun s H2 q => h.rt s H2 (q.back e), fun s H2 q => h.bk s H2 (q.back e), fun s H2 q => h.ct s H2 (q.back e)⟩
end
section
variable {X : Cx} {e : Expr} {st : Stmt} {sts : List Stmt}
theorem pe_imp {t u : TE} (h : PE X e t) (k : ∀ σ H Q, u σ H Q → t σ H Q) : PE X e u := fun pins s σ H Q I q => h pins s σ H Q I (k σ H Q q)
theorem pt_imp {t u : TT} (h : PT X e t) (k : ∀ σ H Q, u σ H Q → t σ H Q) : PT X e u := fun pins s σ H Q I q => h pins s σ H Q I (k σ H Q q)
theorem pw_imp {t u : TT} (h : PW X e t) (k : ∀ σ H Q, u σ H Q → t σ H Q) : PW X e u := fun wh pins s σ H Q I q => h wh pins s σ H Q I (k σ H Q q)
theorem pa_imp {es : List Expr} {t u : TA} (h : PA X es t) (k : ∀ σ H Q, u σ H Q → t σ H Q) : PA X es u := fun pos pins s σ H Q I q => h pos pins s σ H Q I (k σ H Q q)
theorem ps_imp {t u : TS} (h : PS X st t) (k : ∀ D σ H, u D σ H → t D σ H) : PS X st u := fun pins s σ H D I q => h pins s σ H D I (k D σ H q)
theorem pss_imp {t u : TS} (h : PSs X sts t) (k : ∀ D σ H, u D σ H → t D σ H) : PSs X sts u := fun pins s σ H D I q => h pins s σ H D I (k D σ H q)
theorem pg_imp {t u : TG} (h : PG X e t) (k : ∀ v σ H Q, u v σ H Q → t v σ H Q) : PG X e u := fun pins s σ H v w Q I r q => h pins s σ H v w Q I r (k v σ H Q q)
theorem pgs_imp {es : List Expr} {t u : TGs} (h : PGs X es t) (k : ∀ v σ H Q, u v σ H Q → t v σ H Q) : PGs X es u := fun pins s σ H v w Q I r q => h pins s σ H v w Q I r (k v σ H Q q)
end

section
variable {X : Cx} {a b c e : Expr} {es : List Expr} {ta tb tc te : DE} {tA tB : DT} {t : DA} {pos : Pos}
def dVar (i : Nat) : DE := fun ρ M Q => match ρ[i]? with
  | some (some d) => Q d M
  | _ => False
theorem de_var (i : Nat) {x : Str} {pos : Pos} (hN : X.N[i]? = some x := by rfl) (hv : Vis X.env.scope x := by first | exact Or.inl rfl | exact Or.inr (Or.inl rfl) | exact Or.inr (Or.inr rfl)) (hd : (x == ("__debug__" : Str)) = false := by decide)
    (hcd : (x == ("__classdict__" : Str)) = false := by decide) : PDE X (.Name x pos) (dVar i) :=
  pe_imp (pe_var (i := i) hN hv hd hcd) fun σ H Q ⟨ρ, M, Q', re, hm, q, k⟩ => by
    unfold dVar at q
    split at q
    · rename_i d e
      obtain ⟨v, e1, r⟩ := re.get i d e
      exact ⟨v, e1, k v H ⟨d, M, r, hm, .refl H, q⟩⟩
    · exact q.elim
def dC (d : D) : DE := fun _ M Q => Q d M
theorem de_int {i j pos} : PDE X (.Constant (.int i) j pos) (dC (.int i)) := pe_imp pe_int fun σ H Q ⟨ρ, M, Q', re, hm, q, k⟩ => k _ H ⟨_, M, rep_int, hm, .refl H, q⟩
theorem de_bl {i j pos} : PDE X (.Constant (.bool i) j pos) (dC (.bl i)) := pe_imp pe_bl fun σ H Q ⟨ρ, M, Q', re, hm, q, k⟩ => k _ H ⟨_, M, rep_bl, hm, .refl H, q⟩
theorem de_non {j pos} : PDE X (.Constant .none j pos) (dC .non) := pe_imp pe_non fun σ H Q ⟨ρ, M, Q', re, hm, q, k⟩ => k _ H ⟨_, M, rep_non, hm, .refl H, q⟩
theorem de_str {x j pos} : PDE X (.Constant (.str x) j pos) (dC (.str x)) := pe_imp pe_str fun σ H Q ⟨ρ, M, Q', re, hm, q, k⟩ => k _ H ⟨_, M, rep_str, hm, .refl H, q⟩
theorem de_glob {x : Str} {d : D} {v : V} {u : Value} {pos : Pos} (hg : Gl X x) (hm : X.mg x = some u) (r : RelV v u) (hr : ∀ H, Rep X.K H d v) (hd : (x == ("__debug__" : Str)) = false := by decide) : PDE X (.Name x pos) (dC d) :=
  pe_imp (pe_glob hg hm r hd) fun σ H Q ⟨ρ, M, Q', re, hm, q, k⟩ => k _ H ⟨_, M, hr H, hm, .refl H, q⟩

abbrev D2 := D → D → DM → DQ → Prop
def OpL (K : PySem.W.Frag) (r : R2) (r' : D2) : Prop := ∀ x y H M dx dy Q, Rep K H dx x → Rep K H dy y → HRep K M H → r' dx dy M Q → r x y H (LQ K H Q)
def OpD (X : Cx) (f : Value → Value → Sem Value) (r' : D2) : Prop :=
  OpR X f fun x y H Q => ∃ dx dy M Q', Rep X.K H dx x ∧ Rep X.K H dy y ∧ HRep X.K M H ∧ r' dx dy M Q' ∧ ∀ v H', LQ X.K H Q' v H' → Q v H'
theorem ep_mono {pins : List (Addr × Obj)} {σ : L2.St} {Q Q' : VK} {u : Value} {s : Shared} (h : EP X pins σ Q u s) (k : ∀ v H, Q v H → Q' v H) : EP X pins σ Q' u s := let ⟨v, H, a, b, c⟩ := h; ⟨v, H, a, b, k v H c⟩
theorem OpD.of {f : Value → Value → Sem Value} {r : R2} {r' : D2} (h : OpR X f r) (l : OpL X.K r r') : OpD X f r' := fun pins s σ H x y v u Q I rx ry ⟨dx, dy, M, Q', r1, r2, hm, q, k⟩ =>
  thn (h pins s σ H x y v u _ I rx ry (l x y H M dx dy Q' r1 r2 hm q)) fun v s h => ep_mono h k
def dOp (r : D2) (ta tb : DE) : DE := fun ρ M Q => ta ρ M fun x M1 => tb ρ M1 fun y M2 => r x y M2 Q
theorem low_op {r' : D2} {σ : L2.St} {H : Hp} {Q : VK} {R : V → V → Hp → VK → Prop} (hR : ∀ x y H1 Q1, (∃ dx dy M Q', Rep X.K H1 dx x ∧ Rep X.K H1 dy y ∧ HRep X.K M H1 ∧ r' dx dy M Q' ∧ ∀ v H', LQ X.K H1 Q' v H' → Q1 v H') → R x y H1 Q1)
    (h : low X.K (dOp r' ta tb) σ H Q) : low X.K ta σ H fun x H1 => low X.K tb σ H1 fun y H2 => R x y H2 Q := by
  obtain ⟨ρ, M, Q', re, hm, q, k⟩ := h
  refine ⟨ρ, M, _, re, hm, q, fun x H1 ⟨dx, M1, rx, hm1, e1, q1⟩ => ⟨ρ, M1, _, re.ext e1, hm1, q1, fun y H2 ⟨dy, M2, ry, hm2, e2, q2⟩ => ?_⟩⟩
  exact hR x y H2 Q ⟨dx, dy, M2, Q', rx.ext e2, ry, hm2, q2, fun v H' z => k v H' (z.back (e1.trans e2))⟩
theorem de_op {op : Operator} {r : D2} (ho : OpD X (binaryOp op) r) (ha : PDE X a ta) (hb : PDE X b tb) : PDE X (.BinOp a op b pos) (dOp r ta tb) :=
  pe_imp (pe_op ho ha hb) fun σ H Q h => low_op (fun _ _ _ _ z => z) h
theorem de_cmp {op : CmpOp} {r : D2} (ho : OpD X (compareOp op) r) (ha : PDE X a ta) (hb : PDE X b tb) (hm : behindInMarks op b = false := by exact nomark _) : PDE X (.Compare a [op] [b] pos) (dOp r ta tb) :=
  pe_imp (pe_cmpR ho ha hb hm) fun σ H Q h => low_op (fun _ _ _ _ z => z) h
def dTest (t : DE) : DT := fun ρ M Q => t ρ M fun d M' => match d with
  | .bl k => Q k M'
  | _ => False
theorem low_test {σ : L2.St} {H : Hp} {Q : Bool → Hp → Prop} (h : lowT X.K (dTest te) σ H Q) : low X.K te σ H fun x H' => ∃ k, x = .bl k ∧ Q k H' := by
  obtain ⟨ρ, M, Q', re, hm, q, k⟩ := h
  refine ⟨ρ, M, _, re, hm, q, fun x H1 ⟨d, M1, rd, hm1, e1, q1⟩ => ?_⟩
  cases d with
  | bl c => exact ⟨c, rep_bl_eq rd, k c H1 ⟨M1, hm1, e1, q1⟩⟩
  | _ => exact q1.elim
theorem dt_cmp {op : CmpOp} {r : D2} (ho : OpD X (compareOp op) r) (ha : PDE X a ta) (hb : PDE X b tb) (hm : behindInMarks op b = false := by exact nomark _) : PDT X (.Compare a [op] [b] pos) (dTest (dOp r ta tb)) :=
  pt_imp (pt_cmpR ho ha hb hm) fun σ H Q h => low_op (R := fun x y H Q1 => ∃ dx dy M Q', Rep X.K H dx x ∧ Rep X.K H dy y ∧ HRep X.K M H ∧ r dx dy M Q' ∧ ∀ v H', LQ X.K H Q' v H' → Q1 v H') (fun _ _ _ _ z => z) (low_test h)
theorem dt_val (h : PDE X e te) (he : ∀ whole, isTrue e X.env whole = (do let v ← whole; standAt e.pos; holding [v] (truthy v)) := by intro _; rfl) : PDT X e (dTest te) :=
  pt_imp (pt_val h he) fun σ H Q h => low_test h
def dAnd (t u : DT) : DT := fun ρ M Q => t ρ M fun c M1 => if c = true then u ρ M1 Q else Q false M1
def dOr (t u : DT) : DT := fun ρ M Q => t ρ M fun c M1 => if c = true then Q true M1 else u ρ M1 Q
def dNot (t : DT) : DT := fun ρ M Q => t ρ M fun c M1 => Q (!c) M1
variable {rest : List Expr}
theorem dw_and1 (ha : PDT X a tA) : PDW X (.BoolOp .And [a] pos) tA := pw_and1 ha
theorem dw_or1 (ha : PDT X a tA) : PDW X (.BoolOp .Or [a] pos) tA := pw_or1 ha
theorem dw_and (ha : PDT X a tA) (hb : PDW X (.BoolOp .And (b :: rest) pos) tB) : PDW X (.BoolOp .And (a :: b :: rest) pos) (dAnd tA tB) :=
  pw_imp (pw_and ha hb) fun σ H Q ⟨ρ, M, Q', re, hm, q, k⟩ => ⟨ρ, M, _, re, hm, q, fun c H1 ⟨M1, hm1, e1, q1⟩ => by
    cases c with
    | true => exact ⟨ρ, M1, _, re.ext e1, hm1, q1, fun v H' z => k v H' (z.back e1)⟩
    | false => exact k false H1 ⟨M1, hm1, e1, q1⟩⟩
theorem dw_or (ha : PDT X a tA) (hb : PDW X (.BoolOp .Or (b :: rest) pos) tB) : PDW X (.BoolOp .Or (a :: b :: rest) pos) (dOr tA tB) :=
  pw_imp (pw_or ha hb) fun σ H Q ⟨ρ, M, Q', re, hm, q, k⟩ => ⟨ρ, M, _, re, hm, q, fun c H1 ⟨M1, hm1, e1, q1⟩ => by
    cases c with
    | false => exact ⟨ρ, M1, _, re.ext e1, hm1, q1, fun v H' z => k v H' (z.back e1)⟩
    | true => exact k true H1 ⟨M1, hm1, e1, q1⟩⟩
theorem dt_w (h : PDW X e tA) : PDT X e tA := PW.pt h
theorem dt_not (ha : PDT X a tA) : PDT X (.UnaryOp .Not a pos) (dNot tA) :=
  pt_imp (pt_not ha) fun σ H Q ⟨ρ, M, Q', re, hm, q, k⟩ => ⟨ρ, M, _, re, hm, q, fun c H1 ⟨M1, hm1, e1, q1⟩ => k (!c) H1 ⟨M1, hm1, e1, q1⟩⟩
def dAndV (ta tb : DE) : DE := fun ρ M Q => ta ρ M fun x M1 => match x with
  | .bl c => if c = true then tb ρ M1 Q else Q (.bl false) M1
  | _ => False
def dOrV (ta tb : DE) : DE := fun ρ M Q => ta ρ M fun x M1 => match x with
  | .bl c => if c = true then Q (.bl true) M1 else tb ρ M1 Q
  | _ => False
def dNotV (ta : DE) : DE := fun ρ M Q => ta ρ M fun x M1 => match x with
  | .bl c => Q (.bl (!c)) M1
  | _ => False
theorem de_one {op} (h : PDE X a ta) : PDE X (.BoolOp op [a] pos) ta := pe_one h
theorem de_and (ha : PDE X a ta) (hb : PDE X (.BoolOp .And (b :: rest) pos) tb) : PDE X (.BoolOp .And (a :: b :: rest) pos) (dAndV ta tb) :=
  pe_imp (pe_and ha hb) fun σ H Q ⟨ρ, M, Q', re, hm, q, k⟩ => ⟨ρ, M, _, re, hm, q, fun x H1 ⟨d, M1, rd, hm1, e1, q1⟩ => by
    cases d with
    | bl c =>
      refine ⟨c, rep_bl_eq rd, ?_⟩
      cases c with
      | true => exact ⟨ρ, M1, _, re.ext e1, hm1, q1, fun v H' z => k v H' (z.back e1)⟩
      | false => exact k _ H1 ⟨_, M1, rep_bl, hm1, e1, q1⟩
    | _ => exact q1.elim⟩
theorem de_not (ha : PDE X a ta) : PDE X (.UnaryOp .Not a pos) (dNotV ta) :=
  pe_imp (pe_not ha) fun σ H Q ⟨ρ, M, Q', re, hm, q, k⟩ => ⟨ρ, M, _, re, hm, q, fun x H1 ⟨d, M1, rd, hm1, e1, q1⟩ => by
    cases d with
    | bl c => exact ⟨c, rep_bl_eq rd, k _ H1 ⟨_, M1, rep_bl, hm1, e1, q1⟩⟩
    | _ => exact q1.elim⟩
def dIfE (t : DT) (ta tb : DE) : DE := fun ρ M Q => t ρ M fun c M1 => if c = true then ta ρ M1 Q else tb ρ M1 Q
theorem de_ifExp (hc : PDT X c tA) (ha : PDE X a ta) (hb : PDE X b tb) : PDE X (.IfExp c a b pos) (dIfE tA ta tb) :=
  pe_imp (pe_ifExp hc ha hb) fun σ H Q ⟨ρ, M, Q', re, hm, q, k⟩ => ⟨ρ, M, _, re, hm, q, fun c H1 ⟨M1, hm1, e1, q1⟩ => by
    cases c with
    | true => exact ⟨ρ, M1, _, re.ext e1, hm1, q1, fun v H' z => k v H' (z.back e1)⟩
    | false => exact ⟨ρ, M1, _, re.ext e1, hm1, q1, fun v H' z => k v H' (z.back e1)⟩⟩

def dNil : DA := fun _ M Q => Q [] M
def dCons (ta : DE) (tr : DA) : DA := fun ρ M Q => ta ρ M fun x M1 => tr ρ M1 fun xs M2 => Q (x :: xs) M2
theorem da_nil : PDA X [] dNil := pa_imp pa_nil fun σ H Q ⟨ρ, M, Q', re, hm, q, k⟩ => k [] H ⟨[], M, reps_nil, hm, .refl H, q⟩
theorem da_cons (ha : PDE X e te) (hr : PDA X es t) (hs : starEach (e :: es) X.env = (false, eval e X.env) :: starEach es X.env := by rfl) : PDA X (e :: es) (dCons te t) :=
  pa_imp (pa_cons ha hr hs) fun σ H Q ⟨ρ, M, Q', re, hm, q, k⟩ => ⟨ρ, M, _, re, hm, q, fun x H1 ⟨dx, M1, rx, hm1, e1, q1⟩ => ⟨ρ, M1, _, re.ext e1, hm1, q1, fun xs H2 ⟨dxs, M2, rxs, hm2, e2, q2⟩ =>
    k _ H2 ⟨dx :: dxs, M2, reps_cons (rx.ext e2) rxs, hm2, e1.trans e2, q2⟩⟩⟩
def dTup (t : DA) : DE := fun ρ M Q => t ρ M fun xs M1 => xs.length ≤ 1000 ∧ Q (.tup xs) M1
def dLst (t : DA) : DE := fun ρ M Q => t ρ M fun xs M1 => xs.length ≤ 1000 ∧ ∀ p, M1 p = none → Q (.ref p) (putM M1 p xs)
theorem de_tup {x1} (h : PDA X es t) : PDE X (.Tuple es x1 pos) (dTup t) :=
  pe_imp (pe_tup h) fun σ H Q ⟨ρ, M, Q', re, hm, q, k⟩ => ⟨ρ, M, _, re, hm, q, fun xs H1 ⟨ds, M1, rs, hm1, e1, q1, q2⟩ => ⟨by rw [← rs.length]; exact Nat.le_of_lt (small1000 q1), fun p hp =>
    k _ _ ⟨.tup ds, M1, rep_tup_mk (.of upd_same) (rs.ext (Ext.new hp _)), hm1.new hp _, e1.trans (Ext.new hp _), q2⟩⟩⟩
theorem de_lst (h : PDA X es t) : PDE X (.List es pos) (dLst t) :=
  pe_imp (pe_lst h) fun σ H Q ⟨ρ, M, Q', re, hm, q, k⟩ => ⟨ρ, M, _, re, hm, q, fun xs H1 ⟨ds, M1, rs, hm1, e1, q1, q2⟩ => ⟨by rw [← rs.length]; exact Nat.le_of_lt (small1000 q1), fun p hp =>
    k _ _ ⟨.ref p, _, rep_ref, hm1.lnew hp rs, e1.trans (Ext.new hp _), q2 p (hm1.fresh hp)⟩⟩⟩
end
end Dd

set_option Elab.async false
set_option linter.all false
set_option maxRecDepth 100000
set_option maxHeartbeats 4000000

namespace Dd
open PySem PySem.Spec PyProof.Rows L2

section
variable {X : Cx} {st : Stmt} {rest : List Stmt} {t u : DS} {e : Expr} {te : DE} {pos : Pos}
def dNext : DS := fun E ρ M => E.nx ρ M
def dSeq (t u : DS) : DS := fun E ρ M => t { E with nx := u E } ρ M
theorem dss_nil : PDSs X [] dNext := pss_imp pss_nil fun E σ H ⟨ρ, M, D, re, hm, q, k⟩ => k.nx σ H ⟨ρ, M, re, hm, .refl H, q⟩
theorem dss_cons (h1 : PDS X st t) (h2 : PDSs X rest u) : PDSs X (st :: rest) (dSeq t u) :=
  pss_imp (pss_cons h1 h2) fun E σ H ⟨ρ, M, D, re, hm, q, k⟩ => ⟨ρ, M, { D with nx := u D }, re, hm, q,
    ⟨fun σ' H' ⟨ρ', M', re', hm', ex, q'⟩ => ⟨ρ', M', D, re', hm', q', k.at ex⟩, k.rt, k.bk, k.ct⟩⟩
theorem dss_one (h1 : PDS X st t) : PDSs X [st] t := pss_one h1
def dBreak : DS := fun E ρ M => E.bk ρ M
def dCont : DS := fun E ρ M => E.ct ρ M
def dDrop (te : DE) : DS := fun E ρ M => te ρ M fun _ M1 => E.nx ρ M1
theorem ds_expr (he : PDE X e te) (hs : swapsWith e none pos.line X.env = pure false := by rfl) : PDS X (.Expr e pos) (dDrop te) :=
  ps_imp (ps_expr he hs) fun E σ H ⟨ρ, M, D, re, hm, q, k⟩ => ⟨ρ, M, _, re, hm, q, fun v H1 ⟨d, M1, rd, hm1, ex, q1⟩ => k.nx σ H1 ⟨ρ, M1, re.ext ex, hm1, ex, q1⟩⟩
def dRet (te : DE) : DS := fun E ρ M => te ρ M E.rt
theorem ds_ret (he : PDE X e te) : PDS X (.Return (some e) pos) (dRet te) :=
  ps_imp (ps_ret he) fun E σ H ⟨ρ, M, D, re, hm, q, k⟩ => ⟨ρ, M, _, re, hm, q, k.rt⟩
def dRetN : DS := fun E _ M => E.rt .non M
def dIfS (c : DT) (t u : DS) : DS := fun E ρ M => c ρ M fun b M1 => if b = true then t E ρ M1 else u E ρ M1
theorem ds_if {c : Expr} {a b : List Stmt} {tc : DT} (hc : PDT X c tc) (ha : PDSs X a t) (hb : PDSs X b u) : PDS X (.If c a b pos) (dIfS tc t u) :=
  ps_imp (ps_if hc ha hb) fun E σ H ⟨ρ, M, D, re, hm, q, k⟩ => ⟨ρ, M, _, re, hm, q, fun b H1 ⟨M1, hm1, ex, q1⟩ => by
    cases b with
    | true => exact ⟨ρ, M1, D, re.ext ex, hm1, q1, k.at ex⟩
    | false => exact ⟨ρ, M1, D, re.ext ex, hm1, q1, k.at ex⟩⟩
def dNever : DS := fun _ _ _ => False
theorem ds_never : PDS X st dNever := fun _ _ _ _ _ _ ⟨_, _, _, _, _, q, _⟩ => q.elim
end

section
variable {X : Cx} {pos : Pos} {e tg : Expr} {es : List Expr} {te : DE}
def gN (i : Nat) : DG := fun d ρ M Q => Q (ρ.set i (some d)) M
theorem dg_name {i : Nat} {x : Str} (hN : X.N.Nodup) (hi : X.N[i]? = some x := by rfl) (hx : Loc X.env.scope x := by first | exact Or.inl rfl | exact Or.inr rfl) (hf : X.fn x = true ∨ X.env.scope.names.lookup x = some .local := by first | exact .inl rfl | exact .inr rfl | assumption) : PDG X (.Name x pos) (gN i) :=
  pg_imp (pg_name (i := i) hN hi hx hf) fun v σ H Q ⟨d, ρ, M, Q', rd, re, hm, q, k⟩ => k _ H ⟨_, M, re.set rd i, hm, .refl H, q⟩
def gNl : DGs := fun ds ρ M Q => match ds with
  | [] => Q ρ M
  | _ => False
def gCn (t : DG) (u : DGs) : DGs := fun ds ρ M Q => match ds with
  | d :: r => t d ρ M fun ρ' M' => u r ρ' M' Q
  | [] => False
theorem dgs_nil : PDGs X [] gNl := pgs_imp pgs_nil fun v σ H Q ⟨ds, ρ, M, Q', rd, re, hm, q, k⟩ => by
  cases ds with
  | nil => exact ⟨reps_nil_eq rd, k σ H ⟨ρ, M, re, hm, .refl H, q⟩⟩
  | cons _ _ => exact q.elim
theorem dgs_cons {t : DG} {u : DGs} (h1 : PDG X e t) (h2 : PDGs X es u) (hs : (assignEach (e :: es) X.env).map (·.2) = assign e X.env :: (assignEach es X.env).map (·.2) := by rfl) : PDGs X (e :: es) (gCn t u) :=
  pgs_imp (pgs_cons h1 h2 hs) fun v σ H Q ⟨ds, ρ, M, Q', rd, re, hm, q, k⟩ => by
    cases ds with
    | nil => exact q.elim
    | cons d r =>
      obtain ⟨x, xs, rfl, rx, rxs⟩ := reps_cons_eq rd
      exact ⟨x, xs, rfl, d, ρ, M, _, rx, re, hm, q, fun σ' H' ⟨ρ', M', re', hm', ex, q'⟩ => ⟨r, ρ', M', Q', rxs.ext ex, re', hm', q', fun σ2 H2 z => k σ2 H2 (z.back ex)⟩⟩
def gT (n : Nat) (t : DGs) : DG := fun d ρ M Q => match d with
  | .tup ds => ds.length = n ∧ t ds ρ M Q
  | _ => False
theorem dg_tup {k : Nat} {t : DGs} {n : Nat} (hc : X.calm = true) (h : PDGs X es t) (hn : (assignEach es X.env).length = n := by rfl) (hst : (assignEach es X.env).findIdx? (·.1) = none := by rfl) : PDG X (.Tuple es k pos) (gT n t) :=
  pg_imp (pg_tup hc h hn hst) fun v σ H Q ⟨d, ρ, M, Q', rd, re, hm, q, k⟩ => by
    cases d with
    | tup ds =>
      obtain ⟨a, xs, rfl, sq, rs⟩ := rep_tup rd
      exact ⟨a, xs, rfl, sq, by rw [← rs.length]; exact q.1, ds, ρ, M, Q', rs, re, hm, q.2, k⟩
    | _ => exact q.elim
def dAsg (te : DE) (g : DG) : DS := fun E ρ M => te ρ M fun x M1 => g x ρ M1 E.nx
theorem low_asg {g : DG} {σ : L2.St} {H : Hp} {E : Ends} (h : lowS X.K (dAsg te g) E σ H) : low X.K te σ H fun x H1 => lowG X.K g x σ H1 E.nx := by
  obtain ⟨ρ, M, D, re, hm, q, k⟩ := h
  exact ⟨ρ, M, _, re, hm, q, fun v H1 ⟨d, M1, rd, hm1, ex, q1⟩ => ⟨d, ρ, M1, _, rd, re.ext ex, hm1, q1, fun σ' H' z => k.nx σ' H' (z.back ex)⟩⟩
theorem ds_asg {g : DG} (he : PDE X e te) (hg : PDG X tg g) (hs : swapsWithSole [tg] e pos.line X.env = pure false := by rfl) (hw : swappedStores [tg] e X.env = pure none := by rfl)
    (h1 : (assignEach [tg] X.env).map (·.2) = [assign tg X.env] := by rfl) : PDS X (.Assign [tg] e pos) (dAsg te g) :=
  ps_imp (ps_asg he hg hs hw h1) fun E σ H h => low_asg h
theorem ds_set {i : Nat} {x : Str} {pos' : Pos} (hN : X.N.Nodup) (he : PDE X e te) (hi : X.N[i]? = some x := by rfl) (hx : Loc X.env.scope x := by first | exact Or.inl rfl | exact Or.inr rfl) (hs : swapsWith e (some (.Name x pos')) pos.line X.env = pure false := by rfl) (hf : X.fn x = true ∨ X.env.scope.names.lookup x = some .local := by first | exact .inl rfl | exact .inr rfl | assumption) :
    PDS X (.Assign [.Name x pos'] e pos) (dAsg te (gN i)) :=
  ps_imp (ps_set (i := i) hN hi hx he hs hf) fun E σ H ⟨ρ, M, D, re, hm, q, k⟩ => ⟨ρ, M, _, re, hm, q, fun v H1 ⟨d, M1, rd, hm1, ex, q1⟩ => k.nx _ H1 ⟨_, M1, (re.ext ex).set rd i, hm1, ex, q1⟩⟩
def dPar (i j : Nat) (ta : DA) : DS := fun E ρ M => ta ρ M fun ds M1 => match ds with
  | [x, y] => E.nx ((ρ.set i (some x)).set j (some y)) M1
  | _ => False
theorem ds_par {i j : Nat} {x y : Str} {a b : Expr} {ta : DA} {px py pt : Pos} {kt k2 pt2} (hc : X.calm = true) (hN : X.N.Nodup) (ha : PDA X [a, b] ta) (hi : X.N[i]? = some x := by rfl) (hj : X.N[j]? = some y := by rfl) (hij : i ≠ j := by decide)
    (hx : X.env.scope.names.lookup x = some .local := by rfl) (hy : X.env.scope.names.lookup y = some .local := by rfl)
    (hw : swappedStores [.Tuple [.Name x px, .Name y py] kt pt] (.Tuple [a, b] k2 pt2) X.env = pure (some [x, y]) := by rfl)
    (hs : swapsWithSole [.Tuple [.Name x px, .Name y py] kt pt] (.Tuple [a, b] k2 pt2) pos.line X.env = pure false := by rfl) :
    PDS X (.Assign [.Tuple [.Name x px, .Name y py] kt pt] (.Tuple [a, b] k2 pt2) pos) (dPar i j ta) :=
  ps_imp (ps_par (i := i) (j := j) hc hN hi hj hij hx hy ha hw hs) fun E σ H ⟨ρ, M, D, re, hm, q, k⟩ => ⟨ρ, M, _, re, hm, q, fun vs H1 ⟨ds, M1, rs, hm1, ex, q1⟩ => by
    match ds, q1 with
    | [d1, d2], q1 =>
      obtain ⟨v1, r1, rfl, rv1, rr1⟩ := reps_cons_eq rs
      obtain ⟨v2, r2, rfl, rv2, rr2⟩ := reps_cons_eq rr1
      obtain rfl := reps_nil_eq rr2
      exact ⟨v1, v2, rfl, k.nx _ H1 ⟨_, M1, ((re.ext ex).set rv1 i).set rv2 j, hm1, ex, q1⟩⟩
    | [], q1 => exact q1.elim
    | [_], q1 => exact q1.elim
    | _ :: _ :: _ :: _, q1 => exact q1.elim⟩
def dSetI (to ti : DE) : DG := fun d ρ M Q => to ρ M fun o M1 => ti ρ M1 fun i M2 => match o, i with
  | .ref p, .int k => ∃ ds j, M2 p = some ds ∧ ixN ds.length k = some j ∧ Q ρ (putM M2 p (ds.set j d))
  | _, _ => False
theorem dg_sub {o i : Expr} {to ti : DE} (ho : PDE X o to) (hi : PDE X i ti)
    (ha : ∀ v, assign (.Subscript o i pos) X.env v = (do
      let ov ← holding [v] (eval o X.env)
      let iv ← holding [v, ov] (eval i X.env)
      standAt pos
      holding [v, ov, iv] (setItem ov iv v)
      release [v, ov, iv] []) := by intro _; rfl) : PDG X (.Subscript o i pos) (dSetI to ti) :=
  pg_imp (pg_sub ho hi set_list ha) fun v σ H Q ⟨d, ρ, M, Q', rd, re, hm, q, k⟩ => ⟨ρ, M, _, re, hm, q, fun ov H1 ⟨dov, M1, rov, hm1, e1, q1⟩ => ⟨ρ, M1, _, re.ext e1, hm1, q1, fun iv H2 ⟨div, M2, riv, hm2, e2, q2⟩ => by
    cases dov with
    | ref p =>
      cases div with
      | int z =>
        obtain ⟨ds, j, hp, hj, q2⟩ := q2
        obtain rfl := rep_ref_eq rov
        obtain rfl := rep_int_eq riv
        obtain ⟨xs, hx, rs⟩ := hm2 p ds hp
        exact ⟨p, xs, z, j, rfl, rfl, hx, by rw [← rs.length]; exact hj, k _ _ ⟨ρ, _, ((re.ext e1).ext e2).ext (Ext.put hx _), hm2.put hx (rs.set ((rd.ext e1).ext e2) j), (e1.trans e2).trans (Ext.put hx _), q2⟩⟩
      | _ => exact q2.elim
    | _ => exact q2.elim⟩⟩
end

section
variable {X : Cx} {pos : Pos}
def dWhile (c : DT) (tb : DS) : DS := fun E ρ M => ∃ W : Nat → DEnv → DM → Prop, (∃ m, W m ρ M) ∧ ∀ m ρ M, W m ρ M →
  c ρ M fun b M1 => if b = true then tb { E with nx := fun ρ' M' => ∃ m', m' < m ∧ W m' ρ' M', ct := fun ρ' M' => ∃ m', m' < m ∧ W m' ρ' M', bk := E.nx } ρ M1 else E.nx ρ M1
theorem ds_while {c : Expr} {body : List Stmt} {tc : DT} {tb : DS} (hp : PassesOwn (model X.prog X.w) X.A X.env X.xe) (hc : PDT X c tc) (hb : PDSs X body tb) : PDS X (.While c body [] pos) (dWhile tc tb) :=
  ps_imp (ps_while hp hc hb) fun E σ H ⟨ρ, M, D, re, hm, ⟨W, ⟨m0, w0⟩, turn⟩, k⟩ => by
    refine ⟨fun m σ' H' => ∃ ρ' M', RepE X.K H' ρ' σ' ∧ HRep X.K M' H' ∧ Ext H H' ∧ W m ρ' M', ⟨m0, ρ, M, re, hm, .refl H, w0⟩, ?_⟩
    rintro m σ1 H1 ⟨ρ1, M1, re1, hm1, e1, w1⟩
    refine ⟨ρ1, M1, _, re1, hm1, turn m ρ1 M1 w1, fun b H2 ⟨M2, hm2, e2, q2⟩ => ?_⟩
    cases b with
    | false => exact k.nx σ1 H2 ⟨ρ1, M2, re1.ext e2, hm2, e1.trans e2, q2⟩
    | true =>
      refine ⟨fun σ' H' => ∃ m', m' < m ∧ ∃ ρ' M', RepE X.K H' ρ' σ' ∧ HRep X.K M' H' ∧ Ext H H' ∧ W m' ρ' M', fun σ' H' z => z, ?_⟩
      refine ⟨ρ1, M2, _, re1.ext e2, hm2, q2, ?_⟩
      have ex := e1.trans e2
      exact ⟨fun σ' H' ⟨ρ', M', a, b, c, m', l, d⟩ => ⟨m', l, ρ', M', a, b, ex.trans c, d⟩, fun v H' z => k.rt v H' (z.back ex), fun σ' H' z => k.nx σ' H' (z.back ex), fun σ' H' ⟨ρ', M', a, b, c, m', l, d⟩ => ⟨m', l, ρ', M', a, b, ex.trans c, d⟩⟩
theorem dwhile_by {c : DT} {tb : DS} {E : DEnds} {ρ : DEnv} {M : DM} (Pv : Nat → DEnv → DM → Prop) (m0 : Nat) (h0 : Pv m0 ρ M)
    (hs : ∀ m ρ M, Pv m ρ M → c ρ M fun b M1 => if b = true then tb { E with nx := fun ρ' M' => ∃ m', m' < m ∧ Pv m' ρ' M', ct := fun ρ' M' => ∃ m', m' < m ∧ Pv m' ρ' M', bk := E.nx } ρ M1 else E.nx ρ M1) : dWhile c tb E ρ M := ⟨Pv, ⟨m0, h0⟩, hs⟩

def dIt (at' : Option Addr) (ds : List D) (g : DG) (tb : DS) : DS := fun E ρ M => ∃ Pv : Nat → DEnv → DM → Prop, Pv 0 ρ M ∧
  (∀ i ρ M, i ≤ ds.length → Pv i ρ M → ∀ a, at' = some a → M a = some ds) ∧
  (∀ i d ρ M, ds[i]? = some d → Pv i ρ M → g d ρ M fun ρ2 M2 => tb { E with nx := Pv (i + 1), ct := Pv (i + 1), bk := E.nx } ρ2 M2) ∧ ∀ ρ M, Pv ds.length ρ M → E.nx ρ M
def dForT (tl : DE) (g : DG) (tb : DS) : DS := fun E ρ M => tl ρ M fun d M1 => match d with
  | .tup ds => dIt none ds g tb E ρ M1
  | _ => False
def dForL (tl : DE) (g : DG) (tb : DS) : DS := fun E ρ M => tl ρ M fun d M1 => match d with
  | .fz ds => dIt none ds g tb E ρ M1
  | .ref a => ∃ ds, M1 a = some ds ∧ dIt (some a) ds g tb E ρ M1
  | _ => False
variable {iter tg : Expr} {body : List Stmt} {tl : DE} {g : DG} {tb : DS}
theorem it_ok {K : PySem.W.Frag} {a' : Option Addr} {ds : List D} {E : Ends} {Dn : DEnds} {σ : L2.St} {ρ : DEnv} {M : DM} {H0 H : Hp} {J : It} (ex0 : Ext H0 H) (re : RepE K H ρ σ) (hm : HRep K M H) (k : EndsOk K H0 Dn E) (h : dIt a' ds g tb Dn ρ M)
    (seq : ∀ H', Ext H H' → (∀ M', HRep K M' H' → (∀ a, a' = some a → M' a = some ds) → ∃ xs, Reps K H' ds xs ∧ (∀ i, xs.length ≤ i → J.stop i H') ∧ (∀ i, i < xs.length → J.go i H') ∧ ∀ i x H2, J.yld i H' x H2 → H2 = H' ∧ xs[i]? = some x)) :
    ∃ W : Nat → Nat → L2.St → Hp → Prop, (∃ m, W 0 m σ H) ∧ ∀ i m σ H, W i m σ H →
      (J.stop i H ∧ E.nx σ H) ∨ (J.go i H ∧ ∃ N : L2.St → Hp → Prop, (∀ σ' H', N σ' H' → ∃ m', m' < m ∧ W (i + 1) m' σ' H') ∧ ∀ x H', J.yld i H x H' → lowG K g x σ H' fun σ2 H2 => lowS K tb { E with nx := N, ct := N, bk := E.nx } σ2 H2) := by
  obtain ⟨Pv, p0, hat, step, done⟩ := h
  refine ⟨fun i m σ' H' => ∃ ρ' M', RepE K H' ρ' σ' ∧ HRep K M' H' ∧ Ext H H' ∧ m = ds.length - i ∧ i ≤ ds.length ∧ Pv i ρ' M', ⟨ds.length, ρ, M, re, hm, .refl H, rfl, Nat.zero_le _, p0⟩, ?_⟩
  rintro i m σ1 H1 ⟨ρ1, M1, re1, hm1, e1, rfl, hi, w1⟩
  obtain ⟨xs, rs, hst, hgo, hy⟩ := seq H1 e1 M1 hm1 (hat i ρ1 M1 hi w1)
  have hl := rs.length
  by_cases hlt : i < ds.length
  · refine .inr ⟨hgo i (by omega), fun σ' H' => ∃ ρ' M', RepE K H' ρ' σ' ∧ HRep K M' H' ∧ Ext H H' ∧ Pv (i + 1) ρ' M', fun σ' H' ⟨ρ', M', a, b, c, d⟩ => ⟨ds.length - (i + 1), by omega, ρ', M', a, b, c, rfl, hlt, d⟩, fun x H' y => ?_⟩
    obtain ⟨rfl, hx⟩ := hy i x H' y
    obtain ⟨d, hd, rd⟩ := rs.getV hx
    refine ⟨d, ρ1, M1, _, rd, re1, hm1, step i d ρ1 M1 hd w1, fun σ2 H2 ⟨ρ2, M2, re2, hm2, e2, q2⟩ => ⟨ρ2, M2, _, re2, hm2, q2, ?_⟩⟩
    have ex := e1.trans e2
    exact ⟨fun σ' H' ⟨ρ', M', a, b, c, d⟩ => ⟨ρ', M', a, b, ex.trans c, d⟩, fun v H' z => k.rt v H' (z.back (ex0.trans ex)), fun σ' H' z => k.nx σ' H' (z.back (ex0.trans ex)), fun σ' H' ⟨ρ', M', a, b, c, d⟩ => ⟨ρ', M', a, b, ex.trans c, d⟩⟩
  · have e : i = ds.length := by omega
    subst e
    exact .inl ⟨hst _ (by omega), k.nx σ1 H1 ⟨ρ1, M1, re1, hm1, ex0.trans e1, done ρ1 M1 w1⟩⟩
def dRng (lo : Int) (n : Nat) (g : DG) (tb : DS) : DS := fun E ρ M => ∃ Pv : Nat → DEnv → DM → Prop, Pv 0 ρ M ∧
  (∀ i ρ M, i < n → Pv i ρ M → g (.int (lo + i)) ρ M fun ρ2 M2 => tb { E with nx := Pv (i + 1), ct := Pv (i + 1), bk := E.nx } ρ2 M2) ∧ ∀ ρ M, Pv n ρ M → E.nx ρ M
def dFor1 (ta : DA) (g : DG) (tb : DS) : DS := fun E ρ M => ta ρ M fun ds M1 => match ds with
  | [.int j] => (-(2 ^ 62) ≤ j ∧ j < 2 ^ 62) ∧ dRng 0 j.toNat g tb E ρ M1
  | _ => False
def dFor2 (ta : DA) (g : DG) (tb : DS) : DS := fun E ρ M => ta ρ M fun ds M1 => match ds with
  | [.int i, .int j] => (-(2 ^ 62) ≤ i ∧ i < 2 ^ 62 ∧ -(2 ^ 62) ≤ j ∧ j < 2 ^ 62) ∧ dRng i (j - i).toNat g tb E ρ M1
  | _ => False
theorem rng_ok {K : PySem.W.Frag} {lo : Int} {n : Nat} {E : Ends} {Dn : DEnds} {σ : L2.St} {ρ : DEnv} {M : DM} {H0 H : Hp} (ex0 : Ext H0 H) (re : RepE K H ρ σ) (hm : HRep K M H) (k : EndsOk K H0 Dn E) (h : dRng lo n g tb Dn ρ M) :
    ∃ W : Nat → Nat → L2.St → Hp → Prop, (∃ m, W 0 m σ H) ∧ ∀ i m σ H, W i m σ H →
      ((Itr lo n).stop i H ∧ E.nx σ H) ∨ ((Itr lo n).go i H ∧ ∃ N : L2.St → Hp → Prop, (∀ σ' H', N σ' H' → ∃ m', m' < m ∧ W (i + 1) m' σ' H') ∧ ∀ x H', (Itr lo n).yld i H x H' → lowG K g x σ H' fun σ2 H2 => lowS K tb { E with nx := N, ct := N, bk := E.nx } σ2 H2) := by
  obtain ⟨Pv, p0, step, done⟩ := h
  refine ⟨fun i m σ' H' => ∃ ρ' M', RepE K H' ρ' σ' ∧ HRep K M' H' ∧ Ext H H' ∧ m = n - i ∧ i ≤ n ∧ Pv i ρ' M', ⟨n, ρ, M, re, hm, .refl H, rfl, Nat.zero_le _, p0⟩, ?_⟩
  rintro i m σ1 H1 ⟨ρ1, M1, re1, hm1, e1, rfl, hi, w1⟩
  by_cases hlt : i < n
  · refine .inr ⟨hlt, fun σ' H' => ∃ ρ' M', RepE K H' ρ' σ' ∧ HRep K M' H' ∧ Ext H H' ∧ Pv (i + 1) ρ' M', fun σ' H' ⟨ρ', M', a, b, c, d⟩ => ⟨n - (i + 1), by omega, ρ', M', a, b, c, rfl, hlt, d⟩, fun x H' y => ?_⟩
    obtain ⟨rfl, rfl⟩ := y
    refine ⟨_, ρ1, M1, _, rep_int, re1, hm1, step i ρ1 M1 hlt w1, fun σ2 H2 ⟨ρ2, M2, re2, hm2, e2, q2⟩ => ⟨ρ2, M2, _, re2, hm2, q2, ?_⟩⟩
    have ex := e1.trans e2
    exact ⟨fun σ' H' ⟨ρ', M', a, b, c, d⟩ => ⟨ρ', M', a, b, ex.trans c, d⟩, fun v H' z => k.rt v H' (z.back (ex0.trans ex)), fun σ' H' z => k.nx σ' H' (z.back (ex0.trans ex)), fun σ' H' ⟨ρ', M', a, b, c, d⟩ => ⟨ρ', M', a, b, ex.trans c, d⟩⟩
  · have e : i = n := by omega
    subst e
    exact .inl ⟨Nat.le_refl _, k.nx σ1 H1 ⟨ρ1, M1, re1, hm1, ex0.trans e1, done ρ1 M1 w1⟩⟩
end
end Dd

set_option Elab.async false
set_option linter.all false
set_option maxRecDepth 100000
set_option maxHeartbeats 4000000

namespace Dd
open PySem PySem.Spec PyProof.Rows L2

section
variable {X : Cx} {pos : Pos} {iter tg : Expr} {body : List Stmt} {tl : DE} {g : DG} {tb : DS} {ta : DA}
theorem ds_forL (hp : PassesOwn (model X.prog X.w) X.A X.env X.xe) (hc : X.calm = true) (hi : PDE X iter tl) (hg : PDG X tg g) (hb : PDSs X body tb) (hs : ∀ x, foldedSetIterable iter X.env x = pure x := by intro _; rfl) : PDS X (.For tg iter body [] pos) (dForL tl g tb) :=
  ps_imp (ps_for hp hc (pi_list hi) hg hb hs) fun E σ H ⟨ρ, M, Dn, re, hm, q, k⟩ => ⟨ρ, M, _, re, hm, q, fun v H1 ⟨d, M1, rd, hm1, ex, q1⟩ => by
    cases d with
    | fz ds =>
      obtain ⟨a, xs, rfl, sq, rs⟩ := rep_fz rd
      exact ⟨a, rfl, ⟨xs, sq.sq⟩, it_ok ex (re.ext ex) hm1 k q1 fun H' e' M' hm' _ => ⟨xs, rs.ext e', fun i hi => ⟨xs, (sqX_ext e' sq).sq, hi⟩, fun i hi => ⟨xs, xs[i], (sqX_ext e' sq).sq, by simp [hi]⟩, fun i x H2 y => ⟨y.1, y.2 xs (sqX_ext e' sq).sq⟩⟩⟩
    | ref a =>
      obtain ⟨ds, ha, q1⟩ := q1
      obtain rfl := rep_ref_eq rd
      obtain ⟨xs, hx, rs⟩ := hm1 a ds ha
      refine ⟨a, rfl, ⟨xs, .of hx⟩, it_ok ex (re.ext ex) hm1 k q1 fun H' e' M' hm' hat => ?_⟩
      obtain ⟨ys, hy, rs'⟩ := hm' a ds (hat a rfl)
      exact ⟨ys, rs', fun i hi => ⟨ys, .of hy, hi⟩, fun i hi => ⟨ys, ys[i], .of hy, by simp [hi]⟩, fun i x H2 y => ⟨y.1, y.2 ys (.of hy)⟩⟩
    | _ => exact q1.elim⟩
theorem ds_for1 {a : Expr} {p pos' : Pos} (hp : PassesOwn (model X.prog X.w) X.A X.env X.xe) (hc : X.calm = true) (hmg : X.mg "range" = none) (ha : PDA X [a] ta) (hg : PDG X tg g) (hb : PDSs X body tb) (hgl : Gl X "range" := by rfl) (hse : starEach [a] X.env = [(false, eval a X.env)] := by rfl)
    (hs : ∀ x, foldedSetIterable (.Call (.Name "range" p) [a] [] pos') X.env x = pure x := by intro _; rfl) : PDS X (.For tg (.Call (.Name "range" p) [a] [] pos') body [] pos) (dFor1 ta g tb) :=
  ps_imp (ps_for hp hc (pi_range1 hgl hmg ha hse) hg hb hs) fun E σ H ⟨ρ, M, Dn, re, hm, q, k⟩ => ⟨ρ, M, _, re, hm, q, fun vs H1 ⟨ds, M1, rs, hm1, ex, q1⟩ => by
    rcases ds with _ | ⟨d, _ | ⟨d2, r⟩⟩
    · exact q1.elim
    · cases d with
      | int j =>
        obtain ⟨⟨j1, j2⟩, q1⟩ := q1
        obtain ⟨v1, r1, rfl, rv1, rr1⟩ := reps_cons_eq rs
        obtain rfl := reps_nil_eq rr1
        obtain rfl := rep_int_eq rv1
        exact ⟨j, rfl, j1, j2, rng_ok ex (re.ext ex) hm1 k q1⟩
      | _ => exact q1.elim
    · cases d <;> exact q1.elim⟩
end

mutual
def eqD : D → D → Bool
  | .tup xs, .tup ys => eqDs xs ys
  | .non, .non => true
  | .bl a, .bl b => a == b
  | .bl a, .int b => (if a then 1 else 0) == b
  | .int a, .bl b => a == (if b then 1 else 0)
  | .int a, .int b => a == b
  | .str a, .str b => a == b
  | _, _ => false
def eqDs : List D → List D → Bool
  | [], [] => true
  | x :: xs, y :: ys => eqD x y && eqDs xs ys
  | _, _ => false
end
def pureN : Nat → D → Bool
  | _, .ref _ => false
  | _, .fz _ => false
  | 0, .tup _ => false
  | n + 1, .tup ds => ds.all (pureN n)
  | _, _ => true
def pairE : List D → List D → Nat → Bool
  | x :: _, y :: _, 0 => eqD x y
  | _ :: xs, _ :: ys, j + 1 => pairE xs ys j
  | _, _, _ => true
theorem all_range_succ (n : Nat) (e : Nat → Bool) : (List.range (n + 1)).all e = (e 0 && (List.range n).all fun j => e (j + 1)) := by
  rw [List.range_succ_eq_map, List.all_cons, List.all_map]
  rfl
theorem eqDs_pairs : ∀ (xs ys : List D), eqDs xs ys = ((List.range (min xs.length ys.length)).all (pairE xs ys) && xs.length == ys.length)
  | [], [] => by simp [eqDs]
  | [], _ :: _ => by simp [eqDs]
  | _ :: _, [] => by simp [eqDs]
  | x :: xs, y :: ys => by
    have ih := eqDs_pairs xs ys
    have e1 : min (x :: xs).length (y :: ys).length = min xs.length ys.length + 1 := by simp only [List.length_cons]; omega
    have e2 : ((x :: xs).length == (y :: ys).length) = (xs.length == ys.length) := by simp
    rw [e1, e2, all_range_succ]
    show (eqD x y && eqDs xs ys) = ((eqD x y && (List.range (min xs.length ys.length)).all fun j => pairE xs ys j) && xs.length == ys.length)
    rw [ih, Bool.and_assoc]
section
variable {X : Cx} {pins : List (Addr × Obj)} {σ : L2.St} {H : Hp} {s : Shared}
theorem pure0 {n : Nat} {d : D} (p : pureN n d = true) (h : ∀ xs, d ≠ .tup xs) : pureN 0 d = true := by
  cases d with
  | tup xs => exact absurd rfl (h xs)
  | ref b => cases n <;> exact absurd p Bool.false_ne_true
  | fz b => cases n <;> exact absurd p Bool.false_ne_true
  | _ => rfl
theorem eq_same0 {d d' : D} {v : V} (p : pureN 0 d = true) (p' : pureN 0 d' = true) (r : Rep X.K H d v) (r' : Rep X.K H d' v) : eqD d d' = true := by
  cases d <;> cases d' <;> first
    | (exact absurd p Bool.false_ne_true)
    | (exact absurd p' Bool.false_ne_true)
    | (unfold Rep at r r'; subst r; cases r' <;> simp [eqD])
theorem sc_noref {d : D} {a : Addr} (p : pureN 0 d = true) (r : Rep X.K H d (.ref a)) : False := by
  cases d <;> first
    | (exact absurd p Bool.false_ne_true)
    | (unfold Rep at r; cases r)
theorem eq_sames {n : Nat} (ih : ∀ {d d' : D} {v : V}, pureN n d = true → pureN n d' = true → Rep X.K H d v → Rep X.K H d' v → eqD d d' = true) :
    ∀ {xs ys : List D} {us : List V}, xs.all (pureN n) = true → ys.all (pureN n) = true → Reps X.K H xs us → Reps X.K H ys us → eqDs xs ys = true
  | [], [], _, _, _, _, _ => by simp [eqDs]
  | [], _ :: _, _, _, _, r, r' => by
    rw [reps_nil_eq r] at r'
    obtain ⟨_, _, z, _⟩ := reps_cons_eq r'
    cases z
  | _ :: _, [], _, _, _, r, r' => by
    rw [reps_nil_eq r'] at r
    obtain ⟨_, _, z, _⟩ := reps_cons_eq r
    cases z
  | x :: xs, y :: ys, _, p1, p2, r, r' => by
    obtain ⟨v0, r0, rfl, h1, h2⟩ := reps_cons_eq r
    obtain ⟨v0', r0', e0, h1', h2'⟩ := reps_cons_eq r'
    cases e0
    rw [List.all_cons, Bool.and_eq_true] at p1 p2
    show (eqD x y && eqDs xs ys) = true
    rw [ih p1.1 p2.1 h1 h1', eq_sames ih p1.2 p2.2 h2 h2']
    rfl
theorem eq_same (I : Inv X pins σ H s) : ∀ (n : Nat) {d d' : D} {v : V}, pureN n d = true → pureN n d' = true → Rep X.K H d v → Rep X.K H d' v → eqD d d' = true := by
  intro n
  induction n with
  | zero => intro d d' v p p' r r'; exact eq_same0 p p' r r'
  | succ n ih =>
    intro d d' v p p' r r'
    by_cases h1 : ∃ xs, d = .tup xs
    · obtain ⟨xs, rfl⟩ := h1
      obtain ⟨a, us, rfl, sq, rs⟩ := rep_tup r
      by_cases h2 : ∃ ys, d' = .tup ys
      · obtain ⟨ys, rfl⟩ := h2
        obtain ⟨a', us', e1', sq', rs'⟩ := rep_tup r'
        cases e1'
        obtain rfl := I.tuple_inj sq sq'
        exact eq_sames ih p p' rs rs'
      · exact (sc_noref (pure0 p' fun xs e => h2 ⟨xs, e⟩) r').elim
    · have p0 := pure0 p fun xs e => h1 ⟨xs, e⟩
      by_cases h2 : ∃ ys, d' = .tup ys
      · obtain ⟨ys, rfl⟩ := h2
        obtain ⟨a', us', rfl, sq', rs'⟩ := rep_tup r'
        exact (sc_noref p0 r).elim
      · exact eq_same0 p0 (pure0 p' fun xs e => h2 ⟨xs, e⟩) r r'
theorem tup_at (I : Inv X pins σ H s) {a : Addr} {xs : List V} (sq : SqT X.K H a xs) : ∃ its : List Value, Vals xs its ∧ s.heap.IsTuple a its.toArray := let ⟨its, r, p, _⟩ := I.tuple sq; ⟨its, r, p⟩
theorem sc_flat {d : D} {v : V} {n : Nat} (h : Rep X.K H d v) (p : pureN 0 d = true) : flatV v = true := by
  cases d with
  | non => unfold Rep at h; subst h; rfl
  | bl b => unfold Rep at h; subst h; rfl
  | int b => unfold Rep at h; subst h; rfl
  | str b => unfold Rep at h; subst h; rfl
  | tup b => exact absurd p Bool.false_ne_true
  | ref b => exact absurd p Bool.false_ne_true
  | fz b => exact absurd p Bool.false_ne_true
theorem eq_items {A : Around} {n : Nat} (ih : ∀ {d d' : D} {v v' : V} {u u' : Value}, pureN n d = true → pureN n d' = true → Rep X.K H d v → Rep X.K H d' v' → RelV v u → RelV v' u' → SeqAt.EqAt A s u u' (eqD d d')) :
    ∀ {xs ys : List D} {us us' : List V} {its its' : List Value}, xs.all (pureN n) = true → ys.all (pureN n) = true → Reps X.K H xs us → Reps X.K H ys us' → Vals us its → Vals us' its' → ∀ j (h1 : j < its.length) (h2 : j < its'.length), SeqAt.EqAt A s its[j] its'[j] (pairE xs ys j)
  | [], ys, us, us', its, its', _, _, r1, _, v1, _, j, h1, _ => by rw [reps_nil_eq r1] at v1; cases v1; exact absurd h1 (Nat.not_lt_zero _)
  | _ :: _, [], us, us', its, its', _, _, _, r2, _, v2, j, _, h2 => by rw [reps_nil_eq r2] at v2; cases v2; exact absurd h2 (Nat.not_lt_zero _)
  | x :: xs, y :: ys, us, us', its, its', p1, p2, r1, r2, v1, v2, j, h1, h2 => by
    obtain ⟨a, ra, rfl, ha, hra⟩ := reps_cons_eq r1
    obtain ⟨b, rb, rfl, hb, hrb⟩ := reps_cons_eq r2
    rw [List.all_cons, Bool.and_eq_true] at p1 p2
    cases v1 with
    | cons q1 w1 =>
      cases v2 with
      | cons q2 w2 =>
        cases j with
        | zero => exact ih p1.1 p2.1 ha hb q1 q2
        | succ j => exact eq_items ih p1.2 p2.2 hra hrb w1 w2 j (Nat.lt_of_succ_lt_succ h1) (Nat.lt_of_succ_lt_succ h2)
theorem eqv_sc {d d' : D} {v v' : V} (p : pureN 0 d = true) (p' : pureN 0 d' = true) (r : Rep X.K H d v) (r' : Rep X.K H d' v') : eqV v v' = eqD d d' := by
  cases d <;> cases d' <;> first
    | (exact absurd p Bool.false_ne_true)
    | (exact absurd p' Bool.false_ne_true)
    | (unfold Rep at r r'; subst r; subst r'; simp [eqD, eqV])
theorem eq_at (I : Inv X pins σ H s) : ∀ (n : Nat) {A : Around} {d d' : D} {v v' : V} {u u' : Value}, A.units + n < cLine → pureN n d = true → pureN n d' = true → Rep X.K H d v → Rep X.K H d' v' → RelV v u → RelV v' u' → SeqAt.EqAt A s u u' (eqD d d') := by
  intro n
  induction n with
  | zero =>
    intro A d d' v v' u u' hu p p' r r' q q'
    have := eqAt_V (A := A) (s := s) q q' (sc_flat (n := 0) r p) (sc_flat (n := 0) r' p')
    rw [eqv_sc p p' r r'] at this
    exact this
  | succ n ih =>
    intro A d d' v v' u u' hu p p' r r' q q'
    by_cases h1 : ∃ xs, d = .tup xs
    · obtain ⟨xs, rfl⟩ := h1
      obtain ⟨a, us, rfl, sq, rs⟩ := rep_tup r
      obtain ⟨its, rv, ht⟩ := tup_at I sq
      cases q
      by_cases h2 : ∃ ys, d' = .tup ys
      · obtain ⟨ys, rfl⟩ := h2
        obtain ⟨a', us', rfl, sq', rs'⟩ := rep_tup r'
        obtain ⟨its', rv', ht'⟩ := tup_at I sq'
        cases q'
        by_cases hll : a = a'
        · subst hll
          rw [eq_same I (n + 1) p p' r r']
          exact SeqAt.EqAt.same _
        · have e1 := rs.length
          have e2 := rv.length
          have e3 := rs'.length
          have e4 := rv'.length
          show SeqAt.EqAt A s (.ref a) (.ref a') (eqDs xs ys)
          rw [eqDs_pairs, show xs.length = its.toArray.size by rw [List.size_toArray]; omega, show ys.length = its'.toArray.size by rw [List.size_toArray]; omega]
          refine SeqAt.EqAt.of_refs hll (SeqAt.RcAt.tuples ht ht' (by omega) fun j j1 j2 => ?_)
          have hu' : A.in1.units + n < cLine := by show A.units + 1 + n < cLine; omega
          have := eq_items (A := A.in1) (s := s) (fun {d d' v v' u u'} p p' r r' q q' => ih hu' p p' r r' q q') p p' rs rs' rv rv' j (by simpa using j1) (by simpa using j2)
          simpa using this
      · have p0 := pure0 p' (fun xs e => h2 ⟨xs, e⟩)
        cases d' with
        | non => rw [rep_non_eq r'] at q'; cases q'; exact SeqAt.EqAt.tuple_none ht (by omega)
        | bl b => rw [rep_bl_eq r'] at q'; cases q'; exact SeqAt.EqAt.tuple_bool b ht (by omega)
        | int b => rw [rep_int_eq r'] at q'; obtain ⟨t, rfl⟩ := q'; exact SeqAt.EqAt.tuple_int b t ht (by omega)
        | str b => rw [rep_str_eq r'] at q'; obtain ⟨t, rfl⟩ := q'; exact SeqAt.EqAt.tuple_str b t ht (by omega)
        | tup b => exact absurd p0 Bool.false_ne_true
        | ref b => exact absurd p0 Bool.false_ne_true
        | fz b => exact absurd p0 Bool.false_ne_true
    · have p0 := pure0 p (fun xs e => h1 ⟨xs, e⟩)
      by_cases h2 : ∃ ys, d' = .tup ys
      · obtain ⟨ys, rfl⟩ := h2
        obtain ⟨a', us', rfl, sq', rs'⟩ := rep_tup r'
        obtain ⟨its', rv', ht'⟩ := tup_at I sq'
        cases q'
        cases d with
        | non => rw [rep_non_eq r] at q; cases q; exact SeqAt.EqAt.none_tuple ht' (by omega)
        | bl b => rw [rep_bl_eq r] at q; cases q; exact SeqAt.EqAt.bool_tuple b ht' (by omega)
        | int b => rw [rep_int_eq r] at q; obtain ⟨t, rfl⟩ := q; exact SeqAt.EqAt.int_tuple b t ht' (by omega)
        | str b => rw [rep_str_eq r] at q; obtain ⟨t, rfl⟩ := q; exact SeqAt.EqAt.str_tuple b t ht' (by omega)
        | tup b => exact absurd p0 Bool.false_ne_true
        | ref b => exact absurd p0 Bool.false_ne_true
        | fz b => exact absurd p0 Bool.false_ne_true
      · have p0' := pure0 p' (fun xs e => h2 ⟨xs, e⟩)
        have := eqAt_V (A := A) (s := s) q q' (sc_flat (n := 0) r p0) (sc_flat (n := 0) r' p0')
        rw [eqv_sc p0 p0' r r'] at this
        exact this
theorem rc_at (I : Inv X pins σ H s) {A : Around} (hu : A.units + 60 < cLine) {d d' : D} {v v' : V} {u u' : Value} (p : pureN 60 d = true) (p' : pureN 60 d' = true) (r : Rep X.K H d v) (r' : Rep X.K H d' v') (q : RelV v u) (q' : RelV v' u') :
    SeqAt.RcAt A s u u' (eqD d d') ∧ SeqAt.RcNeAt A s u u' (!eqD d d') := by
  have hu0 : A.units < cLine := by omega
  cases d with
  | ref b => exact absurd p Bool.false_ne_true
  | fz b => exact absurd p Bool.false_ne_true
  | tup xs =>
    obtain ⟨a, us, rfl, sq, rs⟩ := rep_tup r
    obtain ⟨its, rv, ht⟩ := tup_at I sq
    cases q
    cases d' with
    | ref b => exact absurd p' Bool.false_ne_true
    | fz b => exact absurd p' Bool.false_ne_true
    | non => rw [rep_non_eq r'] at q'; cases q'; exact ⟨SeqAt.RcAt.tuple_none ht hu0, SeqAt.RcNeAt.tuple_none ht hu0⟩
    | bl b => rw [rep_bl_eq r'] at q'; cases q'; exact ⟨SeqAt.RcAt.tuple_bool b ht hu0, SeqAt.RcNeAt.tuple_bool b ht hu0⟩
    | int b => rw [rep_int_eq r'] at q'; obtain ⟨t, rfl⟩ := q'; exact ⟨SeqAt.RcAt.tuple_int b t ht hu0, SeqAt.RcNeAt.tuple_int b t ht hu0⟩
    | str b => rw [rep_str_eq r'] at q'; obtain ⟨t, rfl⟩ := q'; exact ⟨SeqAt.RcAt.tuple_str b t ht hu0, SeqAt.RcNeAt.tuple_str b t ht hu0⟩
    | tup ys =>
      obtain ⟨a', us', rfl, sq', rs'⟩ := rep_tup r'
      obtain ⟨its', rv', ht'⟩ := tup_at I sq'
      cases q'
      have e1 := rs.length
      have e2 := rv.length
      have e3 := rs'.length
      have e4 := rv'.length
      have hit : ∀ j (h1 : j < its.toArray.size) (h2 : j < its'.toArray.size), SeqAt.EqAt A.in1 s its.toArray[j] its'.toArray[j] (pairE xs ys j) := fun j j1 j2 => by
        have hu' : A.in1.units + 59 < cLine := by show A.units + 1 + 59 < cLine; omega
        have := eq_items (A := A.in1) (s := s) (fun {d d' v v' u u'} p p' r r' q q' => eq_at I 59 hu' p p' r r' q q') p p' rs rs' rv rv' j (by simpa using j1) (by simpa using j2)
        simpa using this
      have hz : eqD (.tup xs) (.tup ys) = ((List.range (min its.toArray.size its'.toArray.size)).all (pairE xs ys) && its.toArray.size == its'.toArray.size) := by
        show eqDs xs ys = _
        rw [eqDs_pairs, show xs.length = its.toArray.size by rw [List.size_toArray]; omega, show ys.length = its'.toArray.size by rw [List.size_toArray]; omega]
      rw [hz]
      exact ⟨SeqAt.RcAt.tuples ht ht' hu0 hit, SeqAt.RcNeAt.tuples ht ht' hu0 hit⟩
  | non =>
    rw [rep_non_eq r] at q; cases q
    cases d' with
    | ref b => exact absurd p' Bool.false_ne_true
    | fz b => exact absurd p' Bool.false_ne_true
    | non => rw [rep_non_eq r'] at q'; cases q'; exact ⟨SeqAt.RcAt.none_none, SeqAt.RcNeAt.none_none⟩
    | bl b => rw [rep_bl_eq r'] at q'; cases q'; exact ⟨SeqAt.RcAt.none_bool b, SeqAt.RcNeAt.none_bool b⟩
    | int b => rw [rep_int_eq r'] at q'; obtain ⟨t, rfl⟩ := q'; exact ⟨SeqAt.RcAt.none_int b t, SeqAt.RcNeAt.none_int b t⟩
    | str b => rw [rep_str_eq r'] at q'; obtain ⟨t, rfl⟩ := q'; exact ⟨SeqAt.RcAt.none_str b t, SeqAt.RcNeAt.none_str b t⟩
    | tup ys =>
      obtain ⟨a', us', rfl, sq', rs'⟩ := rep_tup r'
      obtain ⟨its', rv', ht'⟩ := tup_at I sq'
      cases q'
      exact ⟨SeqAt.RcAt.none_tuple ht' hu0, SeqAt.RcNeAt.none_tuple ht' hu0⟩
  | bl z =>
    rw [rep_bl_eq r] at q; cases q
    cases d' with
    | ref b => exact absurd p' Bool.false_ne_true
    | fz b => exact absurd p' Bool.false_ne_true
    | non => rw [rep_non_eq r'] at q'; cases q'; exact ⟨SeqAt.RcAt.bool_none z, SeqAt.RcNeAt.bool_none z⟩
    | bl b => rw [rep_bl_eq r'] at q'; cases q'; exact ⟨SeqAt.RcAt.bool_bool z b, SeqAt.RcNeAt.bool_bool z b⟩
    | int b => rw [rep_int_eq r'] at q'; obtain ⟨t, rfl⟩ := q'; exact ⟨SeqAt.RcAt.bool_int z b t, SeqAt.RcNeAt.bool_int z b t⟩
    | str b => rw [rep_str_eq r'] at q'; obtain ⟨t, rfl⟩ := q'; exact ⟨SeqAt.RcAt.bool_str z b t, SeqAt.RcNeAt.bool_str z b t⟩
    | tup ys =>
      obtain ⟨a', us', rfl, sq', rs'⟩ := rep_tup r'
      obtain ⟨its', rv', ht'⟩ := tup_at I sq'
      cases q'
      exact ⟨SeqAt.RcAt.bool_tuple z ht' hu0, SeqAt.RcNeAt.bool_tuple z ht' hu0⟩
  | int z =>
    rw [rep_int_eq r] at q; obtain ⟨tz, rfl⟩ := q
    cases d' with
    | ref b => exact absurd p' Bool.false_ne_true
    | fz b => exact absurd p' Bool.false_ne_true
    | non => rw [rep_non_eq r'] at q'; cases q'; exact ⟨SeqAt.RcAt.int_none z tz, SeqAt.RcNeAt.int_none z tz⟩
    | bl b => rw [rep_bl_eq r'] at q'; cases q'; exact ⟨SeqAt.RcAt.int_bool z tz b, SeqAt.RcNeAt.int_bool z tz b⟩
    | int b => rw [rep_int_eq r'] at q'; obtain ⟨t, rfl⟩ := q'; exact ⟨SeqAt.RcAt.int_int z tz b t, SeqAt.RcNeAt.int_int z tz b t⟩
    | str b => rw [rep_str_eq r'] at q'; obtain ⟨t, rfl⟩ := q'; exact ⟨SeqAt.RcAt.int_str z tz b t, SeqAt.RcNeAt.int_str z tz b t⟩
    | tup ys =>
      obtain ⟨a', us', rfl, sq', rs'⟩ := rep_tup r'
      obtain ⟨its', rv', ht'⟩ := tup_at I sq'
      cases q'
      exact ⟨SeqAt.RcAt.int_tuple z tz ht' hu0, SeqAt.RcNeAt.int_tuple z tz ht' hu0⟩
  | str z =>
    rw [rep_str_eq r] at q; obtain ⟨tz, rfl⟩ := q
    cases d' with
    | ref b => exact absurd p' Bool.false_ne_true
    | fz b => exact absurd p' Bool.false_ne_true
    | non => rw [rep_non_eq r'] at q'; cases q'; exact ⟨SeqAt.RcAt.str_none z tz, SeqAt.RcNeAt.str_none z tz⟩
    | bl b => rw [rep_bl_eq r'] at q'; cases q'; exact ⟨SeqAt.RcAt.str_bool z tz b, SeqAt.RcNeAt.str_bool z tz b⟩
    | int b => rw [rep_int_eq r'] at q'; obtain ⟨t, rfl⟩ := q'; exact ⟨SeqAt.RcAt.str_int z tz b t, SeqAt.RcNeAt.str_int z tz b t⟩
    | str b => rw [rep_str_eq r'] at q'; obtain ⟨t, rfl⟩ := q'; exact ⟨SeqAt.RcAt.str_str z tz b t, SeqAt.RcNeAt.str_str z tz b t⟩
    | tup ys =>
      obtain ⟨a', us', rfl, sq', rs'⟩ := rep_tup r'
      obtain ⟨its', rv', ht'⟩ := tup_at I sq'
      cases q'
      exact ⟨SeqAt.RcAt.str_tuple z tz ht' hu0, SeqAt.RcNeAt.str_tuple z tz ht' hu0⟩
end
end Dd

set_option Elab.async false
set_option linter.all false
set_option maxRecDepth 100000
set_option maxHeartbeats 4000000

namespace Dd
open PySem PySem.Spec PyProof.Rows L2

section
variable {X : Cx} {a b e o : Expr} {es : List Expr} {ta tb te to : DE} {t : DA} {pos : Pos}
def d2I (C : Int → Int → Prop) (g : Int → Int → D) : D2 := fun x y M Q => match x, y with
  | .int i, .int j => C i j ∧ Q (g i j) M
  | _, _ => False
def d2J (g : Int → Int → D) : D2 := fun x y M Q => match x, y with
  | .int i, .int j => Q (g i j) M
  | _, _ => False
theorem od_I {f : Value → Value → Sem Value} {C : Int → Int → Prop} {g : Int → Int → D} {g' : Int → Int → V} (h : OpR X f (rI C g')) (hg : ∀ H i j, Rep X.K H (g i j) (g' i j)) : OpD X f (d2I C g) :=
  OpD.of h fun x y H M dx dy Q rx ry hm q => by
    cases dx with
    | int i =>
      cases dy with
      | int j => exact ⟨i, j, rep_int_eq rx, rep_int_eq ry, q.1, _, M, hg H i j, hm, .refl H, q.2⟩
      | _ => exact q.elim
    | _ => exact q.elim
theorem od_J {f : Value → Value → Sem Value} {g : Int → Int → D} {g' : Int → Int → V} (h : OpR X f (rI0 g')) (hg : ∀ H i j, Rep X.K H (g i j) (g' i j)) : OpD X f (d2J g) :=
  OpD.of h fun x y H M dx dy Q rx ry hm q => by
    cases dx with
    | int i =>
      cases dy with
      | int j => exact ⟨i, j, rep_int_eq rx, rep_int_eq ry, _, M, hg H i j, hm, .refl H, q⟩
      | _ => exact q.elim
    | _ => exact q.elim
theorem od_sub : OpD X (binaryOp .Sub) (d2J fun i j => .int (i - j)) := od_J op_sub fun _ _ _ => rep_int
theorem op_mulB : OpR X (binaryOp .Mult) (rI IntMulOk fun i j => .int (i * j)) := opI fun _ _ _ _ _ _ _ hc q => mul_int q hc
theorem od_mul : OpD X (binaryOp .Mult) (d2I IntMulOk fun i j => .int (i * j)) := od_I op_mulB fun _ _ _ => rep_int
def CFd (i j : Int) : Prop := j ≠ 0 ∧ j.natAbs.log2 < 9000
theorem op_fdB : OpR X (binaryOp .FloorDiv) (rI CFd fun i j => .int (i.fdiv j)) := opI fun _ _ _ _ _ _ _ hc q => floordiv_int hc.1 q (.inl (PyProof.noPylong_of_log2 hc.2))
theorem od_fdiv : OpD X (binaryOp .FloorDiv) (d2I CFd fun i j => .int (i.fdiv j)) := od_I op_fdB fun _ _ _ => rep_int
theorem od_mod : OpD X (binaryOp .Mod) (d2I (fun _ j => j ≠ 0) fun i j => .int (i.fmod j)) := od_I op_modN fun _ _ _ => rep_int
theorem od_pow : OpD X (binaryOp .Pow) (d2I CPow fun i j => .int (i ^ j.toNat)) := od_I op_pow fun _ _ _ => rep_int
theorem od_lt : OpD X (compareOp .Lt) (d2J fun i j => .bl (decide (i < j))) := od_J op_lt fun _ _ _ => rep_bl
theorem od_gt : OpD X (compareOp .Gt) (d2J fun i j => .bl (decide (j < i))) := od_J op_gt fun _ _ _ => rep_bl
theorem od_ge : OpD X (compareOp .GtE) (d2J fun i j => .bl (decide (j ≤ i))) := od_J op_ge fun _ _ _ => rep_bl
def dAdd : D2 := fun x y M Q => match x, y with
  | .int i, .int j => Q (.int (i + j)) M
  | .ref a, .ref b => ∃ xs ys, M a = some xs ∧ M b = some ys ∧ xs.length + ys.length ≤ 1000 ∧ ∀ p, M p = none → Q (.ref p) (putM M p (xs ++ ys))
  | .fz xs, .ref b => ∃ ys, M b = some ys ∧ xs.length + ys.length ≤ 1000 ∧ ∀ p, M p = none → Q (.ref p) (putM M p (xs ++ ys))
  | .tup xs, .tup ys => xs ≠ [] ∧ ys ≠ [] ∧ xs.length + ys.length ≤ 1000 ∧ Q (.tup (xs ++ ys)) M
  | _, _ => False
theorem fz_obj {pins : List (Addr × Obj)} {σ : L2.St} {H : Hp} {s : Shared} (I : Inv X pins σ H s) {a : Addr} {xs : List V} (h : SqX X.K H a xs) : xs.length ≤ sizeLine ∧ ∃ (its : List Value) (n : Nat), Vals xs its ∧ s.heap.get? a = some { cls := .type "list", data := .seq its.toArray n } := by
  rcases h with ⟨o, h⟩ | ⟨its, n, hk, hz, r⟩
  · obtain ⟨_, z, its, n, r, e⟩ := I.hok a _ h
    exact ⟨z, its, n, r, e⟩
  · have e := r.length
    simp only [Array.length_toList] at e
    exact ⟨by omega, its.toList, n, r, by simpa using I.kIn a _ hk⟩
theorem od_add : OpD X (binaryOp .Add) dAdd := by
  intro pins s σ H x y v u Q I rx ry ⟨dx, dy, M, Q', r1, r2, hm, q, k⟩
  cases dx with
  | int i =>
    cases dy with
    | int j => exact op_add pins s σ H x y v u Q I rx ry ⟨i, j, rep_int_eq r1, rep_int_eq r2, k _ H ⟨_, M, rep_int, hm, .refl H, q⟩⟩
    | _ => exact q.elim
  | ref a =>
    cases dy with
    | ref b =>
      obtain ⟨xs, ys, ha, hb, hl, q⟩ := q
      obtain ⟨us, hu, ru⟩ := hm a xs ha
      obtain ⟨ws, hw, rw'⟩ := hm b ys hb
      refine op_cat pins s σ H x y v u Q I rx ry ⟨a, b, us, ws, rep_ref_eq r1, rep_ref_eq r2, hu, hw, ?_, fun p hp => k _ _ ⟨.ref p, _, rep_ref, hm.lnew hp (ru.append rw'), Ext.new hp _, q p (hm.fresh hp)⟩⟩
      rw [← ru.length, ← rw'.length]; exact Nat.le_of_lt (small1000 hl)
    | _ => exact q.elim
  | fz xs =>
    cases dy with
    | ref b =>
      obtain ⟨ys, hb, hl, q⟩ := q
      obtain ⟨a, us, rfl, sq, ru⟩ := rep_fz r1
      obtain ⟨ws, hw, rw'⟩ := hm b ys hb
      obtain rfl := rep_ref_eq r2
      cases rx
      cases ry
      obtain ⟨z, its, n, r, e⟩ := fz_obj I sq
      obtain ⟨z2, its2, n2, r3, hl2, e2⟩ := I.lstM hw
      have l1 := r.length
      have l2 := r3.length
      have l3 := ru.length
      have l4 := rw'.length
      have hz := small1000 hl
      refine PySem.P.add_list e e2 ?_ (by rw [List.size_toArray, List.size_toArray]; omega)
      have ea : its.toArray ++ its2.toArray = (its ++ its2).toArray := by simp
      rw [ea]
      refine ⟨.ref _, _, I.lnew (t' := s.toks) (r.append r3) (by rw [List.length_append]; omega), rfl, k _ _ ⟨.ref _, _, rep_ref, hm.lnew I.fresh (ru.append rw'), Ext.new I.fresh _, q _ (hm.fresh I.fresh)⟩⟩
    | _ => exact q.elim
  | tup xs =>
    cases dy with
    | tup ys =>
      obtain ⟨h1, h2, hl, q⟩ := q
      obtain ⟨a, us, rfl, sq, ru⟩ := rep_tup r1
      obtain ⟨b, ws, rfl, sq2, rw'⟩ := rep_tup r2
      have l3 := ru.length
      have l4 := rw'.length
      refine op_catT pins s σ H _ _ v u Q I rx ry ?_
      have n1 : us ≠ [] := fun z => by rw [z] at l3; exact h1 (List.length_eq_zero_iff.mp l3)
      have n2 : ws ≠ [] := fun z => by rw [z] at l4; exact h2 (List.length_eq_zero_iff.mp l4)
      exact ⟨a, b, us, ws, rfl, rfl, sq, sq2, n1, by rw [← l3, ← l4]; exact Nat.le_of_lt (small1000 hl), fun z => absurd z n2, fun _ p hp => k _ _ ⟨.tup _, M, rep_tup_mk (.of upd_same) ((ru.append rw').ext (Ext.new hp _)), hm.new hp _, Ext.new hp _, q⟩⟩
    | _ => exact q.elim
  | _ => exact q.elim
def dEq (g : Bool → Bool) : D2 := fun x y M Q => match x, y with
  | .ref a, .ref b => ∃ xs ys, M a = some xs ∧ M b = some ys ∧ (a ≠ b) ∧ xs.all (pureN 59) = true ∧ ys.all (pureN 59) = true ∧ Q (.bl (g (eqDs xs ys))) M
  | x, y => pureN 60 x = true ∧ pureN 60 y = true ∧ Q (.bl (g (eqD x y))) M
theorem lists_at {pins : List (Addr × Obj)} {σ : L2.St} {H : Hp} {s : Shared} (I : Inv X pins σ H s) {A : Around} (hu : A.units + 60 < cLine) {a b : Addr} {us ws : List V} {xs ys : List D} (ha : H a = some (.lst us)) (hb : H b = some (.lst ws)) (ru : Reps X.K H xs us) (rw' : Reps X.K H ys ws)
    (p : xs.all (pureN 59) = true) (p' : ys.all (pureN 59) = true) : SeqAt.RcAt A s (.ref a) (.ref b) (eqDs xs ys) ∧ SeqAt.RcNeAt A s (.ref a) (.ref b) (!eqDs xs ys) := by
  obtain ⟨z, its, n, r, hl, e⟩ := I.lstM ha
  obtain ⟨z2, its2, n2, r3, hl2, e2⟩ := I.lstM hb
  have i1 : s.heap.IsList a its.toArray := ⟨_, e, rfl, _, rfl⟩
  have i2 : s.heap.IsList b its2.toArray := ⟨_, e2, rfl, _, rfl⟩
  have l3 := ru.length
  have l4 := rw'.length
  have hu0 : A.units < cLine := by omega
  by_cases hz : its.toArray.size = its2.toArray.size
  · have hz' := hz
    rw [List.size_toArray, List.size_toArray] at hz'
    have hit : ∀ j (h1 : j < its.toArray.size) (h2 : j < its2.toArray.size), SeqAt.EqAt A.in1 s its.toArray[j] its2.toArray[j] (pairE xs ys j) := fun j j1 j2 => by
      have hu' : A.in1.units + 59 < cLine := by show A.units + 1 + 59 < cLine; omega
      have := eq_items (A := A.in1) (s := s) (fun {d d' v v' u u'} p p' r r' q q' => eq_at I 59 hu' p p' r r' q q') p p' ru rw' r r3 j (by simpa using j1) (by simpa using j2)
      simpa using this
    have hz2 : eqDs xs ys = (List.range its.toArray.size).all (pairE xs ys) := by
      rw [eqDs_pairs, show min xs.length ys.length = its.toArray.size by rw [List.size_toArray]; omega, show (xs.length == ys.length) = true by simp; omega, Bool.and_true]
    rw [hz2]
    exact ⟨SeqAt.RcAt.lists i1 i2 hz hu0 hit, SeqAt.RcNeAt.lists i1 i2 hz hu0 hit⟩
  · have hz' := hz
    rw [List.size_toArray, List.size_toArray] at hz'
    have hz2 : eqDs xs ys = false := by
      rw [eqDs_pairs, show (xs.length == ys.length) = false by simp; omega, Bool.and_false]
    rw [hz2]
    exact ⟨SeqAt.RcAt.lists_lengths i1 i2 (by simpa using hz) hu0, SeqAt.RcNeAt.lists_lengths i1 i2 (by simpa using hz) hu0⟩
theorem od_eqs (hu : X.A.units + 60 < cLine) : OpD X (compareOp .Eq) (dEq id) ∧ OpD X (compareOp .NotEq) (dEq not) := by
  have key : ∀ {pins : List (Addr × Obj)} {s : Shared} {σ : L2.St} {H : Hp} {x y : V} {v u : Value} {dx dy : D} {M : DM} {Q' : DQ} {g : Bool → Bool}, Inv X pins σ H s → RelV x v → RelV y u → Rep X.K H dx x → Rep X.K H dy y → HRep X.K M H → dEq g dx dy M Q' →
      ∃ b, SeqAt.RcAt X.A s v u b ∧ SeqAt.RcNeAt X.A s v u (!b) ∧ Q' (.bl (g b)) M := by
    intro pins s σ H x y v u dx dy M Q' g I rx ry r1 r2 hm q
    have gen : pureN 60 dx = true → pureN 60 dy = true → Q' (.bl (g (eqD dx dy))) M → ∃ b, SeqAt.RcAt X.A s v u b ∧ SeqAt.RcNeAt X.A s v u (!b) ∧ Q' (.bl (g b)) M := fun p p' q => let ⟨h1, h2⟩ := rc_at I hu p p' r1 r2 rx ry; ⟨_, h1, h2, q⟩
    cases dx with
    | ref a =>
      cases dy with
      | ref b =>
        obtain ⟨xs, ys, ha, hb, _, p, p', q⟩ := q
        obtain ⟨us, hu', ru⟩ := hm a xs ha
        obtain ⟨ws, hw, rw'⟩ := hm b ys hb
        obtain rfl := rep_ref_eq r1
        obtain rfl := rep_ref_eq r2
        cases rx
        cases ry
        obtain ⟨h1, h2⟩ := lists_at I hu hu' hw ru rw' p p'
        exact ⟨_, h1, h2, q⟩
      | _ => exact gen q.1 q.2.1 q.2.2
    | _ => exact gen q.1 q.2.1 q.2.2
  refine ⟨fun pins s σ H x y v u Q I rx ry ⟨dx, dy, M, Q', r1, r2, hm, q, k⟩ => ?_, fun pins s σ H x y v u Q I rx ry ⟨dx, dy, M, Q', r1, r2, hm, q, k⟩ => ?_⟩
  · obtain ⟨b, h1, _, q⟩ := key I rx ry r1 r2 hm q
    exact h1 X.prog X.w X.xe _ ⟨.bl b, H, I, rfl, k _ H ⟨.bl b, M, rep_bl, hm, .refl H, q⟩⟩
  · obtain ⟨b, _, h2, q⟩ := key I rx ry r1 r2 hm q
    exact h2 X.prog X.w X.xe _ ⟨.bl (!b), H, I, rfl, k _ H ⟨.bl (!b), M, rep_bl, hm, .refl H, q⟩⟩
theorem od_eq {k : Nat} (hr : Room k X.A) : OpD X (compareOp .Eq) (dEq id) := (od_eqs (by have := hr.un; omega)).1
theorem od_ne {k : Nat} (hr : Room k X.A) : OpD X (compareOp .NotEq) (dEq not) := (od_eqs (by have := hr.un; omega)).2
def dNeg (ta : DE) : DE := fun ρ M Q => ta ρ M fun x M1 => match x with
  | .int i => Q (.int (-i)) M1
  | _ => False
theorem de_neg (ha : PDE X a ta) : PDE X (.UnaryOp .USub a pos) (dNeg ta) :=
  pe_imp (pe_un un_neg ha) fun σ H Q ⟨ρ, M, Q', re, hm, q, k⟩ => ⟨ρ, M, _, re, hm, q, fun x H1 ⟨d, M1, rd, hm1, ex, q1⟩ => by
    cases d with
    | int i => exact ⟨i, rep_int_eq rd, k _ H1 ⟨_, M1, rep_int, hm1, ex, q1⟩⟩
    | _ => exact q1.elim⟩
def dIxR : D2 := fun x y M Q => match x, y with
  | .tup ds, .int i => match atI ds i with
    | some d => Q d M
    | none => False
  | .fz ds, .int i => match atI ds i with
    | some d => Q d M
    | none => False
  | .ref a, .int i => ∃ ds d, M a = some ds ∧ atI ds i = some d ∧ Q d M
  | _, _ => False
theorem atI_reps {K : PySem.W.Frag} {H : Hp} {ds : List D} {xs : List V} {i : Int} {d : D} (r : Reps K H ds xs) (h : atI ds i = some d) : ∃ v, atI xs i = some v ∧ Rep K H d v := by
  unfold atI at h ⊢
  rw [← r.length]
  cases e : ixN ds.length i with
  | none => rw [e] at h; cases h
  | some j =>
    rw [e] at h
    exact r.get h
theorem ixd : IxR X fun x y H Q => ∃ dx dy M Q', Rep X.K H dx x ∧ Rep X.K H dy y ∧ HRep X.K M H ∧ dIxR dx dy M Q' ∧ ∀ v H', LQ X.K H Q' v H' → Q v H' := by
  intro value slice pins s σ H x y v u Q I rx ry ⟨dx, dy, M, Q', r1, r2, hm, q, k⟩ hs
  cases dx with
  | tup ds =>
    cases dy with
    | int i =>
      obtain ⟨a, us, rfl, sq, ru⟩ := rep_tup r1
      obtain rfl := rep_int_eq r2
      cases e : atI ds i with
      | none => exact absurd q (by show ¬ (match atI ds i with | some d => Q' d M | none => False); rw [e]; exact id)
      | some d =>
        have q' : Q' d M := by
          have z : (match atI ds i with | some d => Q' d M | none => False) := q
          rw [e] at z; exact z
        obtain ⟨w, hw, rw'⟩ := atI_reps ru e
        exact ix_tup value slice pins s σ H _ _ v u Q I rx ry ⟨a, us, i, w, rfl, rfl, sq, hw, k _ H ⟨d, M, rw', hm, .refl H, q'⟩⟩ hs
    | _ => exact q.elim
  | fz ds =>
    cases dy with
    | int i =>
      obtain ⟨a, us, rfl, sq, ru⟩ := rep_fz r1
      obtain rfl := rep_int_eq r2
      cases e : atI ds i with
      | none => exact absurd q (by show ¬ (match atI ds i with | some d => Q' d M | none => False); rw [e]; exact id)
      | some d =>
        have q' : Q' d M := by
          have z : (match atI ds i with | some d => Q' d M | none => False) := q
          rw [e] at z; exact z
        obtain ⟨w, hw, rw'⟩ := atI_reps ru e
        exact ix_list value slice pins s σ H _ _ v u Q I rx ry ⟨a, us, i, w, rfl, rfl, sq.sq, hw, k _ H ⟨d, M, rw', hm, .refl H, q'⟩⟩ hs
    | _ => exact q.elim
  | ref a =>
    cases dy with
    | int i =>
      obtain ⟨ds, d, ha, e, q'⟩ := q
      obtain rfl := rep_ref_eq r1
      obtain rfl := rep_int_eq r2
      obtain ⟨us, hu, ru⟩ := hm a ds ha
      obtain ⟨w, hw, rw'⟩ := atI_reps ru e
      exact ix_list value slice pins s σ H _ _ v u Q I rx ry ⟨a, us, i, w, rfl, rfl, .of hu, hw, k _ H ⟨d, M, rw', hm, .refl H, q'⟩⟩ hs
    | _ => exact q.elim
  | _ => exact q.elim
theorem de_ix (ha : PDE X a ta) (hb : PDE X b tb) (hs : PlainIx b := by exact fun _ _ => rfl) : PDE X (.Subscript a b pos) (dOp dIxR ta tb) :=
  pe_imp (pe_ix ixd ha hb hs) fun σ H Q h => low_op (fun _ _ _ _ z => z) h
abbrev DO := DEnv → DM → (Option Int → DM → Prop) → Prop
def lowO (K : PySem.W.Frag) (t : DO) : TO := fun σ H Q => ∃ ρ M Q', RepE K H ρ σ ∧ HRep K M H ∧ t ρ M Q' ∧ ∀ i H', (∃ M', HRep K M' H' ∧ Ext H H' ∧ Q' i M') → Q i H'
def dNoP : DO := fun _ M Q => Q none M
def dPt (t : DE) : DO := fun ρ M Q => t ρ M fun x M1 => match x with
  | .int i => Q (some i) M1
  | _ => False
theorem do_none : PO X none (lowO X.K dNoP) := fun pins s σ H Q I ⟨ρ, M, Q', re, hm, q, k⟩ => po_none pins s σ H Q I (k none H ⟨M, hm, .refl H, q⟩)
theorem do_some (h : PDE X e te) : PO X (some e) (lowO X.K (dPt te)) := fun pins s σ H Q I ⟨ρ, M, Q', re, hm, q, k⟩ => po_some h pins s σ H Q I ⟨ρ, M, _, re, hm, q, fun v H1 ⟨d, M1, rd, hm1, ex, q1⟩ => by
  cases d with
  | int i => exact ⟨i, rep_int_eq rd, k (some i) H1 ⟨M1, hm1, ex, q1⟩⟩
  | _ => exact q1.elim⟩
def cutD (xs : List D) (lo hi : Option Int) : List D := (xs.drop (HT.sIx xs.length 0 lo)).take (HT.sIx xs.length xs.length hi - HT.sIx xs.length 0 lo)
theorem cut_reps {K : PySem.W.Frag} {H : Hp} {ds : List D} {xs : List V} (r : Reps K H ds xs) (lo hi : Option Int) : Reps K H (cutD ds lo hi) (cutV xs lo hi) := by
  unfold cutD cutV
  rw [r.length]
  exact (r.drop _).take _
def dSlR (x : D) (lo hi : Option Int) (M : DM) (Q : DQ) : Prop := match x with
  | .fz ds => ∀ p, M p = none → Q (.ref p) (putM M p (cutD ds lo hi))
  | .ref a => ∃ ds, M a = some ds ∧ ∀ p, M p = none → Q (.ref p) (putM M p (cutD ds lo hi))
  | _ => False
def dSl (te : DE) (tl th : DO) : DE := fun ρ M Q => te ρ M fun x M1 => tl ρ M1 fun l M2 => th ρ M2 fun h M3 => dSlR x l h M3 Q
variable {lo hi : Option Expr} {tl th : DO} {p2 : Pos}
theorem de_slice (he : PDE X e te) (hl : PO X lo (lowO X.K tl)) (hu : PO X hi (lowO X.K th)) : PDE X (.Subscript e (.Slice lo hi none p2) pos) (dSl te tl th) :=
  pe_imp (pe_slice sl_list he hl hu) fun σ H Q ⟨ρ, M, Q', re, hm, q, k⟩ => ⟨ρ, M, _, re, hm, q, fun v H1 ⟨d, M1, rd, hm1, e1, q1⟩ => ⟨ρ, M1, _, re.ext e1, hm1, q1, fun l H2 ⟨M2, hm2, e2, q2⟩ => ⟨ρ, M2, _, (re.ext e1).ext e2, hm2, q2, fun h H3 ⟨M3, hm3, e3, q3⟩ => by
    have rd3 := (rd.ext e2).ext e3
    have ex := (e1.trans e2).trans e3
    cases d with
    | fz ds =>
      obtain ⟨a, us, rfl, sq, ru⟩ := rep_fz rd3
      exact ⟨a, us, rfl, sq.sq, fun p hp => k _ _ ⟨.ref p, _, rep_ref, hm3.lnew hp (cut_reps ru l h), ex.trans (Ext.new hp _), q3 p (hm3.fresh hp)⟩⟩
    | ref a =>
      obtain ⟨ds, ha, q3⟩ := q3
      obtain rfl := rep_ref_eq rd
      obtain ⟨us, hu, ru⟩ := hm3 a ds ha
      exact ⟨a, us, rfl, .of hu, fun p hp => k _ _ ⟨.ref p, _, rep_ref, hm3.lnew hp (cut_reps ru l h), ex.trans (Ext.new hp _), q3 p (hm3.fresh hp)⟩⟩
    | _ => exact q3.elim⟩⟩⟩

abbrev DSp := List D → DM → DQ → Prop
def lowSp (K : PySem.W.Frag) (sp : DSp) : Sp := fun vs H Q _ => ∃ ds M Q', Reps K H ds vs ∧ HRep K M H ∧ sp ds M Q' ∧ ∀ v H', LQ K H Q' v H' → Q v H'
def dCall (sp : DSp) (t : DA) : DE := fun ρ M Q => t ρ M fun ds M1 => sp ds M1 Q
variable {CX : CXT} {k : Nat} {f : Addr} {fd : FuncData} {ps : List Str} {sp : DSp} {E : XK} {x : Str} {p : Pos}
theorem de_call (F : FnOk X.prog X.w X.K X.mg X.base CX k f fd ps (lowSp X.K sp)) (hr : Room k X.A) (hm : X.mg x = some (.ref f)) (hk : PySem.W.keepIn X.K (.ref f) = true) (hb : Binds X.K fd ps []) (hx : Passes CX X E) (ha : PDA X (e :: es) t) (hg : Gl X x := by rfl)
    (hdb : (x == ("__debug__" : Str)) = false := by decide) (he : starEach (e :: es) X.env = (false, eval e X.env) :: starEach es X.env := by rfl) (hpl : (backTo pos (starEach es X.env)).any (·.1) = false := by rfl) :
    PDE X (.Call (.Name x p) (e :: es) [] pos) (dCall sp t) :=
  pe_imp (pe_call F hr hg hm hk hb .nil hx ha hdb he hpl) fun σ H Q ⟨ρ, M, Q', re, hm, q, k⟩ => ⟨ρ, M, _, re, hm, q, fun vs H1 ⟨ds, M1, rs, hm1, ex, q1⟩ => ⟨ds, M1, Q', by rw [List.append_nil]; exact rs, hm1, q1, fun v H' z => k v H' (z.back ex)⟩⟩
def CallD (X : Cx) (fv : Value) (r : DSp) : Prop := CallR X fv fun vs H Q => ∃ ds M Q', Reps X.K H ds vs ∧ HRep X.K M H ∧ r ds M Q' ∧ ∀ v H', LQ X.K H Q' v H' → Q v H'
theorem CallD.of {fv : Value} {r : List V → Hp → VK → Prop} {r' : DSp} (h : CallR X fv r) (l : ∀ vs H M ds Q, Reps X.K H ds vs → HRep X.K M H → r' ds M Q → r vs H (LQ X.K H Q)) : CallD X fv r' := fun pins s σ H xs us Q I rs ⟨ds, M, Q', r1, hm, q, k⟩ =>
  thn (h pins s σ H xs us _ I rs (l xs H M ds Q' r1 hm q)) fun v s h => ep_mono h k
theorem low_cb {r : DSp} {σ : L2.St} {H : Hp} {Q : VK} (h : low X.K (dCall r t) σ H Q) : lowA X.K t σ H fun vs H1 => ∃ ds M Q', Reps X.K H1 ds vs ∧ HRep X.K M H1 ∧ r ds M Q' ∧ ∀ v H', LQ X.K H1 Q' v H' → Q v H' := by
  obtain ⟨ρ, M, Q', re, hm, q, k⟩ := h
  exact ⟨ρ, M, _, re, hm, q, fun vs H1 ⟨ds, M1, rs, hm1, ex, q1⟩ => ⟨ds, M1, Q', rs, hm1, q1, fun v H' z => k v H' (z.back ex)⟩⟩
theorem de_callB {id : String} {r : DSp} (hc : CallD X (.builtin id) r) (hm : X.mg x = none) (ha : PDA X (e :: es) t) (hv : bootBuiltins x = some (.builtin id) := by rfl) (hg : Gl X x := by rfl) (hn : x ≠ "__name__" := by decide) (hdb : (x == ("__debug__" : Str)) = false := by decide)
    (he : starEach (e :: es) X.env = (false, eval e X.env) :: starEach es X.env := by rfl) (hpl : (backTo pos (starEach es X.env)).any (·.1) = false := by rfl) : PDE X (.Call (.Name x p) (e :: es) [] pos) (dCall r t) :=
  pe_imp (pe_callB hc hg hm hv ha hn hdb he hpl) fun σ H Q h => low_cb h
theorem de_callTy {T : String} {r : DSp} (hc : CallD X (.type T) r) (hm : X.mg x = none) (ha : PDA X (e :: es) t) (hv : bootBuiltins x = some (.type T) := by rfl) (hg : Gl X x := by rfl) (hn : x ≠ "__name__" := by decide) (hdb : (x == ("__debug__" : Str)) = false := by decide)
    (he : starEach (e :: es) X.env = (false, eval e X.env) :: starEach es X.env := by rfl) (hpl : (backTo pos (starEach es X.env)).any (·.1) = false := by rfl) : PDE X (.Call (.Name x p) (e :: es) [] pos) (dCall r t) :=
  pe_imp (pe_callTy hc hg hm hv ha hn hdb he hpl) fun σ H Q h => low_cb h
end
end Dd

set_option Elab.async false
set_option linter.all false
set_option maxRecDepth 100000
set_option maxHeartbeats 4000000

namespace Dd
open PySem PySem.Spec PyProof.Rows L2

section
variable {X : Cx} {a b e o : Expr} {es : List Expr} {ta tb te to : DE} {t : DA} {pos : Pos}
def sAbs : DSp := fun ds M Q => match ds with
  | [.int i] => Q (.int (if i < 0 then -i else i)) M
  | _ => False
theorem one_of {K : PySem.W.Frag} {H : Hp} {d : D} {vs : List V} (h : Reps K H [d] vs) : ∃ v, vs = [v] ∧ Rep K H d v := by
  obtain ⟨v, r, rfl, rv, rr⟩ := reps_cons_eq h
  obtain rfl := reps_nil_eq rr
  exact ⟨v, rfl, rv⟩
theorem cd_abs : CallD X (.builtin "abs") sAbs := CallD.of call_abs fun vs H M ds Q rs hm q => by
  rcases ds with _ | ⟨d, _ | ⟨d2, r⟩⟩
  · exact q.elim
  · cases d with
    | int i =>
      obtain ⟨v, rfl, rv⟩ := one_of rs
      obtain rfl := rep_int_eq rv
      exact ⟨i, rfl, _, M, rep_int, hm, .refl H, q⟩
    | _ => exact q.elim
  · cases d <;> exact q.elim
def sInt : DSp := fun ds M Q => match ds with
  | [.int i] => Q (.int i) M
  | [.bl k] => Q (.int (if k then 1 else 0)) M
  | _ => False
theorem cd_int : CallD X (.type "int") sInt := CallD.of call_int1 fun vs H M ds Q rs hm q => by
  rcases ds with _ | ⟨d, _ | ⟨d2, r⟩⟩
  · exact q.elim
  · cases d with
    | int i =>
      obtain ⟨v, rfl, rv⟩ := one_of rs
      obtain rfl := rep_int_eq rv
      exact .inl ⟨i, rfl, _, M, rep_int, hm, .refl H, q⟩
    | bl i =>
      obtain ⟨v, rfl, rv⟩ := one_of rs
      obtain rfl := rep_bl_eq rv
      exact .inr ⟨i, rfl, _, M, rep_int, hm, .refl H, q⟩
    | _ => exact q.elim
  · cases d <;> exact q.elim
def sLen : DSp := fun ds M Q => match ds with
  | [.tup xs] => Q (.int xs.length) M
  | [.fz xs] => Q (.int xs.length) M
  | [.ref a] => ∃ xs, M a = some xs ∧ Q (.int xs.length) M
  | _ => False
def dAppend (to te : DE) : DE := fun ρ M Q => to ρ M fun x M1 => match x with
  | .ref p => (∃ ds, M1 p = some ds) ∧ dCons te dNil ρ M1 fun ys M2 => ∃ ds y, ys = [y] ∧ M2 p = some ds ∧ ds.length < 1000 ∧ Q .non (putM M2 p (ds ++ [y]))
  | _ => False
theorem de_append {apos cpos : Pos} (ho : PDE X o to) (he : PDE X e te) (hse : starEach [e] X.env = (false, eval e X.env) :: starEach [] X.env := by rfl)
    (hbase : attributeBase o "append" X.env (eval o X.env) = eval o X.env := by rfl)
    (hfew : ((backTo cpos (starEach [e] X.env)).all (fun x => !x.1) && (backToKw cpos (keywordEach [] X.env)).all (fun x => x.1.isSome)
      && decide ([e].length + ([] : List Keyword).length + (if ([] : List Keyword).isEmpty then 0 else 1) < 30)) = true := by rfl)
    (hline : (apos.endLine == cpos.line) = true := by rfl) (hplain : (backTo cpos (starEach [] X.env)).any (·.1) = false := by rfl) :
    PDE X (.Call (.Attribute o "append" apos) [e] [] cpos) (dAppend to te) :=
  pe_imp (pe_bm PySem.F.plainAttrs_list PySem.F.slot_list_append PySem.F.type_list_append mt_append ho (da_cons he da_nil hse) hbase hfew hline hse hplain) fun σ H Q ⟨ρ, M, Q', re, hm, q, k⟩ => ⟨ρ, M, _, re, hm, q, fun v H1 ⟨d, M1, rd, hm1, e1, q1⟩ => by
    cases d with
    | ref p =>
      obtain rfl := rep_ref_eq rd
      obtain ⟨⟨ds0, h0⟩, q1⟩ := q1
      obtain ⟨us0, hu0, _⟩ := hm1 p ds0 h0
      refine ⟨.inl ⟨rfl, us0, .of hu0⟩, ρ, M1, _, re.ext e1, hm1, q1, fun vs H2 ⟨dvs, M2, rs, hm2, e2, ds, y, ey, hp, hl, q2⟩ => ?_⟩
      subst ey
      obtain ⟨w, rfl, rw'⟩ := one_of rs
      obtain ⟨us, hu, ru⟩ := hm2 p ds hp
      exact ⟨p, us, w, rfl, rfl, hu, by rw [← ru.length]; exact small1000 (Nat.le_of_lt hl), k _ _ ⟨.non, _, rep_non, hm2.put hu (ru.append (reps_cons rw' reps_nil)), (e1.trans e2).trans (Ext.put hu _), q2⟩⟩
    | _ => exact q1.elim⟩

def tyD : D → Option String
  | .non => some "NoneType"
  | .bl _ => some "bool"
  | .int _ => some "int"
  | .str _ => some "str"
  | .tup _ => some "tuple"
  | .fz _ => some "list"
  | .ref _ => none
theorem tyT {K : PySem.W.Frag} {H : Hp} {s : Shared} {pins : List (Addr × Obj)} {σ : L2.St} (I : Inv X pins σ H s) {a : Addr} {xs : List V} (sq : SqT X.K H a xs) : ∃ o, s.heap.get? a = some o ∧ o.cls = .type "tuple" := by
  obtain ⟨its, _, ⟨o, h1, h2, _⟩, _⟩ := I.tuple sq
  exact ⟨o, h1, h2⟩
theorem is_ok {K : PySem.W.Frag} {H : Hp} {s : Shared} {pins : List (Addr × Obj)} {σ : L2.St} {A : Around} {E : Value → Shared → Prop} {Q : Value → Shared → Prop} {c : Value} {d : D} {v : V} {u : Value} {T : String} {k : Bool} (I : Inv X pins σ H s) (rd : Rep X.K H d v) (rv : RelV v u) (ty : tyD d = some T)
    (e : PySem.W.kitOne X.K (.type T) c = some k) (h : ∀ tk, Q (.bool k) { s with toks := tk }) : wpAny (model X.prog X.w) A (call (.builtin "isinstance") [u, c]) Q E s := by
  cases d with
  | non => cases ty; rw [rep_non_eq rd] at rv; exact isinst_ok I rv (.non) e h
  | bl b => cases ty; rw [rep_bl_eq rd] at rv; exact isinst_ok I rv (.bl b) e h
  | int b => cases ty; rw [rep_int_eq rd] at rv; exact isinst_ok I rv (.int b) e h
  | str b => cases ty; rw [rep_str_eq rd] at rv; exact isinst_ok I rv (.str b) e h
  | ref b => cases ty
  | tup b =>
    cases ty
    obtain ⟨a, us, rfl, sq, ru⟩ := rep_tup rd
    cases rv
    obtain ⟨o, h1, h2⟩ := tyT (K := K) I sq
    exact PySem.W.kia_one PySem.W.kitx_tuple I.kIn ⟨o, h1, h2⟩ e (fun z => nomatch z) h
  | fz b =>
    cases ty
    obtain ⟨a, us, rfl, sq, ru⟩ := rep_fz rd
    cases rv
    obtain ⟨z, its, n, r, e1⟩ := fz_obj I sq
    exact PySem.W.kia_one PySem.W.kitx_list I.kIn ⟨_, e1, rfl⟩ e (fun z => nomatch z) h
def dIs (K : PySem.W.Frag) (c : Value) (te : DE) : DE := fun ρ M Q => te ρ M fun d M1 => (∃ T k, tyD d = some T ∧ PySem.W.kitOne K (.type T) c = some k ∧ Q (.bl k) M1) ∨ (∃ p xs k, d = .ref p ∧ M1 p = some xs ∧ PySem.W.kitOne K (.type "list") c = some k ∧ Q (.bl k) M1)
theorem de_isTy {T : String} {x : Str} {p p2 : Pos} (he : PDE X e te) (hm : X.mg "isinstance" = none) (hmx : X.mg x = none) (hv : bootBuiltins x = some (.type T) := by rfl) (hg : Gl X "isinstance" := by rfl) (hgx : Gl X x := by rfl) (hn : x ≠ "__name__" := by decide) (hdb : (x == ("__debug__" : Str)) = false := by decide)
    (hse : starEach [e, .Name x p2] X.env = (false, eval e X.env) :: starEach [.Name x p2] X.env := by rfl) (hse2 : starEach [.Name x p2] X.env = (false, eval (.Name x p2) X.env) :: starEach [] X.env := by rfl) (hpl : (backTo pos (starEach [.Name x p2] X.env)).any (·.1) = false := by rfl) :
    PDE X (.Call (.Name "isinstance" p) [e, .Name x p2] [] pos) (dIs X.K (.type T) te) := by
  have hc : CallR X (.builtin "isinstance") fun vs H Q => ∃ d M Q' v, vs = [v, .ty T] ∧ Rep X.K H d v ∧ HRep X.K M H ∧ ((∃ T' k, tyD d = some T' ∧ PySem.W.kitOne X.K (.type T') (.type T) = some k ∧ Q' (.bl k) M) ∨ (∃ p xs k, d = .ref p ∧ M p = some xs ∧ PySem.W.kitOne X.K (.type "list") (.type T) = some k ∧ Q' (.bl k) M)) ∧ ∀ v H', LQ X.K H Q' v H' → Q v H' := by
    intro pins s σ H xs us Q I rs ⟨d, M, Q', v, e1, rd, hm, q, k⟩
    subst e1
    obtain ⟨u1, u2, rfl, rv, rt⟩ := rs.two
    cases rt
    rcases q with ⟨T', b, ty, e2, q⟩ | ⟨p, ys, b, rfl, hp, e2, q⟩
    · exact is_ok (K := X.K) I rd rv ty e2 fun tk => ⟨.bl b, H, I.tok tk, rfl, k _ H ⟨_, M, rep_bl, hm, .refl H, q⟩⟩
    · obtain rfl := rep_ref_eq rd
      obtain ⟨us, hu, ru⟩ := hm p ys hp
      exact isinst_ok I rv (.lst hu) e2 fun tk => ⟨.bl b, H, I.tok tk, rfl, k _ H ⟨_, M, rep_bl, hm, .refl H, q⟩⟩
  refine pe_imp (pe_callB hc hg hm rfl (pa_cons he (pa_cons (pe_bltn hgx hmx hv (v := .ty T) rfl hn hdb) pa_nil hse2) hse) (by decide) (by decide) hse hpl) fun σ H Q ⟨ρ, M, Q', re, hm, q, k⟩ => ?_
  exact ⟨ρ, M, _, re, hm, q, fun v H1 ⟨d, M1, rd, hm1, ex, q1⟩ => ⟨d, M1, Q', v, rfl, rd, hm1, q1, fun v H' z => k v H' (z.back ex)⟩⟩
end

def startD (N : List Str) (ds : List D) : DEnv := ds.map some ++ List.replicate (N.length - ds.length) none
def Dn (Q : DQ) : DQ := fun d M => ∃ M', SubM M' M ∧ Q d M'
section
variable {P : Program} {w : World} {K : PySem.W.Frag} {mg : Str → Option Value} {base : Heap}
theorem reps_start {H : Hp} {ds : List D} {vs : List V} (r : Reps K H ds vs) (N : List Str) : RepE K H (startD N ds) (L2.start N vs) := by
  have hl := r.length
  refine ⟨by unfold startD L2.start; simp only [List.length_append, List.length_map, List.length_replicate, hl], fun i d q => ?_⟩
  unfold startD at q
  unfold L2.start
  by_cases hi : i < ds.length
  · rw [List.getElem?_append_left (by simpa using hi), List.getElem?_map] at q
    rw [List.getElem?_append_left (by simpa [← hl] using hi), List.getElem?_map]
    cases e : ds[i]? with
    | none => rw [e] at q; cases q
    | some d' =>
      rw [e] at q
      cases q
      obtain ⟨v, e2, rv⟩ := r.get e
      exact ⟨v, by rw [e2]; rfl, rv⟩
  · rw [List.getElem?_append_right (by simpa using hi), List.getElem?_replicate] at q
    split at q <;> cases q
theorem Fun.okD {x qual : Str} {st : Stmt} {f : Addr} {fd : FuncData} {N ps : List Str} {k : Nat} {sp : DSp} (F : L2.Fun K x qual st f fd) (S : FnScope N ps (defScope st)) (len : ∀ ds M Q, sp ds M Q → ds.length = ps.length)
    (hbody : ∀ (cdv : Value) (A : Around) (outer : List Env) (s : Shared) (H : Hp) (ds : List D) (M : DM) (Q : DQ) (E : XK), Room k (A.deeper (envOfC qual (defScope st) s.heap.objs.size f cdv)) → sp ds M Q →
      ∃ t, PDSs (cxOf CX0 P w K mg base N qual (defScope st) f cdv A outer s H E).nox (defBody st) t ∧ t { nx := fun _ M' => Dn Q .non M', rt := Dn Q } (startD N ds) M) : FnOk P w K mg base CX0 (k + 1) f fd ps (lowSp K sp) := by
  refine F.ok S (fun vs H Q E ⟨ds, M, Q', rs, hm, q, _⟩ => by rw [← rs.length]; exact len ds M Q' q) fun cdv A outer s H vs Q E hr ⟨ds, M, Q', rs, hm, q, k'⟩ => ?_
  obtain ⟨t, h1, h2⟩ := hbody cdv A outer s H ds M Q' E hr q
  have fin : ∀ v H', LQ K H (Dn Q') v H' → Q v H' := fun v H' ⟨d, M1, rd, hm1, ex, M2, sub, q2⟩ => k' v H' ⟨d, M2, rd, hm1.sub sub, ex, q2⟩
  refine ⟨_, h1, startD N ds, M, _, reps_start rs N, hm, h2, ⟨fun σ' H' ⟨ρ', M', _, hm', ex, q'⟩ => fin _ H' ⟨.non, M', rep_non, hm', ex, q'⟩, fin, fun σ' H' ⟨_, _, _, _, _, z⟩ => z.elim, fun σ' H' ⟨_, _, _, _, _, z⟩ => z.elim⟩⟩
end

theorem law_callX {P : Program} {w : World} {K : PySem.W.Frag} {mg mb : Str → Option Value} {CX : CXT} {k : Nat} {fa a : Addr} {fd : FuncData} {x : Str} {sp : Sp} {s₁ : Shared} {vs : List Value} {ns : List Int}
    (KX : K.In s₁.heap) (hns : s₁.heap.Ns mainGlobals mg) (hb : s₁.heap.Ns builtinsNs mb) (hbb : ∀ x : Str, x ≠ "__name__" → mb x = bootBuiltins x) (hlim : s₁.heap.NoLimit) (hg : s₁.gens = #[])
    (ha : s₁.heap.get? a = some { cls := .type "list", data := .seq vs.toArray }) (hi : IntsAre vs ns) (hl : ns.length ≤ sizeLine) (hr : Room k callerA)
    (F : ∀ base : Heap, K.In base → base.Ns mainGlobals mg → FnOk P w K mg base CX k fa fd [x] sp) (hbind : ∀ (s : Shared) (u : Value), BindsTo s fd ⟨[u], []⟩ [(x, u)])
    (hsp : ∀ H : Hp, Only H → SqX K H a (ns.map V.int) → sp [.ref a] H (fun v _ => v = .bl true) fun _ _ _ => False)
    (hCX : ∀ H e s', CX [] H s₁ (fun _ _ _ => False) e s' → False) :
    codeAny (model P w) callerA (.call (.ref fa) ⟨[.ref a], []⟩) (fun r s' => r = .ok (.ret (.bool true)) ∧ OldK s₁.heap s'.heap ∧ s'.os = s₁.os ∧ AllBare s'.gens) s₁ := by
  have rv := vals_ints hi
  have lenV := hi.length
  refine law_call (ns := ns) (sp := fun vs H Q E => SqX K H a (ns.map V.int) ∧ sp vs H Q E) KX hns hb hbb hlim hg ha hi hl hr (fun base h1 h2 => (F base h1 h2).imp fun _ _ _ _ z => z.2) hbind (fun H hO hS => ?_) hCX
  have sx : SqX K H a (ns.map V.int) := by
    rcases hS with (h | h) | ⟨o, its, n, hk, hc, hd, hs, hz, r⟩
    · rcases hO a with z | ⟨o, xs, z⟩
      · rw [h] at z; cases z
      · rw [h] at z; cases z
    · exact .inl h
    · have e := KX a o hk
      rw [ha] at e
      cases e
      cases hs
      exact .inr ⟨_, _, hk, hz, r⟩
  exact ⟨sx, hsp H hO sx⟩
theorem walk_ofD {l : PySem.W.OpenLaw} {n k : Nat} {q : Program} {loose : List Str} {XP : (Str → Option Value) → Heap → Prop} {YP : World → Heap → Prop} {d : DefRec} {K : Params → PySem.W.Frag} {sp : DSp} {x : Str}
    (hn : l.most = some n) (hn2 : n ≤ sizeLine) (hdf : d.params.defaults = []) (hr : Room k callerA)
    (hY : ∀ (w : World) (h : Heap), YP w h → (K w.params).In h)
    (F : ∀ (w : World) (mg : Str → Option Value) (fa : Addr) (h : Heap), (K w.params).In h → h.Ns mainGlobals mg → mg d.name = some (.ref fa) →
      ∃ fd : FuncData, (∀ (s : Shared) (u : Value), BindsTo s fd ⟨[u], []⟩ [(x, u)]) ∧
        ∀ base : Heap, (K w.params).In base → base.Ns mainGlobals mg → FnOk l.prog w (K w.params) mg base CX0 k fa fd [x] (lowSp (K w.params) sp))
    (hsp : ∀ (ns : List Int), ns.length ≤ n → ∀ M, sp [.fz (ns.map D.int)] M fun d _ => d = .bl true) :
    PySem.W.WalkO q loose XP YP l.row.toRowW d [] (fun f vs => PySem.call f vs) := by
  refine Att.attach_call hn hdf fun w s₀ s₁ mg mb fa o pm cd doc a vs ns G Y ho hd hcd hmg hobj hints hlen hg => ?_
  have KX := hY w _ Y
  obtain ⟨fd, hb, hF⟩ := F w mg fa _ KX G.T.g hmg
  refine law_callX KX G.T.g G.T.b G.T.builtins G.T.nolimit hg hobj hints (Nat.le_trans hlen hn2) hr hF hb (fun H hO hS => ?_) fun H e s' h => h
  refine ⟨[.fz (ns.map D.int)], fun _ => none, _, reps_cons (by unfold Rep; exact ⟨a, _, rfl, hS, reps_ints ns⟩) reps_nil, (fun _ _ z => by cases z), hsp ns hlen _, fun v H' z => ?_⟩
  obtain ⟨d, M', rd, _, _, e⟩ := z
  have e' : d = .bl true := e
  subst e'
  exact rep_bl_eq rd
end Dd

set_option Elab.async false
set_option linter.all false
set_option maxRecDepth 100000
set_option maxHeartbeats 4000000

namespace Dd
open PySem PySem.Spec PyProof.Rows L2

def HasF (K : PySem.W.Frag) (mg : Str → Option Value) (x : Str) (st : Stmt) (ps : List Str) : Prop := ∃ f fd, L2.Fun K x x st f fd ∧ mg x = some (.ref f) ∧ Binds K fd ps []
def Has (P : Program) (w : World) (K : PySem.W.Frag) (mg : Str → Option Value) (base : Heap) (k : Nat) (x : Str) (ps : List Str) (sp : DSp) : Prop :=
  ∃ f fd, FnOk P w K mg base CX0 k f fd ps (lowSp K sp) ∧ mg x = some (.ref f) ∧ PySem.W.keepIn K (.ref f) = true ∧ Binds K fd ps []
def HasG (K : PySem.W.Frag) (mg : Str → Option Value) (x : Str) (d : D) : Prop := ∃ u v, mg x = some u ∧ RelV v u ∧ ∀ H, Rep K H d v
section
variable {P : Program} {w : World} {K : PySem.W.Frag} {mg : Str → Option Value} {base : Heap}
theorem Has.mk {x : Str} {st : Stmt} {N ps : List Str} {k : Nat} {sp : DSp} (h : HasF K mg x st ps) (S : FnScope N ps (defScope st)) (len : ∀ ds M Q, sp ds M Q → ds.length = ps.length)
    (hbody : ∀ (f : Addr) (cdv : Value) (A : Around) (outer : List Env) (s : Shared) (H : Hp) (ds : List D) (M : DM) (Q : DQ) (E : XK), Room k (A.deeper (envOfC x (defScope st) s.heap.objs.size f cdv)) → sp ds M Q →
      ∃ t, PDSs (cxOf CX0 P w K mg base N x (defScope st) f cdv A outer s H E).nox (defBody st) t ∧ t { nx := fun _ M' => Dn Q .non M', rt := Dn Q } (startD N ds) M) : Has P w K mg base (k + 1) x ps sp := by
  obtain ⟨f, fd, F, hm, hb⟩ := h
  exact ⟨f, fd, Fun.okD F S len fun cdv A outer s H ds M Q E hr q => hbody f cdv A outer s H ds M Q E hr q, hm, F.kp, hb⟩
theorem Has.imp {x : Str} {ps : List Str} {k : Nat} {sp sp' : DSp} (h : Has P w K mg base k x ps sp) (i : ∀ ds M Q, sp' ds M Q → sp ds M Q) : Has P w K mg base k x ps sp' := by
  obtain ⟨f, fd, F, hm, hk, hb⟩ := h
  exact ⟨f, fd, F.imp fun vs H Q E ⟨ds, M, Q', a, b, c, d⟩ => ⟨ds, M, Q', a, b, i _ _ _ c, d⟩, hm, hk, hb⟩
end
section
variable {X : Cx} {a b c e : Expr} {es : List Expr} {ta tb te : DE} {t : DA} {pos p : Pos} {x : Str} {ps : List Str} {sp : DSp} {k j : Nat}
theorem de_callH (h : Has X.prog X.w X.K X.mg X.base k x ps sp) (hr : Room j X.A) (hkj : k ≤ j) (ha : PDA X (e :: es) t) (hg : Gl X x := by rfl)
    (hdb : (x == ("__debug__" : Str)) = false := by decide) (he : starEach (e :: es) X.env = (false, eval e X.env) :: starEach es X.env := by rfl) (hpl : (backTo pos (starEach es X.env)).any (·.1) = false := by rfl) :
    PDE X (.Call (.Name x p) (e :: es) [] pos) (dCall sp t) := by
  obtain ⟨f, fd, F, hm, hk, hb⟩ := h
  exact de_call F (hr.mono hkj) hm hk hb pass0 ha hg hdb he hpl
theorem de_globH {d : D} (h : HasG X.K X.mg x d) (hg : Gl X x := by rfl) (hd : (x == ("__debug__" : Str)) = false := by decide) : PDE X (.Name x pos) (dC d) := by
  obtain ⟨u, v, hm, rv, hr⟩ := h
  exact de_glob hg hm rv hr hd
def dAug (i : Nat) (te : DE) (g : Int → Int → Int) : DS := fun E ρ M => match ρ[i]? with
  | some (some (.int z)) => te ρ M fun y M1 => match y with
    | .int j => E.nx (ρ.set i (some (.int (g z j)))) M1
    | _ => False
  | _ => False
end

theorem dif {c A B : Prop} [Decidable c] (h1 : c → A) (h2 : ¬ c → B) : if decide c = true then A else B := by
  by_cases h : c
  · rw [decide_eq_true h]; exact h1 h
  · rw [decide_eq_false h]; exact h2 h
theorem bcase {b : Bool} {A B : Prop} (h1 : b = true → A) (h2 : b = false → B) : if b = true then A else B := by
  cases b
  · exact h2 rfl
  · exact h1 rfl
end Dd

set_option Elab.async false
set_option linter.all false
set_option maxRecDepth 100000
set_option maxHeartbeats 4000000

namespace Dd
open PySem PySem.Spec PyProof.Rows L2

section
variable {prog : Program} {w : World} {A : Around} {E : Value → Shared → Prop} {s : Shared}
theorem isList_but {h h' : Heap} {it t : Addr} {items : Array Value} (ht : h.IsList t items) (hs : Heap.SameBut it h h') (hne : t ≠ it) : h'.IsList t items := by
  obtain ⟨o, e, r⟩ := ht
  exact ⟨o, (hs.2 t hne).trans e, r⟩
theorem isList_push {h : Heap} {t : Addr} {items : Array Value} (ht : h.IsList t items) (o : Obj) : (h.push o).IsList t items := by
  obtain ⟨o', e, r⟩ := ht
  exact ⟨o', Heap.get?_push_of_some _ e, r⟩
theorem draw_list {it t : Addr} {items : Array Value} (hne : t ≠ it) : ∀ (n i : Nat) (s : Shared) (Q : List Value → Shared → Prop), s.heap.IsListIter it t i → s.heap.IsList t items → i + n ≤ items.size →
    (∀ h', h'.IsListIter it t (i + n) → Heap.SameBut it s.heap h' → Q ((items.toList.drop i).take n) { s with heap := h' }) → wpAny (model prog w) A (draw (.ref it) n) Q E s
  | 0, i, s, Q, hit, _, _, hQ => by
    show wpAny _ _ (pure []) Q E s
    exact wpAny_pure (by simpa using hQ s.heap hit (Heap.SameBut.refl ..))
  | n + 1, i, s, Q, hit, ht, hle, hQ => by
    have hlt : i < items.size := by omega
    show wpAny _ _ (pyNext (.ref it) >>= _) Q E s
    refine wpAny_bind (wpAny_pyNext_list_item hit ht (x := items[i]) (by simp [hlt]) fun h₁ hit₁ hs₁ => ?_)
    refine wpAny_bind (wpAny_holding (draw_list hne n (i + 1) _ _ hit₁ (isList_but ht hs₁ hne) (by omega) fun h₂ hit₂ hs₂ => wpAny_pure ?_))
    have hd : items.toList.drop i = items[i] :: items.toList.drop (i + 1) := by simp [List.drop_eq_getElem_cons, hlt]
    have := hQ h₂ (by rw [show i + (n + 1) = i + 1 + n by omega]; exact hit₂) (hs₁.trans hs₂)
    rw [hd, List.take_succ_cons] at this
    exact this
theorem unpackItems_list {t : Addr} {items : Array Value} {Q : List Value → Shared → Prop} (hh : A.handled = none) (ht : s.heap.IsList t items)
    (hQ : ∀ h', Heap.ExtBut s.heap.objs.size s.heap h' → Q items.toList { s with heap := h' }) : wpAny (model prog w) A (unpackItems (.ref t) items.size none) Q E s := by
  have hlt : t ≠ s.heap.objs.size := by obtain ⟨o, ho, _⟩ := ht; exact Nat.ne_of_lt (Heap.lt_size ho)
  unfold unpackItems
  refine wpAny_bind ?_
  · unfold notIterableAtAll
    refine wpAny_bind (wpAny_specialOf ht.typeIs slot_list_iter.lookup ?_)
    refine wpAny_pure ?_
    simp only [Bool.false_eq_true, if_false]
    refine wpAny_bind (wpAny_holding (wpAny_pyIter_list ht ?_))
    refine wpAny_bind (wpAny_holding (draw_list hlt items.size 0 _ _ ⟨_, Heap.get?_push_size _ rfl, rfl, rfl⟩ (isList_push ht _) (by omega) fun h₁ hit₁ hs₁ => ?_))
    have hall : List.take items.size (List.drop 0 items.toList) = items.toList := by
      rw [List.drop_zero]; exact List.take_of_length_le (by simp)
    rw [hall]
    rw [if_neg (by simp)]
    have ht₁ : h₁.IsList t items := isList_but (isList_push ht _) hs₁ hlt
    refine wpAny_bind (wpAny_holding (wpAny_pyNext_list_end hh hit₁ ht₁ (by simp) fun h₂ he₂ => ?_))
    simp only [Option.isSome_none, Bool.false_eq_true, if_false]
    refine wpAny_pure (hQ h₂ fun b o hb e => he₂ b o hb (hs₁.extBut b o hb (Heap.get?_push_of_some _ e)))
theorem assign_Tuple_list {env : Env} {elts : List Expr} {x1} {pos : Pos} {t : Addr} {items : Array Value} {Q : Unit → Shared → Prop} (hh : A.handled = none) (ht : s.heap.IsList t items)
    (hn : (assignEach elts env).length = items.size) (hstar : (assignEach elts env).findIdx? (·.1) = none)
    (h : ∀ h', Heap.ExtBut s.heap.objs.size s.heap h' → wpAny (model prog w) A (assignInOrder ((assignEach elts env).map (·.2)) items.toList) Q E { s with heap := h' }) :
    wpAny (model prog w) A (assign (.Tuple elts x1 pos) env (.ref t)) Q E s := by
  rw [assign_Tuple]
  refine wpAny_bind (wpAny_standAt ?_)
  unfold unpack
  rw [hn, hstar]
  exact wpAny_bind (wpAny_holding (unpackItems_list hh ht h))
end
section
variable {X : Cx} {pos : Pos} {e a b : Expr} {es : List Expr} {te ta tb : DE}
def gU (n : Nat) (t : DGs) : DG := fun d ρ M Q => match d with
  | .tup ds => ds.length = n ∧ t ds ρ M Q
  | .ref a => ∃ ds, M a = some ds ∧ ds.length = n ∧ t ds ρ M Q
  | _ => False
theorem dg_unp {k : Nat} {t : DGs} {n : Nat} (hc : X.calm = true) (h : PDGs X es t) (hn : (assignEach es X.env).length = n := by rfl) (hst : (assignEach es X.env).findIdx? (·.1) = none := by rfl) : PDG X (.Tuple es k pos) (gU n t) := by
  intro pins s σ H v u Q I r ⟨d, ρ, M, Q', rd, re, hm, q, k'⟩
  cases d with
  | tup ds => exact dg_tup hc h hn hst pins s σ H v u Q I r ⟨.tup ds, ρ, M, Q', rd, re, hm, q, k'⟩
  | ref p =>
    obtain ⟨ds, hp, hl, q⟩ := q
    obtain rfl := rep_ref_eq rd
    cases r
    obtain ⟨us, hu, ru⟩ := hm p ds hp
    obtain ⟨z, its, nn, rv, hlen, e1⟩ := I.lstM hu
    have l1 := ru.length
    refine assign_Tuple_list (I.ok.hd hc) ⟨_, e1, rfl, _, rfl⟩ (by rw [hn, List.size_toArray]; omega) hst fun h' hx => ?_
    have I1 : Inv X pins σ H { s with heap := h' } := I.kept (t' := s.toks) fun b o e => hx b o (Nat.ne_of_lt (Heap.lt_size e)) e
    exact h pins _ σ H us _ Q I1 (by simpa using rv) ⟨ds, ρ, M, Q', ru, re, hm, q, k'⟩
  | _ => exact q.elim

def isV : D → D → Option Bool
  | .non, .non => some true
  | .bl a, .bl b => some (a == b)
  | .non, .bl _ => some false
  | .bl _, .non => some false
  | .int _, .non => some false
  | .str _, .non => some false
  | .tup _, .non => some false
  | .ref _, .non => some false
  | .fz _, .non => some false
  | .tup _, .bl _ => some false
  | _, _ => none
def dIsR (g : Bool → Bool) : D2 := fun x y M Q => match isV x y with
  | some k => Q (.bl (g k)) M
  | none => False
end
end Dd

set_option Elab.async false
set_option linter.all false
set_option maxRecDepth 100000
set_option maxHeartbeats 4000000
namespace Dd
open PySem PySem.Spec PyProof.Rows L2
section
variable {M : DM} {Q : DQ} {g : Bool → Bool} {ds : List D} {i : Int} {a : Addr} {α : Type} {x0 x1 x2 x3 x4 x5 : α} {l : List α}
theorem ixT : dIxR (.tup ds) (.int i) M Q = (match atI ds i with | some d => Q d M | none => False) := rfl
theorem ixF : dIxR (.fz ds) (.int i) M Q = (match atI ds i with | some d => Q d M | none => False) := rfl
theorem ixRf : dIxR (.ref a) (.int i) M Q = (∃ ds d, M a = some ds ∧ atI ds i = some d ∧ Q d M) := rfl
theorem at_1_0 : atI [x0] 0 = some x0 := rfl
theorem at_1_m : atI [x0] (-1) = some x0 := rfl
theorem at_2_0 : atI [x0, x1] 0 = some x0 := rfl
theorem at_2_1 : atI [x0, x1] 1 = some x1 := rfl
theorem at_2_m : atI [x0, x1] (-1) = some x1 := rfl
theorem at_3_0 : atI [x0, x1, x2] 0 = some x0 := rfl
theorem at_3_1 : atI [x0, x1, x2] 1 = some x1 := rfl
theorem at_3_2 : atI [x0, x1, x2] 2 = some x2 := rfl
theorem at_3_m : atI [x0, x1, x2] (-1) = some x2 := rfl
theorem at_4_0 : atI [x0, x1, x2, x3] 0 = some x0 := rfl
theorem at_4_1 : atI [x0, x1, x2, x3] 1 = some x1 := rfl
theorem at_4_2 : atI [x0, x1, x2, x3] 2 = some x2 := rfl
theorem at_4_3 : atI [x0, x1, x2, x3] 3 = some x3 := rfl
theorem at_4_m : atI [x0, x1, x2, x3] (-1) = some x3 := rfl
theorem at_5_0 : atI [x0, x1, x2, x3, x4] 0 = some x0 := rfl
theorem at_5_1 : atI [x0, x1, x2, x3, x4] 1 = some x1 := rfl
theorem at_5_2 : atI [x0, x1, x2, x3, x4] 2 = some x2 := rfl
theorem at_5_3 : atI [x0, x1, x2, x3, x4] 3 = some x3 := rfl
theorem at_5_4 : atI [x0, x1, x2, x3, x4] 4 = some x4 := rfl
theorem at_5_m : atI [x0, x1, x2, x3, x4] (-1) = some x4 := rfl
theorem at_6_0 : atI [x0, x1, x2, x3, x4, x5] 0 = some x0 := rfl
theorem at_6_1 : atI [x0, x1, x2, x3, x4, x5] 1 = some x1 := rfl
theorem at_6_2 : atI [x0, x1, x2, x3, x4, x5] 2 = some x2 := rfl
theorem at_6_3 : atI [x0, x1, x2, x3, x4, x5] 3 = some x3 := rfl
theorem at_6_4 : atI [x0, x1, x2, x3, x4, x5] 4 = some x4 := rfl
theorem at_6_5 : atI [x0, x1, x2, x3, x4, x5] 5 = some x5 := rfl
theorem at_6_m : atI [x0, x1, x2, x3, x4, x5] (-1) = some x5 := rfl
theorem gU_tup {n : Nat} {t : DGs} {ρ : DEnv} {R : DEnv → DM → Prop} : gU n t (.tup ds) ρ M R = (ds.length = n ∧ t ds ρ M R) := rfl
theorem gU_ref {n : Nat} {t : DGs} {ρ : DEnv} {R : DEnv → DM → Prop} : gU n t (.ref a) ρ M R = (∃ ds, M a = some ds ∧ ds.length = n ∧ t ds ρ M R) := rfl
theorem dEq_int {i j : Int} : dEq g (.int i) (.int j) M Q = Q (.bl (g (decide (i = j)))) M := by
  show (pureN 60 (.int i) = true ∧ pureN 60 (.int j) = true ∧ Q (.bl (g (eqD (.int i) (.int j)))) M) = _
  have e : eqD (.int i) (.int j) = decide (i = j) := by show (i == j) = _; by_cases h : i = j <;> simp [h]
  rw [e]
  exact propext ⟨fun h => h.2.2, fun h => ⟨rfl, rfl, h⟩⟩
theorem dEq_str {x y : Str} : dEq g (.str x) (.str y) M Q = Q (.bl (g (decide (x = y)))) M := by
  show (pureN 60 (.str x) = true ∧ pureN 60 (.str y) = true ∧ Q (.bl (g (eqD (.str x) (.str y)))) M) = _
  have e : eqD (.str x) (.str y) = decide (x = y) := by show (x == y) = _; by_cases h : x = y <;> simp [h]
  rw [e]
  exact propext ⟨fun h => h.2.2, fun h => ⟨rfl, rfl, h⟩⟩
def isK (K : PySem.W.Frag) (c : Value) (d : D) (M : DM) (Q : DQ) : Prop := (∃ T k, tyD d = some T ∧ PySem.W.kitOne K (.type T) c = some k ∧ Q (.bl k) M) ∨ (∃ p xs k, d = .ref p ∧ M p = some xs ∧ PySem.W.kitOne K (.type "list") c = some k ∧ Q (.bl k) M)
theorem dIs_eq {K : PySem.W.Frag} {c : Value} {te : DE} {ρ : DEnv} : dIs K c te ρ M Q = te ρ M fun d M1 => isK K c d M1 Q := rfl
end
end Dd

set_option Elab.async false
set_option linter.all false
set_option maxRecDepth 100000
set_option maxHeartbeats 4000000
namespace L2
open PySem PySem.Spec PyProof.Rows
def clo (cells : List (Str × Addr)) : List (Str × NameKind) → List (Str × Addr) → List (Str × Addr)
  | [], cs => cs
  | (n, k) :: r, cs => clo cells r (if k == .free then (n, (cells.lookup n).getD 0) :: cs else cs)
theorem clo_sub {cells : List (Str × Addr)} {x : Str} {c : Addr} : ∀ {names : List (Str × NameKind)} {cs : List (Str × Addr)}, (∀ y ∈ names, y.2 = .free → ∃ c, cells.lookup y.1 = some c) → (cs.lookup x = some c → cells.lookup x = some c) → (clo cells names cs).lookup x = some c → cells.lookup x = some c
  | [], cs, _, h, e => h e
  | (n, k) :: r, cs, hh, h, e => by
    unfold clo at e
    refine clo_sub (fun y hy => hh y (List.mem_cons_of_mem _ hy)) (fun e2 => ?_) e
    cases hk : k == NameKind.free with
    | false => rw [hk, if_neg (by decide)] at e2; exact h e2
    | true =>
      rw [hk, if_pos rfl] at e2
      have hk' : k = .free := by simpa using hk
      obtain ⟨c', hc'⟩ := hh (n, k) List.mem_cons_self hk'
      have hc' : cells.lookup n = some c' := hc'
      rw [List.lookup_cons] at e2
      cases hx : x == n with
      | true =>
        rw [hx] at e2
        have : x = n := by simpa using hx
        subst this
        rw [hc'] at e2 ⊢
        exact e2
      | false => rw [hx] at e2; exact h e2
structure BlkScope (X : Cx) (N' : List Str) (fr : List (Option Nat)) (scope : Scope) : Prop where
  kind : scope.kind = .function
  nocell : ∀ y ∈ scope.names, y.2 ≠ .cell
  names : ∀ y ∈ scope.names, y.2 = .local → scope.names.lookup y.1 = some .local
  free : ∀ y ∈ scope.names, y.2 = .free → X.env.scope.names.lookup y.1 = some .cell
  len : fr.length = N'.length
  at' : ∀ (i j : Nat) (x : Str), N'[i]? = some x → fr[i]? = some (some j) → X.N[j]? = some x ∧ scope.names.lookup x = some .free
structure BlkS (oN : List Str) (osc : Scope) (N' : List Str) (fr : List (Option Nat)) (scope : Scope) : Prop where
  kind : scope.kind = .function
  nocell : ∀ y ∈ scope.names, y.2 ≠ .cell
  names : ∀ y ∈ scope.names, y.2 = .local → scope.names.lookup y.1 = some .local
  free : ∀ y ∈ scope.names, y.2 = .free → osc.names.lookup y.1 = some .cell
  len : fr.length = N'.length
  at' : ∀ p ∈ N'.zip fr, ∀ j ∈ p.2, oN[j]? = some p.1 ∧ scope.names.lookup p.1 = some .free
theorem BlkS.scope {X : Cx} {oN : List Str} {osc : Scope} {N' : List Str} {fr : List (Option Nat)} {scope : Scope} (B : BlkS oN osc N' fr scope) (hN : X.N = oN) (ho : X.env.scope = osc) : BlkScope X N' fr scope := by
  subst hN ho
  refine ⟨B.kind, B.nocell, B.names, B.free, B.len, fun i j x h1 h2 => ?_⟩
  have : (x, some j) ∈ N'.zip fr := by
    refine List.mem_of_getElem? (i := i) ?_
    rw [List.getElem?_zip_eq_some]
    exact ⟨h1, h2⟩
  exact B.at' _ this j rfl
section
variable {X : Cx} {pins : List (Addr × Obj)} {σ : St} {H : Hp} {s : Shared} {N' : List Str} {fr : List (Option Nat)} {scope : Scope} {C : Addr} {fp : List Addr}
theorem BlkScope.hasC (S : BlkScope X N' fr scope) (ok : X.Ok) : ∀ y ∈ scope.names, y.2 = .free → ∃ c, X.env.cells.lookup y.1 = some c := fun y hy e => ok.has y.1 (.inl (S.free y hy e))
theorem BlkScope.sub (S : BlkScope X N' fr scope) (ok : X.Ok) {x : Str} {c : Addr} (h : (clo X.env.cells scope.names []).lookup x = some c) : X.env.cells.lookup x = some c := clo_sub (S.hasC ok) (fun z => by cases z) h
end

section
variable {prog : Program} {w : World} {A : Around} {R : Result → Shared → Prop} {s : Shared}
end
end L2
namespace Dd
open PySem PySem.Spec PyProof.Rows L2
def rho0 (fr : List (Option Nat)) (ρ : DEnv) : DEnv := fr.map fun o => match o with
  | some j => (ρ[j]?).join
  | none => none
section
variable {K : PySem.W.Frag} {H : Hp} {ρ : DEnv} {σ : L2.St}
end
def dItC (at' : Option Addr) (ds : List D) (ρ0 : DEnv) (g : DG) (te : DE) (M : DM) (Q : DQ) : Prop := ds.length ≤ 1000 ∧ ∃ Pv : Nat → List D → DM → Prop, Pv 0 [] M ∧
  (∀ i ys M, i ≤ ds.length → Pv i ys M → ∀ a, at' = some a → M a = some ds) ∧
  (∀ i d ys M, ds[i]? = some d → Pv i ys M → g d ρ0 M fun ρ2 M2 => te ρ2 M2 fun y M3 => Pv (i + 1) (ys ++ [y]) M3) ∧
  ∀ ys M, ys.length = ds.length → Pv ds.length ys M → ∀ p, M p = none → Q (.ref p) (putM M p ys)
def dRngC (lo : Int) (n : Nat) (ρ0 : DEnv) (g : DG) (te : DE) (M : DM) (Q : DQ) : Prop := n ≤ 1000 ∧ ∃ Pv : Nat → List D → DM → Prop, Pv 0 [] M ∧
  (∀ (i : Nat) ys M, i < n → Pv i ys M → g (.int (lo + i)) ρ0 M fun ρ2 M2 => te ρ2 M2 fun y M3 => Pv (i + 1) (ys ++ [y]) M3) ∧
  ∀ ys M, ys.length = n → Pv n ys M → ∀ p, M p = none → Q (.ref p) (putM M p ys)
def dLcL (tl : DE) (fr : List (Option Nat)) (g : DG) (te : DE) : DE := fun ρ M Q => tl ρ M fun d M1 => match d with
  | .fz ds => dItC none ds (rho0 fr ρ) g te M1 Q
  | .ref a => ∃ ds, M1 a = some ds ∧ dItC (some a) ds (rho0 fr ρ) g te M1 Q
  | _ => False
def dLcT (tl : DE) (fr : List (Option Nat)) (g : DG) (te : DE) : DE := fun ρ M Q => tl ρ M fun d M1 => match d with
  | .tup ds => dItC none ds (rho0 fr ρ) g te M1 Q
  | _ => False
def dLc1 (ta : DA) (fr : List (Option Nat)) (g : DG) (te : DE) : DE := fun ρ M Q => ta ρ M fun ds M1 => match ds with
  | [.int j] => (-(2 ^ 62) ≤ j ∧ j < 2 ^ 62) ∧ dRngC 0 j.toNat (rho0 fr ρ) g te M1 Q
  | _ => False
section
variable {X : Cx} {g : DG} {te : DE}
variable {elt iter tg : Expr} {scope : Scope} {pos : Pos} {N' : List Str} {fr : List (Option Nat)} {tl : DE} {ta : DA} {oN : List Str} {osc : Scope}
def dSetLc (i : Nat) (t : DE) : DS := fun E ρ M => t ρ M fun x M1 => E.nx (ρ.set i (some x)) M1
end
end Dd

set_option Elab.async false
set_option linter.all false
set_option maxRecDepth 100000
set_option maxHeartbeats 4000000
namespace L2
open PySem PySem.Spec PyProof.Rows
variable {X : Cx}
end L2
namespace Dd
open PySem PySem.Spec PyProof.Rows L2
variable {X : Cx}
def sAll : DSp := fun ds M Q => match ds with
  | [.ref a] => ∃ bs : List Bool, M a = some (bs.map D.bl) ∧ Q (.bl (bs.all id)) M
  | _ => False
section
variable {g : DG} {te : DE} {tb : DS} {Q : DQ} {ρ0 : DEnv}
def itT (d : D) (ρ0 : DEnv) (g : DG) (te : DE) (M : DM) (Q : DQ) : Prop := match d with
  | .tup ds => dItC none ds ρ0 g te M Q
  | _ => False
theorem dLcT_eq {tl : DE} {fr : List (Option Nat)} {ρ : DEnv} {M : DM} : dLcT tl fr g te ρ M Q = tl ρ M fun d M1 => itT d (rho0 fr ρ) g te M1 Q := rfl
theorem itT_tup {ds : List D} {M : DM} : itT (.tup ds) ρ0 g te M Q = dItC none ds ρ0 g te M Q := rfl
def foT (d : D) (g : DG) (tb : DS) (E : DEnds) (ρ : DEnv) (M : DM) : Prop := match d with
  | .tup ds => dIt none ds g tb E ρ M
  | _ => False
theorem dForT_eq {tl : DE} {E : DEnds} {ρ : DEnv} {M : DM} : dForT tl g tb E ρ M = tl ρ M fun d M1 => foT d g tb E ρ M1 := rfl
theorem foT_tup {ds : List D} {E : DEnds} {ρ : DEnv} {M : DM} : foT (.tup ds) g tb E ρ M = dIt none ds g tb E ρ M := rfl
def goC (g : DG) (te : DE) (ρ0 : DEnv) (Q : DQ) : List D → List D → DM → Prop
  | [], ys, M => ∀ p, M p = none → Q (.ref p) (putM M p ys)
  | d :: r, ys, M => g d ρ0 M fun ρ2 M2 => te ρ2 M2 fun y M3 => goC g te ρ0 Q r (ys ++ [y]) M3
def goA (a : Addr) (ds : List D) (g : DG) (te : DE) (ρ0 : DEnv) (Q : DQ) : List D → List D → DM → Prop
  | [], ys, M => M a = some ds ∧ ∀ p, M p = none → Q (.ref p) (putM M p ys)
  | d :: r, ys, M => M a = some ds ∧ g d ρ0 M fun ρ2 M2 => te ρ2 M2 fun y M3 => goA a ds g te ρ0 Q r (ys ++ [y]) M3
def goF (g : DG) (tb : DS) (E : DEnds) : List D → DEnv → DM → Prop
  | [], ρ, M => E.nx ρ M
  | d :: r, ρ, M => g d ρ M fun ρ2 M2 => tb { E with nx := goF g tb E r, ct := goF g tb E r, bk := E.nx } ρ2 M2
def goR (lo : Int) (g : DG) (tb : DS) (E : DEnds) : Nat → Nat → DEnv → DM → Prop
  | 0, _, ρ, M => E.nx ρ M
  | n + 1, i, ρ, M => g (.int (lo + i)) ρ M fun ρ2 M2 => tb { E with nx := goR lo g tb E n (i + 1), ct := goR lo g tb E n (i + 1), bk := E.nx } ρ2 M2
end
section
variable {e : Expr} {te : DE} {pos : Pos}
end
end Dd
namespace Dd
open PySem PySem.Spec PyProof.Rows L2
section
variable {X : Cx} {e : Expr} {te : DE} {pos p2 : Pos} {lo hi : Option Expr} {tl th : DO}
def dSlTR (x : D) (lo hi : Option Int) (M : DM) (Q : DQ) : Prop := match x with
  | .tup ds => ¬ (HT.sIx ds.length 0 lo = 0 ∧ HT.sIx ds.length ds.length hi = ds.length) ∧ Q (.tup (cutD ds lo hi)) M
  | _ => False
def dSlT (te : DE) (tl th : DO) : DE := fun ρ M Q => te ρ M fun x M1 => tl ρ M1 fun l M2 => th ρ M2 fun h M3 => dSlTR x l h M3 Q
def dInR (g : Bool → Bool) : D2 := fun x y M Q => match x, y with
  | .int k, .ref a => ∃ ns : List Int, M a = some (ns.map D.int) ∧ Q (.bl (g (ns.any (· == k)))) M
  | .str k, .ref a => ∃ ns : List Str, M a = some (ns.map D.str) ∧ Q (.bl (g (ns.any (· == k)))) M
  | _, _ => False
end
end Dd

set_option Elab.async false
set_option linter.all false
set_option maxRecDepth 100000
set_option maxHeartbeats 4000000
namespace L2
open PySem PySem.Spec PyProof.Rows
open PySem.AutoSeq1 (wpAny_loadPart')
section
variable {X : Cx} {a n : Expr} {ta : TE} {tn : TA} {pos : Pos}
end
end L2
namespace Dd
open PySem PySem.Spec PyProof.Rows L2
section
variable {X : Cx} {a n : Expr} {ta : DE} {tn : DA} {pos p pos' : Pos}
def dInRng (g : Bool → Bool) (ta : DE) (tn : DA) : DE := fun ρ M Q => ta ρ M fun x M1 => tn ρ M1 fun ds M2 => match x, ds with
  | .int k, [.int j] => Q (.bl (g (decide (0 ≤ k ∧ k < j)))) M2
  | _, _ => False
end
end Dd

set_option Elab.async false
set_option linter.all false
set_option maxRecDepth 100000
set_option maxHeartbeats 4000000
namespace Dd
open PySem PySem.Spec PyProof.Rows L2
section
variable {X : Cx} {a b c e o : Expr} {es : List Expr} {ta tb tc te to : DE} {pos : Pos}
def dChain (r r' : D2) (ta tb tc : DE) : DE := fun ρ M Q => ta ρ M fun x M1 => tb ρ M1 fun y M2 => r x y M2 fun z M3 => match z with
  | .bl k => if k = true then tc ρ M3 fun w M4 => r' y w M4 Q else Q (.bl false) M3
  | _ => False
def sTwoI (g : Int → Int → Int) : DSp := fun ds M Q => match ds with
  | [.int i, .int j] => Q (.int (g i j)) M
  | _ => False
def sMin : DSp := sTwoI fun i j => if j < i then j else i
def sMax : DSp := sTwoI fun i j => if j > i then j else i
def sList : DSp := fun ds M Q => match ds with
  | [.tup xs] => ∀ p, M p = none → Q (.ref p) (putM M p xs)
  | [.fz xs] => ∀ p, M p = none → Q (.ref p) (putM M p xs)
  | [.ref a] => ∃ xs, M a = some xs ∧ ∀ p, M p = none → Q (.ref p) (putM M p xs)
  | _ => False
def dExtend (to te : DE) : DE := fun ρ M Q => to ρ M fun x M1 => match x with
  | .ref p => (∃ ds, M1 p = some ds) ∧ dCons te dNil ρ M1 fun ys M2 => ∃ ds q es, ys = [.ref q] ∧ M2 p = some ds ∧ M2 q = some es ∧ ds.length + es.length ≤ 1000 ∧ Q .non (putM M2 p (ds ++ es))
  | _ => False
end
mutual
theorem eqD_self : ∀ (n : Nat) (d : D), pureN n d = true → eqD d d = true
  | n, .non, _ => rfl
  | n, .bl b, _ => by simp [eqD]
  | n, .int i, _ => by simp [eqD]
  | n, .str x, _ => by simp [eqD]
  | n, .ref a, h => by cases n <;> exact absurd h Bool.false_ne_true
  | n, .fz a, h => by cases n <;> exact absurd h Bool.false_ne_true
  | 0, .tup xs, h => absurd h Bool.false_ne_true
  | n + 1, .tup xs, h => eqDs_self n xs h
theorem eqDs_self : ∀ (n : Nat) (ds : List D), ds.all (pureN n) = true → eqDs ds ds = true
  | n, [], _ => rfl
  | n, d :: ds, h => by
    rw [List.all_cons, Bool.and_eq_true] at h
    show (eqD d d && eqDs ds ds) = true
    rw [eqD_self n d h.1, eqDs_self n ds h.2]
    rfl
end
theorem dEq_self {g : Bool → Bool} {d : D} {M : DM} {Q : DQ} (h : pureN 60 d = true) (q : Q (.bl (g true)) M) : dEq g d d M Q := by
  cases d with
  | ref a => exact absurd h Bool.false_ne_true
  | _ => exact ⟨h, h, by rw [eqD_self 60 _ h]; exact q⟩
def goL (a : Addr) (ds : List D) (g : DG) (tb : DS) (E : DEnds) : List D → DEnv → DM → Prop
  | [], ρ, M => M a = some ds ∧ E.nx ρ M
  | d :: r, ρ, M => M a = some ds ∧ g d ρ M fun ρ2 M2 => tb { E with nx := goL a ds g tb E r, ct := goL a ds g tb E r, bk := E.nx } ρ2 M2
theorem ifF {b : Bool} {A B : Prop} (h : b = false) (q : B) : if b = true then A else B := by subst h; exact q
theorem ifT {b : Bool} {A B : Prop} (h : b = true) (q : A) : if b = true then A else B := by subst h; exact q
end Dd

set_option Elab.async false
set_option linter.all false
set_option maxRecDepth 100000
set_option maxHeartbeats 400000
namespace L2
open PySem PySem.Spec PyProof.Rows
end L2
namespace Dd
open PySem PySem.Spec PyProof.Rows L2
section
variable {X : Cx} {e k : Expr} {te tk : DE} {pos p2 : Pos}
def dRev (te tk : DE) : DE := fun ρ M Q => te ρ M fun x M1 => tk ρ M1 fun y M2 => match x, y with
  | .ref a, .int i => i = -1 ∧ ∃ ds, M2 a = some ds ∧ ∀ p, M2 p = none → Q (.ref p) (putM M2 p ds.reverse)
  | _, _ => False
end
end Dd

set_option Elab.async false
set_option linter.all false
set_option maxRecDepth 100000
set_option maxHeartbeats 4000000
namespace Zp
open PySem PySem.Spec PyProof.Rows
section
variable {prog : Program} {w : World} {A : Around} {E : Value → Shared → Prop} {s : Shared}
end
end Zp
namespace L2
open PySem PySem.Spec PyProof.Rows
end L2
namespace Dd
open PySem PySem.Spec PyProof.Rows L2
section
variable {X : Cx} {pos : Pos} {iter tg : Expr} {body : List Stmt} {tl : DE} {g : DG} {tb : DS} {ta : DA}
def zipD : List D → List D → List D
  | x :: xs, y :: ys => .tup [x, y] :: zipD xs ys
  | _, _ => []
def dForZ (ta : DA) (g : DG) (tb : DS) : DS := fun E ρ M => ta ρ M fun ds M1 => match ds with
  | [.tup xs, .tup ys] => dIt none (zipD xs ys) g tb E ρ M1
  | _ => False
def foZ (ds : List D) (g : DG) (tb : DS) (E : DEnds) (ρ : DEnv) (M : DM) : Prop := match ds with
  | [.tup xs, .tup ys] => dIt none (zipD xs ys) g tb E ρ M
  | _ => False
theorem dForZ_eq {E : DEnds} {ρ : DEnv} {M : DM} : dForZ ta g tb E ρ M = ta ρ M fun ds M1 => foZ ds g tb E ρ M1 := rfl
end
end Dd

set_option Elab.async false
set_option linter.all false
set_option maxRecDepth 100000
set_option maxHeartbeats 1000000

namespace Dd
open PySem PySem.Spec PyProof.Rows L2

theorem ObjOk.there {P : Program} {w : World} {H : Hp} {h : Heap} {a : Addr} {o : HO} (x : ObjOk P w H h a o) : ∃ u, h.get? a = some u := by
  cases o with
  | lst xs => obtain ⟨_, _, _, _, e⟩ := x; exact ⟨_, e⟩
  | tup xs => obtain ⟨_, _, _, ob, e, _⟩ := x; exact ⟨_, e⟩
  | dK kvs => obtain ⟨_, _, _, _, o, _, _, e, _⟩ := x; exact ⟨_, e⟩
  | dT kvs => obtain ⟨_, _, _, _, o, _, _, e, _⟩ := x; exact ⟨_, e⟩
  | set S n => obtain ⟨o, _, _, _, e, _⟩ := x; exact ⟨_, e⟩
  | ins C dx fs => obtain ⟨_, _, _, e, _⟩ := x; exact ⟨_, e⟩
  | own y => obtain ⟨_, e⟩ := x; exact ⟨_, e⟩
  | xd fs => obtain ⟨_, ⟨_, _, _, e, _⟩, _⟩ := x; exact ⟨_, e⟩
  | rng lo hi => obtain ⟨_, _, _, e⟩ := x; exact ⟨_, e⟩
  | frz ob u => obtain ⟨e, _⟩ := x; exact ⟨_, e⟩
  | tbl ps => exact ⟨_, (show h.get? a = some _ from x)⟩
  | met f y => exact ⟨_, (show h.get? a = some _ from x)⟩
  | ext φ => obtain ⟨_, ⟨_, e⟩, _⟩ := x; exact ⟨_, e⟩

def FpN (X : Cx) (pins : List (Addr × Obj)) (H : Hp) (b : Addr) : Prop :=
  H b = none ∧ b ≠ X.env.locals ∧ X.s₀.heap.get? b = none ∧ (∀ x c, X.env.cells.lookup x = some c → c ≠ b) ∧ ∀ p ∈ X.pn ++ pins, p.1 ≠ b

section
variable {X : Cx} {pins : List (Addr × Obj)} {σ : L2.St} {H H' : Hp} {s : Shared} {h' : Heap}
theorem _root_.L2.Inv.fpN (I : Inv X pins σ H s) (hex : X.ex = []) {b : Addr} (h : s.heap.get? b = none) (hn : H' b = none) : FpN X pins H' b := by
  refine ⟨hn, fun z => ?_, ?_, fun x c e z => ?_, fun p hp z => ?_⟩
  · obtain ⟨m, ⟨o, _, _, ho, _⟩, _⟩ := I.loc
    rw [← z, h] at ho; cases ho
  · cases q : X.s₀.heap.get? b with
    | none => rfl
    | some o =>
      obtain ⟨o', e⟩ := I.base.there b o q (by rw [hex]; simp)
      rw [h] at e; cases e
  · obtain ⟨v, o, ho, _⟩ := I.cell x c e
    rw [z, h] at ho; cases ho
  · obtain ⟨e, _⟩ := I.pin p hp
    rw [z, h] at e; cases e
theorem _root_.L2.Inv.untr (I : Inv X pins σ H s) {b : Addr} (h : s.heap.get? b = none) : H b = none := by
  cases q : H b with
  | none => rfl
  | some o => obtain ⟨u, e⟩ := ObjOk.there (I.hok b o q); rw [h] at e; cases e
theorem _root_.L2.Inv.mark {ch : List Addr} (I : Inv X pins σ H s) (hch : ∀ b ∈ ch, FpN X pins H b) (keep : ∀ b o, b ∉ frs X.stack → b ∉ ch → s.heap.get? b = some o → h'.get? b = some o)
    (slot : ∀ b o, b ∉ ch → s.heap.get? b = some o → ∃ sl, h'.get? b = some { o with slots := sl }) : Inv X pins σ H { s with heap := h' } := by
  have neL : ∀ b o, X.s₀.heap.get? b = some o → b ≠ X.env.locals := fun b o e => Nat.ne_of_lt (Nat.lt_of_lt_of_le (Heap.lt_size e) I.ok.above)
  have neC : ∀ b o, X.s₀.heap.get? b = some o → b ∉ ch := fun b o e hb => by rw [(hch b hb).2.2.1] at e; cases e
  have stk : ∀ b, b ≠ X.env.locals → b ∉ X.fs → b ∉ frs X.stack := fun b h1 h2 hb => (List.mem_cons.mp (I.stkSub b hb)).elim h1 h2
  have cellK : ∀ x c, X.env.cells.lookup x = some c → ∀ v, s.heap.IsCell c v → h'.IsCell c v := fun x c e v ⟨o, ho, hd⟩ => by
    obtain ⟨sl, q⟩ := slot c o (fun z => (hch c z).2.2.2.1 x c e rfl) ho
    exact ⟨_, q, hd⟩
  refine ⟨I.ok, I.os, I.bare, ⟨fun b o e n hb hx => ?_, fun b o e n hb hx => ?_, I.base.free, fun b o e hx => ?_, I.base.tups, I.base.frzs, I.base.tbls⟩, ?_, fun x c e => ?_, I.free, I.freeC, fun p hp => ?_, fun a o e => ?_, I.len⟩
  · exact keep b o (stk b (neL b o e) hb) (neC b o e) (I.base.keep b o e n hb hx)
  · obtain ⟨sl, e1⟩ := I.base.slot b o e n hb hx
    obtain ⟨sl', e2⟩ := slot b _ (neC b o e) e1
    exact ⟨sl', e2⟩
  · obtain ⟨o', e1⟩ := I.base.there b o e hx
    obtain ⟨sl, e2⟩ := slot b o' (neC b o e) e1
    exact ⟨_, e2⟩
  · obtain ⟨m, ⟨o, es, ep, ho, r⟩, hl⟩ := I.loc
    obtain ⟨sl, e2⟩ := slot _ o (fun z => (hch _ z).2.1 rfl) ho
    refine ⟨m, ⟨_, es, ep, e2, r⟩, fun i x v e1 e2 e3 => ?_⟩
    obtain ⟨u, r, l⟩ := hl i x v e1 e2 e3
    refine ⟨u, r, ?_⟩
    rcases l with l | ⟨k, c, e, z⟩
    · exact .inl l
    · exact .inr ⟨k, c, e, cellK x c e _ z⟩
  · obtain ⟨v, z⟩ := I.cell x c e
    exact ⟨v, cellK x c e v z⟩
  · obtain ⟨e, n, ne, nf, d⟩ := I.pin p hp
    exact ⟨keep p.1 p.2 (stk _ ne nf) (fun z => (hch _ z).2.2.2.2 p hp rfl) e, n, ne, nf, d⟩
  · refine (I.hok a o e).stay (fun b u hb q => keep b u (fun z => ?_) (fun z => ?_) q) (fun _ q => q) fun _ _ q => q
    · have := I.stkFree b z
      rcases hb with hb | hb
      · rw [hb, e] at this; cases this
      · rw [hb] at this; cases this
    · have := (hch b z).1
      rcases hb with hb | hb
      · rw [hb, e] at this; cases this
      · rw [hb] at this; cases this
end

theorem dict_mapFields (f : Array Value → Array Value) (o : Obj) : (o.mapFields f).dict = o.dict := by unfold Obj.mapFields; split <;> rfl
def Nw (h : Heap) (e : Addr) (cls : Value) : Prop := ∃ oe vs, h.get? e = some oe ∧ (oe.cls = cls ∧ oe.dict = none) ∧ oe.data = .fields vs ∧ vs[1]? = some Value.none
def Tr (h : Heap) (e : Addr) (cls : Value) (T : Addr) (fl : Value) : Prop :=
  ∃ oe vs oT ts, h.get? e = some oe ∧ (oe.cls = cls ∧ oe.dict = none) ∧ oe.data = .fields vs ∧ vs[1]? = some (.ref T) ∧ T ≠ e ∧ h.get? T = some oT ∧ oT.data = .fields ts ∧ ts[3]? = some fl

section
variable {X : Cx} {pins : List (Addr × Obj)} {σ : L2.St} {H : Hp} {s : Shared} {M : Model} {A : Around} {E : Value → Shared → Prop} {e T : Addr} {cls : Value}

theorem entry_inv {oe : Obj} {vs : Array Value} {head : Value} {hadNext : Bool} {Q : Unit → Shared → Prop} (I : Inv X pins σ H s) (hs : X.stack = X.env :: X.outer) (hf : X.env.frame = some X.env.locals) (hex : X.ex = [])
    (hA : A.frames = some X.stack) (he : s.heap.get? e = some oe) (hdi : oe.dict = none) (hd : oe.data = .fields vs) (hsz : 1 < vs.size) (fe : FpN X pins H e)
    (h : ∀ s' T, Inv X pins σ H s' → Tr s'.heap e oe.cls T (rawInt X.env.locals) → FpN X pins H T → s.heap.get? T = none → Q () s') :
    wpAny M A (do let a ← frameOf X.env; let pl ← entryPlaceOf X.env.locals hadNext; let b ← EntryCells.newEntry head a .none (rawInt X.env.locals) .none pl; setField (.ref e) 1 b) Q E s := by
  have hfr : A.frames = some (X.env :: X.outer) := by rw [hA, hs]
  have hl : s.heap.FunFrames X.base (X.env :: X.outer) := hs ▸ I.stack
  have hene : e ∉ (X.env :: X.outer).filterMap (·.frame) := fun hm => by
    obtain ⟨_, o, ho, hnf⟩ := hl.mem hm
    rw [he] at ho; cases ho; exact hnf vs hd
  have hfs : frs X.stack = (X.env :: X.outer).filterMap (·.frame) := by rw [hs]; rfl
  refine wpAny_bind (wpAny_frameOf_fun hfr hl hf fun h₁ hs₁ => ?_)
  refine wpAny_bind (wpAny_entryPlaceOf fun pl hpl => ?_)
  unfold EntryCells.newEntry newFields
  refine wpAny_bind (wpAny_newObj_type ?_ (hpl.sizeOk5 _ _ _ _ _))
  have he₁ : h₁.get? e = some oe := (hs₁.2.1 e hene).trans he
  have he₂ := Heap.get?_push_of_some (h := h₁) { cls := .type "traceback", dict := none, data := .fields ([head, .ref X.env.locals, .none, rawInt X.env.locals, .none] ++ (if pl.isEmpty then List.replicate 6 Value.none else pl)).toArray } he₁
  refine wpAny_setField he₂ hd hsz ?_
  have hTe : h₁.objs.size ≠ e := Nat.ne_of_gt (Heap.lt_size he₁)
  have hd₃ := Obj.data_mapFields hd (·.setIfInBounds 1 (Value.ref h₁.objs.size))
  have he₃ := Heap.get?_update_self (Obj.mapFields (·.setIfInBounds 1 (Value.ref h₁.objs.size))) he₂ (Obj.isFreed_of_fields hd₃)
  have hT₃ := (Heap.get?_update_other (h₁.push { cls := .type "traceback", dict := none, data := .fields ([head, .ref X.env.locals, .none, rawInt X.env.locals, .none] ++ (if pl.isEmpty then List.replicate 6 Value.none else pl)).toArray })
    (Obj.mapFields (·.setIfInBounds 1 (Value.ref h₁.objs.size))) (Ne.symm hTe)).trans (Heap.get?_push_size h₁ rfl)
  have hTn : s.heap.get? h₁.objs.size = none := Heap.get?_none_of_le (by rw [hs₁.1]; exact Nat.le_refl _)
  refine h _ h₁.objs.size (L2.Inv.mark (s := s) (ch := [e]) I (fun b hb => by rw [List.mem_singleton.mp hb]; exact fe) (fun b o hb hc q => ?_) fun b o hc q => ?_) ?_ (L2.Inv.fpN (s := s) I hex hTn (L2.Inv.untr (s := s) I hTn)) hTn
  · have hbe : b ≠ e := fun z => hc (by simp [z])
    rw [Heap.get?_update_other _ _ (Ne.symm hbe)]
    exact Heap.get?_push_of_some _ ((hs₁.2.1 b (by rw [← hfs]; exact hb)).trans q)
  · have hbe : b ≠ e := fun z => hc (by simp [z])
    obtain ⟨sl, z⟩ := hs₁.2.2 b o q
    exact ⟨sl, by rw [Heap.get?_update_other _ _ (Ne.symm hbe)]; exact Heap.get?_push_of_some _ z⟩
  · exact ⟨_, _, _, _, he₃, ⟨Obj.cls_mapFields _ _, (dict_mapFields _ _).trans hdi⟩, hd₃, by simp [hsz], hTe, hT₃, rfl, by first | (simp; done) | (rcases hpl with rfl | ⟨_, _, _, _, _, _, _, rfl⟩ <;> simp)⟩

theorem note_new {Q : Unit → Shared → Prop} (I : Inv X pins σ H s) (hs : X.stack = X.env :: X.outer) (hf : X.env.frame = some X.env.locals) (hex : X.ex = []) (hA : A.frames = some X.stack) (n : Nw s.heap e cls) (fe : FpN X pins H e)
    (h : ∀ s' T, Inv X pins σ H s' → Tr s'.heap e cls T (rawInt X.env.locals) → FpN X pins H T → s.heap.get? T = none → Q () s') : wpAny M A (noteFrame (.ref e) X.env) Q E s := by
  obtain ⟨oe, vs, he, ⟨rfl, hdi⟩, hd, h1⟩ := n
  unfold noteFrame
  simp only [hf]
  refine wpAny_bind (wpAny_field he hd h1 ?_)
  rw [if_neg (by decide)]
  exact entry_inv I hs hf hex hA he hdi hd (Array.getElem?_eq_some_iff.mp h1).1 fe h

theorem set_rec {ts : Array Value} {oT : Obj} {f : Array Value → Array Value} (I : Inv X pins σ H s) (fT : FpN X pins H T) (hT : s.heap.get? T = some oT) :
    Inv X pins σ H { s with heap := s.heap.update T (Obj.mapFields f) } := by
  refine I.mark (ch := [T]) (fun b hb => by rw [List.mem_singleton.mp hb]; exact fT) (fun b o _ hc q => ?_) fun b o hc q => ⟨o.slots, ?_⟩ <;>
  · rw [Heap.get?_update_other _ _ (Ne.symm (fun z => hc (by simp [z])))]; exact q

theorem flight_inv {fl : Value} {Q : Unit → Shared → Prop} (I : Inv X pins σ H s) (t : Tr s.heap e cls T fl) (fT : FpN X pins H T) (h : ∀ s', Inv X pins σ H s' → Tr s'.heap e cls T .none → Q () s') : wpAny M A (setFlight (.ref e) none) Q E s := by
  obtain ⟨oe, vs, oT, ts, he, hcls, hd, h1, hTe, hT, hdT, h3⟩ := t
  have hsz3 : 3 < ts.size := (Array.getElem?_eq_some_iff.mp h3).1
  unfold setFlight
  refine wpAny_bind (wpAny_field he hd h1 ?_)
  rw [if_pos (show (Value.ref T != Value.none) = true from by simp)]
  refine wpAny_setField hT hdT hsz3 (h _ (set_rec (ts := ts) I fT hT) ?_)
  exact ⟨oe, vs, _, _, (Heap.get?_update_other _ _ hTe).trans he, hcls, hd, h1, hTe, Heap.get?_update_self _ hT (Obj.isFreed_of_fields (Obj.data_mapFields hdT _)), Obj.data_mapFields hdT _, by simp [hsz3]⟩

theorem note_next {Q : Unit → Shared → Prop} (I : Inv X pins σ H s) (hs : X.stack = X.env :: X.outer) (hf : X.env.frame = some X.env.locals) (hex : X.ex = []) (hA : A.frames = some X.stack) (t : Tr s.heap e cls T .none) (fe : FpN X pins H e) (fT : FpN X pins H T)
    (h : ∀ s' T', Inv X pins σ H s' → Tr s'.heap e cls T' (rawInt X.env.locals) → FpN X pins H T' → Q () s') : wpAny M A (noteFrame (.ref e) X.env) Q E s := by
  obtain ⟨oe, vs, oT, ts, he, ⟨rfl, hdi⟩, hd, h1, hTe, hT, hdT, h3⟩ := t
  unfold noteFrame
  simp only [hf]
  refine wpAny_bind (wpAny_field he hd h1 ?_)
  rw [if_pos (show (Value.ref T != Value.none) = true from by simp)]
  refine wpAny_bind (wpAny_field hT hdT h3 ?_)
  rw [if_neg (show ¬ ((Value.none == rawInt X.env.locals) = true) from by simp [rawInt])]
  refine wpAny_bind (wpAny_setField hT hdT (Array.getElem?_eq_some_iff.mp h3).1 ?_)
  exact entry_inv (set_rec (ts := ts) I fT hT) hs hf hex hA ((Heap.get?_update_other _ _ hTe).trans he) hdi hd (Array.getElem?_eq_some_iff.mp h1).1 fe fun s' T' I' t' f' _ => h s' T' I' t' f'

theorem leave_inv {Q : Unit → Shared → Prop} (I : Inv X pins σ H s) (hs : X.stack = X.env :: X.outer) (hf : X.env.frame = some X.env.locals) (hex : X.ex = []) (hA : A.frames = some X.stack) (n : Nw s.heap e cls) (fe : FpN X pins H e)
    (h : ∀ s' T, Inv X pins σ H s' → Tr s'.heap e cls T .none → FpN X pins H T → s.heap.get? T = none → Q () s') : wpAny M A (leaving X.env (.ref e)) Q E s := by
  unfold leaving
  exact wpAny_bind (note_new I hs hf hex hA n fe fun s1 T I1 t1 f1 n1 => flight_inv I1 t1 f1 fun s2 I2 t2 => h s2 T I2 t2 f1 n1)
end
end Dd

set_option Elab.async false
set_option linter.all false
set_option maxRecDepth 100000
set_option maxHeartbeats 1000000

namespace Dd
open PySem PySem.Spec PyProof.Rows L2

def CXr (P : Program) (w : World) : CXT := fun outer H s E e s' => ∃ (a : Addr) (cls : Value) (T : Addr) (H' : Hp), e = Value.ref a ∧ s'.os = s.os ∧ AllBare s'.gens ∧ Un (frs outer) [] H H' s.heap s'.heap ∧ HOk P w H' s'.heap ∧
  Tr s'.heap a cls T .none ∧ s.heap.get? a = none ∧ s.heap.get? T = none ∧ H' a = none ∧ H' T = none ∧ E cls none H'

theorem own_obj {K : PySem.W.Frag} {h : Heap} {C : Addr} {bmB : List Value} {newId : String} (X : K.In h) (q : PySem.W.excIn K C bmB newId = true) :
    ∃ bm N nm qn bs hdct sn sub ab col dd k0 k1 k2 k3 k5, ∃ mN : Str → Option Value, h.get? C = some (excClassObj nm qn C N bs bm hdct sn sub ab col dd k0 k1 k2 k3 k5 newId) ∧ h.Ns N mN ∧ mN "__init__" = none ∧ OwnTail h bmB bm := by
  unfold PySem.W.excIn at q
  split at q
  · rename_i dd cd sl ho
    split at q
    · rename_i C' bm k0 k1 k2 k3 n k5 hm hs
      simp only [Bool.and_eq_true, beq_iff_eq, Bool.not_eq_true'] at q
      obtain ⟨⟨⟨⟨⟨rfl, rfl⟩, hdel⟩, ht⟩, hok⟩, hni⟩ := q
      cases cd
      dsimp only at hm hdel hok hni
      subst hm hdel
      cases sl
      simp only at hs
      subst hs
      exact ⟨_, _, _, _, _, _, _, _, _, _, _, _, _, _, _, _, _, X _ _ ho, .of_isNs (PySem.W.isNs_of_in X hok), PySem.W.nsMap_none_of_in X hok hni, PySem.W.tail_of_in X ht⟩
    · cases q
  · cases q

def RaiseOk (X : Cx) (x : Str) (V : DM → Prop) : Prop := X.calm = true ∧ X.ex = [] ∧ ∃ C bmB newId B initId, X.mg x = some (.ref C) ∧ PySem.W.excIn X.K C bmB newId = true ∧ ExcBaseFacts B newId initId bmB ∧
  ∀ pins σ H s a M', Inv X pins σ H s → Nw s.heap a (.ref C) → FpN X pins H a → HRep X.K M' H → V M' → X.xe (.ref a) s
def dRaise (V : DM → Prop) (t : DA) : DS := fun _ ρ M => t ρ M fun ds M1 => ds.length ≤ 1000 ∧ V M1
section
variable {X : Cx} {x : Str} {V : DM → Prop} {e : Expr} {es : List Expr} {t : DA} {np cpos pos : Pos}
theorem ds_raise (R : RaiseOk X x V) (ha : PDA X (e :: es) t) (hg : Gl X x := by rfl) (hd : (x == ("__debug__" : Str)) = false := by decide)
    (he : starEach (e :: es) X.env = (false, eval e X.env) :: starEach es X.env := by rfl) (hpl : (backTo cpos (starEach es X.env)).any (·.1) = false := by rfl) :
    PDS X (.Raise (some (.Call (.Name x np) (e :: es) [] cpos)) none pos) (dRaise V t) := by
  intro pins s σ H D I ⟨ρ, M, D', re, hm, q, k⟩
  obtain ⟨calm, hex, C, bmB, newId, B, initId, hmg, hq, FB, fly⟩ := R
  obtain ⟨tl, N, nm, qn, bs, hdct, sn, sub, ab, col, dd, k0, k1, k2, k3, k5, mN, hC, hN, hni, T⟩ := own_obj I.ok.mod.kin hq
  refine wpAny_Raise_call_subT (C := C) (nm := nm) (q := qn) (N := N) (bs := bs) (bm := tl) (hdct := hdct) (sn := sn) (sub := sub) (ab := ab) (col := col) (dd := dd) (k0 := k0) (k1 := k1) (k2 := k2) (k3 := k3) (k5 := k5)
    FB (mN := mN) (T.hasType FB.hasBase) (I.ok.hd calm) (by rw [he]; show (false || (backTo cpos (starEach es X.env)).any (·.1)) = false; rw [hpl]; rfl) hni (ld_glob I hg hmg ⟨rfl, ?_⟩ hd)
  have h := ha cpos pins s σ H (LA X.K H fun ds M1 => ds.length ≤ 1000 ∧ V M1) I ⟨ρ, M, _, re, hm, q, fun vs H' z => z⟩
  rw [he] at h ⊢
  refine Calls.evalArgs_plain (wpAny_mono h (fun us s₂ ⟨vs, H2, I2, rv, ds, M2, rs, hm2, ex, hl, hV⟩ => ⟨rfl, ?_, I2.bk _ _ hC, hN.keeps I2.bk, T.keeps I2.bk, fun h' a mk => ?_⟩) fun _ _ y => y)
  · show us.length ≤ sizeLine
    rw [← rv.length, ← rs.length]; exact Nat.le_of_lt (small1000 hl)
  · obtain ⟨tt, ht, _⟩ := mk.there
    have I3 : Inv X pins σ H2 { s₂ with heap := h' } := I2.kept (t' := s₂.toks) mk.keeps
    have hn := I2.untr mk.new
    exact fly pins σ H2 _ a M2 I3 ⟨_, _, ht, ⟨rfl, rfl⟩, rfl, rfl⟩ (I2.fpN hex mk.new hn) hm2 hV
end

def spX (K : PySem.W.Frag) (C : Addr) (cond : List D → Prop) : Sp := fun vs H _ E => ∃ ds M, Reps K H ds vs ∧ HRep K M H ∧ cond ds ∧ ∀ M' H', HRep K M' H' → SubM M M' → E (.ref C) none H'
def bmV : List Value := [.type "ValueError", .type "Exception", .type "BaseException", .type "object"]
def HasC (K : PySem.W.Frag) (mg : Str → Option Value) (x : Str) (C : Addr) : Prop := mg x = some (.ref C) ∧ PySem.W.excIn K C bmV "ValueError.__new__" = true
def HasX (P : Program) (w : World) (K : PySem.W.Frag) (mg : Str → Option Value) (base : Heap) (k : Nat) (x : Str) (ps : List Str) (C : Addr) (cond : List D → Prop) : Prop :=
  ∃ f fd, FnOk P w K mg base (CXr P w) k f fd ps (spX K C cond) ∧ mg x = some (.ref f) ∧ PySem.W.keepIn K (.ref f) = true ∧ Binds K fd ps []
section
variable {P : Program} {w : World} {K : PySem.W.Frag} {mg : Str → Option Value} {base : Heap}
theorem HasX.mk {x c : Str} {C : Addr} {st : Stmt} {N ps : List Str} {k : Nat} {cond : List D → Prop} (h : HasF K mg x st ps) (hc : HasC K mg c C) (S : FnScope N ps (defScope st)) (len : ∀ ds, cond ds → ds.length = ps.length)
    (hbody : ∀ (f : Addr) (cdv : Value) (A : Around) (outer : List Env) (s : Shared) (H : Hp) (ds : List D) (M : DM) (E : XK), Room k (A.deeper (envOfC x (defScope st) s.heap.objs.size f cdv)) → cond ds →
      RaiseOk (cxOf (CXr P w) P w K mg base N x (defScope st) f cdv A outer s H E) c (SubM M) →
      ∃ t, PDSs (cxOf (CXr P w) P w K mg base N x (defScope st) f cdv A outer s H E) (defBody st) t ∧ t { nx := fun _ _ => False, rt := fun _ _ => False } (startD N ds) M) : HasX P w K mg base (k + 1) x ps C cond := by
  obtain ⟨f, fd, F, hm, hb⟩ := h
  refine ⟨f, fd, ?_, hm, F.kp, hb⟩
  obtain ⟨oc, od, kV, doc, pm, an, cdv, ct, osl, rfl, lk, hcd⟩ := F.ex
  refine fn_of lk hcd S (fun vs H Q E ⟨ds, M, rs, hm, q, _⟩ => by rw [← rs.length]; exact len ds q) fun A outer s H vs Q E hr ⟨ds, M, rs, hm, q, k'⟩ => ?_
  have RO : RaiseOk (cxOf (CXr P w) P w K mg base N x (defScope st) f cdv A outer s H E) c (SubM M) :=
    ⟨rfl, rfl, C, bmV, _, _, _, hc.1, hc.2, PySem.F.excBase_ValueError, fun pins σ H' s1 a M' I n fe hm' sub =>
      leave_inv (X := cxOf (CXr P w) P w K mg base N x (defScope st) f cdv A outer s H E) I rfl rfl rfl I.ok.frames n fe fun s' T I' t' fT _ =>
        ⟨a, .ref C, T, H', rfl, I'.os, I'.bare, I'.base, I'.hok, t', fe.2.2.1, fT.2.2.1, fe.1, fT.1, k' M' H' hm' sub⟩⟩
  obtain ⟨t, h1, h2⟩ := hbody f cdv A outer s H ds M E hr q RO
  exact ⟨_, h1, startD N ds, M, _, reps_start rs N, hm, h2, ⟨fun σ' H' ⟨_, _, _, _, _, z⟩ => z.elim, fun v H' ⟨_, _, _, _, _, z⟩ => z.elim, fun σ' H' ⟨_, _, _, _, _, z⟩ => z.elim, fun σ' H' ⟨_, _, _, _, _, z⟩ => z.elim⟩⟩
end
end Dd

set_option Elab.async false
set_option linter.all false
set_option maxRecDepth 100000
set_option maxHeartbeats 1000000

namespace Dd
open PySem PySem.Spec PyProof.Rows L2

def ExO (o : Obj) (C : Addr) : Prop := o.cls = .ref C ∧ o.dict = none ∧ ∃ vs, o.data = .fields vs
abbrev Exc (X : Cx) (a : Addr) (o : Obj) : Cx := { X with A := X.A.mark (some (.ref a)), calm := false, pn := (a, o) :: X.pn }
section
variable {X : Cx} {pins : List (Addr × Obj)} {σ : L2.St} {H : Hp} {s : Shared} {a : Addr} {o : Obj}
theorem exc_ok (I : X.Ok) : (Exc X a o).Ok :=
  ⟨I.mod, I.kind, I.glob, I.blt, I.above, I.inj, I.has, I.cab, (fun z => nomatch z), I.frames, I.stk, I.exf, I.bs, I.bsz, I.noex, I.exfs, I.funs, I.frf⟩
theorem exc_in (I : Inv X pins σ H s) (h : s.heap.get? a = some o) (n : H a = none) (nl : a ≠ X.env.locals) (nf : a ∉ X.fs) (nc : ∀ v, o.data ≠ .cell v) : Inv (Exc X a o) pins σ H s :=
  ⟨exc_ok I.ok, I.os, I.bare, I.base, I.loc, I.cell, I.free, I.freeC, fun p hp => by
    rcases List.mem_cons.mp hp with z | z
    · subst z; exact ⟨h, n, nl, nf, nc⟩
    · exact I.pin p z, I.hok, I.len⟩
theorem exc_out (ok : X.Ok) (I : Inv (Exc X a o) pins σ H s) : Inv X pins σ H s :=
  ⟨ok, I.os, I.bare, I.base, I.loc, I.cell, I.free, I.freeC, fun p hp => I.pin p (List.mem_cons_of_mem _ hp), I.hok, I.len⟩
theorem name_goes {M : Model} {A : Around} {E : Value → Shared → Prop} {n : Str} {j : Nat} {pos : Pos} {Q : Unit → Shared → Prop} (I : Inv X pins σ H s) (hN : X.N.Nodup) (hj : X.N[j]? = some n) (hl : X.env.scope.names.lookup n = some .local)
    (h : ∀ s', Inv X pins (σ.set j none) H s' → Q () s') : wpAny M A (do bindName X.env n .none; unbindBehindTheSuite X.env n pos) Q E s := by
  obtain ⟨m, hn, hlo⟩ := id I.loc
  have hcls : (X.env.scope.kind == .class || (X.env.scope.kind == .module && X.env.locals != X.env.globals)) = false := by rw [I.ok.kind]; rfl
  have cne := I.cne
  refine wpAny_nameGoes_keeps hl hn hcls fun h' v hn' hs => h _ ?_
  obtain ⟨oL, _, _, hoL, _⟩ := id hn
  refine ⟨I.ok, I.os, I.bare, ⟨fun b o e n hb hx => ?_, fun b o e n hb hx => ?_, I.base.free, fun b o e hx => ?_, I.base.tups, I.base.frzs, I.base.tbls⟩, ⟨_, hn', fun i y v' e1 e2 e3 => ?_⟩, fun y c e => ?_, I.free, I.freeC, fun p hp => ?_, fun b ob e => ?_, by simpa using I.len⟩
  · exact (hs.2 b (Nat.ne_of_lt (Nat.lt_of_lt_of_le (Heap.lt_size e) I.ok.above))).trans (I.base.keep b o e n hb hx)
  · obtain ⟨sl, e1⟩ := I.base.slot b o e n hb hx
    exact ⟨sl, (hs.2 b (Nat.ne_of_lt (Nat.lt_of_lt_of_le (Heap.lt_size e) I.ok.above))).trans e1⟩
  · obtain ⟨o', e1⟩ := I.base.there b o e hx
    exact ⟨o', (hs.2 b (Nat.ne_of_lt (Nat.lt_of_lt_of_le (Heap.lt_size e) I.ok.above))).trans e1⟩
  · have hij : i ≠ j := fun z => by
      subst z
      rw [List.getElem?_set] at e2
      rw [if_pos rfl] at e2
      split at e2 <;> cases e2
    rw [List.getElem?_set_ne (Ne.symm hij)] at e2
    obtain ⟨u, r, q⟩ := hlo i y v' e1 e2 e3
    refine ⟨u, r, ?_⟩
    rcases q with ⟨k, e⟩ | ⟨k, c, e, z⟩
    · refine .inl ⟨k, ?_⟩
      have : y ≠ n := fun e => hij (nodup_ix hN e1 (e ▸ hj))
      simp [this, e]
    · exact .inr ⟨k, c, e, z.sameBut hs (cne y c e)⟩
  · obtain ⟨w', z⟩ := I.cell y c e
    exact ⟨w', z.sameBut hs (cne y c e)⟩
  · obtain ⟨e, n, ne, nf, d⟩ := I.pin p hp
    exact ⟨(hs.2 p.1 ne).trans e, n, ne, nf, d⟩
  · refine (I.hok b ob e).stay (fun c w' hc q => (hs.2 c ?_).trans q) (fun _ q => q) fun _ _ q => q
    rintro rfl
    rcases hc with rfl | hc
    · rw [I.free] at e; cases e
    · rw [I.free] at hc; cases hc
end
theorem RepE.setN {K : PySem.W.Frag} {H : Hp} {ρ : DEnv} {σ : L2.St} (h : RepE K H ρ σ) (i : Nat) : RepE K H (ρ.set i none) (σ.set i none) := by
  refine ⟨by rw [List.length_set, List.length_set, h.len], fun j d' q => ?_⟩
  rw [List.getElem?_set] at q
  by_cases hij : i = j
  · subst hij
    rw [if_pos rfl] at q
    split at q <;> cases q
  · rw [if_neg hij] at q
    obtain ⟨u, a, b⟩ := h.get j d' q
    exact ⟨u, by rw [List.getElem?_set, if_neg hij]; exact a, b⟩

def DEnds.un (D : DEnds) (j : Nat) : DEnds := { nx := fun ρ M => D.nx (ρ.set j none) M, rt := D.rt, bk := fun ρ M => D.bk (ρ.set j none) M, ct := fun ρ M => D.ct (ρ.set j none) M }
def EndsUn (D : Ends) (j : Nat) : Ends := { nx := fun ρ M => D.nx (ρ.set j none) M, rt := D.rt, bk := fun ρ M => D.bk (ρ.set j none) M, ct := fun ρ M => D.ct (ρ.set j none) M }
theorem EndsOk.un {K : PySem.W.Frag} {H : Hp} {D : DEnds} {E : Ends} (k : EndsOk K H D E) (j : Nat) : EndsOk K H (D.un j) (EndsUn E j) :=
  ⟨fun σ' H' ⟨ρ', M', re, hm, ex, q⟩ => k.nx _ H' ⟨_, M', re.setN j, hm, ex, q⟩, k.rt, fun σ' H' ⟨ρ', M', re, hm, ex, q⟩ => k.bk _ H' ⟨_, M', re.setN j, hm, ex, q⟩, fun σ' H' ⟨ρ', M', re, hm, ex, q⟩ => k.ct _ H' ⟨_, M', re.setN j, hm, ex, q⟩⟩

def dTry (sp : DSp) (cond : List D → Prop) (j : Nat) (t : DA) (nx : DEnds → D → DEnv → DM → Prop) (ts : Addr → DS) : DS := fun D ρ M => t ρ M fun ds M1 =>
  (cond ds ∧ ∀ a, ts a (D.un j) (ρ.set j (some (.ref a))) M1) ∨ sp ds M1 fun d M2 => nx D d ρ M2

section
variable {X : Cx} {a : Expr} {e : Expr} {es : List Expr} {t : DA} {x f n cm : Str} {ps : List Str} {sp : DSp} {cond : List D → Prop} {C Cm : Addr} {k1 k2 k i j : Nat} {ts : Addr → DS} {b0 : Stmt} {suite : List Stmt} {px pf pc pa pcm ph pos : Pos}

theorem caught {pins : List (Addr × Obj)} {σ : L2.St} {H1 : Hp} {s1 s' : Shared} {M1 : DM} {ρ : DEnv} {De : DEnds} {En : Ends} {ev : Value} (ok : X.Ok) (hs : X.stack = X.env :: X.outer) (hf : X.env.frame = some X.env.locals) (hex : X.ex = [])
    (hX : ∀ e s, X.xe e s → False) (hN : X.N.Nodup) (hj : X.N[j]? = some n) (hnl : X.env.scope.names.lookup n = some .local)
    (hcm : X.mg cm = some (.ref Cm)) (hgc : Gl X cm) (hdc : (cm == ("__debug__" : Str)) = false) (hmt : PySem.W.exmOne X.K (.ref C) (.ref Cm) = some true)
    (hsu : ∀ a o, ExO o C → PDSs (Exc X a o) (b0 :: suite) (ts a))
    (I1 : Inv X pins σ H1 s1) (re : RepE X.K H1 ρ σ) (k : EndsOk X.K H1 De En) (q : ∀ a, ts a (De.un j) (ρ.set j (some (.ref a))) M1)
    (h : CXr X.prog X.w X.stack H1 s1 (fun c _ H' => c = .ref C ∧ ∃ M', HRep X.K M' H' ∧ SubM M1 M') ev s') :
    wpAny (model X.prog X.w) X.A (noteFrame ev X.env) (fun _ s₂ => wpAny (model X.prog X.w) X.A (setFlight ev none)
      (fun _ s₃ => wpAny (model X.prog X.w) X.A (handleBy ev X.env [.ExceptHandler (some (.Name cm pcm)) (some n) (b0 :: suite) ph]) (SP X pins En) X.xe s₃) X.xe s₂) X.xe s' := by
  obtain ⟨a, cls, T, H', rfl, os, bare, un, hok, tr, na, nT, ha, hT, rfl, M', hm', sub⟩ := h
  have I2 : Inv X pins σ H' s' := I1.call' (ch := []) os un hok bare (fun b z => absurd z (by simp))
  have fa : FpN X pins H' a := I1.fpN hex na ha
  have fT : FpN X pins H' T := I1.fpN hex nT hT
  have ex : Ext H1 H' := ⟨un.tups, un.frzs⟩
  refine note_next I2 hs hf hex I2.ok.frames tr fa fT fun s3 T3 I3 t3 f3 => ?_
  refine flight_inv I3 t3 f3 fun s4 I4 t4 => ?_
  have noF : ∀ {s : Shared} {oe : Obj} {vs : Array Value}, Inv X pins σ H' s → s.heap.get? a = some oe → oe.data = .fields vs → a ∉ X.fs := fun {s oe vs} I he hd hb => by
    obtain ⟨_, o, ho, hnf⟩ := I.funs.mem hb
    rw [he] at ho; cases ho; exact hnf vs hd
  have inn : ∀ {s : Shared} {T fl}, Inv X pins σ H' s → Tr s.heap a (.ref C) T fl → ∃ oe, oe.cls = .ref C ∧ s.heap.get? a = some oe ∧ Inv (Exc X a oe) pins σ H' s := fun {s T fl} I t => by
    obtain ⟨oe, vs, oT, ts, he, hc, hd, _⟩ := t
    exact ⟨oe, hc.1, he, exc_in I he ha fa.2.1 (noF I he hd) fun v z => by rw [hd] at z; cases z⟩
  obtain ⟨o4, hc4, he4, J4⟩ := inn I4 t4
  refine wpAny_handleBy_cons (codeAny_handlers_test ?_) (by intro z; cases z)
  refine ld_glob (X := Exc X a o4) J4 hgc hcm ?_ hdc
  have LT : ∀ M : Model, PySem.W.Looks M s4.heap (typeOf (.ref a)) (.ref C) := fun M => hc4 ▸ (PySem.W.Looks.ld he4).andThen .now
  refine (PySem.W.exm_one J4.kIn (LT _) hmt).here ?_
  simp only [if_true]
  refine codeAny_handlers_suite_as ?_
  refine flight_inv I4 t4 f3 fun s5 I5 t5 => ?_
  obtain ⟨oe, vs, oT, tts, he5, hc5, hd5, _⟩ := t5
  refine store_ok2 (v := .ref a) I5 hN hj (.inl hnl) rfl (fun s6 I6 ⟨b, hsb, hb⟩ => ?_) (.inr hnl)
  have hne : a ≠ b := by
    rcases hb with hb | hb
    · rw [hb]; exact fa.2.1
    · exact fun z => fa.2.2.2.1 n b hb z.symm
  have he6 : s6.heap.get? a = some oe := (hsb.2 a hne).trans he5
  have J6 : Inv (Exc X a oe) pins (σ.set j (some (.ref a))) H' s6 := exc_in I6 he6 ha fa.2.1 (noF I5 he5 hd5) fun v z => by rw [hd5] at z; cases z
  have run := hsu a oe ⟨hc5.1, hc5.2, _, hd5⟩ pins s6 (σ.set j (some (.ref a))) H' (EndsUn En j) J6 ⟨_, M1, De.un j, (re.ext ex).set rep_ref j, hm'.sub sub, q a, (k.at ex).un j⟩
  refine wpAny_mono run (fun fl s7 h7 => ?_) fun x s7 h7 => (hX x s7 h7).elim
  cases fl with
  | next =>
    obtain ⟨σ', H7, I7, q7⟩ := h7
    exact name_goes (exc_out ok I7) hN hj hnl fun s8 I8 => ⟨_, H7, I8, q7⟩
  | brk =>
    obtain ⟨σ', H7, I7, q7⟩ := h7
    exact name_goes (exc_out ok I7) hN hj hnl fun s8 I8 => ⟨_, H7, I8, q7⟩
  | cont =>
    obtain ⟨σ', H7, I7, q7⟩ := h7
    exact name_goes (exc_out ok I7) hN hj hnl fun s8 I8 => ⟨_, H7, I8, q7⟩
  | ret u =>
    obtain ⟨v, σ', H7, I7, r7, q7⟩ := h7
    exact name_goes (exc_out ok I7) hN hj hnl fun s8 I8 => ⟨v, _, H7, I8, r7, q7⟩

theorem run_two {pins : List (Addr × Obj)} {σ : L2.St} {H1 : Hp} {s1 : Shared} {M1 : DM} {ds : List D} {us : List Value} {vs : List V} {Q : Value → Shared → Prop} {E : Value → Shared → Prop} {f' : Addr} {Q' : DQ}
    (hH : HasX X.prog X.w X.K X.mg X.base k1 f ps C cond) (hh : Has X.prog X.w X.K X.mg X.base k2 f ps sp) (hr : Room k X.A) (hk1 : k1 ≤ k) (hk2 : k2 ≤ k) (hmf : X.mg f = some (.ref f'))
    (I1 : Inv X pins σ H1 s1) (rv : Vals vs us) (rs : Reps X.K H1 ds vs) (hm1 : HRep X.K M1 H1)
    (q : (cond ds ∧ ∀ ev s', CXr X.prog X.w X.stack H1 s1 (fun c _ H' => c = .ref C ∧ ∃ M', HRep X.K M' H' ∧ SubM M1 M') ev s' → E ev s') ∨ sp ds M1 Q')
    (hQ : ∀ u s', EP X pins σ (LQ X.K H1 Q') u s' → Q u s') : wpAny (model X.prog X.w) X.A (call (.ref f') us) Q E s1 := by
  rcases q with ⟨q, hE⟩ | q
  · obtain ⟨f1, fd, F, hm, _, hb⟩ := hH
    have hf : f1 = f' := by have := hm.symm.trans hmf; cases this; rfl
    subst hf
    have hsp : spX X.K C cond vs H1 (fun _ _ => False) (fun c _ H' => c = .ref C ∧ ∃ M', HRep X.K M' H' ∧ SubM M1 M') := ⟨ds, M1, rs, hm1, q, fun M' H' a b => ⟨rfl, M', a, b⟩⟩
    have hl : (us ++ []).length = ps.length := by rw [List.append_nil, ← rv.length]; exact F.len _ _ _ _ hsp
    have hbb := hb s1 us I1.kIn hl
    rw [List.append_nil] at hbb
    refine wpAny_call (codeAny_mono (F.run X.A X.stack s1 H1 ⟨us, []⟩ us vs _ _ (hr.mono hk1) I1.env0 hbb rv hsp) fun r s' hq => ?_)
    cases r with
    | error ev => exact hE ev s' hq
    | ok fl =>
      cases fl with
      | ret u => obtain ⟨_, _, _, _, _, _, _, z⟩ := (show CE _ _ _ _ _ _ _ _ from hq); exact z.elim
      | next => exact False.elim hq
      | brk => exact False.elim hq
      | cont => exact False.elim hq
  · obtain ⟨f1, fd, F, hm, _, hb⟩ := hh
    have hf : f1 = f' := by have := hm.symm.trans hmf; cases this; rfl
    subst hf
    have hsp : lowSp X.K sp vs H1 (LQ X.K H1 Q') (fun _ _ _ => False) := ⟨ds, M1, Q', rs, hm1, q, fun v H' z => z⟩
    have hl : (us ++ []).length = ps.length := by rw [List.append_nil, ← rv.length]; exact F.len _ _ _ _ hsp
    have hbb := hb s1 us I1.kIn hl
    rw [List.append_nil] at hbb
    refine wpAny_call (codeAny_mono (F.run X.A X.stack s1 H1 ⟨us, []⟩ us vs _ _ (hr.mono hk2) I1.env0 hbb rv hsp) fun r s' hq => ?_)
    cases r with
    | error ev => exact False.elim hq
    | ok fl =>
      cases fl with
      | ret u => exact hQ u s' (I1.after hq)
      | next => exact False.elim hq
      | brk => exact False.elim hq
      | cont => exact False.elim hq

theorem ds_tryA (hH : HasX X.prog X.w X.K X.mg X.base k1 f ps C cond) (hh : Has X.prog X.w X.K X.mg X.base k2 f ps sp) (hr : Room k X.A) (hk1 : k1 ≤ k) (hk2 : k2 ≤ k) (hN : X.N.Nodup)
    (hcm : HasC X.K X.mg cm Cm) (hmt : PySem.W.exmOne X.K (.ref C) (.ref Cm) = some true) (ha : PDA X (e :: es) t) (hsu : ∀ a o, ExO o C → PDSs (Exc X a o) (b0 :: suite) (ts a))
    (hi : X.N[i]? = some x := by rfl) (hj : X.N[j]? = some n := by rfl) (hxl : X.env.scope.names.lookup x = some .local := by rfl) (hnl : X.env.scope.names.lookup n = some .local := by rfl)
    (hs : X.stack = X.env :: X.outer := by rfl) (hf : X.env.frame = some X.env.locals := by rfl) (hex : X.ex = [] := by rfl) (hX : ∀ e s, X.xe e s → False := by exact fun _ _ z => z)
    (hgc : Gl X cm := by rfl) (hdc : (cm == ("__debug__" : Str)) = false := by decide) (hg : Gl X f := by rfl) (hdb : (f == ("__debug__" : Str)) = false := by decide)
    (he : starEach (e :: es) X.env = (false, eval e X.env) :: starEach es X.env := by rfl) (hpl : (backTo pc (starEach es X.env)).any (·.1) = false := by rfl)
    (hsw : swapsWith (.Call (.Name f pf) (e :: es) [] pc) (some (.Name x px)) pa.line X.env = pure false := by rfl) :
    PDS X (.Try [.Assign [.Name x px] (.Call (.Name f pf) (e :: es) [] pc) pa] [.ExceptHandler (some (.Name cm pcm)) (some n) (b0 :: suite) ph] [] [] pos) (dTry sp cond j t (fun D d ρ M => D.nx (ρ.set i (some d)) M) ts) := by
  intro pins s σ H En I ⟨ρ, M, De, re, hm, q, k'⟩
  obtain ⟨f', fd, F, hmf, hk, hb⟩ := id hh
  refine wpAny_Try_except ?_
  refine wpAny_execs_cons (wpAny_Assign_Name (wpAny_Call_Name_kw (ld_glob I hg hmf ?_ hdb)) hsw)
  refine PySem.W.callWith_K (h₀ := X.base) I.ok.mod.kin hk (wpAny_mono (ha pc pins s σ H (LA X.K H _) I ⟨ρ, M, _, re, hm, q, fun vs H' z => z⟩) (fun us s1 ⟨vs, H1, I1, rv, ds, M1, rs, hm1, ex, q1⟩ => ⟨I1.kIn, ?_⟩) fun ev s' z => (hX ev s' z).elim) he hpl
  refine run_two hH hh hr hk1 hk2 hmf I1 rv rs hm1 (q1.imp (fun z => ⟨z.1, fun ev s' y => ?_⟩) id) fun u s' ⟨v, H2, I2, rr, d, M2, rd, hm2, ex2, q2⟩ => ?_
  · exact caught I.ok hs hf hex hX hN hj hnl hcm.1 hgc hdc hmt hsu I1 (re.ext ex) (k'.at ex) z.2 y
  · exact store_ok I2 hN hi (.inl hxl) rr (fun s3 I3 => wpAny_execs_nil (wpAny_execs_nil ⟨_, H2, I3, k'.nx _ H2 ⟨_, M2, (re.ext (ex.trans ex2)).set rd i, hm2, ex.trans ex2, q2⟩⟩)) (.inr hxl)

end

section
open PySem.W PySem.Calls
theorem ans_true {K : PySem.W.Frag} {x t c : Value} {H : Heap → Prop} (ty : ∀ (M : Model) (h : Heap), H h → Looks M h (typeOf x) t) (e : kitOne K t c = some true) : Answers (fun s => K.In s.heap ∧ H s.heap) x c true := by
  intro dep tk prog w A R s hs
  obtain ⟨h0, g, d, tt, os⟩ := s
  obtain ⟨⟨X, p⟩, hq⟩ := hs
  have LT := ty (model prog w) h0 p
  unfold kitOne at e
  unfold Builtin.«isinstance.nested»
  refine wpAny_bind (LT.at ?_)
  by_cases q : (t == c) = true
  · rw [if_pos q]
    first
      | ((repeat lk); exact hq tt)
      | exact wpAny_bind (wpAny_rule (hq tt))
      | exact wpAny_bind (wpAny_rule (wpAny_pure (hq tt)))
  · rw [if_neg q] at e
    rw [if_neg q]
    obtain ⟨hty, his, hsub⟩ := kit_cls (M := model prog w) X e
    have LI : Looks (model prog w) h0 (isInstance x c) true := LT.andThen hsub
    refine wpAny_bind (hty.at ?_)
    rw [if_pos (by decide)]
    k_delta "plainIsInstance"
    refine wpAny_bind (wpAny_bind (his.at ?_))
    simp only [Bool.not_true, Bool.false_eq_true, if_false]
    refine wpAny_bind (LI.at ?_)
    first
      | exact wpAny_pure (wpAny_pure (hq tt))
      | (simp only [if_true]; first | exact wpAny_pure (wpAny_pure (hq tt)) | exact wpAny_pure (hq tt) | exact wpAny_bind (wpAny_pure (wpAny_pure (hq tt))))
theorem isi_true {K : PySem.W.Frag} {x t c : Value} {H : Heap → Prop} {prog : Program} {w : World} {A : Around} {E : Value → Shared → Prop} {s : Shared} {Q : Value → Shared → Prop} (ty : ∀ (M : Model) (h : Heap), H h → Looks M h (typeOf x) t) (X : K.In s.heap) (p : H s.heap)
    (e : kitOne K t c = some true) (hx : x ≠ .builtin "__main__.__loader__#opaque") (h : ∀ tk, Q (.bool true) { s with toks := tk }) : wpAny (model prog w) A (call (.builtin "isinstance") [x, c]) Q E s :=
  call_isinstance (S := fun _ R s => (K.In s.heap ∧ H s.heap) ∧ ∀ tk, R (.ok (.ret (.bool true))) { s with toks := tk })
    (fun prog w A R s hs => isinstance_outer (ans_true ty e 0 _ prog w A R s hs) hx) ⟨⟨X, p⟩, h⟩
end
theorem kit_self {K : PySem.W.Frag} {t : Value} : PySem.W.kitOne K t t = some true := by unfold PySem.W.kitOne; rw [if_pos (beq_self_eq_true t)]
def dIsX (j : Nat) (a : Addr) : DE := fun ρ M Q => ρ[j]? = some (some (.ref a)) ∧ Q (.bl true) M
section
variable {X : Cx} {n c : Str} {C Cc a : Addr} {o : Obj} {p p1 p2 pos : Pos} {j : Nat}
theorem de_isX (ho : ExO o C) (hcc : HasC X.K X.mg c Cc) (hki : PySem.W.kitOne X.K (.ref C) (.ref Cc) = some true) (hmi : X.mg "isinstance" = none) (hj : X.N[j]? = some n := by rfl) (hnl : Vis X.env.scope n := by first | exact Or.inl rfl | exact Or.inr (Or.inl rfl) | exact Or.inr (Or.inr rfl))
    (hgi : Gl X "isinstance" := by rfl) (hgc : Gl X c := by rfl) (hd1 : (n == ("__debug__" : Str)) = false := by decide) (hd2 : (n == ("__classdict__" : Str)) = false := by decide) (hd3 : (c == ("__debug__" : Str)) = false := by decide)
    (hs : ∀ env : Env, starEach [.Name n p1, .Name c p2] env = (false, eval (.Name n p1) env) :: starEach [.Name c p2] env := by intro _; rfl) (hs2 : ∀ env : Env, starEach [.Name c p2] env = (false, eval (.Name c p2) env) :: starEach [] env := by intro _; rfl)
    (hpl : (backTo pos (starEach [.Name c p2] X.env)).any (·.1) = false := by rfl) :
    PDE (Exc X a o) (.Call (.Name "isinstance" p) [.Name n p1, .Name c p2] [] pos) (dIsX j a) := by
  have hc : CallR (Exc X a o) (.builtin "isinstance") fun vs H Q => vs = [.ref a, .ref Cc] ∧ Q (.bl true) H := by
    intro pins s σ H xs us Q I rs ⟨e, q⟩
    subst e
    obtain ⟨u1, us1, rfl, r1, rs1⟩ : ∃ u1 us1, us = u1 :: us1 ∧ RelV (.ref a) u1 ∧ Vals [.ref Cc] us1 := by cases rs with | cons r t => exact ⟨_, _, rfl, r, t⟩
    obtain ⟨u2, us2, rfl, r2, rs2⟩ : ∃ u2 us2, us1 = u2 :: us2 ∧ RelV (.ref Cc) u2 ∧ Vals [] us2 := by cases rs1 with | cons r t => exact ⟨_, _, rfl, r, t⟩
    obtain rfl : us2 = [] := by cases rs2; rfl
    obtain rfl : u1 = Value.ref a := r1
    obtain rfl : u2 = Value.ref Cc := r2
    have pn := I.pin (a, o) (List.mem_append_left _ (List.mem_cons_self))
    exact isi_true (K := X.K) (H := fun h => h.get? a = some o) (fun M h e => ho.1 ▸ (PySem.W.Looks.ld e).andThen .now) I.kIn pn.1 hki (fun z => nomatch z) fun tk => ⟨.bl true, H, I.tok tk, rfl, q⟩
  refine pe_imp (pe_callB (X := Exc X a o) hc hgi hmi rfl (pa_cons (pe_var (X := Exc X a o) (i := j) hj hnl hd1 hd2) (pa_cons (pe_glob (X := Exc X a o) (v := .ref Cc) hgc hcc.1 rfl hd3) pa_nil (hs2 _)) (hs _)) (by decide) (by decide) (hs _) hpl) fun σ H Q ⟨ρ, M, Q', re, hm, ⟨e, q⟩, k⟩ => ?_
  obtain ⟨v, e1, rv⟩ := re.get j _ e
  obtain rfl := rep_ref_eq rv
  exact ⟨_, e1, rfl, k _ H ⟨_, M, rep_bl, hm, .refl H, q⟩⟩

theorem de_isXT {T : String} (ho : ExO o C) (hki : PySem.W.kitOne X.K (.ref C) (.type T) = some true) (hmi : X.mg "isinstance" = none) (hmc : X.mg c = none) (hv : bootBuiltins c = some (.type T) := by rfl) (hj : X.N[j]? = some n := by rfl) (hnl : Vis X.env.scope n := by first | exact Or.inl rfl | exact Or.inr (Or.inl rfl) | exact Or.inr (Or.inr rfl))
    (hgi : Gl X "isinstance" := by rfl) (hgc : Gl X c := by rfl) (hnn : c ≠ "__name__" := by decide) (hd1 : (n == ("__debug__" : Str)) = false := by decide) (hd2 : (n == ("__classdict__" : Str)) = false := by decide) (hd3 : (c == ("__debug__" : Str)) = false := by decide)
    (hs : ∀ env : Env, starEach [.Name n p1, .Name c p2] env = (false, eval (.Name n p1) env) :: starEach [.Name c p2] env := by intro _; rfl) (hs2 : ∀ env : Env, starEach [.Name c p2] env = (false, eval (.Name c p2) env) :: starEach [] env := by intro _; rfl)
    (hpl : (backTo pos (starEach [.Name c p2] X.env)).any (·.1) = false := by rfl) :
    PDE (Exc X a o) (.Call (.Name "isinstance" p) [.Name n p1, .Name c p2] [] pos) (dIsX j a) := by
  have hc : CallR (Exc X a o) (.builtin "isinstance") fun vs H Q => vs = [.ref a, .ty T] ∧ Q (.bl true) H := by
    intro pins s σ H xs us Q I rs ⟨e, q⟩
    subst e
    obtain ⟨u1, us1, rfl, r1, rs1⟩ : ∃ u1 us1, us = u1 :: us1 ∧ RelV (.ref a) u1 ∧ Vals [.ty T] us1 := by cases rs with | cons r t => exact ⟨_, _, rfl, r, t⟩
    obtain ⟨u2, us2, rfl, r2, rs2⟩ : ∃ u2 us2, us1 = u2 :: us2 ∧ RelV (.ty T) u2 ∧ Vals [] us2 := by cases rs1 with | cons r t => exact ⟨_, _, rfl, r, t⟩
    obtain rfl : us2 = [] := by cases rs2; rfl
    obtain rfl : u1 = Value.ref a := r1
    obtain rfl : u2 = Value.type T := r2
    have pn := I.pin (a, o) (List.mem_append_left _ (List.mem_cons_self))
    exact isi_true (K := X.K) (H := fun h => h.get? a = some o) (fun M h e => ho.1 ▸ (PySem.W.Looks.ld e).andThen .now) I.kIn pn.1 hki (fun z => nomatch z) fun tk => ⟨.bl true, H, I.tok tk, rfl, q⟩
  refine pe_imp (pe_callB (X := Exc X a o) hc hgi hmi rfl (pa_cons (pe_var (X := Exc X a o) (i := j) hj hnl hd1 hd2) (pa_cons (pe_bltn (X := Exc X a o) (v := .ty T) hgc hmc hv rfl hnn hd3) pa_nil (hs2 _)) (hs _)) (by decide) (by decide) (hs _) hpl) fun σ H Q ⟨ρ, M, Q', re, hm, ⟨e, q⟩, k⟩ => ?_
  obtain ⟨v, e1, rv⟩ := re.get j _ e
  obtain rfl := rep_ref_eq rv
  exact ⟨_, e1, rfl, k _ H ⟨_, M, rep_bl, hm, .refl H, q⟩⟩
end
section
open PySem.W PySem.Calls
variable {prog : Program} {w : World} {A : Around} {E : Value → Shared → Prop} {s : Shared} {K : Frag} {x C D : Addr} {ox : Obj}
theorem exc_class {Q : Option Value → Shared → Prop} (X : K.In s.heap) (I : InstAt s.heap x ox D none) (hga : findIn K (.ref D) "__getattribute__" = some (some (.builtin "BaseException.__getattribute__")))
    (hgn : findIn K (.ref D) "__getattr__" = some none) (hcl : findIn K (.ref D) "__class__" = some (some (.builtin "object.__class__"))) (hcd : (clsIn K D).isSome = true) (hn : specialIn K (.builtin "object.__class__") "__get__" = some (some (.builtin "getset_descriptor.__get__"))) (htk : takesIn K (.builtin "object.__class__") = some true) (hm : mroIn K D (.type "object") = some true) (hmb : mroIn K D (.type "BaseException") = some true)
    (h : Q (some (.ref D)) { s with toks := s.toks + 1 }) : wpAny (model prog w) A (getAttr? (.ref x) "__class__") Q E s := by
  obtain ⟨hh, g, d, t, os⟩ := s
  have L0 := I.type (M := model prog w)
  have L1 := looks_findIn (M := model prog w) X hga
  unfold getAttr? getAttrBy? getAttrBy
  refine wpAny_bind (wpAny_mkText (wpAny_bind (wpAny_attempt (wpAny_holding (wpAny_bind (L0.at (wpAny_bind (L1.at ?_))))))))
  have hx2 : (onTheHeap (Value.ref D) && Value.builtin "BaseException.__getattribute__" == Value.builtin "object.__getattribute__") = false := by
    rw [show (Value.builtin "BaseException.__getattribute__" == Value.builtin "object.__getattribute__") = false by decide +kernel, Bool.and_false]
  dsimp only
  rw [if_neg (by rw [hx2]; exact Bool.false_ne_true)]
  have f3 := PySem.F.attr_ValueError.ga.bind (.ref x)
  have L2 := looks_findIn (M := model prog w) X hgn
  have L3 := looks_mroIn (M := model prog w) X hmb
  have hf : findObj K D none "__class__" = some (.bind (.builtin "getset_descriptor.__get__") (.builtin "object.__class__")) := by
    obtain ⟨cd, hc⟩ := Option.isSome_iff_exists.mp hcd
    unfold findObj
    rw [hc, Option.bind_some, hcl, Option.bind_some]
    simp [hn, htk]
  have L4 := looks_find (M := model prog w) X I hf
  unfold getAttrByItsOwn hookBefore callGetattribute
  refine wpAny_bind ?_
  rw [if_pos (show onTheHeap (Value.ref D) = true from rfl)]
  refine L2.at ?_
  refine wpAny_bind (wpAny_attempt (wpAny_holding ?_))
  rw [if_neg (by simp)]
  unfold boundAndCalled
  rw [f3]
  refine wpAny_bind (wpAny_pure ?_)
  dsimp only [List.cons_append, List.nil_append]
  have hk : builtinKind "BaseException.__getattribute__" = some .slot := by decide +kernel
  have hsplit : splitId "BaseException.__getattribute__" = some ("BaseException", "__getattribute__") := by decide +kernel
  have ha := PySem.F.args_bexc_ga (.ref x) (.str "__class__" t)
  refine wpAny_call (codeAny_call_builtin PySem.F.attr_ValueError.ga.plain PySem.F.entry_bexc_ga ?_)
  simp only [checkBuiltinCall, hk, hsplit]
  refine wpAny_bind ?_
  unfold isInstance
  refine wpAny_bind (L0.at ?_)
  refine L3.at ?_
  simp only [Bool.not_true, Bool.false_eq_true, if_false]
  repeat (any_goals (first | assumption | (with_reducible refine L0.at ?_) | (with_reducible refine L4.at ?_) | wp_step))
  refine class_get (ox := ox) (od := none) X I hm ?_
  repeat (any_goals (first | assumption | exact h | wp_step))
structure ExcK (K : Frag) (D : Addr) : Prop where
  ga : findIn K (.ref D) "__getattribute__" = some (some (.builtin "BaseException.__getattribute__"))
  gn : findIn K (.ref D) "__getattr__" = some none
  cl : findIn K (.ref D) "__class__" = some (some (.builtin "object.__class__"))
  nn : specialIn K (.builtin "object.__class__") "__get__" = some (some (.builtin "getset_descriptor.__get__"))
  tk : takesIn K (.builtin "object.__class__") = some true
  mo : mroIn K D (.type "object") = some true
  mb : mroIn K D (.type "BaseException") = some true
theorem ExcK.cd (e : ExcK K D) : ∃ cd, clsIn K D = some cd := by
  obtain ⟨cd, a, _⟩ := Option.bind_eq_some_iff.mp e.mo
  exact ⟨cd, a⟩
theorem kitx_exc {o : Obj} (e : ExcK K D) (ho : ExO o D) : KitX K (.ref x) (.ref D) (fun h => h.get? x = some o) where
  ty := fun _ _ _ q => ho.1 ▸ (Looks.ld q).andThen .now
  it := fun _ _ X _ => by
    obtain ⟨cdD, hcD⟩ := e.cd
    unfold clsIn at hcD
    split at hcD
    · rename_i c' d' cd' sl' hk
      intro A' Q' E' s' k q
      unfold isType loadHead
      exact wpAny_bind (wpAny_loadPart (k _ _ (X _ _ hk)) (wpAny_pure q))
    · cases hcD
  ne := fun h tp dd its n sl X htp => by
    obtain ⟨cdD, hcD⟩ := e.cd
    refine Bool.eq_false_iff.mpr fun q => ?_
    have ee : D = tp := Value.ref.inj (beq_iff_eq.mp q)
    subst ee
    unfold clsIn at hcD
    split at hcD
    · rename_i c' d' cd' sl' hk
      have z := (X _ _ hk).symm.trans htp
      cases z
    · cases hcD
  ca := fun {_ _ _ _ _ s} X q k => by
    obtain ⟨h1, h2, vs, h3⟩ := ho
    have I : InstAt s.heap x o D none := ⟨q, h1, by unfold notCls; rw [h3], by rw [h2]; trivial⟩
    exact exc_class X I e.ga e.gn e.cl (by obtain ⟨cd, z⟩ := e.cd; rw [z]; rfl) e.nn e.tk e.mo e.mb k
end
section
variable {X : Cx} {a C : Addr} {o : Obj}
def sIsXs (K : PySem.W.Frag) (C a : Addr) : DSp := fun ds M Q => ∃ (cs : List Addr) (b : Bool), ds = [.ref a, .tup (cs.map D.ref)] ∧ PySem.W.kitAny K (.ref C) (cs.map Value.ref) = some b ∧ Q (.bl b) M
theorem refs_vals {K : PySem.W.Frag} {H : Hp} : ∀ {cs : List Addr} {xs : List V} {its : List Value}, Reps K H (cs.map D.ref) xs → Vals xs its → its = cs.map Value.ref
  | [], xs, its, r, v => by rw [reps_nil_eq r] at v; cases v; rfl
  | c :: cs, xs, its, r, v => by
    obtain ⟨v0, r0, rfl, hv, hr⟩ := reps_cons_eq r
    obtain rfl := rep_ref_eq hv
    cases v with
    | cons r1 t1 => rw [refs_vals hr t1]; rw [show _ = Value.ref c from r1]; rfl
theorem cd_isXs (ho : ExO o C) (ek : ExcK X.K C) : CallD (Exc X a o) (.builtin "isinstance") (sIsXs X.K C a) := by
  intro pins s σ H xs us Q I rs ⟨ds, M, Q', r1, hm, ⟨cs, b, e, hk, q⟩, k⟩
  subst e
  obtain ⟨v1, r2, rfl, hv1, r3⟩ := reps_cons_eq r1
  obtain rfl := rep_ref_eq hv1
  obtain ⟨v2, r4, rfl, hv2, r5⟩ := reps_cons_eq r3
  obtain rfl := reps_nil_eq r5
  obtain ⟨tp, ys, rfl, sq, ry⟩ := rep_tup hv2
  obtain ⟨u1, us1, rfl, w1, rs1⟩ : ∃ u1 us1, us = u1 :: us1 ∧ RelV (.ref a) u1 ∧ Vals [.ref tp] us1 := by cases rs with | cons r t => exact ⟨_, _, rfl, r, t⟩
  obtain ⟨u2, us2, rfl, w2, rs2⟩ : ∃ u2 us2, us1 = u2 :: us2 ∧ RelV (.ref tp) u2 ∧ Vals [] us2 := by cases rs1 with | cons r t => exact ⟨_, _, rfl, r, t⟩
  obtain rfl : us2 = [] := by cases rs2; rfl
  obtain rfl : u1 = Value.ref a := w1
  obtain rfl : u2 = Value.ref tp := w2
  have pn := I.pin (a, o) (List.mem_append_left _ (List.mem_cons_self))
  obtain ⟨its, hv, ⟨ot, h1, h2, nn, h3⟩, _⟩ := I.tuple sq
  obtain rfl := refs_vals ry hv
  obtain ⟨oc, od, oda, osl⟩ := ot
  dsimp only at h2 h3
  subst h2 h3
  exact PySem.W.kia_tup (kitx_exc ek ho) I.kIn pn.1 h1 hk (fun z => nomatch z) fun tk => ⟨.bl b, H, I.tok tk, rfl, k _ H ⟨_, M, rep_bl, hm, .refl H, q⟩⟩
end
end Dd

set_option Elab.async false
set_option linter.all false
set_option maxRecDepth 100000
set_option maxHeartbeats 1000000

namespace Dd
open PySem PySem.Spec PyProof.Rows L2

def lex2 (a b c d : Int) : Bool := if a = c then (if b = d then true else decide (b ≤ d)) else decide (a ≤ c)
section
open PySem.SeqAt
open PySem.AutoSeq1 (wpAny_loadPart')
open PySem.MeetsSeq PySem.MeetsSeq2 PySem.MeetsSeq3
end
def dLeT : D2 := fun x y M Q => match x, y with
  | .tup [.int a, .int b], .tup [.int c, .int d] => Q (.bl (lex2 a b c d)) M
  | _, _ => False
section
variable {X : Cx} {j : Nat}
end
end Dd
namespace Dd
open PySem PySem.Spec PyProof.Rows L2
def dCut (t u : DS) : DS := fun D ρ M => ∃ R : DEnv → DM → Prop, t { D with nx := R } ρ M ∧ ∀ ρ' M', R ρ' M' → u D ρ' M'
section
variable {X : Cx} {st : Stmt} {rest : List Stmt} {t u : DS}
theorem dss_cut (h1 : PDS X st t) (h2 : PDSs X rest u) : PDSs X (st :: rest) (dCut t u) :=
  pss_imp (pss_cons h1 h2) fun E σ H ⟨ρ, M, D, re, hm, ⟨R, q, k2⟩, k⟩ =>
    ⟨ρ, M, { D with nx := R }, re, hm, q, ⟨fun σ' H' ⟨ρ', M', re', hm', ex, r⟩ => ⟨ρ', M', D, re', hm', k2 ρ' M' r, k.at ex⟩, k.rt, k.bk, k.ct⟩⟩
end
end Dd

set_option Elab.async false
set_option linter.all false
set_option maxRecDepth 100000
set_option maxHeartbeats 1000000

namespace Dd
open PySem PySem.Spec PyProof.Rows L2
def dTry0 (sp : DSp) (cond : List D → Prop) (t : DA) (nx : DEnds → D → DEnv → DM → Prop) (ts : DS) : DS := fun D ρ M => t ρ M fun ds M1 => (cond ds ∧ ts D ρ M1) ∨ sp ds M1 fun d M2 => nx D d ρ M2
section
variable {X : Cx} {e : Expr} {es : List Expr} {t : DA} {x f cm : Str} {ps : List Str} {sp : DSp} {cond : List D → Prop} {C Cm : Addr} {k1 k2 k i : Nat} {ts : DS} {b0 : Stmt} {suite : List Stmt} {px pf pc pa pcm ph pos : Pos}
end
end Dd

set_option Elab.async false
set_option linter.all false
set_option maxRecDepth 100000
set_option maxHeartbeats 4000000
namespace Dd
open PySem PySem.Spec PyProof.Rows L2
@[irreducible] def ZE (X : Cx) (e : Expr) (t : DE) : Prop := PDE X e t
theorem ZE.o {X : Cx} {e : Expr} {t : DE} (h : ZE X e t) : PDE X e t := by unfold ZE at h; exact h
theorem ZE.i {X : Cx} {e : Expr} {t : DE} (h : PDE X e t) : ZE X e t := by unfold ZE; exact h
@[irreducible] def ZT (X : Cx) (e : Expr) (t : DT) : Prop := PDT X e t
theorem ZT.o {X : Cx} {e : Expr} {t : DT} (h : ZT X e t) : PDT X e t := by unfold ZT at h; exact h
theorem ZT.i {X : Cx} {e : Expr} {t : DT} (h : PDT X e t) : ZT X e t := by unfold ZT; exact h
@[irreducible] def ZW (X : Cx) (e : Expr) (t : DT) : Prop := PDW X e t
theorem ZW.o {X : Cx} {e : Expr} {t : DT} (h : ZW X e t) : PDW X e t := by unfold ZW at h; exact h
theorem ZW.i {X : Cx} {e : Expr} {t : DT} (h : PDW X e t) : ZW X e t := by unfold ZW; exact h
@[irreducible] def ZA (X : Cx) (e : List Expr) (t : DA) : Prop := PDA X e t
theorem ZA.o {X : Cx} {e : List Expr} {t : DA} (h : ZA X e t) : PDA X e t := by unfold ZA at h; exact h
theorem ZA.i {X : Cx} {e : List Expr} {t : DA} (h : PDA X e t) : ZA X e t := by unfold ZA; exact h
@[irreducible] def ZS (X : Cx) (e : Stmt) (t : DS) : Prop := PDS X e t
theorem ZS.o {X : Cx} {e : Stmt} {t : DS} (h : ZS X e t) : PDS X e t := by unfold ZS at h; exact h
theorem ZS.i {X : Cx} {e : Stmt} {t : DS} (h : PDS X e t) : ZS X e t := by unfold ZS; exact h
@[irreducible] def ZSs (X : Cx) (e : List Stmt) (t : DS) : Prop := PDSs X e t
theorem ZSs.o {X : Cx} {e : List Stmt} {t : DS} (h : ZSs X e t) : PDSs X e t := by unfold ZSs at h; exact h
theorem ZSs.i {X : Cx} {e : List Stmt} {t : DS} (h : PDSs X e t) : ZSs X e t := by unfold ZSs; exact h
@[irreducible] def ZG (X : Cx) (e : Expr) (t : DG) : Prop := PDG X e t
theorem ZG.o {X : Cx} {e : Expr} {t : DG} (h : ZG X e t) : PDG X e t := by unfold ZG at h; exact h
theorem ZG.i {X : Cx} {e : Expr} {t : DG} (h : PDG X e t) : ZG X e t := by unfold ZG; exact h
@[irreducible] def ZGs (X : Cx) (e : List Expr) (t : DGs) : Prop := PDGs X e t
theorem ZGs.o {X : Cx} {e : List Expr} {t : DGs} (h : ZGs X e t) : PDGs X e t := by unfold ZGs at h; exact h
theorem ZGs.i {X : Cx} {e : List Expr} {t : DGs} (h : PDGs X e t) : ZGs X e t := by unfold ZGs; exact h
@[irreducible] def ZO (X : Cx) (e : Option Expr) (t : DO) : Prop := PO X e (lowO X.K t)
theorem ZO.o {X : Cx} {e : Option Expr} {t : DO} (h : ZO X e t) : PO X e (lowO X.K t) := by unfold ZO at h; exact h
theorem ZO.i {X : Cx} {e : Option Expr} {t : DO} (h : PO X e (lowO X.K t)) : ZO X e t := by unfold ZO; exact h
section
variable {K : PySem.W.Frag} {H H' : Hp}
end
section
variable {K : PySem.W.Frag} {H H' : Hp} {M M' : DM}
end
section
variable {K : PySem.W.Frag} {H H' : Hp} {ρ : DEnv} {σ : L2.St}
end
section
variable {K : PySem.W.Frag} {H H1 : Hp}
end
section
variable {X : Cx} {e : Expr} {st : Stmt} {sts : List Stmt}
end
section
variable {X : Cx} {a b c e : Expr} {es : List Expr} {ta tb tc te : DE} {tA tB : DT} {t : DA} {pos : Pos}
theorem zde_var (i : Nat) {x : Str} {pos : Pos} (hN : X.N[i]? = some x := by rfl) (hv : Vis X.env.scope x := by first | exact Or.inl rfl | exact Or.inr (Or.inl rfl) | exact Or.inr (Or.inr rfl)) (hd : (x == ("__debug__" : Str)) = false := by decide) (hcd : (x == ("__classdict__" : Str)) = false := by decide) : ZE X (.Name x pos) (dVar i) := .i (de_var i hN hv hd hcd)
theorem zde_int {i j pos} : ZE X (.Constant (.int i) j pos) (dC (.int i)) := .i (de_int (i := i) (j := j) (pos := pos))
theorem zde_bl {i j pos} : ZE X (.Constant (.bool i) j pos) (dC (.bl i)) := .i (de_bl (i := i) (j := j) (pos := pos))
theorem zde_non {j pos} : ZE X (.Constant .none j pos) (dC .non) := .i (de_non (j := j) (pos := pos))
theorem zde_str {x j pos} : ZE X (.Constant (.str x) j pos) (dC (.str x)) := .i (de_str)
theorem zde_op {op : Operator} {r : D2} (ho : OpD X (binaryOp op) r) (ha : ZE X a ta) (hb : ZE X b tb) : ZE X (.BinOp a op b pos) (dOp r ta tb) := .i (de_op (op := op) ho ha.o hb.o)
theorem zde_cmp {op : CmpOp} {r : D2} (ho : OpD X (compareOp op) r) (ha : ZE X a ta) (hb : ZE X b tb) (hm : behindInMarks op b = false := by exact nomark _) : ZE X (.Compare a [op] [b] pos) (dOp r ta tb) := .i (de_cmp (op := op) ho ha.o hb.o hm)
theorem zdt_cmp {op : CmpOp} {r : D2} (ho : OpD X (compareOp op) r) (ha : ZE X a ta) (hb : ZE X b tb) (hm : behindInMarks op b = false := by exact nomark _) : ZT X (.Compare a [op] [b] pos) (dTest (dOp r ta tb)) := .i (dt_cmp (op := op) ho ha.o hb.o hm)
theorem zdt_val (h : ZE X e te) (he : ∀ whole, isTrue e X.env whole = (do let v ← whole; standAt e.pos; holding [v] (truthy v)) := by intro _; rfl) : ZT X e (dTest te) := .i (dt_val h.o he)
variable {rest : List Expr}
theorem zdw_and1 (ha : ZT X a tA) : ZW X (.BoolOp .And [a] pos) tA := .i (dw_and1 ha.o)
theorem zdw_or1 (ha : ZT X a tA) : ZW X (.BoolOp .Or [a] pos) tA := .i (dw_or1 ha.o)
theorem zdw_and (ha : ZT X a tA) (hb : ZW X (.BoolOp .And (b :: rest) pos) tB) : ZW X (.BoolOp .And (a :: b :: rest) pos) (dAnd tA tB) := .i (dw_and ha.o hb.o)
theorem zdw_or (ha : ZT X a tA) (hb : ZW X (.BoolOp .Or (b :: rest) pos) tB) : ZW X (.BoolOp .Or (a :: b :: rest) pos) (dOr tA tB) := .i (dw_or ha.o hb.o)
theorem zdt_w (h : ZW X e tA) : ZT X e tA := .i (dt_w h.o)
theorem zdt_not (ha : ZT X a tA) : ZT X (.UnaryOp .Not a pos) (dNot tA) := .i (dt_not ha.o)
theorem zde_one {op} (h : ZE X a ta) : ZE X (.BoolOp op [a] pos) ta := .i (de_one (op := op) h.o)
theorem zde_and (ha : ZE X a ta) (hb : ZE X (.BoolOp .And (b :: rest) pos) tb) : ZE X (.BoolOp .And (a :: b :: rest) pos) (dAndV ta tb) := .i (de_and ha.o hb.o)
theorem zde_not (ha : ZE X a ta) : ZE X (.UnaryOp .Not a pos) (dNotV ta) := .i (de_not ha.o)
theorem zde_ifExp (hc : ZT X c tA) (ha : ZE X a ta) (hb : ZE X b tb) : ZE X (.IfExp c a b pos) (dIfE tA ta tb) := .i (de_ifExp hc.o ha.o hb.o)
theorem zda_nil  : ZA X [] dNil := .i (da_nil)
theorem zda_cons (ha : ZE X e te) (hr : ZA X es t) (hs : starEach (e :: es) X.env = (false, eval e X.env) :: starEach es X.env := by rfl) : ZA X (e :: es) (dCons te t) := .i (da_cons ha.o hr.o hs)
theorem zde_tup {x1} (h : ZA X es t) : ZE X (.Tuple es x1 pos) (dTup t) := .i (de_tup h.o)
theorem zde_lst (h : ZA X es t) : ZE X (.List es pos) (dLst t) := .i (de_lst h.o)
end
section
variable {X : Cx} {st : Stmt} {rest : List Stmt} {t u : DS} {e : Expr} {te : DE} {pos : Pos}
theorem zdss_nil  : ZSs X [] dNext := .i (dss_nil)
theorem zdss_cons (h1 : ZS X st t) (h2 : ZSs X rest u) : ZSs X (st :: rest) (dSeq t u) := .i (dss_cons h1.o h2.o)
theorem zdss_one (h1 : ZS X st t) : ZSs X [st] t := .i (dss_one h1.o)
theorem zds_expr (he : ZE X e te) (hs : swapsWith e none pos.line X.env = pure false := by rfl) : ZS X (.Expr e pos) (dDrop te) := .i (ds_expr he.o hs)
theorem zds_ret (he : ZE X e te) : ZS X (.Return (some e) pos) (dRet te) := .i (ds_ret he.o)
theorem zds_if {c : Expr} {a b : List Stmt} {tc : DT} (hc : ZT X c tc) (ha : ZSs X a t) (hb : ZSs X b u) : ZS X (.If c a b pos) (dIfS tc t u) := .i (ds_if hc.o ha.o hb.o)
theorem zds_never  : ZS X st dNever := .i (ds_never)
end
section
variable {X : Cx} {pos : Pos} {e tg : Expr} {es : List Expr} {te : DE}
theorem zdg_name {i : Nat} {x : Str} (hN : X.N.Nodup) (hi : X.N[i]? = some x := by rfl) (hx : Loc X.env.scope x := by first | exact Or.inl rfl | exact Or.inr rfl) (hf : X.fn x = true ∨ X.env.scope.names.lookup x = some .local := by first | exact .inl rfl | exact .inr rfl | assumption) : ZG X (.Name x pos) (gN i) := .i (dg_name (i := i) hN hi hx hf)
theorem zdgs_nil  : ZGs X [] gNl := .i (dgs_nil)
theorem zdgs_cons {t : DG} {u : DGs} (h1 : ZG X e t) (h2 : ZGs X es u) (hs : (assignEach (e :: es) X.env).map (·.2) = assign e X.env :: (assignEach es X.env).map (·.2) := by rfl) : ZGs X (e :: es) (gCn t u) := .i (dgs_cons h1.o h2.o hs)
theorem zds_asg {g : DG} (he : ZE X e te) (hg : ZG X tg g) (hs : swapsWithSole [tg] e pos.line X.env = pure false := by rfl) (hw : swappedStores [tg] e X.env = pure none := by rfl) (h1 : (assignEach [tg] X.env).map (·.2) = [assign tg X.env] := by rfl) : ZS X (.Assign [tg] e pos) (dAsg te g) := .i (ds_asg he.o hg.o hs hw h1)
theorem zds_set {i : Nat} {x : Str} {pos' : Pos} (hN : X.N.Nodup) (he : ZE X e te) (hi : X.N[i]? = some x := by rfl) (hx : Loc X.env.scope x := by first | exact Or.inl rfl | exact Or.inr rfl) (hs : swapsWith e (some (.Name x pos')) pos.line X.env = pure false := by rfl) (hf : X.fn x = true ∨ X.env.scope.names.lookup x = some .local := by first | exact .inl rfl | exact .inr rfl | assumption) : ZS X (.Assign [.Name x pos'] e pos) (dAsg te (gN i)) := .i (ds_set (i := i) hN he.o hi hx hs hf)
theorem zds_par {i j : Nat} {x y : Str} {a b : Expr} {ta : DA} {px py pt : Pos} {kt k2 pt2} (hc : X.calm = true) (hN : X.N.Nodup) (ha : ZA X [a, b] ta) (hi : X.N[i]? = some x := by rfl) (hj : X.N[j]? = some y := by rfl) (hij : i ≠ j := by decide) (hx : X.env.scope.names.lookup x = some .local := by rfl) (hy : X.env.scope.names.lookup y = some .local := by rfl) (hw : swappedStores [.Tuple [.Name x px, .Name y py] kt pt] (.Tuple [a, b] k2 pt2) X.env = pure (some [x, y]) := by rfl) (hs : swapsWithSole [.Tuple [.Name x px, .Name y py] kt pt] (.Tuple [a, b] k2 pt2) pos.line X.env = pure false := by rfl) : ZS X (.Assign [.Tuple [.Name x px, .Name y py] kt pt] (.Tuple [a, b] k2 pt2) pos) (dPar i j ta) := .i (ds_par (i := i) (j := j) hc hN ha.o hi hj hij hx hy hw hs)
theorem zdg_sub {o i : Expr} {to ti : DE} (ho : ZE X o to) (hi : ZE X i ti) (ha : ∀ v, assign (.Subscript o i pos) X.env v = (do
      let ov ← holding [v] (eval o X.env)
      let iv ← holding [v, ov] (eval i X.env)
      standAt pos
      holding [v, ov, iv] (setItem ov iv v)
      release [v, ov, iv] []) := by intro _; rfl) : ZG X (.Subscript o i pos) (dSetI to ti) := .i (dg_sub ho.o hi.o ha)
end
section
variable {X : Cx} {pos : Pos}
theorem zds_while {c : Expr} {body : List Stmt} {tc : DT} {tb : DS} (hp : PassesOwn (model X.prog X.w) X.A X.env X.xe) (hc : ZT X c tc) (hb : ZSs X body tb) : ZS X (.While c body [] pos) (dWhile tc tb) := .i (ds_while hp hc.o hb.o)
variable {iter tg : Expr} {body : List Stmt} {tl : DE} {g : DG} {tb : DS}
end
section
variable {X : Cx} {pos : Pos} {iter tg : Expr} {body : List Stmt} {tl : DE} {g : DG} {tb : DS} {ta : DA}
theorem zds_forL (hp : PassesOwn (model X.prog X.w) X.A X.env X.xe) (hc : X.calm = true) (hi : ZE X iter tl) (hg : ZG X tg g) (hb : ZSs X body tb) (hs : ∀ x, foldedSetIterable iter X.env x = pure x := by intro _; rfl) : ZS X (.For tg iter body [] pos) (dForL tl g tb) := .i (ds_forL hp hc hi.o hg.o hb.o hs)
theorem zds_for1 {a : Expr} {p pos' : Pos} (hp : PassesOwn (model X.prog X.w) X.A X.env X.xe) (hc : X.calm = true) (hmg : X.mg "range" = none) (ha : ZA X [a] ta) (hg : ZG X tg g) (hb : ZSs X body tb) (hgl : Gl X "range" := by rfl) (hse : starEach [a] X.env = [(false, eval a X.env)] := by rfl) (hs : ∀ x, foldedSetIterable (.Call (.Name "range" p) [a] [] pos') X.env x = pure x := by intro _; rfl) : ZS X (.For tg (.Call (.Name "range" p) [a] [] pos') body [] pos) (dFor1 ta g tb) := .i (ds_for1 hp hc hmg ha.o hg.o hb.o hgl hse hs)
end
section
variable {X : Cx} {pins : List (Addr × Obj)} {σ : L2.St} {H : Hp} {s : Shared}
end
section
variable {X : Cx} {a b e o : Expr} {es : List Expr} {ta tb te to : DE} {t : DA} {pos : Pos}
theorem zde_neg (ha : ZE X a ta) : ZE X (.UnaryOp .USub a pos) (dNeg ta) := .i (de_neg ha.o)
theorem zde_ix (ha : ZE X a ta) (hb : ZE X b tb) (hs : PlainIx b := by exact fun _ _ => rfl) : ZE X (.Subscript a b pos) (dOp dIxR ta tb) := .i (de_ix ha.o hb.o hs)
theorem zdo_none  : ZO X none dNoP := .i (do_none)
theorem zdo_some (h : ZE X e te) : ZO X (some e) (dPt te) := .i (do_some h.o)
variable {lo hi : Option Expr} {tl th : DO} {p2 : Pos}
theorem zde_slice (he : ZE X e te) (hl : ZO X lo tl) (hu : ZO X hi th) : ZE X (.Subscript e (.Slice lo hi none p2) pos) (dSl te tl th) := .i (de_slice he.o hl.o hu.o)
variable {CX : CXT} {k : Nat} {f : Addr} {fd : FuncData} {ps : List Str} {sp : DSp} {E : XK} {x : Str} {p : Pos}
theorem zde_callB {id : String} {r : DSp} (hc : CallD X (.builtin id) r) (hm : X.mg x = none) (ha : ZA X (e :: es) t) (hv : bootBuiltins x = some (.builtin id) := by rfl) (hg : Gl X x := by rfl) (hn : x ≠ "__name__" := by decide) (hdb : (x == ("__debug__" : Str)) = false := by decide) (he : starEach (e :: es) X.env = (false, eval e X.env) :: starEach es X.env := by rfl) (hpl : (backTo pos (starEach es X.env)).any (·.1) = false := by rfl) : ZE X (.Call (.Name x p) (e :: es) [] pos) (dCall r t) := .i (de_callB (id := id) hc hm ha.o hv hg hn hdb he hpl)
theorem zde_callTy {T : String} {r : DSp} (hc : CallD X (.type T) r) (hm : X.mg x = none) (ha : ZA X (e :: es) t) (hv : bootBuiltins x = some (.type T) := by rfl) (hg : Gl X x := by rfl) (hn : x ≠ "__name__" := by decide) (hdb : (x == ("__debug__" : Str)) = false := by decide) (he : starEach (e :: es) X.env = (false, eval e X.env) :: starEach es X.env := by rfl) (hpl : (backTo pos (starEach es X.env)).any (·.1) = false := by rfl) : ZE X (.Call (.Name x p) (e :: es) [] pos) (dCall r t) := .i (de_callTy (T := T) hc hm ha.o hv hg hn hdb he hpl)
end
section
variable {X : Cx} {a b e o : Expr} {es : List Expr} {ta tb te to : DE} {t : DA} {pos : Pos}
theorem zde_append {apos cpos : Pos} (ho : ZE X o to) (he : ZE X e te) (hse : starEach [e] X.env = (false, eval e X.env) :: starEach [] X.env := by rfl) (hbase : attributeBase o "append" X.env (eval o X.env) = eval o X.env := by rfl) (hfew : ((backTo cpos (starEach [e] X.env)).all (fun x => !x.1) && (backToKw cpos (keywordEach [] X.env)).all (fun x => x.1.isSome)
      && decide ([e].length + ([] : List Keyword).length + (if ([] : List Keyword).isEmpty then 0 else 1) < 30)) = true := by rfl) (hline : (apos.endLine == cpos.line) = true := by rfl) (hplain : (backTo cpos (starEach [] X.env)).any (·.1) = false := by rfl) : ZE X (.Call (.Attribute o "append" apos) [e] [] cpos) (dAppend to te) := .i (de_append ho.o he.o hse hbase hfew hline hplain)
theorem zde_isTy {T : String} {x : Str} {p p2 : Pos} (he : ZE X e te) (hm : X.mg "isinstance" = none) (hmx : X.mg x = none) (hv : bootBuiltins x = some (.type T) := by rfl) (hg : Gl X "isinstance" := by rfl) (hgx : Gl X x := by rfl) (hn : x ≠ "__name__" := by decide) (hdb : (x == ("__debug__" : Str)) = false := by decide) (hse : starEach [e, .Name x p2] X.env = (false, eval e X.env) :: starEach [.Name x p2] X.env := by rfl) (hse2 : starEach [.Name x p2] X.env = (false, eval (.Name x p2) X.env) :: starEach [] X.env := by rfl) (hpl : (backTo pos (starEach [.Name x p2] X.env)).any (·.1) = false := by rfl) : ZE X (.Call (.Name "isinstance" p) [e, .Name x p2] [] pos) (dIs X.K (.type T) te) := .i (de_isTy (T := T) he.o hm hmx hv hg hgx hn hdb hse hse2 hpl)
end
section
variable {P : Program} {w : World} {K : PySem.W.Frag} {mg : Str → Option Value} {base : Heap}
end
section
variable {P : Program} {w : World} {K : PySem.W.Frag} {mg : Str → Option Value} {base : Heap}
end
section
variable {X : Cx} {a b c e : Expr} {es : List Expr} {ta tb te : DE} {t : DA} {pos p : Pos} {x : Str} {ps : List Str} {sp : DSp} {k j : Nat}
theorem zde_callH (h : Has X.prog X.w X.K X.mg X.base k x ps sp) (hr : Room j X.A) (hkj : k ≤ j) (ha : ZA X (e :: es) t) (hg : Gl X x := by rfl) (hdb : (x == ("__debug__" : Str)) = false := by decide) (he : starEach (e :: es) X.env = (false, eval e X.env) :: starEach es X.env := by rfl) (hpl : (backTo pos (starEach es X.env)).any (·.1) = false := by rfl) : ZE X (.Call (.Name x p) (e :: es) [] pos) (dCall sp t) := .i (de_callH h hr hkj ha.o hg hdb he hpl)
theorem zde_globH {d : D} (h : HasG X.K X.mg x d) (hg : Gl X x := by rfl) (hd : (x == ("__debug__" : Str)) = false := by decide) : ZE X (.Name x pos) (dC d) := .i (de_globH h hg hd)
end
section
variable {prog : Program} {w : World} {A : Around} {E : Value → Shared → Prop} {s : Shared}
end
section
variable {X : Cx} {pos : Pos} {e a b : Expr} {es : List Expr} {te ta tb : DE}
theorem zdg_unp {k : Nat} {t : DGs} {n : Nat} (hc : X.calm = true) (h : ZGs X es t) (hn : (assignEach es X.env).length = n := by rfl) (hst : (assignEach es X.env).findIdx? (·.1) = none := by rfl) : ZG X (.Tuple es k pos) (gU n t) := .i (dg_unp (n := n) hc h.o hn hst)
end
section
variable {M : DM} {Q : DQ} {g : Bool → Bool} {ds : List D} {i : Int} {a : Addr} {α : Type} {x0 x1 x2 x3 x4 x5 : α} {l : List α}
end
section
variable {K : PySem.W.Frag} {H : Hp} {ρ : DEnv} {σ : L2.St}
end
section
variable {X : Cx} {g : DG} {te : DE}
variable {elt iter tg : Expr} {scope : Scope} {pos : Pos} {N' : List Str} {fr : List (Option Nat)} {tl : DE} {ta : DA} {oN : List Str} {osc : Scope}
end
variable {X : Cx}
section
variable {g : DG} {te : DE} {tb : DS} {Q : DQ} {ρ0 : DEnv}
end
section
variable {e : Expr} {te : DE} {pos : Pos}
end
section
variable {X : Cx} {e : Expr} {te : DE} {pos p2 : Pos} {lo hi : Option Expr} {tl th : DO}
end
section
variable {X : Cx} {a n : Expr} {ta : DE} {tn : DA} {pos p pos' : Pos}
end
section
variable {X : Cx} {a b c e o : Expr} {es : List Expr} {ta tb tc te to : DE} {pos : Pos}
end
section
variable {X : Cx} {e k : Expr} {te tk : DE} {pos p2 : Pos}
end
section
variable {X : Cx} {pos : Pos} {iter tg : Expr} {body : List Stmt} {tl : DE} {g : DG} {tb : DS} {ta : DA}
end
section
variable {X : Cx} {x : Str} {V : DM → Prop} {e : Expr} {es : List Expr} {t : DA} {np cpos pos : Pos}
theorem zds_raise (R : RaiseOk X x V) (ha : ZA X (e :: es) t) (hg : Gl X x := by rfl) (hd : (x == ("__debug__" : Str)) = false := by decide) (he : starEach (e :: es) X.env = (false, eval e X.env) :: starEach es X.env := by rfl) (hpl : (backTo cpos (starEach es X.env)).any (·.1) = false := by rfl) : ZS X (.Raise (some (.Call (.Name x np) (e :: es) [] cpos)) none pos) (dRaise V t) := .i (ds_raise R ha.o hg hd he hpl)
end
section
variable {P : Program} {w : World} {K : PySem.W.Frag} {mg : Str → Option Value} {base : Heap}
end
section
variable {X : Cx} {pins : List (Addr × Obj)} {σ : L2.St} {H : Hp} {s : Shared} {a : Addr} {o : Obj}
end
section
variable {X : Cx} {a : Expr} {e : Expr} {es : List Expr} {t : DA} {x f n cm : Str} {ps : List Str} {sp : DSp} {cond : List D → Prop} {C Cm : Addr} {k1 k2 k i j : Nat} {ts : Addr → DS} {b0 : Stmt} {suite : List Stmt} {px pf pc pa pcm ph pos : Pos}
theorem zds_tryA (hH : HasX X.prog X.w X.K X.mg X.base k1 f ps C cond) (hh : Has X.prog X.w X.K X.mg X.base k2 f ps sp) (hr : Room k X.A) (hk1 : k1 ≤ k) (hk2 : k2 ≤ k) (hN : X.N.Nodup) (hcm : HasC X.K X.mg cm Cm) (hmt : PySem.W.exmOne X.K (.ref C) (.ref Cm) = some true) (ha : ZA X (e :: es) t) (hsu : ∀ a o, ExO o C → ZSs (Exc X a o) (b0 :: suite) (ts a)) (hi : X.N[i]? = some x := by rfl) (hj : X.N[j]? = some n := by rfl) (hxl : X.env.scope.names.lookup x = some .local := by rfl) (hnl : X.env.scope.names.lookup n = some .local := by rfl) (hs : X.stack = X.env :: X.outer := by rfl) (hf : X.env.frame = some X.env.locals := by rfl) (hex : X.ex = [] := by rfl) (hX : ∀ e s, X.xe e s → False := by exact fun _ _ z => z) (hgc : Gl X cm := by rfl) (hdc : (cm == ("__debug__" : Str)) = false := by decide) (hg : Gl X f := by rfl) (hdb : (f == ("__debug__" : Str)) = false := by decide) (he : starEach (e :: es) X.env = (false, eval e X.env) :: starEach es X.env := by rfl) (hpl : (backTo pc (starEach es X.env)).any (·.1) = false := by rfl) (hsw : swapsWith (.Call (.Name f pf) (e :: es) [] pc) (some (.Name x px)) pa.line X.env = pure false := by rfl) : ZS X (.Try [.Assign [.Name x px] (.Call (.Name f pf) (e :: es) [] pc) pa] [.ExceptHandler (some (.Name cm pcm)) (some n) (b0 :: suite) ph] [] [] pos) (dTry sp cond j t (fun D d ρ M => D.nx (ρ.set i (some d)) M) ts) := .i (ds_tryA hH hh hr hk1 hk2 hN hcm hmt ha.o (fun a o h => (hsu a o h).o) hi hj hxl hnl hs hf hex hX hgc hdc hg hdb he hpl hsw)
end
section
end
section
variable {X : Cx} {n c : Str} {C Cc a : Addr} {o : Obj} {p p1 p2 pos : Pos} {j : Nat}
theorem zde_isX (ho : ExO o C) (hcc : HasC X.K X.mg c Cc) (hki : PySem.W.kitOne X.K (.ref C) (.ref Cc) = some true) (hmi : X.mg "isinstance" = none) (hj : X.N[j]? = some n := by rfl) (hnl : Vis X.env.scope n := by first | exact Or.inl rfl | exact Or.inr (Or.inl rfl) | exact Or.inr (Or.inr rfl)) (hgi : Gl X "isinstance" := by rfl) (hgc : Gl X c := by rfl) (hd1 : (n == ("__debug__" : Str)) = false := by decide) (hd2 : (n == ("__classdict__" : Str)) = false := by decide) (hd3 : (c == ("__debug__" : Str)) = false := by decide) (hs : ∀ env : Env, starEach [.Name n p1, .Name c p2] env = (false, eval (.Name n p1) env) :: starEach [.Name c p2] env := by intro _; rfl) (hs2 : ∀ env : Env, starEach [.Name c p2] env = (false, eval (.Name c p2) env) :: starEach [] env := by intro _; rfl) (hpl : (backTo pos (starEach [.Name c p2] X.env)).any (·.1) = false := by rfl) : ZE (Exc X a o) (.Call (.Name "isinstance" p) [.Name n p1, .Name c p2] [] pos) (dIsX j a) := .i (de_isX ho hcc hki hmi hj hnl hgi hgc hd1 hd2 hd3 hs hs2 hpl)
theorem zde_isXT {T : String} (ho : ExO o C) (hki : PySem.W.kitOne X.K (.ref C) (.type T) = some true) (hmi : X.mg "isinstance" = none) (hmc : X.mg c = none) (hv : bootBuiltins c = some (.type T) := by rfl) (hj : X.N[j]? = some n := by rfl) (hnl : Vis X.env.scope n := by first | exact Or.inl rfl | exact Or.inr (Or.inl rfl) | exact Or.inr (Or.inr rfl)) (hgi : Gl X "isinstance" := by rfl) (hgc : Gl X c := by rfl) (hnn : c ≠ "__name__" := by decide) (hd1 : (n == ("__debug__" : Str)) = false := by decide) (hd2 : (n == ("__classdict__" : Str)) = false := by decide) (hd3 : (c == ("__debug__" : Str)) = false := by decide) (hs : ∀ env : Env, starEach [.Name n p1, .Name c p2] env = (false, eval (.Name n p1) env) :: starEach [.Name c p2] env := by intro _; rfl) (hs2 : ∀ env : Env, starEach [.Name c p2] env = (false, eval (.Name c p2) env) :: starEach [] env := by intro _; rfl) (hpl : (backTo pos (starEach [.Name c p2] X.env)).any (·.1) = false := by rfl) : ZE (Exc X a o) (.Call (.Name "isinstance" p) [.Name n p1, .Name c p2] [] pos) (dIsX j a) := .i (de_isXT (T := T) ho hki hmi hmc hv hj hnl hgi hgc hnn hd1 hd2 hd3 hs hs2 hpl)
end
section
variable {prog : Program} {w : World} {A : Around} {E : Value → Shared → Prop} {s : Shared} {K : Frag} {x C D : Addr} {ox : Obj}
end
section
variable {X : Cx} {a C : Addr} {o : Obj}
end
section
end
section
variable {X : Cx} {j : Nat}
end
section
variable {X : Cx} {st : Stmt} {rest : List Stmt} {t u : DS}
theorem zdss_cut (h1 : ZS X st t) (h2 : ZSs X rest u) : ZSs X (st :: rest) (dCut t u) := .i (dss_cut h1.o h2.o)
end
section
variable {X : Cx} {e : Expr} {es : List Expr} {t : DA} {x f cm : Str} {ps : List Str} {sp : DSp} {cond : List D → Prop} {C Cm : Addr} {k1 k2 k i : Nat} {ts : DS} {b0 : Stmt} {suite : List Stmt} {px pf pc pa pcm ph pos : Pos}
end
section
variable {P : Program} {w : World} {K : PySem.W.Frag} {mg : Str → Option Value} {base : Heap}
theorem Fun.okZ {x qual : Str} {st : Stmt} {f : Addr} {fd : FuncData} {N ps : List Str} {k : Nat} {sp : DSp} (F : L2.Fun K x qual st f fd) (S : FnScope N ps (defScope st)) (len : ∀ ds M Q, sp ds M Q → ds.length = ps.length)
    (hbody : ∀ (cdv : Value) (A : Around) (outer : List Env) (s : Shared) (H : Hp) (ds : List D) (M : DM) (Q : DQ) (E : XK), Room k (A.deeper (envOfC qual (defScope st) s.heap.objs.size f cdv)) → sp ds M Q →
      ∃ t, ZSs (cxOf CX0 P w K mg base N qual (defScope st) f cdv A outer s H E).nox (defBody st) t ∧ t { nx := fun _ M' => Dn Q .non M', rt := Dn Q } (startD N ds) M) : FnOk P w K mg base CX0 (k + 1) f fd ps (lowSp K sp) :=
  Fun.okD F S len fun cdv A outer s H ds M Q E hr h => let ⟨t, h1, h2⟩ := hbody cdv A outer s H ds M Q E hr h; ⟨t, h1.o, h2⟩
theorem Has.mkZ {x : Str} {st : Stmt} {N ps : List Str} {k : Nat} {sp : DSp} (h : HasF K mg x st ps) (S : FnScope N ps (defScope st)) (len : ∀ ds M Q, sp ds M Q → ds.length = ps.length)
    (hbody : ∀ (f : Addr) (cdv : Value) (A : Around) (outer : List Env) (s : Shared) (H : Hp) (ds : List D) (M : DM) (Q : DQ) (E : XK), Room k (A.deeper (envOfC x (defScope st) s.heap.objs.size f cdv)) → sp ds M Q →
      ∃ t, ZSs (cxOf CX0 P w K mg base N x (defScope st) f cdv A outer s H E).nox (defBody st) t ∧ t { nx := fun _ M' => Dn Q .non M', rt := Dn Q } (startD N ds) M) : Has P w K mg base (k + 1) x ps sp :=
  Has.mk h S len fun f cdv A outer s H ds M Q E hr h => let ⟨t, h1, h2⟩ := hbody f cdv A outer s H ds M Q E hr h; ⟨t, h1.o, h2⟩
end
section
variable {P : Program} {w : World} {K : PySem.W.Frag} {mg : Str → Option Value} {base : Heap}
theorem HasX.mkZ {x c : Str} {C : Addr} {st : Stmt} {N ps : List Str} {k : Nat} {cond : List D → Prop} (h : HasF K mg x st ps) (hc : HasC K mg c C) (S : FnScope N ps (defScope st)) (len : ∀ ds, cond ds → ds.length = ps.length)
    (hbody : ∀ (f : Addr) (cdv : Value) (A : Around) (outer : List Env) (s : Shared) (H : Hp) (ds : List D) (M : DM) (E : XK), Room k (A.deeper (envOfC x (defScope st) s.heap.objs.size f cdv)) → cond ds →
      RaiseOk (cxOf (CXr P w) P w K mg base N x (defScope st) f cdv A outer s H E) c (SubM M) →
      ∃ t, ZSs (cxOf (CXr P w) P w K mg base N x (defScope st) f cdv A outer s H E) (defBody st) t ∧ t { nx := fun _ _ => False, rt := fun _ _ => False } (startD N ds) M) : HasX P w K mg base (k + 1) x ps C cond :=
  HasX.mk h hc S len fun f cdv A outer s H ds M E hr h hRO => let ⟨t, h1, h2⟩ := hbody f cdv A outer s H ds M E hr h hRO; ⟨t, h1.o, h2⟩
end
end Dd

set_option linter.all false
namespace Mz
open PySem
def Bd (n : Nat) (x : Int) : Prop := x.natAbs < 2 ^ n
theorem Bd.mono {m n : Nat} {x : Int} (h : Bd m x) (l : m ≤ n) : Bd n x := Nat.lt_of_lt_of_le h (Nat.pow_le_pow_right (by decide) l)
theorem Bd.neg {n : Nat} {x : Int} (h : Bd n x) : Bd n (-x) := by unfold Bd at *; rw [Int.natAbs_neg]; exact h
theorem Bd.add {m : Nat} {x y : Int} (h : Bd m x) (h2 : Bd m y) : Bd (m + 1) (x + y) := by
  unfold Bd at *
  have := Int.natAbs_add_le x y
  rw [Nat.pow_succ]
  omega
theorem Bd.sub {m : Nat} {x y : Int} (h : Bd m x) (h2 : Bd m y) : Bd (m + 1) (x - y) := by
  rw [Int.sub_eq_add_neg]; exact h.add h2.neg
theorem Bd.mul {m n : Nat} {x y : Int} (h : Bd m x) (h2 : Bd n y) : Bd (m + n) (x * y) := by
  unfold Bd at *
  rw [Int.natAbs_mul, Nat.pow_add]
  exact Nat.mul_lt_mul'' h h2
theorem Bd.of {n : Nat} {x : Int} (h1 : -(2 ^ n : Nat) < x) (h2 : x < (2 ^ n : Nat)) : Bd n x := by unfold Bd; omega
theorem Bd.log {n : Nat} {x : Int} (h : Bd n x) (h0 : 0 < n) : x.natAbs.log2 < n := by
  rcases Nat.eq_zero_or_pos x.natAbs with e | e
  · rw [e]; simpa using h0
  · exact (Nat.log2_lt (Nat.ne_of_gt e)).mpr h
theorem Bd.bits {n : Nat} {x : Int} (h : Bd n x) : Builtin.Int.intBits x ≤ n + 1 := by
  unfold Builtin.Int.intBits
  split
  · exact Nat.zero_le _
  · rcases Nat.eq_zero_or_pos n with e | e
    · subst e
      have : x.natAbs < 1 := h
      have : x.natAbs = 0 := by omega
      rw [this]; decide
    · have := h.log e
      omega
theorem mulOk {m n : Nat} {x y : Int} (h : Bd m x) (h2 : Bd n y) (l : m + n ≤ 100000000 := by decide) : IntMulOk x y := IntMulOk.of_le h.bits h2.bits (by omega)
theorem mulOkL {x y : Int} (h : Bd 63 x) : IntMulOk x y := IntMulOk.of_left (by have := h.bits; omega)
theorem mulOkR {x y : Int} (h : Bd 63 y) : IntMulOk x y := IntMulOk.of_right (by have := h.bits; omega)

theorem fmod_lt {a b : Int} (h : b ≠ 0) : (a.fmod b).natAbs < b.natAbs := by
  rcases Int.lt_or_lt_of_ne h with hb | hb
  · have e := Int.fmod_eq_emod (a := a) (b := b)
    have h1 := Int.emod_nonneg a h
    have h2 := Int.emod_lt_of_neg a hb
    by_cases hd : b ∣ a
    · rw [if_pos (.inr hd)] at e
      have := Int.emod_eq_zero_of_dvd hd
      omega
    · rw [if_neg (by omega)] at e
      have h3 : a % b ≠ 0 := fun z => hd (Int.dvd_of_emod_eq_zero z)
      omega
  · have h1 := Int.fmod_nonneg_of_pos a hb
    have h2 := Int.fmod_lt_of_pos a hb
    omega
theorem gcd_fmod (a b : Int) : Int.gcd b (a.fmod b) = Int.gcd a b := by
  rw [Int.fmod_def, Int.mul_comm b, Int.gcd_sub_mul_right_right, Int.gcd_comm]

def sg (t b : Int) : Int := if b < 0 then -(Int.gcd t b : Int) else (Int.gcd t b : Int)
def fT (t b : Int) : Int := t.fdiv (sg t b)
def fB (t b : Int) : Int := b.fdiv (sg t b)
theorem gcd_pos {t b : Int} (h : b ≠ 0) : 0 < Int.gcd t b := Nat.pos_of_ne_zero fun z => h (Int.gcd_eq_zero_iff.mp z).2
theorem sg_ne {t b : Int} (h : b ≠ 0) : sg t b ≠ 0 := by
  have := gcd_pos (t := t) h
  unfold sg; split <;> omega
theorem sg_dvd_t (t b : Int) : sg t b ∣ t := by
  have h := Int.gcd_dvd_left t b
  unfold sg
  split
  · exact Int.neg_dvd.mpr h
  · exact h
theorem sg_dvd_b (t b : Int) : sg t b ∣ b := by
  have h := Int.gcd_dvd_right t b
  unfold sg
  split
  · exact Int.neg_dvd.mpr h
  · exact h
theorem fT_mul {t b : Int} (h : b ≠ 0) : fT t b * sg t b = t := by
  unfold fT; rw [Int.fdiv_eq_ediv_of_dvd (sg_dvd_t t b)]; exact Int.ediv_mul_cancel (sg_dvd_t t b)
theorem fB_mul {t b : Int} (h : b ≠ 0) : fB t b * sg t b = b := by
  unfold fB; rw [Int.fdiv_eq_ediv_of_dvd (sg_dvd_b t b)]; exact Int.ediv_mul_cancel (sg_dvd_b t b)
theorem fB_pos {t b : Int} (h : b ≠ 0) : 0 < fB t b := by
  have e := fB_mul (t := t) h
  have hg := gcd_pos (t := t) h
  rcases Int.lt_trichotomy (fB t b) 0 with z | z | z
  · exfalso
    unfold sg at e
    split at e
    · rename_i hb
      have := Int.mul_pos_of_neg_of_neg z (show -(Int.gcd t b : Int) < 0 by omega)
      omega
    · rename_i hb
      have := Int.mul_neg_of_neg_of_pos z (show 0 < (Int.gcd t b : Int) by omega)
      omega
  · rw [z] at e; omega
  · exact z
theorem fcross {t b : Int} (h : b ≠ 0) : fT t b * b = fB t b * t := by
  have e1 := fT_mul (t := t) h
  have e2 := fB_mul (t := t) h
  have : fT t b * (fB t b * sg t b) = fB t b * (fT t b * sg t b) := by grind
  rw [e1, e2] at this
  exact this
theorem natAbs_sg (t b : Int) : (sg t b).natAbs = Int.gcd t b := by unfold sg; split <;> simp
theorem fgcd {t b : Int} (h : b ≠ 0) : Int.gcd (fT t b) (fB t b) = 1 := by
  unfold fT fB
  rw [Int.fdiv_eq_ediv_of_dvd (sg_dvd_t t b), Int.fdiv_eq_ediv_of_dvd (sg_dvd_b t b), Int.gcd_ediv (sg_dvd_t t b) (sg_dvd_b t b), natAbs_sg]
  exact Nat.div_self (gcd_pos h)
theorem Bd.fT {n : Nat} {t b : Int} (h : Bd n t) : Bd n (fT t b) := by
  unfold Bd at *; unfold Mz.fT; rw [Int.fdiv_eq_ediv_of_dvd (sg_dvd_t t b)]
  exact Nat.lt_of_le_of_lt (Int.natAbs_ediv_le_natAbs _ _) h
theorem Bd.fB {n : Nat} {t b : Int} (h : Bd n b) : Bd n (fB t b) := by
  unfold Bd at *; unfold Mz.fB; rw [Int.fdiv_eq_ediv_of_dvd (sg_dvd_b t b)]
  exact Nat.lt_of_le_of_lt (Int.natAbs_ediv_le_natAbs _ _) h
theorem Bd.sg {n : Nat} {t b : Int} (h : Bd n b) (h0 : b ≠ 0) : Bd n (sg t b) := by
  unfold Bd at *
  rw [natAbs_sg]
  have := Nat.le_of_dvd (by omega) (Int.natAbs_dvd_natAbs.mpr (Int.gcd_dvd_right t b))
  simp at this
  omega
theorem dvd_of_cop {a b c : Int} (h : b ∣ a * c) (g : Int.gcd b a = 1) : b ∣ c := by
  have h' : b.natAbs ∣ a.natAbs * c.natAbs := by rw [← Int.natAbs_mul]; exact Int.natAbs_dvd_natAbs.mpr h
  exact Int.natAbs_dvd_natAbs.mp (Nat.Coprime.dvd_of_dvd_mul_left g h')
theorem lowest_unique {t b t' b' : Int} (h : 0 < b) (h' : 0 < b') (g : Int.gcd t b = 1) (g' : Int.gcd t' b' = 1) (e : t * b' = t' * b) : t = t' ∧ b = b' := by
  have d1 : b ∣ b' := by
    have : b ∣ t * b' := ⟨t', by rw [e]; exact Int.mul_comm _ _⟩
    exact dvd_of_cop this (by rw [Int.gcd_comm]; exact g)
  have d2 : b' ∣ b := by
    have : b' ∣ t' * b := ⟨t, by rw [← e]; exact Int.mul_comm _ _⟩
    exact dvd_of_cop this (by rw [Int.gcd_comm]; exact g')
  have e1 : b = b' := Int.le_antisymm (Int.le_of_dvd h' d1) (Int.le_of_dvd h d2)
  subst e1
  exact ⟨Int.eq_of_mul_eq_mul_right (by omega) e, rfl⟩
end Mz

set_option linter.all false
namespace Mz
open PySem
theorem den_pos (q : Rat) : (0 : Int) < (q.den : Int) := by have := q.den_pos; omega
theorem den_ne (q : Rat) : (q.den : Int) ≠ 0 := by have := q.den_pos; omega
theorem denR (q : Rat) : ((q.den : Int) : Rat) ≠ 0 := by
  intro h
  have : (q.den : Int) = 0 := by exact_mod_cast h
  exact den_ne q this
theorem num_den (q : Rat) : (q.num : Rat) / ((q.den : Int) : Rat) = q := by
  have h := Rat.num_divInt_den q
  rw [Rat.divInt_eq_div] at h
  exact h
theorem num_eq (q : Rat) : (q.num : Rat) = q * ((q.den : Int) : Rat) := by
  have h := num_den q
  have h2 := denR q
  grind
theorem lowestQ {t b : Int} (h : b ≠ 0) : fT t b = ((t : Rat) / (b : Rat)).num ∧ fB t b = ((((t : Rat) / (b : Rat)).den : Nat) : Int) := by
  have hb : (b : Rat) ≠ 0 := by exact_mod_cast h
  refine lowest_unique (fB_pos h) (den_pos _) (fgcd h) ?_ ?_
  · have := ((t : Rat) / (b : Rat)).reduced
    unfold Nat.Coprime at this
    rw [← this]
    rfl
  · have e1 := fcross (t := t) h
    have e2 := num_eq ((t : Rat) / (b : Rat))
    have e3 : ((fT t b : Int) : Rat) * b = (fB t b : Int) * (t : Rat) := by rw [← Rat.intCast_mul, ← Rat.intCast_mul, e1]
    have e4 : ((fT t b : Int) : Rat) * ((((t : Rat) / (b : Rat)).den : Int) : Rat) = ((((t : Rat) / (b : Rat)).num : Int) : Rat) * (fB t b : Int) := by
      rw [e2]
      grind
    rw [← Rat.intCast_mul, ← Rat.intCast_mul] at e4
    exact Rat.intCast_inj.mp e4
def BQ (n : Nat) (q : Rat) : Prop := Bd n q.num ∧ Bd n (q.den : Int)
theorem BQ.mono {m n : Nat} {q : Rat} (h : BQ m q) (l : m ≤ n) : BQ n q := ⟨h.1.mono l, h.2.mono l⟩
theorem BQ.make {n : Nat} {t b : Int} (h : b ≠ 0) (h1 : Bd n t) (h2 : Bd n b) : BQ n ((t : Rat) / (b : Rat)) := by
  obtain ⟨e1, e2⟩ := lowestQ (t := t) h
  exact ⟨e1 ▸ h1.fT, e2 ▸ h2.fB⟩
theorem addQ (p q : Rat) : (((p.num * q.den + q.num * p.den : Int)) : Rat) / ((p.den * q.den : Int) : Rat) = p + q := by
  have h1 := denR p
  have h2 := denR q
  have e1 := num_eq p
  have e2 := num_eq q
  rw [Rat.intCast_add, Rat.intCast_mul, Rat.intCast_mul, Rat.intCast_mul, e1, e2]
  grind
theorem subQ (p q : Rat) : (((p.num * q.den - q.num * p.den : Int)) : Rat) / ((p.den * q.den : Int) : Rat) = p - q := by
  have h1 := denR p
  have h2 := denR q
  have e1 := num_eq p
  have e2 := num_eq q
  rw [Rat.intCast_sub, Rat.intCast_mul, Rat.intCast_mul, Rat.intCast_mul, e1, e2]
  grind
theorem mulQ (p q : Rat) : (((p.num * q.num : Int)) : Rat) / ((p.den * q.den : Int) : Rat) = p * q := by
  have h1 := denR p
  have h2 := denR q
  have e1 := num_eq p
  have e2 := num_eq q
  rw [Rat.intCast_mul, Rat.intCast_mul, e1, e2]
  grind
theorem divQ (p q : Rat) (h : q ≠ 0) : (((p.num * q.den : Int)) : Rat) / ((p.den * q.num : Int) : Rat) = p / q := by
  have h1 := denR p
  have h2 := denR q
  have e1 := num_eq p
  have e2 := num_eq q
  rw [Rat.intCast_mul, Rat.intCast_mul, e1, e2]
  grind
theorem BQ.add {m n : Nat} {p q : Rat} (h : BQ m p) (h2 : BQ n q) : BQ (m + n + 1) (p + q) := by
  rw [← addQ]
  exact .make (Int.mul_ne_zero (den_ne p) (den_ne q)) ((h.1.mul h2.2).add ((h2.1.mul h.2).mono (by omega))) ((h.2.mul h2.2).mono (by omega))
theorem BQ.sub {m n : Nat} {p q : Rat} (h : BQ m p) (h2 : BQ n q) : BQ (m + n + 1) (p - q) := by
  rw [← subQ]
  exact .make (Int.mul_ne_zero (den_ne p) (den_ne q)) ((h.1.mul h2.2).sub ((h2.1.mul h.2).mono (by omega))) ((h.2.mul h2.2).mono (by omega))
theorem BQ.mul {m n : Nat} {p q : Rat} (h : BQ m p) (h2 : BQ n q) : BQ (m + n) (p * q) := by
  rw [← mulQ]
  exact .make (Int.mul_ne_zero (den_ne p) (den_ne q)) (h.1.mul h2.1) (h.2.mul h2.2)
theorem num_zero {q : Rat} : q.num = 0 ↔ q = 0 := Rat.num_eq_zero
theorem BQ.div {m n : Nat} {p q : Rat} (h : BQ m p) (h2 : BQ n q) (h0 : q ≠ 0) : BQ (m + n) (p / q) := by
  rw [← divQ p q h0]
  exact .make (Int.mul_ne_zero (den_ne p) (fun z => h0 (num_zero.mp z))) (h.1.mul h2.2) (h.2.mul h2.1)
theorem BQ.neg {m : Nat} {p : Rat} (h : BQ m p) : BQ m (-p) := ⟨by rw [Rat.neg_num]; exact h.1.neg, by rw [Rat.neg_den]; exact h.2⟩
theorem BQ.int {m : Nat} {z : Int} (h : Bd m z) (h0 : 0 < m) : BQ m (z : Rat) := ⟨by rw [Rat.num_intCast]; exact h, by rw [Rat.den_intCast]; unfold Bd; exact Nat.one_lt_two_pow (by omega)⟩
end Mz

set_option linter.all false
namespace Mz
open PySem
theorem Bd.fdiv {n : Nat} {x y : Int} (h : Bd n x) (d : y ∣ x) : Bd n (x.fdiv y) := by
  unfold Bd at *
  rw [Int.fdiv_eq_ediv_of_dvd d]
  exact Nat.lt_of_le_of_lt (Int.natAbs_ediv_le_natAbs _ _) h
end Mz

set_option linter.all false
set_option maxHeartbeats 1000000
namespace Mz
open PySem
def sgn (q : Rat) : Int := if 0 < q then 1 else if q < 0 then -1 else 0
def uu (t : Rat) : Rat := (1 - t * t) / (1 + t * t)
def vv (t : Rat) : Rat := (t + t) / (1 + t * t)
def rotX (t x y : Rat) : Rat := uu t * x - vv t * y
def rotY (t x y : Rat) : Rat := vv t * x + uu t * y
theorem sq_nn (t : Rat) : 0 ≤ t * t := by
  rcases (show t < 0 ∨ t = 0 ∨ 0 < t by grind) with c | c | c
  · have := Rat.mul_pos (show 0 < -t by grind) (show 0 < -t by grind)
    grind
  · subst c; grind
  · have := Rat.mul_pos c c
    grind
theorem one_sq (t : Rat) : 1 + t * t ≠ 0 := by
  have := sq_nn t
  grind
theorem uv_sq (t : Rat) : uu t * uu t + vv t * vv t = 1 := by
  have := one_sq t
  unfold uu vv
  grind
theorem rot_on (t x y : Rat) : rotX t x y * rotX t x y + rotY t x y * rotY t x y = x * x + y * y := by
  have := uv_sq t
  unfold rotX rotY
  grind
end Mz

set_option linter.all false
set_option maxHeartbeats 4000000
namespace Mz
open PySem
def tb (t h u : Int) : Int := (t + h * u).fmod 4
end Mz

set_option Elab.async false
set_option linter.all false
set_option maxRecDepth 100000
set_option maxHeartbeats 4000000
namespace Dd
open PySem PySem.Spec PyProof.Rows L2 Mz
def FQ (q : Rat) : D := .tup [.int q.num, .int (q.den : Int)]
theorem FQ_make {t b : Int} (h : b ≠ 0) : (D.tup [.int (fT t b), .int (fB t b)]) = FQ ((t : Rat) / (b : Rat)) := by
  obtain ⟨e1, e2⟩ := lowestQ (t := t) h
  rw [e1, e2]
  rfl
def sp_two (g : Rat → Rat → D) (C : Rat → Prop := fun _ => True) : DSp := fun ds M Q => ∃ p q m n, ds = [FQ p, FQ q] ∧ C q ∧ BQ m p ∧ BQ n q ∧ m + n ≤ 8998 ∧ Q (g p q) M
def sp_times : DSp := sp_two fun p q => FQ (p * q)
theorem two_len {g : Rat → Rat → D} {C : Rat → Prop} (ds : List D) (M : DM) (Q : DQ) (h : sp_two g C ds M Q) : ds.length = 2 := by obtain ⟨a, b, m, n, rfl, _⟩ := h; rfl
def PQ (x y : Rat) : D := .tup [FQ x, FQ y]
def sp_dot_product : DSp := fun ds M Q => ∃ x y u v, ds = [PQ x y, PQ u v] ∧ ∃ m n, BQ m x ∧ BQ m y ∧ BQ n u ∧ BQ n v ∧ m + n ≤ 4400 ∧ Q (FQ (x * u + y * v)) M
theorem eqD_FQ (p q : Rat) : eqD (FQ p) (FQ q) = decide (p = q) := by
  show (p.num == q.num && ((p.den : Int) == (q.den : Int) && true)) = decide (p = q)
  by_cases h : p = q
  · subst h; simp
  · rw [decide_eq_false h]
    by_cases h1 : p.num = q.num
    · have h2 : ¬ ((p.den : Int) = (q.den : Int)) := fun z => h (Rat.ext h1 (by exact_mod_cast z))
      simp [h1, h2]
    · simp [h1]
theorem eqD_PQ (x y u v : Rat) : eqD (PQ x y) (PQ u v) = (decide (x = u) && decide (y = v)) := by
  show (eqD (FQ x) (FQ u) && (eqD (FQ y) (FQ v) && true)) = _
  rw [eqD_FQ, eqD_FQ, Bool.and_true]
def sp_on_one_bottom : DSp := fun ds M Q => ∃ x y, ds = [PQ x y] ∧ BQ 900 x ∧ BQ 900 y ∧ ∀ X Y d : Int, 0 < d → (X : Rat) = x * (d : Rat) → (Y : Rat) = y * (d : Rat) → Bd 1800 X → Bd 1800 Y → Bd 1800 d → Q (.tup [.int X, .int Y, .int d]) M
def sp_sign : DSp := fun ds M Q => ∃ z : Int, ds = [.int z] ∧ Q (.int (sgn (z : Rat))) M
def FdN (M : DM) (a : Addr) (n : Nat) : Prop := ∃ (c k f : Int), M a = some [.int c, .int k, .int f] ∧ 0 ≤ k ∧ k ≤ n
def Adv (M M' : DM) (a : Addr) : Prop := ∀ b, b ≠ a → M' b = M b
theorem Adv.refl (M : DM) (a : Addr) : Adv M M a := fun _ _ => rfl
theorem Adv.trans {M M1 M2 : DM} {a : Addr} (h : Adv M M1 a) (h2 : Adv M1 M2 a) : Adv M M2 a := fun b n => (h2 b n).trans (h b n)
theorem FdN.mono {M : DM} {a : Addr} {m n : Nat} (h : FdN M a m) (l : m ≤ n) : FdN M a n := by
  obtain ⟨c, k, f, e, h0, h1⟩ := h
  exact ⟨c, k, f, e, h0, by omega⟩
def sp_law_feed : DSp := fun ds M Q => ∃ c, ds = [.int c] ∧ ∀ p M', M p = none → FdN M' p 0 → Adv M M' p → Q (.ref p) M'
def sp_law_draw : DSp := fun ds M Q => ∃ a many n, ds = [.ref a, .int many] ∧ FdN M a n ∧ n ≤ 100000 ∧ 0 < many ∧ Bd 8999 many ∧ ∀ r M', 0 ≤ r → r < many → FdN M' a (n + 1) → Adv M M' a → Q (.int r) M'
def sp_drawn (B c : Nat) (Pd : D → Prop) : DSp := fun ds M Q => ∃ a n, ds = [.ref a] ∧ FdN M a n ∧ n ≤ B ∧ ∀ d M', Pd d → FdN M' a (n + c) → Adv M M' a → Q d M'
theorem drawn_len {B c : Nat} {Pd : D → Prop} (ds : List D) (M : DM) (Q : DQ) (h : sp_drawn B c Pd ds M Q) : ds.length = 1 := by obtain ⟨a, n, rfl, _⟩ := h; rfl
def delM (M : DM) (p : Addr) : DM := fun b => if b = p then none else M b
theorem delM_same {M : DM} {p : Addr} : delM M p p = none := if_pos rfl
theorem delM_ne {M : DM} {p b : Addr} (h : b ≠ p) : delM M p b = M b := if_neg h
theorem delM_sub (M : DM) (p : Addr) : SubM (delM M p) M := fun b o e => by
  by_cases z : b = p
  · subst z; rw [delM_same] at e; cases e
  · rw [delM_ne z] at e; exact e
def IsF (B : Nat) (d : D) : Prop := ∃ q, d = FQ q ∧ BQ B q
def IsP (B : Nat) (d : D) : Prop := ∃ x y, d = PQ x y ∧ BQ B x ∧ BQ B y
theorem FQ_int (z : Int) : FQ (z : Rat) = .tup [.int z, .int 1] := by unfold FQ; rw [Rat.num_intCast, Rat.den_intCast]; rfl
theorem bdk {x : Int} (h : x.natAbs < 2 ^ 220) : Bd 8999 x := Bd.mono (m := 220) h (by decide)
theorem bd210 {x : Int} (h1 : -(10 ^ 62) ≤ x) (h2 : x ≤ 10 ^ 62) : Bd 210 x := by
  unfold Bd
  have : (2 : Nat) ^ 210 = 1645504557321206042154969182557350504982735865633579863348609024 := by decide
  omega
theorem cut_mem {xs : List D} {lo hi : Option Int} {d : D} (h : d ∈ cutD xs lo hi) : d ∈ xs := List.mem_of_mem_drop (List.mem_of_mem_take h)
theorem cells_int {ns : List Int} {lo hi : Option Int} {i : Nat} {d : D} (h : (cutD (ns.map D.int ++ [.int 0]) lo hi)[i]? = some d) : ∃ c, d = .int c := by
  have := cut_mem (List.mem_of_getElem? h)
  rcases List.mem_append.mp this with z | z
  · obtain ⟨c, _, e⟩ := List.mem_map.mp z
    exact ⟨c, e.symm⟩
  · exact ⟨0, by simpa using z⟩
def sp_law_lowest : DSp := fun ds M Q => ∃ t b, ds = [.int t, .int b] ∧ b ≠ 0 ∧ Bd 8999 b ∧ Q (FQ ((t : Rat) / (b : Rat))) M
def sp_at_share : DSp := fun ds M Q => ∃ cx cy ax ay t, ds = [PQ cx cy, PQ ax ay, FQ t] ∧ BQ 200 cx ∧ BQ 200 cy ∧ BQ 200 ax ∧ BQ 200 ay ∧ BQ 210 t ∧ Q (PQ (cx + rotX t (ax - cx) (ay - cy)) (cy + rotY t (ax - cx) (ay - cy))) M
theorem bq1 : BQ 1 1 := ⟨by unfold Bd; decide, by unfold Bd; decide⟩
theorem IsP.mono {B C : Nat} {d : D} (h : IsP B d) (l : B ≤ C) : IsP C d := by
  obtain ⟨x, y, e, h1, h2⟩ := h
  exact ⟨x, y, e, h1.mono l, h2.mono l⟩
theorem IsF.mono {B C : Nat} {d : D} (h : IsF B d) (l : B ≤ C) : IsF C d := by
  obtain ⟨x, e, h1⟩ := h
  exact ⟨x, e, h1.mono l⟩
theorem itT_PQ {x y : Rat} {g : DG} {te : DE} {Q : DQ} {ρ0 : DEnv} {M : DM} : itT (PQ x y) ρ0 g te M Q = dItC none [FQ x, FQ y] ρ0 g te M Q := rfl
theorem itT_FQ {q : Rat} {g : DG} {te : DE} {Q : DQ} {ρ0 : DEnv} {M : DM} : itT (FQ q) ρ0 g te M Q = dItC none [.int q.num, .int (q.den : Int)] ρ0 g te M Q := rfl
theorem foT_PQ {x y : Rat} {g : DG} {tb : DS} {E : DEnds} {ρ : DEnv} {M : DM} : foT (PQ x y) g tb E ρ M = dIt none [FQ x, FQ y] g tb E ρ M := rfl
theorem ixFQ0 {q : Rat} {M : DM} {Q : DQ} : dIxR (FQ q) (.int 0) M Q = Q (.int q.num) M := rfl
theorem ixFQ1 {q : Rat} {M : DM} {Q : DQ} : dIxR (FQ q) (.int 1) M Q = Q (.int (q.den : Int)) M := rfl
theorem ixPQ0 {x y : Rat} {M : DM} {Q : DQ} : dIxR (PQ x y) (.int 0) M Q = Q (FQ x) M := rfl
theorem ixPQ1 {x y : Rat} {M : DM} {Q : DQ} : dIxR (PQ x y) (.int 1) M Q = Q (FQ y) M := rfl
theorem gU_PQ {x y : Rat} {n : Nat} {t : DGs} {ρ : DEnv} {M : DM} {R : DEnv → DM → Prop} : gU n t (PQ x y) ρ M R = (([FQ x, FQ y] : List D).length = n ∧ t [FQ x, FQ y] ρ M R) := rfl
theorem gU_FQ {q : Rat} {n : Nat} {t : DGs} {ρ : DEnv} {M : DM} {R : DEnv → DM → Prop} : gU n t (FQ q) ρ M R = (([.int q.num, .int (q.den : Int)] : List D).length = n ∧ t [.int q.num, .int (q.den : Int)] ρ M R) := rfl
theorem dEq_FQ {g : Bool → Bool} {p q : Rat} {M : DM} {Q : DQ} : dEq g (FQ p) (FQ q) M Q = Q (.bl (g (decide (p = q)))) M := by
  show (pureN 60 (FQ p) = true ∧ pureN 60 (FQ q) = true ∧ Q (.bl (g (eqD (FQ p) (FQ q)))) M) = _
  rw [eqD_FQ]
  exact propext ⟨fun h => h.2.2, fun h => ⟨rfl, rfl, h⟩⟩
theorem dEq_PQ {g : Bool → Bool} {x y u v : Rat} {M : DM} {Q : DQ} : dEq g (PQ x y) (PQ u v) M Q = Q (.bl (g (decide (x = u ∧ y = v)))) M := by
  show (pureN 60 (PQ x y) = true ∧ pureN 60 (PQ u v) = true ∧ Q (.bl (g (eqD (PQ x y) (PQ u v)))) M) = _
  have e : (decide (x = u) && decide (y = v)) = decide (x = u ∧ y = v) := by by_cases h1 : x = u <;> by_cases h2 : y = v <;> simp [h1, h2]
  rw [eqD_PQ, e]
  exact propext ⟨fun h => h.2.2, fun h => ⟨rfl, rfl, h⟩⟩
theorem foZ_PQ {x y u v : Rat} {g : DG} {tb : DS} {E : DEnds} {ρ : DEnv} {M : DM} : foZ [PQ x y, PQ u v] g tb E ρ M = dIt none [.tup [FQ x, FQ u], .tup [FQ y, FQ v]] g tb E ρ M := rfl
def FR (px py : Rat) (t h : Int) (s : Rat) : D := .tup [PQ px py, .int t, .int h, FQ s]
theorem gU_FR {px py s : Rat} {i h : Int} {n : Nat} {t : DGs} {ρ : DEnv} {M : DM} {R : DEnv → DM → Prop} : gU n t (FR px py i h s) ρ M R = (([PQ px py, .int i, .int h, FQ s] : List D).length = n ∧ t [PQ px py, .int i, .int h, FQ s] ρ M R) := rfl
theorem ixFR0 {px py s : Rat} {t h : Int} {M : DM} {Q : DQ} : dIxR (FR px py t h s) (.int 0) M Q = Q (PQ px py) M := rfl
theorem ixFR1 {px py s : Rat} {t h : Int} {M : DM} {Q : DQ} : dIxR (FR px py t h s) (.int 1) M Q = Q (.int t) M := rfl
theorem ixFR2 {px py s : Rat} {t h : Int} {M : DM} {Q : DQ} : dIxR (FR px py t h s) (.int 2) M Q = Q (.int h) M := rfl
theorem ixFR3 {px py s : Rat} {t h : Int} {M : DM} {Q : DQ} : dIxR (FR px py t h s) (.int 3) M Q = Q (FQ s) M := rfl
theorem eqD_FR (px py s px' py' s' : Rat) (t h t' h' : Int) : eqD (FR px py t h s) (FR px' py' t' h' s') = decide (px = px' ∧ py = py' ∧ t = t' ∧ h = h' ∧ s = s') := by
  show (eqD (PQ px py) (PQ px' py') && (t == t' && (h == h' && (eqD (FQ s) (FQ s') && true)))) = _
  rw [eqD_PQ, eqD_FQ]
  by_cases h1 : px = px' <;> by_cases h2 : py = py' <;> by_cases h3 : t = t' <;> by_cases h4 : h = h' <;> by_cases h5 : s = s' <;> simp [h1, h2, h3, h4, h5]
theorem dEq_FR {g : Bool → Bool} {px py s px' py' s' : Rat} {t h t' h' : Int} {M : DM} {Q : DQ} : dEq g (FR px py t h s) (FR px' py' t' h' s') M Q = Q (.bl (g (decide (px = px' ∧ py = py' ∧ t = t' ∧ h = h' ∧ s = s')))) M := by
  show (pureN 60 (FR px py t h s) = true ∧ pureN 60 (FR px' py' t' h' s') = true ∧ Q (.bl (g (eqD (FR px py t h s) (FR px' py' t' h' s')))) M) = _
  rw [eqD_FR]
  exact propext ⟨fun z => z.2.2, fun z => ⟨rfl, rfl, z⟩⟩
def IsRow (n : Nat) (L : List D) : Prop := L.length = n ∧ ∀ d ∈ L, ∃ z : Int, d = .int z ∧ 0 ≤ z ∧ z < 1000000
theorem IsRow.at {n : Nat} {L : List D} (h : IsRow n L) {i : Nat} (hi : i < n) : ∃ z : Int, atI L (i : Int) = some (.int z) ∧ 0 ≤ z ∧ z < 1000000 := by
  have hl : i < L.length := by rw [h.1]; exact hi
  obtain ⟨z, e, z0, z1⟩ := h.2 L[i] (List.getElem_mem hl)
  exact ⟨z, atI_nat (by rw [List.getElem?_eq_getElem hl, e]), z0, z1⟩
theorem sLen_PQ {x y : Rat} {M : DM} {Q : DQ} : sLen [PQ x y] M Q = Q (.int 2) M := rfl
theorem sLen_FQ {q : Rat} {M : DM} {Q : DQ} : sLen [FQ q] M Q = Q (.int 2) M := rfl
theorem sLen_FR {px py s : Rat} {t h : Int} {M : DM} {Q : DQ} : sLen [FR px py t h s] M Q = Q (.int 4) M := rfl
theorem sLen_ref {a : Addr} {M : DM} {Q : DQ} : sLen [.ref a] M Q = ∃ xs, M a = some xs ∧ Q (.int (xs.length : Int)) M := rfl
end Dd

set_option Elab.async false
set_option linter.all false
set_option maxRecDepth 100000
set_option maxHeartbeats 4000000
namespace Dd
open PySem PySem.Spec PyProof.Rows L2 Mz
section
variable {M : DM} {Q : DQ} {a b c d e f : D}
theorem sAbs_i {i : Int} : sAbs [.int i] M Q = Q (.int (if i < 0 then -i else i)) M := rfl
theorem sLen_fz {xs : List D} : sLen [.fz xs] M Q = Q (.int xs.length) M := rfl
theorem sLen_t0 : sLen [.tup []] M Q = Q (.int 0) M := rfl
theorem sLen_t1 : sLen [.tup [a]] M Q = Q (.int 1) M := rfl
theorem sLen_t2 : sLen [.tup [a, b]] M Q = Q (.int 2) M := rfl
theorem sLen_t3 : sLen [.tup [a, b, c]] M Q = Q (.int 3) M := rfl
theorem sLen_t4 : sLen [.tup [a, b, c, d]] M Q = Q (.int 4) M := rfl
theorem sLen_t5 : sLen [.tup [a, b, c, d, e]] M Q = Q (.int 5) M := rfl
end
def GoodF (px py : Rat) (t h : Int) (s : Rat) (B : Nat) : Prop := BQ B px ∧ BQ B py ∧ 0 ≤ t ∧ t < 4 ∧ (h = 1 ∨ h = -1) ∧ 0 < s ∧ BQ B s
structure Fm where
  (px py : Rat) (t h : Int) (s : Rat)
def FmD (f : Fm) : D := FR f.px f.py f.t f.h f.s
def Fm.one : Fm := ⟨0, 0, 0, 1, 1⟩
def Fm.Ok (f : Fm) : Prop := 0 ≤ f.t ∧ f.t < 4 ∧ (f.h = 1 ∨ f.h = -1)
def Fm.Good (f : Fm) (B : Nat) : Prop := GoodF f.px f.py f.t f.h f.s B
theorem Fm.Good.ok {f : Fm} {B : Nat} (h : f.Good B) : f.Ok := ⟨h.2.2.1, h.2.2.2.1, h.2.2.2.2.1⟩
theorem GoodF.mono {px py s : Rat} {t h : Int} {B C : Nat} (f : GoodF px py t h s B) (l : B ≤ C) : GoodF px py t h s C := ⟨f.1.mono l, f.2.1.mono l, f.2.2.1, f.2.2.2.1, f.2.2.2.2.1, f.2.2.2.2.2.1, f.2.2.2.2.2.2.mono l⟩
theorem ixFm0 {f : Fm} {M : DM} {Q : DQ} : dIxR (FmD f) (.int 0) M Q = Q (PQ f.px f.py) M := rfl
theorem ixFm1 {f : Fm} {M : DM} {Q : DQ} : dIxR (FmD f) (.int 1) M Q = Q (.int f.t) M := rfl
theorem ixFm2 {f : Fm} {M : DM} {Q : DQ} : dIxR (FmD f) (.int 2) M Q = Q (.int f.h) M := rfl
theorem ixFm3 {f : Fm} {M : DM} {Q : DQ} : dIxR (FmD f) (.int 3) M Q = Q (FQ f.s) M := rfl
theorem gU_FmD {f : Fm} {n : Nat} {t : DGs} {ρ : DEnv} {M : DM} {R : DEnv → DM → Prop} : gU n t (FmD f) ρ M R = (([PQ f.px f.py, .int f.t, .int f.h, FQ f.s] : List D).length = n ∧ t [PQ f.px f.py, .int f.t, .int f.h, FQ f.s] ρ M R) := rfl
theorem sLen_FmD {f : Fm} {M : DM} {Q : DQ} : sLen [FmD f] M Q = Q (.int 4) M := rfl
theorem Fm.Good.mono {f : Fm} {B C : Nat} (h : f.Good B) (l : B ≤ C) : f.Good C := GoodF.mono h l
end Dd

set_option Elab.async false
set_option linter.all false
set_option maxRecDepth 100000
set_option maxHeartbeats 4000000
namespace Dd
open PySem PySem.Spec PyProof.Rows L2 Mz
def Alls (R : D → D → Prop) : List D → List D → Prop
  | [], [] => True
  | x :: xs, y :: ys => R x y ∧ Alls R xs ys
  | _, _ => False
def sameN : Nat → DM → D → D → Prop
  | 0, _, d, d' => pureN 0 d = true ∧ pureN 0 d' = true ∧ eqD d d' = true
  | n + 1, M, d, d' => (pureN (n + 1) d = true ∧ pureN (n + 1) d' = true ∧ eqD d d' = true) ∨ (∃ xs ys, d = .tup xs ∧ d' = .tup ys ∧ Alls (sameN n M) xs ys) ∨
    ∃ a b xs ys, d = .ref a ∧ d' = .ref b ∧ M a = some xs ∧ M b = some ys ∧ Alls (sameN n M) xs ys
section
variable {X : Cx} {pins : List (Addr × Obj)} {σ : L2.St} {H : Hp} {s : Shared} {M : DM}
def dSame (g : Bool → Bool) : D2 := fun x y M Q => sameN 60 M x y ∧ Q (.bl (g true)) M
end
def dInT (g : Bool → Bool) : D2 := fun x y M Q => match x, y with
  | .int k, .tup ys => ∃ ns : List Int, ys = ns.map D.int ∧ Q (.bl (g (ns.any (· == k)))) M
  | .str k, .tup ys => ∃ ns : List Str, ys = ns.map D.str ∧ Q (.bl (g (ns.any (· == k)))) M
  | _, _ => False
section
variable {X : Cx}
end
end Dd

set_option Elab.async false
set_option linter.all false
set_option maxRecDepth 100000
set_option maxHeartbeats 4000000
namespace L2
open PySem PySem.Spec PyProof.Rows
section
variable {prog : Program} {w : World} {A : Around} {R : Result → Shared → Prop} {s : Shared}
end
end L2
namespace Dd
open PySem PySem.Spec PyProof.Rows L2
def dItCI (at' : Option Addr) (ds : List D) (ρ0 : DEnv) (g : DG) (tc : DT) (te : DE) (M : DM) (Q : DQ) : Prop := ds.length ≤ 1000 ∧ ∃ Pv : Nat → List D → DM → Prop, Pv 0 [] M ∧
  (∀ i ys M, i ≤ ds.length → Pv i ys M → ∀ a, at' = some a → M a = some ds) ∧
  (∀ i d ys M, ds[i]? = some d → Pv i ys M → g d ρ0 M fun ρ2 M2 => tc ρ2 M2 fun b M2' => if b = true then te ρ2 M2' fun y M3 => Pv (i + 1) (ys ++ [y]) M3 else Pv (i + 1) ys M2') ∧
  ∀ ys M, ys.length ≤ ds.length → Pv ds.length ys M → ∀ p, M p = none → Q (.ref p) (putM M p ys)
def dRngCI (lo : Int) (n : Nat) (ρ0 : DEnv) (g : DG) (tc : DT) (te : DE) (M : DM) (Q : DQ) : Prop := n ≤ 1000 ∧ ∃ Pv : Nat → List D → DM → Prop, Pv 0 [] M ∧
  (∀ (i : Nat) ys M, i < n → Pv i ys M → g (.int (lo + i)) ρ0 M fun ρ2 M2 => tc ρ2 M2 fun b M2' => if b = true then te ρ2 M2' fun y M3 => Pv (i + 1) (ys ++ [y]) M3 else Pv (i + 1) ys M2') ∧
  ∀ ys M, ys.length ≤ n → Pv n ys M → ∀ p, M p = none → Q (.ref p) (putM M p ys)
def dLcIL (tl : DE) (fr : List (Option Nat)) (g : DG) (tc : DT) (te : DE) : DE := fun ρ M Q => tl ρ M fun d M1 => match d with
  | .fz ds => dItCI none ds (rho0 fr ρ) g tc te M1 Q
  | .ref a => ∃ ds, M1 a = some ds ∧ dItCI (some a) ds (rho0 fr ρ) g tc te M1 Q
  | _ => False
def dLcIT (tl : DE) (fr : List (Option Nat)) (g : DG) (tc : DT) (te : DE) : DE := fun ρ M Q => tl ρ M fun d M1 => match d with
  | .tup ds => dItCI none ds (rho0 fr ρ) g tc te M1 Q
  | _ => False
def dLcI1 (ta : DA) (fr : List (Option Nat)) (g : DG) (tc : DT) (te : DE) : DE := fun ρ M Q => ta ρ M fun ds M1 => match ds with
  | [.int j] => (-(2 ^ 62) ≤ j ∧ j < 2 ^ 62) ∧ dRngCI 0 j.toNat (rho0 fr ρ) g tc te M1 Q
  | _ => False
section
variable {X : Cx} {g : DG} {tc : DT} {te : DE}
variable {elt iter tg cnd : Expr} {scope : Scope} {pos : Pos} {N' : List Str} {fr : List (Option Nat)} {tl : DE} {ta : DA} {oN : List Str} {osc : Scope}
end
end Dd

set_option Elab.async false
set_option linter.all false
set_option maxRecDepth 100000
set_option maxHeartbeats 4000000
namespace Dd
open PySem PySem.Spec PyProof.Rows L2 Mz
section
variable {X : Cx} {o e f : Expr} {to te tf : DE}
def dInsert (to te tf : DE) : DE := fun ρ M Q => to ρ M fun x M1 => match x with
  | .ref p => (∃ ds, M1 p = some ds) ∧ dCons te (dCons tf dNil) ρ M1 fun ys M2 => ∃ ds i y, ys = [.int ((i : Nat) : Int), y] ∧ M2 p = some ds ∧ i ≤ ds.length ∧ ds.length < 1000 ∧ Q .non (putM M2 p (ds.take i ++ y :: ds.drop i))
  | _ => False
end
def dInP (g : Bool → Bool) : D2 := fun x y M Q => match y with
  | .ref a => ∃ (pts : List (Rat × Rat)) (u v : Rat), x = PQ u v ∧ M a = some (pts.map fun p => PQ p.1 p.2) ∧ Q (.bl (g (pts.any fun p => decide (p.1 = u ∧ p.2 = v)))) M
  | _ => False
section
variable {X : Cx} {pins : List (Addr × Obj)} {σ : L2.St} {H : Hp} {s : Shared}
end
section
variable {X : Cx} {o : Expr} {to : DE}
def dPop (to : DE) : DE := fun ρ M Q => to ρ M fun x M1 => match x with
  | .ref p => ∃ ds y, M1 p = some ds ∧ ds[ds.length - 1]? = some y ∧ Q y (putM M1 p ds.dropLast)
  | _ => False
end
end Dd

set_option Elab.async false
set_option linter.all false
set_option maxRecDepth 100000
set_option maxHeartbeats 4000000
namespace Dd
open PySem PySem.Spec PyProof.Rows L2
section
variable {X : Cx} {g : DG} {tc : DT} {te : DE}
variable {elt iter tg cnd : Expr} {scope : Scope} {pos : Pos} {N' : List Str} {fr : List (Option Nat)} {tl : DE} {ta : DA} {oN : List Str} {osc : Scope}
end
section
variable {X : Cx} {o e f : Expr} {to te tf : DE}
end
section
variable {X : Cx} {pins : List (Addr × Obj)} {σ : L2.St} {H : Hp} {s : Shared}
end
section
variable {X : Cx} {o : Expr} {to : DE}
end
end Dd

set_option Elab.async false
set_option linter.all false
set_option maxRecDepth 100000
set_option maxHeartbeats 1000000

namespace Dd
open PySem PySem.Spec PyProof.Rows L2

section
variable {P : Program} {w : World} {K : PySem.W.Frag} {mg : Str → Option Value} {base : Heap}
def HasE (P : Program) (w : World) (K : PySem.W.Frag) (mg : Str → Option Value) (base : Heap) (k : Nat) (x : Str) (C : Addr) (sp : Addr → DM → DQ → Prop) : Prop :=
  ∃ f, mg x = some (.ref f) ∧ PySem.W.keepIn K (.ref f) = true ∧
    ∀ (A : Around) (outer : List Env) (s : Shared) (H : Hp) (a : Addr) (o : Obj) (M : DM) (Q : DQ) (E : XK), Room k A → Env0 P w K mg base A outer s H → s.heap.get? a = some o → H a = none → a ∉ frs outer → (∀ v, o.data ≠ .cell v) → ExO o C →
      HRep K M H → sp a M Q → codeAny (model P w) (A.mark (some (.ref a))) (.call (.ref f) ⟨[.ref a], []⟩) (CR CX0 outer P w H s (LQ K H Q) E) s
theorem HasE.mk {x p : Str} {C : Addr} {st : Stmt} {N : List Str} {k : Nat} {sp : Addr → DM → DQ → Prop} (h : HasF K mg x st [p]) (S : FnScope N [p] (defScope st))
    (hbody : ∀ (f : Addr) (cdv : Value) (A : Around) (outer : List Env) (s : Shared) (H : Hp) (a : Addr) (o : Obj) (M : DM) (Q : DQ) (E : XK), ExO o C → sp a M Q →
      ∃ t, ZSs (Exc (cxOf CX0 P w K mg base N x (defScope st) f cdv A outer s H E).nox a o) (defBody st) t ∧ t { nx := fun _ M' => Dn Q .non M', rt := Dn Q } (startD N [.ref a]) M) : HasE P w K mg base (k + 1) x C sp := by
  obtain ⟨f, fd, F, hm, hb⟩ := h
  refine ⟨f, hm, F.kp, fun A outer s H a o M Q E hr e0 ha hHa hfr hnc ho hM hsp => ?_⟩
  obtain ⟨oc, od, kV, doc, pm, an, cdv, ct, osl, rfl, lk, hcd⟩ := F.ex
  have KX : K.In s.heap := e0.mod.kin.keeps fun b o e => (e0.bs b o e).1
  have lim : s.heap.NoLimit := e0.mod.nolimit.keeps fun b o e => (e0.bs b o e).1
  have hbb := hb s [.ref a] KX rfl
  have hkind : ∀ y ∈ [p].zip [Value.ref a], (defScope st).names.lookup y.1 = some .local ∨ ((defScope st).names.lookup y.1 = some .cell ∧ ((cellsFrom (s.heap.objs.size + 1) (defScope st).names []).lookup y.1).isSome = true) := fun ⟨n, v⟩ hy => by
    rcases S.par n (List.of_mem_zip hy).1 with q | q
    · exact .inl q
    · exact .inr ⟨q, PySem.W.cellsFrom_some _ _ _ (.inl q)⟩
  refine codeAny_call_function (A := A.mark (some (.ref a))) hr.depth (KX _ _ lk) rfl S.co S.gen rfl (PySem.W.codeRec_of KX hcd) (hbb _ _ _ _ ?_)
  refine wpAny_newFunctionEnv_cells S.kind hkind fun env he s1 x1 => ?_
  subst he
  refine ⟨lim.keeps x1.toInCall.keep, codeAny_func ?_⟩
  obtain ⟨t, ht, hq⟩ := hbody f cdv A outer s H a o M Q E ho hsp
  have rv : Vals [V.ref a] [Value.ref a] := .cons rfl .nil
  have I0 : Inv (cxOf CX0 P w K mg base N x (defScope st) f cdv A outer s H E) [] (L2.start N [.ref a]) H s1 := inv_start S hr.hd e0 rfl rv x1
  have I1 : Inv (cxOf CX0 P w K mg base N x (defScope st) f cdv A outer s H E).nox [] (L2.start N [.ref a]) H s1 := ⟨⟨I0.ok.mod, I0.ok.kind, I0.ok.glob, I0.ok.blt, I0.ok.above, I0.ok.inj, I0.ok.has, I0.ok.cab, I0.ok.hd, I0.ok.frames, I0.ok.stk, I0.ok.exf, I0.ok.bs, I0.ok.bsz, I0.ok.noex, I0.ok.exfs, I0.ok.funs, I0.ok.frf⟩, I0.os, I0.bare, I0.base, I0.loc, I0.cell, I0.free, I0.freeC, I0.pin, I0.hok, I0.len⟩
  have I2 := exc_in (a := a) (o := o) I1 (x1.toInCall.keep _ _ ha) hHa (Nat.ne_of_lt (Heap.lt_size ha)) hfr hnc
  have rs : Reps K H [D.ref a] [V.ref a] := reps_cons rep_ref reps_nil
  have fin : ∀ v H', LQ K H (Dn Q) v H' → LQ K H Q v H' := fun v H' ⟨d, M1, rd, hm1, ex, M2, sub, q2⟩ => ⟨d, M2, rd, hm1.sub sub, ex, q2⟩
  have run := ht.o [] s1 (L2.start N [.ref a]) H { nx := fun _ H' => LQ K H Q .non H', rt := LQ K H Q } I2 ⟨startD N [.ref a], M, _, reps_start rs N, hM, hq, ⟨fun σ' H' ⟨ρ', M', _, hm', ex, q'⟩ => fin _ H' ⟨.non, M', rep_non, hm', ex, q'⟩, fin, fun σ' H' ⟨_, _, _, _, _, z⟩ => z.elim, fun σ' H' ⟨_, _, _, _, _, z⟩ => z.elim⟩⟩
  refine wpAny_mono run (fun fl s' hs => ?_) fun e s' hs => hs.elim
  have done : ∀ {σ' : L2.St} {H' : Hp} {v : V} {u : Value}, Inv (Exc (cxOf CX0 P w K mg base N x (defScope st) f cdv A outer s H E).nox a o) [] σ' H' s' → RelV v u → LQ K H Q v H' → CE outer P w H s (LQ K H Q) u s' :=
    fun {σ' H' v u} J rv q => ⟨v, H', J.os, J.bare, J.base, J.hok, rv, q⟩
  cases fl with
  | ret u =>
    obtain ⟨v, σ', H', J, rv, q⟩ := hs
    exact done J rv q
  | next =>
    obtain ⟨σ', H', J, q⟩ := hs
    exact done (v := V.non) (u := Value.none) J rfl q
  | brk =>
    obtain ⟨_, _, _, q⟩ := hs
    exact False.elim q
  | cont =>
    obtain ⟨_, _, _, q⟩ := hs
    exact False.elim q
end
def dCallE (sp : Addr → DM → DQ → Prop) (j : Nat) (a : Addr) : DE := fun ρ M Q => ρ[j]? = some (some (.ref a)) ∧ sp a M Q
section
variable {X : Cx} {n x : Str} {C a : Addr} {o : Obj} {p p1 pos : Pos} {j k k' : Nat} {sp : Addr → DM → DQ → Prop}
theorem de_callE (ho : ExO o C) (hE : HasE X.prog X.w X.K X.mg X.base k x C sp) (hr : Room k' X.A) (hk : k ≤ k') (hj : X.N[j]? = some n := by rfl) (hnl : Vis X.env.scope n := by first | exact Or.inl rfl | exact Or.inr (Or.inl rfl) | exact Or.inr (Or.inr rfl))
    (hs : X.stack = X.env :: X.outer := by rfl) (hf : X.env.frame = some X.env.locals := by rfl) (hX : ∀ e s, X.xe e s → False := by exact fun _ _ z => z)
    (hg : Gl X x := by rfl) (hd1 : (n == ("__debug__" : Str)) = false := by decide) (hd2 : (n == ("__classdict__" : Str)) = false := by decide) (hdb : (x == ("__debug__" : Str)) = false := by decide)
    (he : ∀ env : Env, starEach [.Name n p1] env = (false, eval (.Name n p1) env) :: starEach [] env := by intro _; rfl) (hpl : (backTo pos (starEach [] X.env)).any (·.1) = false := by rfl) :
    PDE (Exc X a o) (.Call (.Name x p) [.Name n p1] [] pos) (dCallE sp j a) := by
  obtain ⟨f, hm, hkp, run⟩ := hE
  intro pins s σ H Q I ⟨ρ, M, Q', re, hM, ⟨hρ, q⟩, k2⟩
  obtain ⟨v, e1, rv⟩ := re.get j _ hρ
  obtain rfl := rep_ref_eq rv
  refine wpAny_Call_Name_kw (ld_glob (X := Exc X a o) I hg hm ?_ hdb)
  have pa : PA (Exc X a o) [.Name n p1] (tCons (tVar j) tNil) := pa_cons (pe_var (X := Exc X a o) (i := j) hj hnl hd1 hd2) pa_nil (he _)
  refine PySem.W.callWith_K (h₀ := X.base) I.ok.mod.kin hkp (thn (pa pos pins s σ H (fun vs H1 => vs = [.ref a] ∧ H1 = H) I ⟨_, e1, rfl, rfl⟩) fun us s1 ⟨vs, H1, I1, r, ev, eh⟩ => ⟨I1.kIn, ?_⟩) (he _) hpl
  subst ev eh
  obtain rfl : us = [.ref a] := by
    cases r with
    | cons r t => cases t; rw [show _ = Value.ref a from r]
  have pn := I1.pin (a, o) (List.mem_append_left _ (List.mem_cons_self))
  have e0 := I1.env0
  have nfr : a ∉ frs X.stack := by
    rw [hs]
    intro z
    unfold frs at z
    rw [List.filterMap_cons, hf] at z
    rcases List.mem_cons.mp z with z | z
    · exact pn.2.2.1 z
    · exact pn.2.2.2.1 z
  refine wpAny_call (codeAny_mono (run X.A X.stack s1 H1 a o M Q' (fun _ _ _ => False) (hr.mono hk) ⟨e0.frames, e0.mod, e0.bs, e0.bsz, e0.funs, e0.frf, e0.hok, e0.bare⟩ pn.1 pn.2.1 nfr pn.2.2.2.2 ho hM q) fun r s' hq => ?_)
  cases r with
  | error ev => exact False.elim hq
  | ok fl =>
    cases fl with
    | ret u =>
      obtain ⟨v, H', J, r', q'⟩ := I1.after hq
      exact ⟨v, H', J, r', k2 v H' q'⟩
    | next => exact False.elim hq
    | brk => exact False.elim hq
    | cont => exact False.elim hq
theorem zde_callE (ho : ExO o C) (hE : HasE X.prog X.w X.K X.mg X.base k x C sp) (hr : Room k' X.A) (hk : k ≤ k') (hj : X.N[j]? = some n := by rfl) (hnl : Vis X.env.scope n := by first | exact Or.inl rfl | exact Or.inr (Or.inl rfl) | exact Or.inr (Or.inr rfl))
    (hs : X.stack = X.env :: X.outer := by rfl) (hf : X.env.frame = some X.env.locals := by rfl) (hX : ∀ e s, X.xe e s → False := by exact fun _ _ z => z)
    (hg : Gl X x := by rfl) (hd1 : (n == ("__debug__" : Str)) = false := by decide) (hd2 : (n == ("__classdict__" : Str)) = false := by decide) (hdb : (x == ("__debug__" : Str)) = false := by decide)
    (he : ∀ env : Env, starEach [.Name n p1] env = (false, eval (.Name n p1) env) :: starEach [] env := by intro _; rfl) (hpl : (backTo pos (starEach [] X.env)).any (·.1) = false := by rfl) :
    ZE (Exc X a o) (.Call (.Name x p) [.Name n p1] [] pos) (dCallE sp j a) := .i (de_callE ho hE hr hk hj hnl hs hf hX hg hd1 hd2 hdb he hpl)
end
end Dd

set_option Elab.async false
set_option linter.all false
set_option maxRecDepth 100000
set_option maxHeartbeats 4000000
namespace Lw
open PySem PySem.Spec PyProof.Rows L2 Dd Mz
local macro_rules | `(tactic| decreasing_tactic) => `(tactic| try dsimp only [startD, dCallE, dRaise, dTry, dTry0, DEnds.un, dIsX, sIsXs, dLeT, dCut, List.map, List.length_cons, List.length_nil, Nat.reduceAdd, Nat.reduceSub, List.reduceReplicate, List.cons_append, List.nil_append, List.set_cons_zero, List.set_cons_succ, List.getElem?_cons_zero, List.getElem?_cons_succ, gCn, gN, gNl, gU_tup, gU_ref, gU_PQ, gU_FQ, gU_FR, ixFR0, ixFR1, ixFR2, ixFR3, sLen_PQ, sLen_FQ, sLen_FR, sLen_ref, sAbs_i, sLen_fz, sLen_t0, sLen_t1, sLen_t2, sLen_t3, sLen_t4, sLen_t5, sLen_FmD, gU_FmD, ixFm0, ixFm1, ixFm2, ixFm3, ixT, ixF, ixRf, ixFQ0, ixFQ1, ixPQ0, ixPQ1, dRet, dRetN, dCall, dCons, dNil, dOp, dVar, dC, d2I, d2J, dAdd, dTest, dAnd, dOr, dNot, dAndV, dOrV, dNotV, dIfE, dTup, dLst, dNext, dSeq, dBreak, dCont, dDrop, dIfS, dNever, dAsg, dPar, dSetI, dForT_eq, foT_tup, foT_PQ, dForZ_eq, foZ_PQ, dForL, dFor1, dFor2, dSetLc, dLcL, dLcIL, dLcIT, dLcI1, dLcT_eq, itT_tup, itT_PQ, itT_FQ, dLc1, goC, goA, goF, goR, goL, dSame, dInT, dInP, dInsert, dPop, rho0, Option.join_some, sAll, dNeg, dNoP, dPt, dSlR, dSl, dSlT, dInR, dInRng, dAppend, dExtend, dChain, dRev, sInt, sTwoI, sMin, sMax, sList, dIs_eq, dAug, dIsR, isV, at_1_0, at_1_m, at_2_0, at_2_1, at_2_m, at_3_0, at_3_1, at_3_2, at_3_m, at_4_0, at_4_1, at_4_2, at_4_3, at_4_m, at_5_0, at_5_1, at_5_2, at_5_3, at_5_4, at_5_m, at_6_0, at_6_1, at_6_2, at_6_3, at_6_4, at_6_5, at_6_m])
local macro_rules | `(tactic| simp_arith) => `(tactic| try simp only [dEq_FQ, dEq_PQ, dEq_FR, dEq_int, dEq_str, id, decide_eq_true_eq, Bool.not_eq_true', decide_eq_false_iff_not])
def top (i : Nat) : Stmt := PySem.Challenge.pw_arcmill_k14_arcs_made.main.body.getD i (.Pass ⟨0, 0, 0, 0⟩)
section
variable {P : Program} {w : World} {K : PySem.W.Frag} {mg : Str → Option Value} {base : Heap}
def oD (x y : Rat) : Int := if (x.den : Int) = (y.den : Int) then (x.den : Int) else (x.den : Int) * (y.den : Int)
def oX (x y : Rat) : Int := if (x.den : Int) = (y.den : Int) then x.num else x.num * (y.den : Int)
def oY (x y : Rat) : Int := if (x.den : Int) = (y.den : Int) then y.num else y.num * (x.den : Int)
theorem oD_pos (x y : Rat) : 0 < oD x y := by
  have h1 : (0 : Int) < x.den := by have := x.den_pos; omega
  have h2 : (0 : Int) < y.den := by have := y.den_pos; omega
  unfold oD; split
  · exact h1
  · exact Int.mul_pos h1 h2
theorem oX_eq (x y : Rat) : ((oX x y : Int) : Rat) = x * (oD x y : Int) := by
  have e := num_eq x
  unfold oX oD; split
  · rw [e]
  · rw [Rat.intCast_mul, Rat.intCast_mul, e]; grind
theorem oY_eq (x y : Rat) : ((oY x y : Int) : Rat) = y * (oD x y : Int) := by
  have e := num_eq y
  unfold oY oD; split
  · rename_i h; rw [e, h]
  · rw [Rat.intCast_mul, Rat.intCast_mul, e]; grind
theorem o_bd {x y : Rat} {n : Nat} (hx : BQ n x) (hy : BQ n y) : Bd (n + n) (oX x y) ∧ Bd (n + n) (oY x y) ∧ Bd (n + n) (oD x y) := by
  unfold oX oY oD
  refine ⟨?_, ?_, ?_⟩
  · split
    · exact hx.1.mono (by omega)
    · exact hx.1.mul hy.2
  · split
    · exact hy.1.mono (by omega)
    · exact hy.1.mul hx.2
  · split
    · exact hx.2.mono (by omega)
    · exact hx.2.mul hy.2
def sp_on_one_bottom : DSp := fun ds M Q => ∃ x y n, ds = [PQ x y] ∧ BQ n x ∧ BQ n y ∧ n ≤ 8998 ∧ Q (.tup [.int (oX x y), .int (oY x y), .int (oD x y)]) M
abbrev s_on_one_bottom : Stmt := top 9
theorem sc_on_one_bottom : FnScope ["p", "x", "y"] ["p"] (defScope s_on_one_bottom) := ⟨rfl, rfl, rfl, by decide +kernel, rfl, by decide +kernel, by decide +kernel⟩
theorem has_on_one_bottom (hF : HasF K mg "on_one_bottom" s_on_one_bottom ["p"]) : Has P w K mg base 101 "on_one_bottom" ["p"] sp_on_one_bottom := by
  refine Has.mkZ hF sc_on_one_bottom (fun ds M Q ⟨x, y, n, e, _⟩ => by rw [e]; rfl) fun f cdv A outer s H ds M Q E hr h => ?_
  obtain ⟨x, y, n, rfl, hx, hy, hn, q⟩ := h
  refine ⟨_, (zdss_cons (zds_asg (zde_var 0) (zdg_unp (n := 2) rfl (zdgs_cons (zdg_name (i := 1) sc_on_one_bottom.nd) (zdgs_cons (zdg_name (i := 2) sc_on_one_bottom.nd) zdgs_nil))))
    (zdss_cons (zds_if (zdt_cmp (od_eq hr) (zde_ix (zde_var 1) zde_int) (zde_ix (zde_var 2) zde_int)) (zdss_one (zds_ret (zde_tup (zda_cons (zde_ix (zde_var 1) zde_int) (zda_cons (zde_ix (zde_var 2) zde_int) (zda_cons (zde_ix (zde_var 1) zde_int) zda_nil)))))) zdss_nil)
    (zdss_one (zds_ret (zde_tup (zda_cons (zde_op od_mul (zde_ix (zde_var 1) zde_int) (zde_ix (zde_var 2) zde_int)) (zda_cons (zde_op od_mul (zde_ix (zde_var 2) zde_int) (zde_ix (zde_var 1) zde_int)) (zda_cons (zde_op od_mul (zde_ix (zde_var 1) zde_int) (zde_ix (zde_var 2) zde_int)) zda_nil)))))))), ?_⟩
  unfold oX oY oD at q
  decreasing_tactic
  rw [dEq_int]
  refine ⟨rfl, dif (fun c => ?_) (fun c => ?_)⟩
  · rw [if_pos c, if_pos c, if_pos c] at q
    exact ⟨by decide, M, .refl _, q⟩
  · rw [if_neg c, if_neg c, if_neg c] at q
    exact ⟨mulOk hx.1 hy.2 (by omega), mulOk hy.1 hx.2 (by omega), mulOk hx.2 hy.2 (by omega), by decide, M, .refl _, q⟩
def sp_sign : DSp := fun ds M Q => ∃ i, ds = [.int i] ∧ Q (.int (if 0 < i then 1 else if i = 0 then 0 else -1)) M
abbrev s_sign : Stmt := top 10
theorem sc_sign : FnScope ["number"] ["number"] (defScope s_sign) := ⟨rfl, rfl, rfl, by decide +kernel, rfl, by decide +kernel, by decide +kernel⟩
theorem has_sign (hF : HasF K mg "sign" s_sign ["number"]) : Has P w K mg base 101 "sign" ["number"] sp_sign := by
  refine Has.mkZ hF sc_sign (fun ds M Q ⟨x, e, _⟩ => by rw [e]; rfl) fun f cdv A outer s H ds M Q E hr h => ?_
  obtain ⟨i, rfl, q⟩ := h
  refine ⟨_, (zdss_cons (zds_if (zdt_cmp od_gt (zde_var 0) zde_int) (zdss_one (zds_ret zde_int)) zdss_nil)
    (zdss_one (zds_ret (zde_ifExp (zdt_cmp (od_eq hr) (zde_var 0) zde_int) zde_int (zde_neg zde_int))))), ?_⟩
  decreasing_tactic
  refine dif (fun c => ?_) (fun c => ?_)
  · rw [if_pos c] at q
    exact ⟨M, .refl _, q⟩
  · rw [if_neg c] at q
    rw [dEq_int]
    refine dif (fun d => ?_) (fun d => ?_)
    · rw [if_pos d] at q
      exact ⟨M, .refl _, q⟩
    · rw [if_neg d] at q
      exact ⟨M, .refl _, q⟩
def fS (cx cy px py : Rat) : Int := (oX px py * oD cx cy - oX cx cy * oD px py) * (oX px py * oD cx cy - oX cx cy * oD px py) + (oY px py * oD cx cy - oY cx cy * oD px py) * (oY px py * oD cx cy - oY cx cy * oD px py)
theorem fS_eq (cx cy px py : Rat) : ((fS cx cy px py : Int) : Rat) = ((px - cx) * (px - cx) + (py - cy) * (py - cy)) * (((oD cx cy : Int) : Rat) * ((oD px py : Int) : Rat)) * (((oD cx cy : Int) : Rat) * ((oD px py : Int) : Rat)) := by
  unfold fS
  simp only [Rat.intCast_add, Rat.intCast_mul, Rat.intCast_sub]
  rw [oX_eq, oX_eq, oY_eq, oY_eq]
  grind
def sp_scaled_far : DSp := fun ds M Q => ∃ cx cy px py n, ds = [PQ cx cy, PQ px py] ∧ BQ n cx ∧ BQ n cy ∧ BQ n px ∧ BQ n py ∧ n ≤ 4000 ∧ Q (.tup [.int (fS cx cy px py), .int (oD px py)]) M
abbrev s_scaled_far : Stmt := top 12
theorem sc_scaled_far : FnScope ["c", "p", "cx", "cy", "cd", "px", "py", "pd", "x", "y"] ["c", "p"] (defScope s_scaled_far) := ⟨rfl, rfl, rfl, by decide +kernel, rfl, by decide +kernel, by decide +kernel⟩
theorem has_scaled_far (hF : HasF K mg "scaled_far" s_scaled_far ["c", "p"]) (h_on_one_bottom : Has P w K mg base 101 "on_one_bottom" ["p"] sp_on_one_bottom) : Has P w K mg base 102 "scaled_far" ["c", "p"] sp_scaled_far := by
  refine Has.mkZ hF sc_scaled_far (fun ds M Q ⟨cx, cy, px, py, n, e, _⟩ => by rw [e]; rfl) fun f cdv A outer s H ds M Q E hr h => ?_
  obtain ⟨cx, cy, px, py, n, rfl, h1, h2, h3, h4, hn, q⟩ := h
  refine ⟨_, (zdss_cons (zds_asg (zde_callH h_on_one_bottom hr (by decide) (zda_cons (zde_var 0) zda_nil)) (zdg_unp (n := 3) rfl (zdgs_cons (zdg_name (i := 2) sc_scaled_far.nd) (zdgs_cons (zdg_name (i := 3) sc_scaled_far.nd) (zdgs_cons (zdg_name (i := 4) sc_scaled_far.nd) zdgs_nil)))))
    (zdss_cons (zds_asg (zde_callH h_on_one_bottom hr (by decide) (zda_cons (zde_var 1) zda_nil)) (zdg_unp (n := 3) rfl (zdgs_cons (zdg_name (i := 5) sc_scaled_far.nd) (zdgs_cons (zdg_name (i := 6) sc_scaled_far.nd) (zdgs_cons (zdg_name (i := 7) sc_scaled_far.nd) zdgs_nil)))))
    (zdss_cons (zds_set (i := 8) sc_scaled_far.nd (zde_op od_sub (zde_op od_mul (zde_var 5) (zde_var 4)) (zde_op od_mul (zde_var 2) (zde_var 7))))
    (zdss_cons (zds_set (i := 9) sc_scaled_far.nd (zde_op od_sub (zde_op od_mul (zde_var 6) (zde_var 4)) (zde_op od_mul (zde_var 3) (zde_var 7))))
    (zdss_one (zds_ret (zde_tup (zda_cons (zde_op od_add (zde_op od_mul (zde_var 8) (zde_var 8)) (zde_op od_mul (zde_var 9) (zde_var 9))) (zda_cons (zde_var 7) zda_nil))))))))), ?_⟩
  decreasing_tactic
  obtain ⟨a1, a2, a3⟩ := o_bd h1 h2
  obtain ⟨b1, b2, b3⟩ := o_bd h3 h4
  have dX : Bd (n + n + (n + n) + 1) (oX px py * oD cx cy - oX cx cy * oD px py) := (b1.mul a3).sub (a1.mul b3)
  have dY : Bd (n + n + (n + n) + 1) (oY px py * oD cx cy - oY cx cy * oD px py) := (b2.mul a3).sub (a2.mul b3)
  refine ⟨cx, cy, n, rfl, h1, h2, by omega, ?_⟩
  decreasing_tactic
  refine ⟨rfl, px, py, n, rfl, h3, h4, by omega, ?_⟩
  decreasing_tactic
  exact ⟨rfl, mulOk b1 a3 (by omega), mulOk a1 b3 (by omega), mulOk b2 a3 (by omega), mulOk a2 b3 (by omega), mulOk dX dX (by omega), mulOk dY dY (by omega), by decide, M, .refl _, q⟩
def far2 (cx cy px py : Rat) : Rat := (px - cx) * (px - cx) + (py - cy) * (py - cy)
theorem bd_fS {cx cy px py : Rat} {n : Nat} (h1 : BQ n cx) (h2 : BQ n cy) (h3 : BQ n px) (h4 : BQ n py) : Bd (8 * n + 3) (fS cx cy px py) := by
  obtain ⟨a1, a2, a3⟩ := o_bd h1 h2
  obtain ⟨b1, b2, b3⟩ := o_bd h3 h4
  have dX : Bd (n + n + (n + n) + 1) (oX px py * oD cx cy - oX cx cy * oD px py) := (b1.mul a3).sub (a1.mul b3)
  have dY : Bd (n + n + (n + n) + 1) (oY px py * oD cx cy - oY cx cy * oD px py) := (b2.mul a3).sub (a2.mul b3)
  exact ((dX.mul dX).add (dY.mul dY)).mono (by omega)
theorem far_sgn (cx cy px py qx qy : Rat) : (0 < fS cx cy px py * oD qx qy * oD qx qy - fS cx cy qx qy * oD px py * oD px py ↔ far2 cx cy qx qy < far2 cx cy px py) ∧
    (fS cx cy px py * oD qx qy * oD qx qy - fS cx cy qx qy * oD px py * oD px py = 0 ↔ far2 cx cy px py = far2 cx cy qx qy) := by
  have e : ((fS cx cy px py * oD qx qy * oD qx qy - fS cx cy qx qy * oD px py * oD px py : Int) : Rat) = (far2 cx cy px py - far2 cx cy qx qy) * ((((oD cx cy : Int) : Rat) * ((oD px py : Int) : Rat) * ((oD qx qy : Int) : Rat)) * (((oD cx cy : Int) : Rat) * ((oD px py : Int) : Rat) * ((oD qx qy : Int) : Rat))) := by
    simp only [Rat.intCast_mul, Rat.intCast_sub]
    rw [fS_eq, fS_eq]
    unfold far2
    grind
  have c1 : (0 : Rat) < ((oD cx cy : Int) : Rat) := Rat.intCast_pos.mpr (oD_pos _ _)
  have c2 : (0 : Rat) < ((oD px py : Int) : Rat) := Rat.intCast_pos.mpr (oD_pos _ _)
  have c3 : (0 : Rat) < ((oD qx qy : Int) : Rat) := Rat.intCast_pos.mpr (oD_pos _ _)
  have k0 : (0 : Rat) < (((oD cx cy : Int) : Rat) * ((oD px py : Int) : Rat) * ((oD qx qy : Int) : Rat)) * (((oD cx cy : Int) : Rat) * ((oD px py : Int) : Rat) * ((oD qx qy : Int) : Rat)) := Rat.mul_pos (Rat.mul_pos (Rat.mul_pos c1 c2) c3) (Rat.mul_pos (Rat.mul_pos c1 c2) c3)
  generalize (((oD cx cy : Int) : Rat) * ((oD px py : Int) : Rat) * ((oD qx qy : Int) : Rat)) * (((oD cx cy : Int) : Rat) * ((oD px py : Int) : Rat) * ((oD qx qy : Int) : Rat)) = κ at e k0
  generalize fS cx cy px py * oD qx qy * oD qx qy - fS cx cy qx qy * oD px py * oD px py = z at e ⊢
  generalize far2 cx cy px py = u at e ⊢
  generalize far2 cx cy qx qy = v at e ⊢
  constructor
  · rw [← Rat.intCast_pos, e]
    constructor
    · intro h
      by_cases c : v < u
      · exact c
      · have : u - v ≤ 0 := by grind
        have := Rat.mul_nonneg (a := v - u) (b := κ) (by grind) (by grind)
        grind
    · intro h
      exact Rat.mul_pos (by grind) k0
  · constructor
    · intro h
      rw [h] at e
      have := (Rat.mul_eq_zero.mp e.symm).resolve_right (by grind)
      grind
    · intro h
      have : (z : Rat) = 0 := by rw [e, h]; grind
      exact Rat.intCast_eq_zero_iff.mp this
def farS (cx cy px py qx qy : Rat) : Int := if far2 cx cy qx qy < far2 cx cy px py then 1 else if far2 cx cy px py = far2 cx cy qx qy then 0 else -1
def sp_farther : DSp := fun ds M Q => ∃ cx cy px py qx qy n, ds = [PQ cx cy, PQ px py, PQ qx qy] ∧ BQ n cx ∧ BQ n cy ∧ BQ n px ∧ BQ n py ∧ BQ n qx ∧ BQ n qy ∧ n ≤ 4000 ∧ Q (.int (farS cx cy px py qx qy)) M
abbrev s_farther : Stmt := top 11
theorem sc_farther : FnScope ["c", "p", "q", "p_square", "pd", "q_square", "qd"] ["c", "p", "q"] (defScope s_farther) := ⟨rfl, rfl, rfl, by decide +kernel, rfl, by decide +kernel, by decide +kernel⟩
theorem has_farther (hF : HasF K mg "farther" s_farther ["c", "p", "q"]) (h_scaled_far : Has P w K mg base 102 "scaled_far" ["c", "p"] sp_scaled_far) (h_sign : Has P w K mg base 101 "sign" ["number"] sp_sign) : Has P w K mg base 103 "farther" ["c", "p", "q"] sp_farther := by
  refine Has.mkZ hF sc_farther (fun ds M Q ⟨cx, cy, px, py, qx, qy, n, e, _⟩ => by rw [e]; rfl) fun f cdv A outer s H ds M Q E hr h => ?_
  obtain ⟨cx, cy, px, py, qx, qy, n, rfl, h1, h2, h3, h4, h5, h6, hn, q⟩ := h
  refine ⟨_, (zdss_cons (zds_asg (zde_callH h_scaled_far hr (by decide) (zda_cons (zde_var 0) (zda_cons (zde_var 1) zda_nil))) (zdg_unp (n := 2) rfl (zdgs_cons (zdg_name (i := 3) sc_farther.nd) (zdgs_cons (zdg_name (i := 4) sc_farther.nd) zdgs_nil))))
    (zdss_cons (zds_asg (zde_callH h_scaled_far hr (by decide) (zda_cons (zde_var 0) (zda_cons (zde_var 2) zda_nil))) (zdg_unp (n := 2) rfl (zdgs_cons (zdg_name (i := 5) sc_farther.nd) (zdgs_cons (zdg_name (i := 6) sc_farther.nd) zdgs_nil))))
    (zdss_one (zds_ret (zde_callH h_sign hr (by decide) (zda_cons (zde_op od_sub (zde_op od_mul (zde_op od_mul (zde_var 3) (zde_var 6)) (zde_var 6)) (zde_op od_mul (zde_op od_mul (zde_var 5) (zde_var 4)) (zde_var 4))) zda_nil)))))), ?_⟩
  decreasing_tactic
  have bP := bd_fS h1 h2 h3 h4
  have bQ := bd_fS h1 h2 h5 h6
  have dP := (o_bd h3 h4).2.2
  have dQ := (o_bd h5 h6).2.2
  refine ⟨cx, cy, px, py, n, rfl, h1, h2, h3, h4, hn, ?_⟩
  decreasing_tactic
  refine ⟨rfl, cx, cy, qx, qy, n, rfl, h1, h2, h5, h6, hn, ?_⟩
  decreasing_tactic
  refine ⟨rfl, mulOk bP dQ (by omega), mulOk (bP.mul dQ) dQ (by omega), mulOk bQ dP (by omega), mulOk (bQ.mul dP) dP (by omega), _, rfl, M, .refl _, ?_⟩
  obtain ⟨e1, e2⟩ := far_sgn cx cy px py qx qy
  have e : (if 0 < fS cx cy px py * oD qx qy * oD qx qy - fS cx cy qx qy * oD px py * oD px py then 1 else if fS cx cy px py * oD qx qy * oD qx qy - fS cx cy qx qy * oD px py * oD px py = 0 then 0 else -1 : Int) = farS cx cy px py qx qy := by
    unfold farS
    by_cases c : far2 cx cy qx qy < far2 cx cy px py
    · rw [if_pos c, if_pos (e1.mpr c)]
    · rw [if_neg c, if_neg (fun z => c (e1.mp z))]
      by_cases d : far2 cx cy px py = far2 cx cy qx qy
      · rw [if_pos d, if_pos (e2.mpr d)]
      · rw [if_neg d, if_neg (fun z => d (e2.mp z))]
  rw [e]
  exact q

abbrev s_law_feed : Stmt := top 17
theorem sc_law_feed : FnScope ["_law_cell"] ["_law_cell"] (defScope s_law_feed) := ⟨rfl, rfl, rfl, by decide +kernel, rfl, by decide +kernel, by decide +kernel⟩
theorem has_law_feed (hF : HasF K mg "_law_feed" s_law_feed ["_law_cell"]) (n_int : mg "int" = none) : Has P w K mg base 101 "_law_feed" ["_law_cell"] sp_law_feed := by
  refine Has.mkZ hF sc_law_feed (fun ds M Q ⟨c, e, _⟩ => by rw [e]; rfl) fun f cdv A outer s H ds M Q E hr h => ?_
  obtain ⟨c, rfl, q⟩ := h
  refine ⟨_, (zdss_one (zds_ret (zde_lst (zda_cons (zde_var 0) (zda_cons zde_int (zda_cons (zde_callTy cd_int n_int (zda_cons (zde_cmp od_ge (zde_var 0) (zde_op od_pow zde_int zde_int)) zda_nil)) zda_nil)))))), ?_⟩
  refine ⟨⟨by decide, by decide, by decide⟩, by show (3 : Nat) ≤ 1000; decide, fun p hp => ⟨_, .refl _, ?_⟩⟩
  exact q p _ hp ⟨c, 0, _, putM_same, by decide, by decide⟩ fun b hb => putM_ne hb
abbrev s_law_draw : Stmt := top 18
theorem sc_law_draw : FnScope ["_law_from", "_law_many", "_law_k", "_law_found", "_law_number"] ["_law_from", "_law_many"] (defScope s_law_draw) := ⟨rfl, rfl, rfl, by decide +kernel, rfl, by decide +kernel, by decide +kernel⟩
theorem has_law_draw (hF : HasF K mg "_law_draw" s_law_draw ["_law_from", "_law_many"]) : Has P w K mg base 101 "_law_draw" ["_law_from", "_law_many"] sp_law_draw := by
  refine Has.mkZ hF sc_law_draw (fun ds M Q ⟨a, m, n, e, _⟩ => by rw [e]; rfl) fun f cdv A outer s H ds M Q E hr h => ?_
  obtain ⟨a, many, n, rfl, ⟨c, k, fl, ha, k0, k1⟩, hn, hm, hB, q⟩ := h
  refine ⟨_, (zdss_cons (zds_set (i := 2) sc_law_draw.nd (zde_ix (zde_var 0) zde_int))
    (zdss_cons (zds_asg (zde_op od_add (zde_var 2) zde_int) (zdg_sub (zde_var 0) zde_int))
    (zdss_cons (zds_if (zdt_w (zdw_and (zdt_cmp (od_eq hr) (zde_ix (zde_var 0) zde_int) zde_int) (zdw_and1 (zdt_cmp od_gt (zde_ix (zde_var 0) zde_int) zde_int)))) (zdss_cons (zds_set (i := 3) sc_law_draw.nd (zde_op od_mod (zde_ix (zde_var 0) zde_int) (zde_var 1)))
    (zdss_cons (zds_asg (zde_op od_fdiv (zde_ix (zde_var 0) zde_int) (zde_var 1)) (zdg_sub (zde_var 0) zde_int))
    (zdss_one (zds_ret (zde_var 3))))) zdss_nil)
    (zdss_cons (zds_set (i := 4) sc_law_draw.nd (zde_op od_mod (zde_op od_mul (zde_op od_add (zde_op od_add (zde_op od_mod (zde_ix (zde_var 0) zde_int) (zde_op od_pow zde_int zde_int)) (zde_op od_mul (zde_op od_mul zde_int (zde_var 2)) (zde_var 2))) (zde_var 2)) zde_int) zde_int))
    (zdss_cons (zds_set (i := 4) sc_law_draw.nd (zde_op od_mod (zde_op od_add (zde_op od_mul (zde_var 4) zde_int) zde_int) zde_int))
    (zdss_one (zds_ret (zde_op od_mod (zde_op od_fdiv (zde_var 4) zde_int) (zde_var 1))))))))), ?_⟩
  have hm0 : many ≠ 0 := by omega
  have hk : Bd 63 k := Bd.of (by omega) (by omega)
  refine ⟨_, _, ha, rfl, _, 1, ha, rfl, ?_⟩
  have h1 : putM M a [.int c, .int (k + 1), .int fl] a = some [.int c, .int (k + 1), .int fl] := putM_same
  have av : Adv M (putM M a [.int c, .int (k + 1), .int fl]) a := fun b hb => putM_ne hb
  have fd1 : FdN (putM M a [.int c, .int (k + 1), .int fl]) a (n + 1) := ⟨c, k + 1, fl, h1, by omega, by omega⟩
  have slow : ∀ x : Int, Q (.int ((x.fdiv 16).fmod many)) (putM M a [.int c, .int (k + 1), .int fl]) := fun x => q _ _ (Int.fmod_nonneg_of_pos _ hm) (Int.fmod_lt_of_pos _ hm) fd1 av
  refine ⟨_, _, h1, rfl, rfl, rfl, ?_⟩
  have rest : ∀ (u v : Int), ∃ ds d, putM M a [.int c, .int (k + 1), .int fl] a = some ds ∧ atI ds 0 = some d ∧ True := fun _ _ => ⟨_, _, h1, rfl, trivial⟩
  refine bcase (fun _ => ?_) (fun _ => ?_)
  · refine ⟨_, _, h1, rfl, ?_⟩
    refine dif (fun _ => ?_) (fun _ => ?_)
    · refine ⟨_, _, h1, rfl, hm0, _, _, h1, rfl, ⟨hm0, Nat.lt_succ_of_lt (hB.log (by decide))⟩, _, 0, h1, rfl, _, .refl _, ?_⟩
      refine q _ _ (Int.fmod_nonneg_of_pos _ hm) (Int.fmod_lt_of_pos _ hm) ⟨_, k + 1, fl, putM_same, by omega, by omega⟩ fun b hb => ?_
      rw [putM_ne hb, putM_ne hb]
    · refine ⟨_, _, h1, rfl, ⟨by decide, by decide, by decide⟩, (by dsimp only; decide), mulOkL (by unfold Bd; decide), mulOkR hk, mulOkR (by unfold Bd; decide), (by dsimp only; decide), mulOkR (by unfold Bd; decide), (by dsimp only; decide), ⟨by decide, by decide +kernel⟩, hm0, _, .refl _, ?_⟩
      exact slow _
  · refine ⟨_, _, h1, rfl, ⟨by decide, by decide, by decide⟩, (by dsimp only; decide), mulOkL (by unfold Bd; decide), mulOkR hk, mulOkR (by unfold Bd; decide), (by dsimp only; decide), mulOkR (by unfold Bd; decide), (by dsimp only; decide), ⟨by decide, by decide +kernel⟩, hm0, _, .refl _, ?_⟩
    exact slow _

abbrev s_law_lowest : Stmt := top 19
theorem sc_law_lowest : FnScope ["_law_top", "_law_bottom", "_law_one", "_law_other"] ["_law_top", "_law_bottom"] (defScope s_law_lowest) := ⟨rfl, rfl, rfl, by decide +kernel, rfl, by decide +kernel, by decide +kernel⟩
theorem has_law_lowest (hF : HasF K mg "_law_lowest" s_law_lowest ["_law_top", "_law_bottom"]) (n_abs : mg "abs" = none) : Has P w K mg base 101 "_law_lowest" ["_law_top", "_law_bottom"] sp_law_lowest := by
  refine Has.mkZ hF sc_law_lowest (fun ds M Q ⟨a, b, e, _⟩ => by rw [e]; rfl) fun f cdv A outer s H ds M Q E hr h => ?_
  obtain ⟨t, b, rfl, hb, hB, q⟩ := h
  refine ⟨_, (zdss_cons (zds_set (i := 2) sc_law_lowest.nd (zde_callB cd_abs n_abs (zda_cons (zde_var 0) zda_nil)))
    (zdss_cons (zds_set (i := 3) sc_law_lowest.nd (zde_callB cd_abs n_abs (zda_cons (zde_var 1) zda_nil)))
    (zdss_cons (zds_while PassesOwn.never (zdt_cmp od_gt (zde_var 3) zde_int) (zdss_one (zds_par (i := 2) (j := 3) rfl sc_law_lowest.nd (zda_cons (zde_var 3) (zda_cons (zde_op od_mod (zde_var 2) (zde_var 3)) zda_nil)))))
    (zdss_cons (zds_if (zdt_cmp od_lt (zde_var 1) zde_int) (zdss_one (zds_set (i := 2) sc_law_lowest.nd (zde_op od_sub zde_int (zde_var 2)))) zdss_nil)
    (zdss_one (zds_ret (zde_tup (zda_cons (zde_op od_fdiv (zde_var 0) (zde_var 2)) (zda_cons (zde_op od_fdiv (zde_var 1) (zde_var 2)) zda_nil))))))))), ?_⟩
  refine dwhile_by (fun m ρ M' => M' = M ∧ ∃ x y : Int, ρ = [some (.int t), some (.int b), some (.int x), some (.int y)] ∧ m = y.natAbs ∧ 0 ≤ x ∧ 0 ≤ y ∧ Int.gcd x y = Int.gcd t b) _ ⟨rfl, _, _, rfl, rfl, by split <;> omega, by split <;> omega, by
    split <;> split <;> simp [Int.gcd_neg, Int.neg_gcd]⟩ ?_
  rintro m ρ M' ⟨rfl, x, y, rfl, rfl, hx, hy, g⟩
  refine dif (fun c => ?_) (fun c => ?_)
  · have hy' : y ≠ 0 := by omega
    exact ⟨hy', _, fmod_lt hy', rfl, y, x.fmod y, rfl, rfl, hy, Int.fmod_nonneg_of_pos _ (by omega), (gcd_fmod x y).trans g⟩
  · have hy' : y = 0 := by omega
    subst hy'
    have e : x = (Int.gcd t b : Int) := by rw [← g, Int.gcd_zero_right]; omega
    have fin : Q (.tup [.int (fT t b), .int (fB t b)]) M' := by rw [FQ_make hb]; exact q
    unfold fT fB at fin
    have s1 := sg_ne (t := t) hb
    have s2 := (hB.sg (t := t) hb).log (by decide)
    unfold sg at fin s1 s2
    refine dif (fun c => ?_) (fun c => ?_)
    · rw [if_pos c, ← e, ← Int.zero_sub] at fin s1 s2
      exact ⟨⟨s1, Nat.lt_succ_of_lt s2⟩, ⟨s1, Nat.lt_succ_of_lt s2⟩, by show (2 : Nat) ≤ 1000; decide, M', .refl _, fin⟩
    · rw [if_neg c, ← e] at fin s1 s2
      exact ⟨⟨s1, Nat.lt_succ_of_lt s2⟩, ⟨s1, Nat.lt_succ_of_lt s2⟩, by show (2 : Nat) ≤ 1000; decide, M', .refl _, fin⟩

def sp_law_small : DSp := sp_drawn 40000 3 (IsF 24)
theorem bd24 {x : Int} (h1 : -10000000 ≤ x) (h2 : x ≤ 10000000) : Bd 24 x := by unfold Bd; omega
theorem isF24_int {z : Int} (h1 : -10000000 ≤ z) (h2 : z ≤ 10000000) : IsF 24 (.tup [.int z, .int 1]) := ⟨z, (FQ_int z).symm, .int (bd24 h1 h2) (by decide)⟩
theorem isF24_div {t b : Int} (h0 : 0 < b) (h1 : -10000000 ≤ t) (h2 : t ≤ 10000000) (h3 : b ≤ 10000000) : IsF 24 (FQ ((t : Rat) / (b : Rat))) := ⟨_, rfl, .make (by omega) (bd24 h1 h2) (bd24 (by omega) h3)⟩
abbrev s_law_small : Stmt := top 20
theorem sc_law_small : FnScope ["_law_from", "_law_way"] ["_law_from"] (defScope s_law_small) := ⟨rfl, rfl, rfl, by decide +kernel, rfl, by decide +kernel, by decide +kernel⟩
theorem has_law_small (hF : HasF K mg "_law_small" s_law_small ["_law_from"]) (h_law_draw : Has P w K mg base 101 "_law_draw" ["_law_from", "_law_many"] sp_law_draw) (h_law_lowest : Has P w K mg base 101 "_law_lowest" ["_law_top", "_law_bottom"] sp_law_lowest) : Has P w K mg base 102 "_law_small" ["_law_from"] sp_law_small := by
  refine Has.mkZ hF sc_law_small drawn_len fun f cdv A outer s H ds M Q E hr h => ?_
  obtain ⟨a, n, rfl, fd, hn, q⟩ := h
  refine ⟨_, (zdss_cons (zds_set (i := 1) sc_law_small.nd (zde_callH h_law_draw hr (by decide) (zda_cons (zde_var 0) (zda_cons zde_int zda_nil))))
    (zdss_cons (zds_if (zdt_cmp od_lt (zde_var 1) zde_int) (zdss_one (zds_ret (zde_tup (zda_cons (zde_op od_sub (zde_callH h_law_draw hr (by decide) (zda_cons (zde_var 0) (zda_cons zde_int zda_nil))) zde_int) (zda_cons zde_int zda_nil))))) zdss_nil)
    (zdss_cons (zds_if (zdt_cmp od_lt (zde_var 1) zde_int) (zdss_one (zds_ret (zde_callH h_law_lowest hr (by decide) (zda_cons (zde_op od_sub (zde_callH h_law_draw hr (by decide) (zda_cons (zde_var 0) (zda_cons zde_int zda_nil))) zde_int) (zda_cons (zde_op od_add zde_int (zde_callH h_law_draw hr (by decide) (zda_cons (zde_var 0) (zda_cons zde_int zda_nil)))) zda_nil))))) zdss_nil)
    (zdss_one (zds_ret (zde_callH h_law_lowest hr (by decide) (zda_cons (zde_op od_sub (zde_callH h_law_draw hr (by decide) (zda_cons (zde_var 0) (zda_cons (zde_op od_mul zde_int (zde_op od_pow zde_int zde_int)) zda_nil))) (zde_op od_pow zde_int zde_int)) (zda_cons (zde_op od_add zde_int (zde_callH h_law_draw hr (by decide) (zda_cons (zde_var 0) (zda_cons (zde_op od_pow zde_int zde_int) zda_nil)))) zda_nil)))))))), ?_⟩
  refine ⟨a, 12, n, rfl, fd, by omega, by decide, bdk (by decide), fun way M1 w0 w1 fd1 av1 => dif (fun _ => ?_) (fun _ => ?_)⟩
  · refine ⟨a, 9, _, rfl, fd1, by omega, by decide, bdk (by decide), fun r M2 r0 r1 fd2 av2 => ?_⟩
    exact ⟨by show (2 : Nat) ≤ 1000; decide, M2, .refl _, q _ M2 (isF24_int (by omega) (by omega)) (fd2.mono (by omega)) (av1.trans av2)⟩
  refine dif (fun _ => ?_) (fun _ => ?_)
  · refine ⟨a, 41, _, rfl, fd1, by omega, by decide, bdk (by decide), fun r M2 r0 r1 fd2 av2 => ?_⟩
    refine ⟨a, 12, _, rfl, fd2, by omega, by decide, bdk (by decide), fun r' M3 s0 s1 fd3 av3 => ?_⟩
    exact ⟨_, _, rfl, by omega, (bd210 (by omega) (by omega)).mono (by decide), M3, .refl _, q _ M3 (isF24_div (by omega) (by omega) (by omega) (by omega)) (fd3.mono (by omega)) ((av1.trans av2).trans av3)⟩
  refine ⟨⟨by decide, by decide, by decide⟩, mulOkL (by unfold Bd; decide), a, _, _, rfl, fd1, by omega, by decide, bdk (by decide), fun r M2 r0 r1 fd2 av2 => ?_⟩
  have r1 : r < 2000000 := r1
  refine ⟨⟨by decide, by decide, by decide⟩, ⟨by decide, by decide, by decide⟩, a, _, _, rfl, fd2, by omega, by decide, bdk (by decide), fun r' M3 s0 s1 fd3 av3 => ?_⟩
  have s1 : r' < 10000 := s1
  have e : ((10 : Int) ^ Int.toNat 6) = 1000000 := by decide
  exact ⟨_, _, rfl, by omega, (bd210 (by omega) (by omega)).mono (by decide), M3, .refl _, q _ M3 (isF24_div (by omega) (by rw [e]; omega) (by rw [e]; omega) (by omega)) (fd3.mono (by omega)) ((av1.trans av2).trans av3)⟩
def sp_law_spot : DSp := sp_drawn 30000 6 (IsP 24)
abbrev s_law_spot : Stmt := top 21
theorem sc_law_spot : FnScope ["_law_from", "_law_x"] ["_law_from"] (defScope s_law_spot) := ⟨rfl, rfl, rfl, by decide +kernel, rfl, by decide +kernel, by decide +kernel⟩
theorem has_law_spot (hF : HasF K mg "_law_spot" s_law_spot ["_law_from"]) (h_law_small : Has P w K mg base 102 "_law_small" ["_law_from"] sp_law_small) : Has P w K mg base 103 "_law_spot" ["_law_from"] sp_law_spot := by
  refine Has.mkZ hF sc_law_spot drawn_len fun f cdv A outer s H ds M Q E hr h => ?_
  obtain ⟨a, n, rfl, fd, hn, q⟩ := h
  refine ⟨_, (zdss_cons (zds_set (i := 1) sc_law_spot.nd (zde_callH h_law_small hr (by decide) (zda_cons (zde_var 0) zda_nil)))
    (zdss_one (zds_ret (zde_tup (zda_cons (zde_var 1) (zda_cons (zde_callH h_law_small hr (by decide) (zda_cons (zde_var 0) zda_nil)) zda_nil)))))), ?_⟩
  refine ⟨a, _, rfl, fd, by omega, fun d M2 ⟨x, ex, hx⟩ fd2 av2 => ⟨a, _, rfl, fd2, by omega, fun d' M3 ⟨y, ey, hy⟩ fd3 av3 => ?_⟩⟩
  subst ex ey
  exact ⟨by show (2 : Nat) ≤ 1000; decide, M3, .refl _, q _ M3 ⟨x, y, rfl, hx, hy⟩ (fd3.mono (by omega)) (av2.trans av3)⟩

def zs (z : Int) (p r : Rat) : Rat := if z = 1 then p + r else p - r
theorem zs_one (p r : Rat) : zs 1 p r = p + r := rfl
theorem zs_neg (p r : Rat) : zs (-1) p r = p - r := rfl
def sp_law_sum : DSp := fun ds M Q => ∃ p r z m n, ds = [FQ p, FQ r, .int z] ∧ (z = 1 ∨ z = -1) ∧ BQ m p ∧ BQ n r ∧ m + n ≤ 8998 ∧ Q (FQ (zs z p r)) M
abbrev s_law_sum : Stmt := top 22
theorem sc_law_sum : FnScope ["_law_one", "_law_other", "_law_by"] ["_law_one", "_law_other", "_law_by"] (defScope s_law_sum) := ⟨rfl, rfl, rfl, by decide +kernel, rfl, by decide +kernel, by decide +kernel⟩
theorem has_law_sum (hF : HasF K mg "_law_sum" s_law_sum ["_law_one", "_law_other", "_law_by"]) (h_law_lowest : Has P w K mg base 101 "_law_lowest" ["_law_top", "_law_bottom"] sp_law_lowest) : Has P w K mg base 102 "_law_sum" ["_law_one", "_law_other", "_law_by"] sp_law_sum := by
  refine Has.mkZ hF sc_law_sum (fun ds M Q ⟨x, y, z, m, n, e, _⟩ => by rw [e]; rfl) fun f cdv A outer s H ds M Q E hr h => ?_
  obtain ⟨p, r, z, m, n, rfl, hz, h1, h2, l, q⟩ := h
  refine ⟨_, (zdss_one (zds_ret (zde_callH h_law_lowest hr (by decide) (zda_cons (zde_op od_add (zde_op od_mul (zde_ix (zde_var 0) zde_int) (zde_ix (zde_var 1) zde_int)) (zde_op od_mul (zde_op od_mul (zde_var 2) (zde_ix (zde_var 1) zde_int)) (zde_ix (zde_var 0) zde_int))) (zda_cons (zde_op od_mul (zde_ix (zde_var 0) zde_int) (zde_ix (zde_var 1) zde_int)) zda_nil))))), ?_⟩
  have hz' : Bd 1 z := by unfold Bd; rcases hz with rfl | rfl <;> decide
  refine ⟨mulOk h1.1 h2.2 (by omega), mulOk hz' h2.1 (by omega), mulOk (hz'.mul h2.1) h1.2 (by omega), mulOk h1.2 h2.2 (by omega), _, _, rfl, Int.mul_ne_zero (den_ne p) (den_ne r), (h1.2.mul h2.2).mono (by omega), M, .refl _, ?_⟩
  have e : (((p.num * r.den + z * r.num * p.den : Int)) : Rat) / ((p.den * r.den : Int) : Rat) = zs z p r := by
    rcases hz with rfl | rfl
    · rw [zs_one, ← addQ, Int.one_mul]
    · rw [zs_neg, ← subQ, show p.num * (r.den : Int) + -1 * r.num * p.den = p.num * r.den - r.num * p.den by grind]
  rw [e]
  exact q
theorem bq_zs {m n : Nat} {p r : Rat} {z : Int} (h : BQ m p) (h2 : BQ n r) : BQ (m + n + 1) (zs z p r) := by
  unfold Lw.zs
  split
  · exact h.add h2
  · exact h.sub h2
def sp_law_both : DSp := fun ds M Q => ∃ x y u v z m n, ds = [PQ x y, PQ u v, .int z] ∧ (z = 1 ∨ z = -1) ∧ BQ m x ∧ BQ m y ∧ BQ n u ∧ BQ n v ∧ m + n ≤ 8998 ∧ Q (PQ (zs z x u) (zs z y v)) M
abbrev s_law_both : Stmt := top 24
theorem sc_law_both : FnScope ["_law_p", "_law_q", "_law_by"] ["_law_p", "_law_q", "_law_by"] (defScope s_law_both) := ⟨rfl, rfl, rfl, by decide +kernel, rfl, by decide +kernel, by decide +kernel⟩
theorem has_law_both (hF : HasF K mg "_law_both" s_law_both ["_law_p", "_law_q", "_law_by"]) (h_law_sum : Has P w K mg base 102 "_law_sum" ["_law_one", "_law_other", "_law_by"] sp_law_sum) : Has P w K mg base 103 "_law_both" ["_law_p", "_law_q", "_law_by"] sp_law_both := by
  refine Has.mkZ hF sc_law_both (fun ds M Q ⟨x, y, u, v, z, m, n, e, _⟩ => by rw [e]; rfl) fun f cdv A outer s H ds M Q E hr h => ?_
  obtain ⟨x, y, u, v, z, m, n, rfl, hz, h1, h2, h3, h4, l, q⟩ := h
  refine ⟨_, (zdss_one (zds_ret (zde_tup (zda_cons (zde_callH h_law_sum hr (by decide) (zda_cons (zde_ix (zde_var 0) zde_int) (zda_cons (zde_ix (zde_var 1) zde_int) (zda_cons (zde_var 2) zda_nil)))) (zda_cons (zde_callH h_law_sum hr (by decide) (zda_cons (zde_ix (zde_var 0) zde_int) (zda_cons (zde_ix (zde_var 1) zde_int) (zda_cons (zde_var 2) zda_nil)))) zda_nil))))), ?_⟩
  exact ⟨x, u, z, _, _, rfl, hz, h1, h3, l, y, v, z, _, _, rfl, hz, h2, h4, l, by show (2 : Nat) ≤ 1000; decide, M, .refl _, q⟩

def sp_law_product : DSp := sp_times
abbrev s_law_product : Stmt := top 23
theorem sc_law_product : FnScope ["_law_one", "_law_other"] ["_law_one", "_law_other"] (defScope s_law_product) := ⟨rfl, rfl, rfl, by decide +kernel, rfl, by decide +kernel, by decide +kernel⟩
theorem has_law_product (hF : HasF K mg "_law_product" s_law_product ["_law_one", "_law_other"]) (h_law_lowest : Has P w K mg base 101 "_law_lowest" ["_law_top", "_law_bottom"] sp_law_lowest) : Has P w K mg base 102 "_law_product" ["_law_one", "_law_other"] sp_law_product := by
  refine Has.mkZ hF sc_law_product two_len fun f cdv A outer s H ds M Q E hr h => ?_
  obtain ⟨p, r, m, n, rfl, _, h1, h2, l, q⟩ := h
  refine ⟨_, (zdss_one (zds_ret (zde_callH h_law_lowest hr (by decide) (zda_cons (zde_op od_mul (zde_ix (zde_var 0) zde_int) (zde_ix (zde_var 1) zde_int)) (zda_cons (zde_op od_mul (zde_ix (zde_var 0) zde_int) (zde_ix (zde_var 1) zde_int)) zda_nil))))), ?_⟩
  exact ⟨mulOk h1.1 h2.1 (by omega), mulOk h1.2 h2.2 (by omega), _, _, rfl, Int.mul_ne_zero (den_ne p) (den_ne r), (h1.2.mul h2.2).mono (by omega), M, .refl _, by rw [mulQ]; exact q⟩

theorem uuQ (t : Rat) : (((t.den * t.den - t.num * t.num : Int)) : Rat) / ((t.den * t.den + t.num * t.num : Int) : Rat) = uu t := by
  have k1 := denR t
  have k2 := one_sq t
  have e1 := num_eq t
  rw [Rat.intCast_sub, Rat.intCast_add, Rat.intCast_mul, Rat.intCast_mul, e1]
  unfold uu
  grind
theorem vvQ (t : Rat) : (((2 * t.num * t.den : Int)) : Rat) / ((t.den * t.den + t.num * t.num : Int) : Rat) = vv t := by
  have k1 := denR t
  have k2 := one_sq t
  have e1 := num_eq t
  rw [Rat.intCast_add, Rat.intCast_mul, Rat.intCast_mul, Rat.intCast_mul, Rat.intCast_mul, e1]
  unfold vv
  grind
theorem whole_pos (t : Rat) : 0 < (t.den : Int) * t.den + t.num * t.num := by
  have h1 := Int.mul_pos (den_pos t) (den_pos t)
  have h2 : 0 ≤ t.num * t.num := by
    rcases Int.le_total 0 t.num with h | h
    · exact Int.mul_nonneg h h
    · exact Int.mul_nonneg_of_nonpos_of_nonpos h h
  omega
theorem bq_u {n : Nat} {t : Rat} (h : BQ n t) : BQ (n + n + 1) (uu t) := by
  rw [← uuQ]
  exact .make (by have := whole_pos t; omega) ((h.2.mul h.2).sub (h.1.mul h.1)) ((h.2.mul h.2).add (h.1.mul h.1))
theorem bq_v {n : Nat} {t : Rat} (h : BQ n t) : BQ (n + n + 2) (vv t) := by
  rw [← vvQ]
  have h2 : Bd 2 2 := by unfold Bd; decide
  exact .make (by have := whole_pos t; omega) (((h2.mul h.1).mul h.2).mono (by omega)) (((h.2.mul h.2).add (h.1.mul h.1)).mono (by omega))
def sp_law_at_share : DSp := sp_at_share
abbrev s_law_at_share : Stmt := top 27
theorem sc_law_at_share : FnScope ["_law_c", "_law_a", "_law_t", "_law_top", "_law_bottom", "_law_whole_here", "_law_u", "_law_v", "_law_x", "_law_y", "_law_way"] ["_law_c", "_law_a", "_law_t"] (defScope s_law_at_share) := ⟨rfl, rfl, rfl, by decide +kernel, rfl, by decide +kernel, by decide +kernel⟩
theorem has_law_at_share (hF : HasF K mg "_law_at_share" s_law_at_share ["_law_c", "_law_a", "_law_t"]) (h_law_lowest : Has P w K mg base 101 "_law_lowest" ["_law_top", "_law_bottom"] sp_law_lowest) (h_law_sum : Has P w K mg base 102 "_law_sum" ["_law_one", "_law_other", "_law_by"] sp_law_sum) (h_law_product : Has P w K mg base 102 "_law_product" ["_law_one", "_law_other"] sp_law_product) (h_law_both : Has P w K mg base 103 "_law_both" ["_law_p", "_law_q", "_law_by"] sp_law_both) : Has P w K mg base 104 "_law_at_share" ["_law_c", "_law_a", "_law_t"] sp_law_at_share := by
  refine Has.mkZ hF sc_law_at_share (fun ds M Q ⟨x, y, u, v, t, e, _⟩ => by rw [e]; rfl) fun f cdv A outer s H ds M Q E hr h => ?_
  obtain ⟨cx, cy, ax, ay, t, rfl, h1, h2, h3, h4, h5, q⟩ := h
  refine ⟨_, (zdss_cons (zds_asg (zde_var 2) (zdg_unp (n := 2) rfl (zdgs_cons (zdg_name (i := 3) sc_law_at_share.nd) (zdgs_cons (zdg_name (i := 4) sc_law_at_share.nd) zdgs_nil))))
    (zdss_cons (zds_set (i := 5) sc_law_at_share.nd (zde_op od_add (zde_op od_mul (zde_var 4) (zde_var 4)) (zde_op od_mul (zde_var 3) (zde_var 3))))
    (zdss_cons (zds_set (i := 6) sc_law_at_share.nd (zde_callH h_law_lowest hr (by decide) (zda_cons (zde_op od_sub (zde_op od_mul (zde_var 4) (zde_var 4)) (zde_op od_mul (zde_var 3) (zde_var 3))) (zda_cons (zde_var 5) zda_nil))))
    (zdss_cons (zds_set (i := 7) sc_law_at_share.nd (zde_callH h_law_lowest hr (by decide) (zda_cons (zde_op od_mul (zde_op od_mul zde_int (zde_var 3)) (zde_var 4)) (zda_cons (zde_var 5) zda_nil))))
    (zdss_cons (zds_asg (zde_callH h_law_both hr (by decide) (zda_cons (zde_var 1) (zda_cons (zde_var 0) (zda_cons (zde_neg zde_int) zda_nil)))) (zdg_unp (n := 2) rfl (zdgs_cons (zdg_name (i := 8) sc_law_at_share.nd) (zdgs_cons (zdg_name (i := 9) sc_law_at_share.nd) zdgs_nil))))
    (zdss_cons (zds_set (i := 10) sc_law_at_share.nd (zde_tup (zda_cons (zde_callH h_law_sum hr (by decide) (zda_cons (zde_callH h_law_product hr (by decide) (zda_cons (zde_var 6) (zda_cons (zde_var 8) zda_nil))) (zda_cons (zde_callH h_law_product hr (by decide) (zda_cons (zde_var 7) (zda_cons (zde_var 9) zda_nil))) (zda_cons (zde_neg zde_int) zda_nil)))) (zda_cons (zde_callH h_law_sum hr (by decide) (zda_cons (zde_callH h_law_product hr (by decide) (zda_cons (zde_var 7) (zda_cons (zde_var 8) zda_nil))) (zda_cons (zde_callH h_law_product hr (by decide) (zda_cons (zde_var 6) (zda_cons (zde_var 9) zda_nil))) (zda_cons zde_int zda_nil)))) zda_nil))))
    (zdss_one (zds_ret (zde_callH h_law_both hr (by decide) (zda_cons (zde_var 0) (zda_cons (zde_var 10) (zda_cons zde_int zda_nil)))))))))))), ?_⟩
  decreasing_tactic
  have hw := whole_pos t
  have bw : Bd 421 ((t.den : Int) * t.den + t.num * t.num) := (h5.2.mul h5.2).add (h5.1.mul h5.1)
  have b2 : Bd 2 2 := by unfold Bd; decide
  refine ⟨rfl, mulOk h5.2 h5.2, mulOk h5.1 h5.1, mulOk h5.2 h5.2, mulOk h5.1 h5.1, _, _, rfl, by omega, bw.mono (by decide), mulOk b2 h5.1, mulOk (b2.mul h5.1) h5.2, _, _, rfl, by omega, bw.mono (by decide), ?_⟩
  rw [uuQ, vvQ]
  decreasing_tactic
  have bu : BQ 421 (uu t) := bq_u h5
  have bv : BQ 422 (vv t) := bq_v h5
  have bx : BQ 401 (zs (-1) ax cx) := bq_zs h3 h1
  have bY : BQ 401 (zs (-1) ay cy) := bq_zs h4 h2
  refine ⟨ax, ay, cx, cy, -1, _, _, rfl, .inr rfl, h3, h4, h1, h2, by decide, ?_⟩
  decreasing_tactic
  refine ⟨rfl, ?_⟩
  refine ⟨uu t, _, _, _, rfl, trivial, bu, bx, by decide, vv t, _, _, _, rfl, trivial, bv, bY, by decide, _, _, _, _, _, rfl, .inr rfl, bu.mul bx, bv.mul bY, by decide, ?_⟩
  decreasing_tactic
  refine ⟨vv t, _, _, _, rfl, trivial, bv, bx, by decide, uu t, _, _, _, rfl, trivial, bu, bY, by decide, _, _, _, _, _, rfl, .inl rfl, bv.mul bx, bu.mul bY, by decide, by decide, ?_⟩
  decreasing_tactic
  exact ⟨cx, cy, rotX t (ax - cx) (ay - cy), rotY t (ax - cx) (ay - cy), 1, _, _, rfl, .inl rfl, h1, h2, ((bu.mul bx).sub (bv.mul bY)).mono (by decide : _ ≤ 2000), ((bv.mul bx).add (bu.mul bY)).mono (by decide : _ ≤ 2000), by decide, M, .refl _, q⟩
def sp_law_share : DSp := sp_drawn 40000 3 (IsF 24)
abbrev s_law_share : Stmt := top 30
theorem sc_law_share : FnScope ["_law_from", "_law_way"] ["_law_from"] (defScope s_law_share) := ⟨rfl, rfl, rfl, by decide +kernel, rfl, by decide +kernel, by decide +kernel⟩
theorem has_law_share (hF : HasF K mg "_law_share" s_law_share ["_law_from"]) (h_law_draw : Has P w K mg base 101 "_law_draw" ["_law_from", "_law_many"] sp_law_draw) (h_law_lowest : Has P w K mg base 101 "_law_lowest" ["_law_top", "_law_bottom"] sp_law_lowest) : Has P w K mg base 102 "_law_share" ["_law_from"] sp_law_share := by
  refine Has.mkZ hF sc_law_share drawn_len fun f cdv A outer s H ds M Q E hr h => ?_
  obtain ⟨a, n, rfl, fd, hn, q⟩ := h
  refine ⟨_, (zdss_cons (zds_set (i := 1) sc_law_share.nd (zde_callH h_law_draw hr (by decide) (zda_cons (zde_var 0) (zda_cons zde_int zda_nil))))
    (zdss_cons (zds_if (zdt_cmp (od_eq hr) (zde_var 1) zde_int) (zdss_one (zds_ret (zde_ix (zde_lst (zda_cons (zde_tup (zda_cons zde_int (zda_cons zde_int zda_nil))) (zda_cons (zde_tup (zda_cons zde_int (zda_cons zde_int zda_nil))) (zda_cons (zde_tup (zda_cons (zde_neg zde_int) (zda_cons zde_int zda_nil))) (zda_cons (zde_tup (zda_cons zde_int (zda_cons zde_int zda_nil))) (zda_cons (zde_tup (zda_cons (zde_neg zde_int) (zda_cons zde_int zda_nil))) zda_nil)))))) (zde_callH h_law_draw hr (by decide) (zda_cons (zde_var 0) (zda_cons zde_int zda_nil)))))) zdss_nil)
    (zdss_cons (zds_if (zdt_cmp (od_eq hr) (zde_var 1) zde_int) (zdss_one (zds_ret (zde_callH h_law_lowest hr (by decide) (zda_cons (zde_op od_sub (zde_callH h_law_draw hr (by decide) (zda_cons (zde_var 0) (zda_cons zde_int zda_nil))) zde_int) (zda_cons (zde_op od_add zde_int (zde_callH h_law_draw hr (by decide) (zda_cons (zde_var 0) (zda_cons zde_int zda_nil)))) zda_nil))))) zdss_nil)
    (zdss_one (zds_ret (zde_callH h_law_lowest hr (by decide) (zda_cons (zde_op od_sub (zde_callH h_law_draw hr (by decide) (zda_cons (zde_var 0) (zda_cons (zde_op od_mul zde_int (zde_op od_pow zde_int zde_int)) zda_nil))) (zde_op od_pow zde_int zde_int)) (zda_cons (zde_op od_add zde_int (zde_callH h_law_draw hr (by decide) (zda_cons (zde_var 0) (zda_cons (zde_op od_pow zde_int zde_int) zda_nil)))) zda_nil)))))))), ?_⟩
  decreasing_tactic
  refine ⟨a, 4, n, rfl, fd, by omega, by decide, bdk (by decide), fun way M1 w0 w1 fd1 av1 => ⟨rfl, rfl, bcase (fun _ => ?_) (fun _ => ⟨rfl, rfl, bcase (fun _ => ?_) (fun _ => ?_)⟩)⟩⟩
  · decreasing_tactic
    refine ⟨by show (2 : Nat) ≤ 1000; decide, by show (2 : Nat) ≤ 1000; decide, by show (2 : Nat) ≤ 1000; decide, by show (2 : Nat) ≤ 1000; decide, by show (2 : Nat) ≤ 1000; decide, by show (5 : Nat) ≤ 1000; decide, fun pl hpl => ?_⟩
    have hap : a ≠ pl := by
      obtain ⟨c, k, f, e, _⟩ := fd1
      exact ne_of_noneM e hpl
    have fdp : FdN (putM M1 pl [.tup [.int 0, .int 1], .tup [.int 1, .int 1], .tup [.int (-1), .int 1], .tup [.int 1, .int 2], .tup [.int (-2), .int 1]]) a (n + 1) := by
      obtain ⟨c, k, f, e, k0, k1⟩ := fd1
      exact ⟨c, k, f, by rw [putM_ne hap]; exact e, k0, k1⟩
    refine ⟨a, 5, _, rfl, fdp, by omega, by decide, bdk (by decide), fun r M2 r0 r1 fd2 av2 => ?_⟩
    decreasing_tactic
    have hl : M2 pl = some [.tup [.int 0, .int 1], .tup [.int 1, .int 1], .tup [.int (-1), .int 1], .tup [.int 1, .int 2], .tup [.int (-2), .int 1]] := by rw [av2 pl (Ne.symm hap)]; exact putM_same
    -- the list is forgotten
    have fdn : FdN (delM M2 pl) a (n + 3) := by
      obtain ⟨c, k, f, e, k0, k1⟩ := fd2
      exact ⟨c, k, f, by rw [delM_ne hap]; exact e, k0, by omega⟩
    have hpM : M pl = none := by rw [← av1 pl (Ne.symm hap)]; exact hpl
    have avn : Adv M (delM M2 pl) a := fun b hb => by
      by_cases z : b = pl
      · subst z; rw [delM_same, hpM]
      · rw [delM_ne z, av2 b hb, putM_ne z]; exact av1 b hb
    have fin : ∀ d, IsF 24 d → Dn Q d M2 := fun d h => ⟨_, delM_sub _ _, q d _ h fdn avn⟩
    have k : r = 0 ∨ r = 1 ∨ r = 2 ∨ r = 3 ∨ r = 4 := by omega
    rcases k with rfl | rfl | rfl | rfl | rfl
    · exact ⟨_, _, hl, rfl, fin _ (isF24_int (by decide) (by decide))⟩
    · exact ⟨_, _, hl, rfl, fin _ (isF24_int (by decide) (by decide))⟩
    · exact ⟨_, _, hl, rfl, fin _ (isF24_int (by decide) (by decide))⟩
    · exact ⟨_, _, hl, rfl, fin _ ⟨(⟨1, 2, by decide, by decide⟩ : Rat), rfl, ⟨by show (1 : Int).natAbs < 2 ^ 24; decide, by show ((2 : Nat) : Int).natAbs < 2 ^ 24; decide⟩⟩⟩
    · exact ⟨_, _, hl, rfl, fin _ (isF24_int (by decide) (by decide))⟩
  · refine ⟨a, 41, _, rfl, fd1, by omega, by decide, bdk (by decide), fun r M2 r0 r1 fd2 av2 => ?_⟩
    refine ⟨a, 12, _, rfl, fd2, by omega, by decide, bdk (by decide), fun r' M3 s0 s1 fd3 av3 => ?_⟩
    exact ⟨_, _, rfl, by omega, (bd210 (by omega) (by omega)).mono (by decide), M3, .refl _, q _ M3 (isF24_div (by omega) (by omega) (by omega) (by omega)) (fd3.mono (by omega)) ((av1.trans av2).trans av3)⟩
  · refine ⟨⟨by decide, by decide, by decide⟩, mulOkL (by unfold Bd; decide), a, _, _, rfl, fd1, by omega, by decide, bdk (by decide), fun r M2 r0 r1 fd2 av2 => ?_⟩
    have r1 : r < 2000 := r1
    refine ⟨⟨by decide, by decide, by decide⟩, ⟨by decide, by decide, by decide⟩, a, _, _, rfl, fd2, by omega, by decide, bdk (by decide), fun r' M3 s0 s1 fd3 av3 => ?_⟩
    have s1 : r' < 1000 := s1
    have e : ((10 : Int) ^ Int.toNat 3) = 1000 := by decide
    exact ⟨_, _, rfl, by omega, (bd210 (by omega) (by omega)).mono (by decide), M3, .refl _, q _ M3 (isF24_div (by omega) (by rw [e]; omega) (by rw [e]; omega) (by omega)) (fd3.mono (by omega)) ((av1.trans av2).trans av3)⟩
theorem bq0 : BQ 24 0 := ⟨by show (0 : Int).natAbs < 2 ^ 24; decide, by show ((1 : Nat) : Int).natAbs < 2 ^ 24; decide⟩
def IsS (d : D) : Prop := ∃ cx cy x y, d = .tup [PQ cx cy, PQ (cx + x) (cy + y)] ∧ BQ 24 cx ∧ BQ 24 cy ∧ BQ 24 x ∧ BQ 24 y ∧ ¬ (x = 0 ∧ y = 0)
def sp_law_start_here : DSp := sp_drawn 20000 12 IsS
abbrev s_law_start_here : Stmt := top 31
theorem sc_law_start_here : FnScope ["_law_from", "_law_c", "_law_way"] ["_law_from"] (defScope s_law_start_here) := ⟨rfl, rfl, rfl, by decide +kernel, rfl, by decide +kernel, by decide +kernel⟩
theorem has_law_start_here (hF : HasF K mg "_law_start_here" s_law_start_here ["_law_from"]) (h_law_spot : Has P w K mg base 103 "_law_spot" ["_law_from"] sp_law_spot) (h_law_both : Has P w K mg base 103 "_law_both" ["_law_p", "_law_q", "_law_by"] sp_law_both) : Has P w K mg base 104 "_law_start_here" ["_law_from"] sp_law_start_here := by
  refine Has.mkZ hF sc_law_start_here drawn_len fun f cdv A outer s H ds M Q E hr h => ?_
  obtain ⟨a, n, rfl, fd, hn, q⟩ := h
  refine ⟨_, (zdss_cons (zds_set (i := 1) sc_law_start_here.nd (zde_callH h_law_spot hr (by decide) (zda_cons (zde_var 0) zda_nil)))
    (zdss_cons (zds_set (i := 2) sc_law_start_here.nd (zde_callH h_law_spot hr (by decide) (zda_cons (zde_var 0) zda_nil)))
    (zdss_cons (zds_if (zdt_cmp (od_eq hr) (zde_var 2) (zde_tup (zda_cons (zde_tup (zda_cons zde_int (zda_cons zde_int zda_nil))) (zda_cons (zde_tup (zda_cons zde_int (zda_cons zde_int zda_nil))) zda_nil)))) (zdss_one (zds_set (i := 2) sc_law_start_here.nd (zde_tup (zda_cons (zde_tup (zda_cons zde_int (zda_cons zde_int zda_nil))) (zda_cons (zde_tup (zda_cons zde_int (zda_cons zde_int zda_nil))) zda_nil))))) zdss_nil)
    (zdss_one (zds_ret (zde_tup (zda_cons (zde_var 1) (zda_cons (zde_callH h_law_both hr (by decide) (zda_cons (zde_var 1) (zda_cons (zde_var 2) (zda_cons zde_int zda_nil)))) zda_nil)))))))), ?_⟩
  decreasing_tactic
  refine ⟨a, _, rfl, fd, by omega, fun d M2 ⟨cx, cy, ec, hcx, hcy⟩ fd2 av2 => ⟨a, _, rfl, fd2, by omega, fun d' M3 ⟨x, y, ew, hx, hy⟩ fd3 av3 => ?_⟩⟩
  subst ec ew
  refine ⟨by show (2 : Nat) ≤ 1000; decide, by show (2 : Nat) ≤ 1000; decide, by show (2 : Nat) ≤ 1000; decide, rfl, rfl, bcase (fun c => ?_) (fun c => ?_)⟩
  · refine ⟨by show (2 : Nat) ≤ 1000; decide, by show (2 : Nat) ≤ 1000; decide, by show (2 : Nat) ≤ 1000; decide, cx, cy, 1, 0, 1, 24, 24, rfl, .inl rfl, hcx, hcy, bq1.mono (by decide), bq0, by decide, by show (2 : Nat) ≤ 1000; decide, M3, .refl _, q _ M3 ⟨cx, cy, 1, 0, rfl, hcx, hcy, bq1.mono (by decide), bq0, fun z => absurd z.1 (by decide)⟩ (fd3.mono (by omega)) (av2.trans av3)⟩
  · refine ⟨cx, cy, x, y, 1, 24, 24, rfl, .inl rfl, hcx, hcy, hx, hy, by decide, by show (2 : Nat) ≤ 1000; decide, M3, .refl _, q _ M3 ⟨cx, cy, x, y, rfl, hcx, hcy, hx, hy, ?_⟩ (fd3.mono (by omega)) (av2.trans av3)⟩
    rintro ⟨rfl, rfl⟩
    exact absurd c (by decide)

def sp_law_along : DSp := sp_dot_product
abbrev s_law_along : Stmt := top 25
theorem sc_law_along : FnScope ["_law_p", "_law_q"] ["_law_p", "_law_q"] (defScope s_law_along) := ⟨rfl, rfl, rfl, by decide +kernel, rfl, by decide +kernel, by decide +kernel⟩
theorem has_law_along (hF : HasF K mg "_law_along" s_law_along ["_law_p", "_law_q"]) (h_law_sum : Has P w K mg base 102 "_law_sum" ["_law_one", "_law_other", "_law_by"] sp_law_sum) (h_law_product : Has P w K mg base 102 "_law_product" ["_law_one", "_law_other"] sp_law_product) : Has P w K mg base 103 "_law_along" ["_law_p", "_law_q"] sp_law_along := by
  refine Has.mkZ hF sc_law_along (fun ds M Q ⟨x, y, u, v, e, _⟩ => by rw [e]; rfl) fun f cdv A outer s H ds M Q E hr h => ?_
  obtain ⟨x, y, u, v, rfl, m, n, h1, h2, h3, h4, l, q⟩ := h
  refine ⟨_, (zdss_one (zds_ret (zde_callH h_law_sum hr (by decide) (zda_cons (zde_callH h_law_product hr (by decide) (zda_cons (zde_ix (zde_var 0) zde_int) (zda_cons (zde_ix (zde_var 1) zde_int) zda_nil))) (zda_cons (zde_callH h_law_product hr (by decide) (zda_cons (zde_ix (zde_var 0) zde_int) (zda_cons (zde_ix (zde_var 1) zde_int) zda_nil))) (zda_cons zde_int zda_nil)))))), ?_⟩
  decreasing_tactic
  exact ⟨x, u, _, _, rfl, trivial, h1, h3, by omega, y, v, _, _, rfl, trivial, h2, h4, by omega, _, _, _, _, _, rfl, .inl rfl, h1.mul h3, h2.mul h4, by omega, M, .refl _, q⟩
def OnC (cx cy x y : Rat) (d : D) : Prop := ∃ p q, d = PQ (cx + p) (cy + q) ∧ p * p + q * q = x * x + y * y ∧ BQ 200 (cx + p) ∧ BQ 200 (cy + q)
theorem opp_eq (c x : Rat) : zs (-1) (zs 1 c c) (c + x) = c + -x := by rw [zs_one, zs_neg]; grind
def sp_law_some : DSp := fun ds M Q => ∃ a n cx cy x y many, ds = [.ref a, PQ cx cy, PQ (cx + x) (cy + y), .int many] ∧ 0 ≤ many ∧ many ≤ 10 ∧ BQ 24 cx ∧ BQ 24 cy ∧ BQ 24 x ∧ BQ 24 y ∧ FdN M a n ∧ n ≤ 20000 ∧
  ∀ p M' es, M p = none → M' p = some es → es.length = many.toNat → (∀ d ∈ es, OnC cx cy x y d) → FdN M' a (n + 40) → (∀ b, b ≠ a → b ≠ p → M' b = M b) → Q (.ref p) M'
abbrev s_law_some : Stmt := top 32
theorem sc_law_some : FnScope ["_law_from", "_law_c", "_law_a", "_law_many", "_law_found", "_law_k", "_law_p"] ["_law_from", "_law_c", "_law_a", "_law_many"] (defScope s_law_some) := ⟨rfl, rfl, rfl, by decide +kernel, rfl, by decide +kernel, by decide +kernel⟩
theorem has_law_some (hF : HasF K mg "_law_some" s_law_some ["_law_from", "_law_c", "_law_a", "_law_many"]) (h_law_at_share : Has P w K mg base 104 "_law_at_share" ["_law_c", "_law_a", "_law_t"] sp_law_at_share) (h_law_share : Has P w K mg base 102 "_law_share" ["_law_from"] sp_law_share) (h_law_draw : Has P w K mg base 101 "_law_draw" ["_law_from", "_law_many"] sp_law_draw) (h_law_both : Has P w K mg base 103 "_law_both" ["_law_p", "_law_q", "_law_by"] sp_law_both) (n_range : mg "range" = none) : Has P w K mg base 105 "_law_some" ["_law_from", "_law_c", "_law_a", "_law_many"] sp_law_some := by
  refine Has.mkZ hF sc_law_some (fun ds M Q ⟨a, n, x, y, u, v, m, e, _⟩ => by rw [e]; rfl) fun f cdv A outer s H ds M Q E hr h => ?_
  obtain ⟨a, n, cx, cy, x, y, many, rfl, m0, m1, h1, h2, h3, h4, fd, hn, q⟩ := h
  refine ⟨_, (zdss_cons (zds_set (i := 4) sc_law_some.nd (zde_lst zda_nil))
    (zdss_cons (zds_for1 PassesOwn.never rfl n_range (zda_cons (zde_var 3) zda_nil) (zdg_name (i := 5) sc_law_some.nd) (zdss_cons (zds_set (i := 6) sc_law_some.nd (zde_callH h_law_at_share hr (by decide) (zda_cons (zde_var 1) (zda_cons (zde_var 2) (zda_cons (zde_callH h_law_share hr (by decide) (zda_cons (zde_var 0) zda_nil)) zda_nil)))))
    (zdss_cons (zds_if (zdt_cmp (od_eq hr) (zde_callH h_law_draw hr (by decide) (zda_cons (zde_var 0) (zda_cons zde_int zda_nil))) zde_int) (zdss_one (zds_set (i := 6) sc_law_some.nd (zde_callH h_law_both hr (by decide) (zda_cons (zde_callH h_law_both hr (by decide) (zda_cons (zde_var 1) (zda_cons (zde_var 1) (zda_cons zde_int zda_nil)))) (zda_cons (zde_var 2) (zda_cons (zde_neg zde_int) zda_nil)))))) zdss_nil)
    (zdss_one (zds_expr (zde_append (zde_var 4) (zde_var 6)))))))
    (zdss_one (zds_ret (zde_var 4))))), ?_⟩
  decreasing_tactic
  have ex : cx + x - cx = x := by grind
  have ey : cy + y - cy = y := by grind
  have bax : BQ 49 (cx + x) := h1.add h3
  have bay : BQ 49 (cy + y) := h2.add h4
  refine ⟨by decide, fun p hp => ⟨⟨by omega, by omega⟩, ?_⟩⟩
  have hap : a ≠ p := by obtain ⟨c, k, f, e, _⟩ := fd; exact ne_of_noneM e hp
  refine ⟨fun i ρ M' => (∃ es, M' p = some es ∧ es.length = i ∧ ∀ d ∈ es, OnC cx cy x y d) ∧ FdN M' a (n + 4 * i) ∧ (∀ b, b ≠ a → b ≠ p → M' b = M b) ∧ ∃ o1 o2, ρ = [some (.ref a), some (PQ cx cy), some (PQ (cx + x) (cy + y)), some (.int many), some (.ref p), o1, o2], ⟨⟨[], putM_same, rfl, fun d hd => nomatch hd⟩, ?_, fun b _ hb => putM_ne hb, _, _, rfl⟩, ?_, ?_⟩
  · obtain ⟨c, k, f, e, k0, k1⟩ := fd
    exact ⟨c, k, f, by rw [putM_ne hap]; exact e, k0, by omega⟩
  · rintro i ρ M1 hi ⟨⟨es, g1, g2, g3⟩, fd1, oth, o1, o2, rfl⟩
    decreasing_tactic
    refine ⟨a, _, rfl, fd1, by omega, fun d M2 ⟨t, et, ht⟩ fd2 av2 => ?_⟩
    subst et
    refine ⟨cx, cy, cx + x, cy + y, t, rfl, h1.mono (by decide), h2.mono (by decide), bax.mono (by decide), bay.mono (by decide), ht.mono (by decide), ?_⟩
    rw [ex, ey]
    decreasing_tactic
    refine ⟨a, 6, _, rfl, fd2, by omega, by decide, bdk (by decide), fun r M3 r0 r1 fd3 av3 => ?_⟩
    simp_arith
    have gp : M3 p = some es := by rw [av3 p (Ne.symm hap), av2 p (Ne.symm hap)]; exact g1
    have fin : ∀ d, OnC cx cy x y d → ∀ o1, (∃ es', putM M3 p (es ++ [d]) p = some es' ∧ es'.length = i + 1 ∧ ∀ d ∈ es', OnC cx cy x y d) ∧ FdN (putM M3 p (es ++ [d])) a (n + 4 * (i + 1)) ∧ (∀ b, b ≠ a → b ≠ p → putM M3 p (es ++ [d]) b = M b) ∧ ∃ o1' o2', [some (.ref a), some (PQ cx cy), some (PQ (cx + x) (cy + y)), some (.int many), some (.ref p), o1, some d] = [some (.ref a), some (PQ cx cy), some (PQ (cx + x) (cy + y)), some (.int many), some (.ref p), o1', o2'] := fun d hd o1 => by
      refine ⟨⟨_, putM_same, by rw [List.length_append, g2]; rfl, fun e he => ?_⟩, ?_, fun b b1 b2 => ?_, _, _, rfl⟩
      · rcases List.mem_append.mp he with z | z
        · exact g3 e z
        · rw [List.mem_singleton.mp z]; exact hd
      · obtain ⟨c, k, f, e, k0, k1⟩ := fd3
        exact ⟨c, k, f, by rw [putM_ne hap]; exact e, k0, by omega⟩
      · rw [putM_ne b2, av3 b b1, av2 b b1]; exact oth b b1 b2
    have bu : BQ 49 (uu t) := bq_u ht
    have bv : BQ 50 (vv t) := bq_v ht
    by_cases c : r = 0
    · rw [if_pos c]
      refine ⟨cx, cy, cx, cy, 1, _, _, rfl, .inl rfl, h1, h2, h1, h2, by decide, _, _, cx + x, cy + y, -1, _, _, rfl, .inr rfl, h1.add h1, h2.add h2, bax, bay, by decide, ?_⟩
      rw [opp_eq, opp_eq]
      decreasing_tactic
      exact ⟨⟨_, gp⟩, _, _, rfl, gp, by omega, fin _ ⟨-x, -y, rfl, by grind, (h1.add h3.neg).mono (by decide), (h2.add h4.neg).mono (by decide)⟩ _⟩
    · rw [if_neg c]
      decreasing_tactic
      exact ⟨⟨_, gp⟩, _, _, rfl, gp, by omega, fin _ ⟨_, _, rfl, rot_on t x y, (h1.add ((bu.mul h3).sub (bv.mul h4))).mono (by decide), (h2.add ((bv.mul h3).add (bu.mul h4))).mono (by decide)⟩ _⟩
  · rintro ρ M1 ⟨⟨es, g1, g2, g3⟩, fd1, oth, o1, o2, rfl⟩
    decreasing_tactic
    exact ⟨M1, .refl _, q p M1 es hp g1 g2 g3 (fd1.mono (by omega)) oth⟩

theorem fdn_put {M : DM} {a p : Addr} {n : Nat} {L : List D} (h : FdN M a n) (hp : M p = none) : FdN (putM M p L) a n := by
  obtain ⟨c, k, f, e, k0, k1⟩ := h
  exact ⟨c, k, f, by rw [putM_ne (ne_of_noneM e hp)]; exact e, k0, k1⟩
theorem fdn_ne {M : DM} {a p : Addr} {n : Nat} (h : FdN M a n) (hp : M p = none) : a ≠ p := by
  obtain ⟨c, k, f, e, k0, k1⟩ := h
  exact ne_of_noneM e hp

theorem farS_zero {cx cy px py qx qy : Rat} : farS cx cy px py qx qy = 0 ↔ far2 cx cy px py = far2 cx cy qx qy := by
  unfold farS
  by_cases c : far2 cx cy qx qy < far2 cx cy px py
  · rw [if_pos c]
    exact ⟨fun z => absurd z (by decide), fun z => by rw [z] at c; exact absurd c Rat.lt_irrefl⟩
  · rw [if_neg c]
    by_cases d : far2 cx cy px py = far2 cx cy qx qy
    · rw [if_pos d]; exact ⟨fun _ => d, fun _ => rfl⟩
    · rw [if_neg d]; exact ⟨fun z => absurd z (by decide), fun z => absurd z d⟩
def NoA (cx cy px py qx qy : Rat) : Prop := far2 cx cy px py ≠ far2 cx cy qx qy ∨ (px = cx ∧ py = cy)
instance {cx cy px py qx qy : Rat} : Decidable (NoA cx cy px py qx qy) := by unfold NoA; infer_instance
def madeD (cx cy px py qx qy : Rat) : D := if px = qx ∧ py = qy then .tup [.str "ring", PQ cx cy, PQ px py] else .tup [.str "arc", PQ cx cy, PQ px py, PQ qx qy]
def resD (cx cy px py qx qy : Rat) : D := if NoA cx cy px py qx qy then .tup [.str "refused", .bl true] else madeD cx cy px py qx qy
theorem far_self {cx cy px py : Rat} : far2 cx cy px py = 0 ↔ px = cx ∧ py = cy := by
  unfold far2
  constructor
  · intro h
    have h1 := sq_nn (px - cx)
    have h2 := sq_nn (py - cy)
    have e1 : (px - cx) * (px - cx) = 0 := by grind
    have e2 : (py - cy) * (py - cy) = 0 := by grind
    constructor
    · rcases Rat.mul_eq_zero.mp e1 with z | z <;> grind
    · rcases Rat.mul_eq_zero.mp e2 with z | z <;> grind
  · rintro ⟨rfl, rfl⟩; grind
theorem noA_q {cx cy px py qx qy : Rat} (h : ¬ NoA cx cy px py qx qy) : ¬ (cx = px ∧ cy = py) ∧ ¬ (cx = qx ∧ cy = qy) ∧ far2 cx cy px py = far2 cx cy qx qy := by
  unfold NoA at h
  have h1 : far2 cx cy px py = far2 cx cy qx qy := Classical.byContradiction fun z => h (.inl z)
  have h2 : ¬ (px = cx ∧ py = cy) := fun z => h (.inr z)
  refine ⟨fun z => h2 ⟨z.1.symm, z.2.symm⟩, fun z => h2 (far_self.mp (h1.trans (far_self.mpr ⟨z.1.symm, z.2.symm⟩))), h1⟩
def sp_arc : DSp := fun ds M Q => ∃ cx cy px py qx qy, ds = [PQ cx cy, PQ px py, PQ qx qy] ∧ ¬ NoA cx cy px py qx qy ∧ BQ 900 cx ∧ BQ 900 cy ∧ BQ 900 px ∧ BQ 900 py ∧ BQ 900 qx ∧ BQ 900 qy ∧ Q (madeD cx cy px py qx qy) M
abbrev s_arc : Stmt := top 14
theorem sc_arc : FnScope ["c", "p", "q"] ["c", "p", "q"] (defScope s_arc) := ⟨rfl, rfl, rfl, by decide +kernel, rfl, by decide +kernel, by decide +kernel⟩
theorem has_arc (hF : HasF K mg "arc" s_arc ["c", "p", "q"]) (h_farther : Has P w K mg base 103 "farther" ["c", "p", "q"] sp_farther) : Has P w K mg base 104 "arc" ["c", "p", "q"] sp_arc := by
  refine Has.mkZ hF sc_arc (fun ds M Q ⟨a, b, c, d, e, f, z, _⟩ => by rw [z]; rfl) fun f cdv A outer s H ds M Q E hr h => ?_
  obtain ⟨cx, cy, px, py, qx, qy, rfl, na, h1, h2, h3, h4, h5, h6, q⟩ := h
  obtain ⟨n1, n2, hf⟩ := noA_q na
  refine ⟨_, (zdss_cons (zds_if (zdt_w (zdw_or (zdt_cmp (od_eq hr) (zde_var 0) (zde_var 1)) (zdw_or1 (zdt_cmp (od_eq hr) (zde_var 0) (zde_var 2))))) (zdss_one zds_never) zdss_nil)
    (zdss_cons (zds_if (zdt_cmp (od_ne hr) (zde_callH h_farther hr (by decide) (zda_cons (zde_var 0) (zda_cons (zde_var 1) (zda_cons (zde_var 2) zda_nil)))) zde_int) (zdss_one zds_never) zdss_nil)
    (zdss_cons (zds_if (zdt_cmp (od_eq hr) (zde_var 1) (zde_var 2)) (zdss_one (zds_ret (zde_tup (zda_cons zde_str (zda_cons (zde_var 0) (zda_cons (zde_var 1) zda_nil)))))) zdss_nil)
    (zdss_one (zds_ret (zde_tup (zda_cons zde_str (zda_cons (zde_var 0) (zda_cons (zde_var 1) (zda_cons (zde_var 2) zda_nil)))))))))), ?_⟩
  decreasing_tactic
  rw [dEq_PQ]
  refine ifF (decide_eq_false n1) ?_
  rw [dEq_PQ]
  refine ifF (decide_eq_false n2) ?_
  refine ⟨_, _, _, _, _, _, 900, rfl, h1, h2, h3, h4, h5, h6, by decide, ?_⟩
  decreasing_tactic
  rw [dEq_int, decide_eq_true (farS_zero.mpr hf)]
  refine ifF rfl ?_
  rw [dEq_PQ]
  unfold madeD at q
  refine dif (fun c => ?_) (fun c => ?_)
  · rw [if_pos c] at q; exact ⟨by decide, M, .refl _, q⟩
  · rw [if_neg c] at q; exact ⟨by decide, M, .refl _, q⟩
def NoArc (ds : List D) : Prop := ∃ cx cy px py qx qy, ds = [PQ cx cy, PQ px py, PQ qx qy] ∧ NoA cx cy px py qx qy ∧ BQ 900 cx ∧ BQ 900 cy ∧ BQ 900 px ∧ BQ 900 py ∧ BQ 900 qx ∧ BQ 900 qy
theorem hax_arc {C_NoPiece : Addr} (hF : HasF K mg "arc" s_arc ["c", "p", "q"]) (h_farther : Has P w K mg base 103 "farther" ["c", "p", "q"] sp_farther) (c_NoPiece : HasC K mg "NoPiece" C_NoPiece) :
    HasX P w K mg base 104 "arc" ["c", "p", "q"] C_NoPiece NoArc := by
  refine HasX.mkZ hF c_NoPiece sc_arc (fun ds ⟨a, b, c, d, e, f, z, _⟩ => by rw [z]; rfl) fun f cdv A outer s H ds M E hr h hRO => ?_
  obtain ⟨cx, cy, px, py, qx, qy, rfl, na, h1, h2, h3, h4, h5, h6⟩ := h
  refine ⟨_, (zdss_cons (zds_if (zdt_w (zdw_or (zdt_cmp (od_eq hr) (zde_var 0) (zde_var 1)) (zdw_or1 (zdt_cmp (od_eq hr) (zde_var 0) (zde_var 2))))) (zdss_one (zds_raise hRO (zda_cons zde_str zda_nil))) zdss_nil)
    (zdss_cons (zds_if (zdt_cmp (od_ne hr) (zde_callH h_farther hr (by decide) (zda_cons (zde_var 0) (zda_cons (zde_var 1) (zda_cons (zde_var 2) zda_nil)))) zde_int) (zdss_one (zds_raise hRO (zda_cons zde_str zda_nil))) zdss_nil)
    (zdss_cons (zds_if (zdt_cmp (od_eq hr) (zde_var 1) (zde_var 2)) (zdss_one (zds_ret (zde_tup (zda_cons zde_str (zda_cons (zde_var 0) (zda_cons (zde_var 1) zda_nil)))))) zdss_nil)
    (zdss_one (zds_ret (zde_tup (zda_cons zde_str (zda_cons (zde_var 0) (zda_cons (zde_var 1) (zda_cons (zde_var 2) zda_nil)))))))))), ?_⟩
  decreasing_tactic
  rw [dEq_PQ]
  refine bcase (fun c => ?_) (fun c => ?_)
  · exact ifT rfl ⟨by decide, .refl _⟩
  · rw [dEq_PQ]
    refine bcase (fun d => ?_) (fun d => ?_)
    · exact ⟨by decide, .refl _⟩
    · refine ⟨_, _, _, _, _, _, 900, rfl, h1, h2, h3, h4, h5, h6, by decide, ?_⟩
      decreasing_tactic
      have c' : ¬ (cx = px ∧ cy = py) := of_decide_eq_false c
      have ne : ¬ farS cx cy px py qx qy = 0 := fun z => by
        rcases na with y | y
        · exact y (farS_zero.mp z)
        · exact c' ⟨y.1.symm, y.2.symm⟩
      rw [dEq_int, decide_eq_false ne]
      exact ifT rfl ⟨by decide, .refl _⟩
-- HINT _law_kind exc NoPiece
-- HINT _law_kind excarg _law_e
def sp_law_kind : Addr → DM → DQ → Prop := fun _ M Q => Q (.tup [.str "refused", .bl true]) M
abbrev s_law_kind : Stmt := top 33
theorem sc_law_kind : FnScope ["_law_e", "_law_others"] ["_law_e"] (defScope s_law_kind) := ⟨rfl, rfl, rfl, by decide +kernel, rfl, by decide +kernel, by decide +kernel⟩
theorem has_law_kind {C_NoPiece C_NoKin C_NoNumber C_NoRow C_NoText C_TooMuch : Addr} (hF : HasF K mg "_law_kind" s_law_kind ["_law_e"]) (c_NoPiece : HasC K mg "NoPiece" C_NoPiece)
    (q_NoPiece : PySem.W.kitOne K (.ref C_NoPiece) (.ref C_NoPiece) = some true) (q_ValueError : PySem.W.kitOne K (.ref C_NoPiece) (.type "ValueError") = some true)
    (q_others : PySem.W.kitAny K (.ref C_NoPiece) [.ref C_NoKin, .ref C_NoNumber, .ref C_NoRow, .ref C_NoText, .ref C_TooMuch] = some false) (e_NoPiece : ExcK K C_NoPiece)
    (g_NoKin : HasG K mg "NoKin" (.ref C_NoKin)) (g_NoNumber : HasG K mg "NoNumber" (.ref C_NoNumber)) (g_NoRow : HasG K mg "NoRow" (.ref C_NoRow)) (g_NoText : HasG K mg "NoText" (.ref C_NoText)) (g_TooMuch : HasG K mg "TooMuch" (.ref C_TooMuch))
    (n_isinstance : mg "isinstance" = none) (n_ValueError : mg "ValueError" = none) : HasE P w K mg base 101 "_law_kind" C_NoPiece sp_law_kind := by
  refine HasE.mk hF sc_law_kind fun f cdv A outer s H a o M Q E ho h => ?_
  refine ⟨_, (zdss_cons (zds_set (i := 1) sc_law_kind.nd (zde_callB (cd_isXs ho e_NoPiece) n_isinstance (zda_cons (zde_var 0) (zda_cons (zde_tup (zda_cons (zde_globH g_NoKin) (zda_cons (zde_globH g_NoNumber) (zda_cons (zde_globH g_NoRow) (zda_cons (zde_globH g_NoText) (zda_cons (zde_globH g_TooMuch) zda_nil)))))) zda_nil))))
    (zdss_one (zds_ret (zde_tup (zda_cons zde_str (zda_cons (zde_and (zde_isX (j := 0) ho c_NoPiece q_NoPiece n_isinstance) (zde_and (zde_isXT (j := 0) ho q_ValueError n_isinstance n_ValueError) (zde_one (zde_not (zde_var 1))))) zda_nil)))))), ?_⟩
  decreasing_tactic
  refine ⟨by decide, [C_NoKin, C_NoNumber, C_NoRow, C_NoText, C_TooMuch], false, rfl, q_others, ?_⟩
  decreasing_tactic
  exact ⟨rfl, ifT rfl ⟨rfl, ifT rfl ⟨by decide, M, .refl _, h⟩⟩⟩
def sp_law_asked : DSp := fun ds M Q => ∃ cx cy px py qx qy, ds = [PQ cx cy, PQ px py, PQ qx qy] ∧ BQ 900 cx ∧ BQ 900 cy ∧ BQ 900 px ∧ BQ 900 py ∧ BQ 900 qx ∧ BQ 900 qy ∧ Q (resD cx cy px py qx qy) M
abbrev s_law_asked : Stmt := top 34
theorem sc_law_asked : FnScope ["_law_c", "_law_p", "_law_q", "_law_found", "e"] ["_law_c", "_law_p", "_law_q"] (defScope s_law_asked) := ⟨rfl, rfl, rfl, by decide +kernel, rfl, by decide +kernel, by decide +kernel⟩
theorem has_law_asked {C_NoPiece C_MillError : Addr} (hF : HasF K mg "_law_asked" s_law_asked ["_law_c", "_law_p", "_law_q"]) (h_arc : Has P w K mg base 104 "arc" ["c", "p", "q"] sp_arc)
    (x_arc : HasX P w K mg base 104 "arc" ["c", "p", "q"] C_NoPiece NoArc) (h_law_kind : HasE P w K mg base 101 "_law_kind" C_NoPiece sp_law_kind) (c_MillError : HasC K mg "MillError" C_MillError)
    (m_MillError : PySem.W.exmOne K (.ref C_NoPiece) (.ref C_MillError) = some true) :
    Has P w K mg base 105 "_law_asked" ["_law_c", "_law_p", "_law_q"] sp_law_asked := by
  refine Has.mkZ hF sc_law_asked (fun ds M Q ⟨a, b, c, d, e, f, z, _⟩ => by rw [z]; rfl) fun f cdv A outer s H ds M Q E hr h => ?_
  obtain ⟨cx, cy, px, py, qx, qy, rfl, h1, h2, h3, h4, h5, h6, fin⟩ := h
  refine ⟨_, (zdss_cons (zds_set (i := 3) sc_law_asked.nd zde_non)
    (zdss_cons (zds_tryA (i := 3) (j := 4) x_arc h_arc hr (by decide) (by decide) sc_law_asked.nd c_MillError m_MillError (zda_cons (zde_var 0) (zda_cons (zde_var 1) (zda_cons (zde_var 2) zda_nil))) (fun _ _ ho => (zdss_one (zds_set (i := 3) sc_law_asked.nd (zde_callE (j := 4) ho h_law_kind hr (by decide))))))
    (zdss_one (zds_ret (zde_var 3))))), ?_⟩
  decreasing_tactic
  unfold resD at fin
  by_cases z : NoA cx cy px py qx qy
  · rw [if_pos z] at fin
    refine .inl ⟨⟨_, _, _, _, _, _, rfl, z, h1, h2, h3, h4, h5, h6⟩, fun a => ?_⟩
    decreasing_tactic
    exact ⟨rfl, M, .refl _, fin⟩
  · rw [if_neg z] at fin
    exact .inr ⟨_, _, _, _, _, _, rfl, z, h1, h2, h3, h4, h5, h6, M, .refl _, fin⟩

def sp_law_far : DSp := fun ds M Q => ∃ px py qx qy, ds = [PQ px py, PQ qx qy] ∧ BQ 900 px ∧ BQ 900 py ∧ BQ 900 qx ∧ BQ 900 qy ∧ Q (FQ (far2 px py qx qy)) M
abbrev s_law_far : Stmt := top 35
theorem sc_law_far : FnScope ["_law_p", "_law_q", "_law_way"] ["_law_p", "_law_q"] (defScope s_law_far) := ⟨rfl, rfl, rfl, by decide +kernel, rfl, by decide +kernel, by decide +kernel⟩
theorem has_law_far (hF : HasF K mg "_law_far" s_law_far ["_law_p", "_law_q"]) (h_law_both : Has P w K mg base 103 "_law_both" ["_law_p", "_law_q", "_law_by"] sp_law_both) (h_law_along : Has P w K mg base 103 "_law_along" ["_law_p", "_law_q"] sp_law_along) : Has P w K mg base 104 "_law_far" ["_law_p", "_law_q"] sp_law_far := by
  refine Has.mkZ hF sc_law_far (fun ds M Q ⟨a, b, c, d, z, _⟩ => by rw [z]; rfl) fun f cdv A outer s H ds M Q E hr h => ?_
  obtain ⟨px, py, qx, qy, rfl, h1, h2, h3, h4, q⟩ := h
  refine ⟨_, (zdss_cons (zds_set (i := 2) sc_law_far.nd (zde_callH h_law_both hr (by decide) (zda_cons (zde_var 0) (zda_cons (zde_var 1) (zda_cons (zde_neg zde_int) zda_nil)))))
    (zdss_one (zds_ret (zde_callH h_law_along hr (by decide) (zda_cons (zde_var 2) (zda_cons (zde_var 2) zda_nil)))))), ?_⟩
  decreasing_tactic
  refine ⟨_, _, _, _, _, _, _, rfl, .inr rfl, h1, h2, h3, h4, by decide, ?_⟩
  rw [zs_neg, zs_neg]
  decreasing_tactic
  refine ⟨_, _, _, _, rfl, _, _, h1.sub h3, h2.sub h4, h1.sub h3, h2.sub h4, by decide, M, .refl _, ?_⟩
  have e : (px - qx) * (px - qx) + (py - qy) * (py - qy) = far2 px py qx qy := by unfold far2; grind
  rw [e]
  exact q
def sp_law_due : DSp := fun ds M Q => ∃ cx cy px py qx qy, ds = [PQ cx cy, PQ px py, PQ qx qy] ∧ BQ 900 cx ∧ BQ 900 cy ∧ BQ 900 px ∧ BQ 900 py ∧ BQ 900 qx ∧ BQ 900 qy ∧ Q (resD cx cy px py qx qy) M
abbrev s_law_due : Stmt := top 36
theorem sc_law_due : FnScope ["_law_c", "_law_p", "_law_q"] ["_law_c", "_law_p", "_law_q"] (defScope s_law_due) := ⟨rfl, rfl, rfl, by decide +kernel, rfl, by decide +kernel, by decide +kernel⟩
theorem has_law_due (hF : HasF K mg "_law_due" s_law_due ["_law_c", "_law_p", "_law_q"]) (h_law_far : Has P w K mg base 104 "_law_far" ["_law_p", "_law_q"] sp_law_far) : Has P w K mg base 105 "_law_due" ["_law_c", "_law_p", "_law_q"] sp_law_due := by
  refine Has.mkZ hF sc_law_due (fun ds M Q ⟨a, b, c, d, e, f, z, _⟩ => by rw [z]; rfl) fun f cdv A outer s H ds M Q E hr h => ?_
  obtain ⟨cx, cy, px, py, qx, qy, rfl, h1, h2, h3, h4, h5, h6, q⟩ := h
  refine ⟨_, (zdss_cons (zds_if (zdt_w (zdw_or (zdt_cmp (od_ne hr) (zde_callH h_law_far hr (by decide) (zda_cons (zde_var 0) (zda_cons (zde_var 1) zda_nil))) (zde_callH h_law_far hr (by decide) (zda_cons (zde_var 0) (zda_cons (zde_var 2) zda_nil)))) (zdw_or1 (zdt_cmp (od_eq hr) (zde_var 1) (zde_var 0))))) (zdss_one (zds_ret (zde_tup (zda_cons zde_str (zda_cons zde_bl zda_nil))))) zdss_nil)
    (zdss_cons (zds_if (zdt_cmp (od_eq hr) (zde_var 1) (zde_var 2)) (zdss_one (zds_ret (zde_tup (zda_cons zde_str (zda_cons (zde_var 0) (zda_cons (zde_var 1) zda_nil)))))) zdss_nil)
    (zdss_one (zds_ret (zde_tup (zda_cons zde_str (zda_cons (zde_var 0) (zda_cons (zde_var 1) (zda_cons (zde_var 2) zda_nil))))))))), ?_⟩
  decreasing_tactic
  refine ⟨_, _, _, _, rfl, h1, h2, h3, h4, ?_⟩
  refine ⟨_, _, _, _, rfl, h1, h2, h5, h6, ?_⟩
  decreasing_tactic
  rw [dEq_FQ]
  unfold resD at q
  by_cases c : far2 cx cy px py = far2 cx cy qx qy
  · rw [decide_eq_true c]
    refine ifF rfl ?_
    rw [dEq_PQ]
    by_cases d : px = cx ∧ py = cy
    · rw [decide_eq_true d]
      rw [if_pos (.inr d)] at q
      exact ifT rfl ⟨by decide, M, .refl _, q⟩
    · rw [decide_eq_false d]
      rw [if_neg (fun z => z.elim (fun y => y c) d)] at q
      refine ifF rfl ?_
      rw [dEq_PQ]
      unfold madeD at q
      refine dif (fun c => ?_) (fun c => ?_)
      · rw [if_pos c] at q; exact ⟨by decide, M, .refl _, q⟩
      · rw [if_neg c] at q; exact ⟨by decide, M, .refl _, q⟩
  · rw [decide_eq_false c]
    rw [if_pos (.inl c)] at q
    exact ifT rfl (ifT rfl ⟨by decide, M, .refl _, q⟩)
-- HINT _law_two cut2 yes
-- HINT _law_two cut3 yes
-- HINT _law_two cut4 yes
def IsPP (B : Nat) (d : D) : Prop := ∃ x y u v, d = .tup [PQ x y, PQ u v] ∧ BQ B x ∧ BQ B y ∧ BQ B u ∧ BQ B v
def sp_law_two : DSp := fun ds M Q => ∃ a n cx cy x y, ds = [.ref a, PQ cx cy, PQ (cx + x) (cy + y)] ∧ BQ 24 cx ∧ BQ 24 cy ∧ BQ 24 x ∧ BQ 24 y ∧ FdN M a n ∧ n ≤ 1000 ∧
  ∀ d M', IsPP 900 d → (∀ b o, M b = some o → b ≠ a → M' b = some o) → Q d M'
abbrev s_law_two : Stmt := top 37
theorem sc_law_two : FnScope ["_law_from", "_law_c", "_law_p", "_law_way", "_law_q"] ["_law_from", "_law_c", "_law_p"] (defScope s_law_two) := ⟨rfl, rfl, rfl, by decide +kernel, rfl, by decide +kernel, by decide +kernel⟩
theorem has_law_two (hF : HasF K mg "_law_two" s_law_two ["_law_from", "_law_c", "_law_p"]) (h_law_draw : Has P w K mg base 101 "_law_draw" ["_law_from", "_law_many"] sp_law_draw) (h_law_some : Has P w K mg base 105 "_law_some" ["_law_from", "_law_c", "_law_a", "_law_many"] sp_law_some) (h_law_sum : Has P w K mg base 102 "_law_sum" ["_law_one", "_law_other", "_law_by"] sp_law_sum) (h_law_small : Has P w K mg base 102 "_law_small" ["_law_from"] sp_law_small) (h_law_spot : Has P w K mg base 103 "_law_spot" ["_law_from"] sp_law_spot) : Has P w K mg base 106 "_law_two" ["_law_from", "_law_c", "_law_p"] sp_law_two := by
  refine Has.mkZ hF sc_law_two (fun ds M Q ⟨a, b, c, d, e, f, z, _⟩ => by rw [z]; rfl) fun f cdv A outer s H ds M Q E hr h => ?_
  obtain ⟨a, n, cx, cy, x, y, rfl, h1, h2, h3, h4, fd, hn, q⟩ := h
  refine ⟨_, (zdss_cons (zds_set (i := 3) sc_law_two.nd (zde_callH h_law_draw hr (by decide) (zda_cons (zde_var 0) (zda_cons zde_int zda_nil))))
    (zdss_cons (zds_set (i := 4) sc_law_two.nd (zde_ix (zde_callH h_law_some hr (by decide) (zda_cons (zde_var 0) (zda_cons (zde_var 1) (zda_cons (zde_var 2) (zda_cons zde_int zda_nil))))) zde_int))
    (zdss_cut (zds_if (zdt_cmp (od_eq hr) (zde_var 3) zde_int) (zdss_one (zds_set (i := 4) sc_law_two.nd (zde_var 2))) zdss_nil)
    (zdss_cut (zds_if (zdt_cmp (od_eq hr) (zde_var 3) zde_int) (zdss_one (zds_set (i := 4) sc_law_two.nd (zde_tup (zda_cons (zde_callH h_law_sum hr (by decide) (zda_cons (zde_ix (zde_var 4) zde_int) (zda_cons (zde_callH h_law_small hr (by decide) (zda_cons (zde_var 0) zda_nil)) (zda_cons zde_int zda_nil)))) (zda_cons (zde_ix (zde_var 4) zde_int) zda_nil))))) zdss_nil)
    (zdss_cut (zds_if (zdt_cmp (od_eq hr) (zde_var 3) zde_int) (zdss_one (zds_set (i := 4) sc_law_two.nd (zde_callH h_law_spot hr (by decide) (zda_cons (zde_var 0) zda_nil)))) zdss_nil)
    (zdss_cons (zds_if (zdt_cmp (od_eq hr) (zde_var 3) zde_int) (zdss_one (zds_ret (zde_ix (zde_lst (zda_cons (zde_tup (zda_cons (zde_var 1) (zda_cons (zde_var 4) zda_nil))) (zda_cons (zde_tup (zda_cons (zde_var 2) (zda_cons (zde_var 1) zda_nil))) (zda_cons (zde_tup (zda_cons (zde_var 1) (zda_cons (zde_var 1) zda_nil))) zda_nil)))) (zde_callH h_law_draw hr (by decide) (zda_cons (zde_var 0) (zda_cons zde_int zda_nil)))))) zdss_nil)
    (zdss_one (zds_ret (zde_tup (zda_cons (zde_var 2) (zda_cons (zde_var 4) zda_nil))))))))))), ?_⟩
  decreasing_tactic
  refine ⟨a, 8, n, rfl, fd, by omega, by decide, bdk (by decide), fun r M1 r0 r8 fd1 av1 => ?_⟩
  decreasing_tactic
  refine ⟨a, _, cx, cy, x, y, 1, rfl, by decide, by decide, h1, h2, h3, h4, fd1, by omega, fun pq M2 es hpq hes les hall fd2 oth => ?_⟩
  obtain ⟨e1, rfl⟩ : ∃ e1, es = [e1] := by
    match es, les with
    | [d1], _ => exact ⟨_, rfl⟩
  obtain ⟨u, v, rfl, _, bu, bv⟩ := hall e1 List.mem_cons_self
  have old2 : ∀ b o, M b = some o → b ≠ a → M2 b = some o := fun b o hb hba => by
    have h := hb
    rw [← av1 b hba] at h
    rw [oth b hba (ne_of_noneM h hpq)]; exact h
  decreasing_tactic
  refine ⟨_, _, hes, atI_nat (j := 0) rfl, ?_⟩
  have bx : BQ 300 (cx + x) := (h1.add h3).mono (by decide)
  have by' : BQ 300 (cy + y) := (h2.add h4).mono (by decide)
  -- what stands between the tests
  refine ⟨fun ρ' M' => ∃ u v m, BQ 200 u ∧ BQ 200 v ∧ FdN M' a m ∧ m ≤ 1100 ∧ (∀ b o, M b = some o → b ≠ a → M' b = some o) ∧ ρ' = [some (.ref a), some (PQ cx cy), some (PQ (cx + x) (cy + y)), some (.int r), some (PQ u v)], ?_, ?_⟩
  · rw [dEq_int]
    refine bcase (fun _ => ?_) (fun _ => ?_)
    · exact ⟨_, _, _, (h1.add h3).mono (by decide), (h2.add h4).mono (by decide), fd2, by omega, old2, rfl⟩
    · exact ⟨_, _, _, bu, bv, fd2, by omega, old2, rfl⟩
  rintro ρ' M3 ⟨u, v, m, bu, bv, fd3, hm, old3, rfl⟩
  decreasing_tactic
  refine ⟨fun ρ' M' => ∃ u v m, BQ 300 u ∧ BQ 300 v ∧ FdN M' a m ∧ m ≤ 1200 ∧ (∀ b o, M b = some o → b ≠ a → M' b = some o) ∧ ρ' = [some (.ref a), some (PQ cx cy), some (PQ (cx + x) (cy + y)), some (.int r), some (PQ u v)], ?_, ?_⟩
  · rw [dEq_int]
    refine bcase (fun _ => ?_) (fun _ => ?_)
    · refine ⟨a, _, rfl, fd3, by omega, fun d M4 ⟨t, ed, bt⟩ fd4 av4 => ?_⟩
      subst ed
      refine ⟨_, _, _, _, _, rfl, .inl rfl, bu, bt, by decide, ?_⟩
      rw [zs_one]
      decreasing_tactic
      exact ⟨by decide, u + t, v, _, (bu.add bt).mono (by decide), bv.mono (by decide), fd4, by omega, fun b o hb hba => by rw [av4 b hba]; exact old3 b o hb hba, rfl⟩
    · exact ⟨_, _, _, bu.mono (by decide), bv.mono (by decide), fd3, by omega, old3, rfl⟩
  rintro ρ' M5 ⟨u, v, m, bu, bv, fd5, hm, old5, rfl⟩
  decreasing_tactic
  refine ⟨fun ρ' M' => ∃ u v m, BQ 300 u ∧ BQ 300 v ∧ FdN M' a m ∧ m ≤ 1300 ∧ (∀ b o, M b = some o → b ≠ a → M' b = some o) ∧ ρ' = [some (.ref a), some (PQ cx cy), some (PQ (cx + x) (cy + y)), some (.int r), some (PQ u v)], ?_, ?_⟩
  · rw [dEq_int]
    refine bcase (fun _ => ?_) (fun _ => ?_)
    · refine ⟨a, _, rfl, fd5, by omega, fun d M6 ⟨s1, s2, ed, b1, b2⟩ fd6 av6 => ?_⟩
      subst ed
      exact ⟨s1, s2, _, b1.mono (by decide), b2.mono (by decide), fd6, by omega, fun b o hb hba => by rw [av6 b hba]; exact old5 b o hb hba, rfl⟩
    · exact ⟨_, _, _, bu, bv, fd5, by omega, old5, rfl⟩
  rintro ρ' M7 ⟨u, v, m, bu, bv, fd7, hm, old7, rfl⟩
  decreasing_tactic
  rw [dEq_int]
  have c24 : BQ 300 cx := h1.mono (by decide)
  have d24 : BQ 300 cy := h2.mono (by decide)
  refine bcase (fun _ => ?_) (fun _ => ?_)
  · refine ⟨by decide, by decide, by decide, by decide, fun pl hpl => ?_⟩
    have fd8 := fdn_put (L := [D.tup [PQ cx cy, PQ u v], D.tup [PQ (cx + x) (cy + y), PQ cx cy], D.tup [PQ cx cy, PQ cx cy]]) fd7 hpl
    have npl := fdn_ne fd7 hpl
    refine ⟨a, 3, _, rfl, fd8, by omega, by decide, bdk (by decide), fun r2 M9 s0 s3 fd9 av9 => ?_⟩
    decreasing_tactic
    have hpl9 : M9 pl = some [D.tup [PQ cx cy, PQ u v], D.tup [PQ (cx + x) (cy + y), PQ cx cy], D.tup [PQ cx cy, PQ cx cy]] := by rw [av9 pl (Ne.symm npl)]; exact putM_same
    have old9 : ∀ b o, M b = some o → b ≠ a → M9 b = some o := fun b o hb hba => by
      rw [av9 b hba, putM_ne (ne_of_noneM (old7 b o hb hba) hpl)]; exact old7 b o hb hba
    have go : ∀ x1 y1 x2 y2, BQ 300 x1 → BQ 300 y1 → BQ 300 x2 → BQ 300 y2 → Dn Q (.tup [PQ x1 y1, PQ x2 y2]) M9 := fun x1 y1 x2 y2 b1 b2 b3 b4 => ⟨M9, .refl _, q _ M9 ⟨x1, y1, x2, y2, rfl, b1.mono (by decide), b2.mono (by decide), b3.mono (by decide), b4.mono (by decide)⟩ old9⟩
    have hr3 : r2 = 0 ∨ r2 = 1 ∨ r2 = 2 := by omega
    rcases hr3 with rfl | rfl | rfl
    · exact ⟨_, _, hpl9, atI_nat (j := 0) rfl, go _ _ _ _ c24 d24 bu bv⟩
    · exact ⟨_, _, hpl9, atI_nat (j := 1) rfl, go _ _ _ _ bx by' c24 d24⟩
    · exact ⟨_, _, hpl9, atI_nat (j := 2) rfl, go _ _ _ _ c24 d24 c24 d24⟩
  · exact ⟨by decide, M7, .refl _, q _ M7 ⟨_, _, _, _, rfl, bx.mono (by decide), by'.mono (by decide), bu.mono (by decide), bv.mono (by decide)⟩ old7⟩

theorem resD_is (cx cy px py qx qy : Rat) : resD cx cy px py qx qy = .tup [.str "refused", .bl true] ∨ resD cx cy px py qx qy = .tup [.str "ring", PQ cx cy, PQ px py] ∨ resD cx cy px py qx qy = .tup [.str "arc", PQ cx cy, PQ px py, PQ qx qy] := by
  unfold resD madeD
  split
  · exact .inl rfl
  · split
    · exact .inr (.inl rfl)
    · exact .inr (.inr rfl)
def sp_law : DSp := fun ds M Q => ∃ ns : List Int, ds = [.fz (ns.map D.int)] ∧ ns.length ≤ 63 ∧ ∀ M', Q (.bl true) M'
abbrev s_law : Stmt := top 38
theorem sc_law : FnScope ["_law_script", "_law_cell", "_law_from", "_law_c", "_law_a", "_law_p", "_law_q", "_law_one", "_law_other", "_law_found"] ["_law_script"] (defScope s_law) := ⟨rfl, rfl, rfl, by decide +kernel, rfl, by decide +kernel, by decide +kernel⟩
theorem has_law {f0 : Addr} {fd0 : FuncData} (hF : L2.Fun K "law" "law" s_law f0 fd0) (h_law_feed : Has P w K mg base 101 "_law_feed" ["_law_cell"] sp_law_feed) (h_law_start_here : Has P w K mg base 104 "_law_start_here" ["_law_from"] sp_law_start_here) (h_law_two : Has P w K mg base 106 "_law_two" ["_law_from", "_law_c", "_law_p"] sp_law_two) (h_law_asked : Has P w K mg base 105 "_law_asked" ["_law_c", "_law_p", "_law_q"] sp_law_asked) (h_law_due : Has P w K mg base 105 "_law_due" ["_law_c", "_law_p", "_law_q"] sp_law_due) (n_isinstance : mg "isinstance" = none) (n_tuple : mg "tuple" = none) :
    FnOk P w K mg base CX0 111 f0 fd0 ["_law_script"] (lowSp K sp_law) := by
  refine Fun.okZ hF sc_law (fun ds M Q ⟨ns, e, _⟩ => by rw [e]; rfl) fun cdv A outer s H ds M Q E hr h => ?_
  obtain ⟨ns, rfl, hl, fin⟩ := h
  refine ⟨_, (zdss_cons (zds_forL PassesOwn.never rfl (zde_slice (zde_op od_add (zde_var 0) (zde_lst (zda_cons zde_int zda_nil))) zdo_none (zdo_some zde_int)) (zdg_name (i := 1) sc_law.nd) (zdss_cons (zds_set (i := 2) sc_law.nd (zde_callH h_law_feed hr (by decide) (zda_cons (zde_var 1) zda_nil)))
    (zdss_cons (zds_asg (zde_callH h_law_start_here hr (by decide) (zda_cons (zde_var 2) zda_nil)) (zdg_unp (n := 2) rfl (zdgs_cons (zdg_name (i := 3) sc_law.nd) (zdgs_cons (zdg_name (i := 4) sc_law.nd) zdgs_nil))))
    (zdss_cons (zds_asg (zde_callH h_law_two hr (by decide) (zda_cons (zde_var 2) (zda_cons (zde_var 3) (zda_cons (zde_var 4) zda_nil)))) (zdg_unp (n := 2) rfl (zdgs_cons (zdg_name (i := 5) sc_law.nd) (zdgs_cons (zdg_name (i := 6) sc_law.nd) zdgs_nil))))
    (zdss_one (zds_forL PassesOwn.never rfl (zde_lst (zda_cons (zde_tup (zda_cons (zde_var 5) (zda_cons (zde_var 6) zda_nil))) (zda_cons (zde_tup (zda_cons (zde_var 6) (zda_cons (zde_var 5) zda_nil))) (zda_cons (zde_tup (zda_cons (zde_var 4) (zda_cons (zde_var 4) zda_nil))) zda_nil)))) (zdg_unp (n := 2) rfl (zdgs_cons (zdg_name (i := 7) sc_law.nd) (zdgs_cons (zdg_name (i := 8) sc_law.nd) zdgs_nil))) (zdss_cons (zds_set (i := 9) sc_law.nd (zde_callH h_law_asked hr (by decide) (zda_cons (zde_var 3) (zda_cons (zde_var 7) (zda_cons (zde_var 8) zda_nil)))))
    (zdss_one (zds_if (zdt_w (zdw_or (zdt_not (zdt_val (zde_isTy (zde_var 9) n_isinstance n_tuple))) (zdw_or1 (zdt_cmp (od_ne hr) (zde_var 9) (zde_callH h_law_due hr (by decide) (zda_cons (zde_var 3) (zda_cons (zde_var 7) (zda_cons (zde_var 8) zda_nil)))))))) (zdss_one (zds_ret zde_bl)) zdss_nil)))))))))
    (zdss_one (zds_ret zde_bl))), ?_⟩
  decreasing_tactic
  refine ⟨by decide, fun p0 hp0 => ⟨_, putM_same, by rw [List.length_map]; show ns.length + 1 ≤ 1000; omega, fun p1 hp1 => ⟨_, putM_same, fun p2 hp2 => ⟨_, putM_same, ?_⟩⟩⟩⟩
  generalize hC : Dd.cutD (ns.map D.int ++ [.int 0]) none (some 30) = CELLS
  refine ⟨fun i ρ M' => M' p2 = some CELLS ∧ ∃ o1 o2 o3 o4 o5 o6 o7 o8 o9, ρ = [some (.fz (ns.map D.int)), o1, o2, o3, o4, o5, o6, o7, o8, o9], ⟨putM_same, _, _, _, _, _, _, _, _, _, rfl⟩, fun i ρ M' _ h a e => by cases e; exact h.1, ?_, fun ρ M' _ => ⟨M', .refl _, fin M'⟩⟩
  rintro i d ρ M1 hd ⟨hM, o1, o2, o3, o4, o5, o6, o7, o8, o9, rfl⟩
  rw [← hC] at hd
  obtain ⟨c, rfl⟩ := cells_int hd
  decreasing_tactic
  refine ⟨c, rfl, fun pf Mf hpf fdf avf => ?_⟩
  have n1 : p2 ≠ pf := ne_of_noneM hM hpf
  have hMf : Mf p2 = some CELLS := by rw [avf p2 n1]; exact hM
  decreasing_tactic
  refine ⟨pf, 0, rfl, fdf, by decide, fun d M2 ⟨cx, cy, x, y, ed, h1, h2, h3, h4, h0⟩ fd2 av2 => ?_⟩
  subst ed
  have hM2 : M2 p2 = some CELLS := by rw [av2 p2 n1]; exact hMf
  decreasing_tactic
  refine ⟨rfl, pf, _, cx, cy, x, y, rfl, h1, h2, h3, h4, fd2, by decide, fun d M3 ⟨px, py, qx, qy, ed, k1, k2, k3, k4⟩ old3 => ?_⟩
  subst ed
  have hM3 := old3 _ _ hM2 n1
  decreasing_tactic
  refine ⟨rfl, by decide, by decide, by decide, by decide, fun pl hpl => ⟨_, putM_same, ?_⟩⟩
  have kp : putM M3 pl [D.tup [PQ px py, PQ qx qy], D.tup [PQ qx qy, PQ px py], D.tup [PQ (cx + x) (cy + y), PQ (cx + x) (cy + y)]] pl = some [D.tup [PQ px py, PQ qx qy], D.tup [PQ qx qy, PQ px py], D.tup [PQ (cx + x) (cy + y), PQ (cx + x) (cy + y)]] := putM_same
  have hM4 : putM M3 pl [D.tup [PQ px py, PQ qx qy], D.tup [PQ qx qy, PQ px py], D.tup [PQ (cx + x) (cy + y), PQ (cx + x) (cy + y)]] p2 = some CELLS := by rw [putM_ne (ne_of_noneM hM3 hpl)]; exact hM3
  generalize putM M3 pl [D.tup [PQ px py, PQ qx qy], D.tup [PQ qx qy, PQ px py], D.tup [PQ (cx + x) (cy + y), PQ (cx + x) (cy + y)]] = M4 at kp hM4 ⊢
  refine ⟨fun i ρ M' => M' = M4 ∧ ∃ o7 o8 o9, ρ = [some (.fz (ns.map D.int)), some (.int c), some (.ref pf), some (PQ cx cy), some (PQ (cx + x) (cy + y)), some (PQ px py), some (PQ qx qy), o7, o8, o9], ⟨rfl, _, _, _, rfl⟩, fun i ρ M' _ h a e => by cases e; rw [h.1]; exact kp, ?_, fun ρ M' ⟨e, o7, o8, o9, e2⟩ => by rw [e, e2]; exact ⟨hM4, _, _, _, _, _, _, _, _, _, rfl⟩⟩
  rintro j d ρ M' hj ⟨rfl, o7, o8, o9, rfl⟩
  have bax : BQ 900 (cx + x) := (h1.add h3).mono (by decide)
  have bay : BQ 900 (cy + y) := (h2.add h4).mono (by decide)
  obtain ⟨ax, ay, bx, by', rfl, b1, b2, b3, b4⟩ : IsPP 900 d := by
    have := List.mem_of_getElem? hj
    rcases List.mem_cons.mp this with rfl | this
    · exact ⟨_, _, _, _, rfl, k1, k2, k3, k4⟩
    rcases List.mem_cons.mp this with rfl | this
    · exact ⟨_, _, _, _, rfl, k3, k4, k1, k2⟩
    · rw [List.mem_singleton.mp this]
      exact ⟨_, _, _, _, rfl, bax, bay, bax, bay⟩
  decreasing_tactic
  refine ⟨rfl, cx, cy, ax, ay, bx, by', rfl, h1.mono (by decide), h2.mono (by decide), b1, b2, b3, b4, ?_⟩
  have due : ∀ Q' : DQ, Q' (resD cx cy ax ay bx by') M' → sp_law_due [PQ cx cy, PQ ax ay, PQ bx by'] M' Q' := fun Q' h => ⟨cx, cy, ax, ay, bx, by', rfl, h1.mono (by decide), h2.mono (by decide), b1, b2, b3, b4, h⟩
  have rr := resD_is cx cy ax ay bx by'
  generalize resD cx cy ax ay bx by' = R at due rr ⊢
  rcases rr with rfl | rfl | rfl
  · decreasing_tactic
    refine .inl ⟨_, _, rfl, rfl, ifF rfl ?_⟩
    refine due _ ?_
    decreasing_tactic
    exact dEq_self (by rfl) (ifF rfl ⟨rfl, _, _, _, rfl⟩)
  · decreasing_tactic
    refine .inl ⟨_, _, rfl, rfl, ifF rfl ?_⟩
    refine due _ ?_
    decreasing_tactic
    exact dEq_self (by rfl) (ifF rfl ⟨rfl, _, _, _, rfl⟩)
  · decreasing_tactic
    refine .inl ⟨_, _, rfl, rfl, ifF rfl ?_⟩
    refine due _ ?_
    decreasing_tactic
    exact dEq_self (by rfl) (ifF rfl ⟨rfl, _, _, _, rfl⟩)
theorem law_here (ns : List Int) (hl : ns.length ≤ 63) (M : DM) : sp_law [.fz (ns.map D.int)] M fun d _ => d = .bl true := ⟨ns, rfl, hl, fun _ => rfl⟩

end
theorem all_mk {l : PySem.W.OpenLaw} {w : World} {K : PySem.W.Frag} {h : Heap} {mg : Str → Option Value} {fa f0 f1 f2 f3 f4 f5 f6 f7 f8 f9 f10 f11 f12 f13 f14 f15 f16 f17 f18 f19 f20 f21 f22 f23 : Addr} (X : K.In h) (G : h.Ns mainGlobals mg) (hfa : mg "law" = some (.ref fa))
    {od0 an0 : Option Addr} {sl0 : Array (Option Value)} {oc0 kV0 dc0 pm0 cd0 ct0 : Value}
    {od1 an1 : Option Addr} {sl1 : Array (Option Value)} {oc1 kV1 dc1 pm1 cd1 ct1 : Value}
    {od2 an2 : Option Addr} {sl2 : Array (Option Value)} {oc2 kV2 dc2 pm2 cd2 ct2 : Value}
    {od3 an3 : Option Addr} {sl3 : Array (Option Value)} {oc3 kV3 dc3 pm3 cd3 ct3 : Value}
    {od4 an4 : Option Addr} {sl4 : Array (Option Value)} {oc4 kV4 dc4 pm4 cd4 ct4 : Value}
    {od5 an5 : Option Addr} {sl5 : Array (Option Value)} {oc5 kV5 dc5 pm5 cd5 ct5 : Value}
    {od6 an6 : Option Addr} {sl6 : Array (Option Value)} {oc6 kV6 dc6 pm6 cd6 ct6 : Value}
    {od7 an7 : Option Addr} {sl7 : Array (Option Value)} {oc7 kV7 dc7 pm7 cd7 ct7 : Value}
    {od8 an8 : Option Addr} {sl8 : Array (Option Value)} {oc8 kV8 dc8 pm8 cd8 ct8 : Value}
    {od9 an9 : Option Addr} {sl9 : Array (Option Value)} {oc9 kV9 dc9 pm9 cd9 ct9 : Value}
    {od10 an10 : Option Addr} {sl10 : Array (Option Value)} {oc10 kV10 dc10 pm10 cd10 ct10 : Value}
    {od11 an11 : Option Addr} {sl11 : Array (Option Value)} {oc11 kV11 dc11 pm11 cd11 ct11 : Value}
    {od12 an12 : Option Addr} {sl12 : Array (Option Value)} {oc12 kV12 dc12 pm12 cd12 ct12 : Value}
    {od13 an13 : Option Addr} {sl13 : Array (Option Value)} {oc13 kV13 dc13 pm13 cd13 ct13 : Value}
    {od14 an14 : Option Addr} {sl14 : Array (Option Value)} {oc14 kV14 dc14 pm14 cd14 ct14 : Value}
    {od15 an15 : Option Addr} {sl15 : Array (Option Value)} {oc15 kV15 dc15 pm15 cd15 ct15 : Value}
    {od16 an16 : Option Addr} {sl16 : Array (Option Value)} {oc16 kV16 dc16 pm16 cd16 ct16 : Value}
    {od17 an17 : Option Addr} {sl17 : Array (Option Value)} {oc17 kV17 dc17 pm17 cd17 ct17 : Value}
    {od18 an18 : Option Addr} {sl18 : Array (Option Value)} {oc18 kV18 dc18 pm18 cd18 ct18 : Value}
    {od19 an19 : Option Addr} {sl19 : Array (Option Value)} {oc19 kV19 dc19 pm19 cd19 ct19 : Value}
    {od20 an20 : Option Addr} {sl20 : Array (Option Value)} {oc20 kV20 dc20 pm20 cd20 ct20 : Value}
    {od21 an21 : Option Addr} {sl21 : Array (Option Value)} {oc21 kV21 dc21 pm21 cd21 ct21 : Value}
    {od22 an22 : Option Addr} {sl22 : Array (Option Value)} {oc22 kV22 dc22 pm22 cd22 ct22 : Value}
    {od23 an23 : Option Addr} {sl23 : Array (Option Value)} {oc23 kV23 dc23 pm23 cd23 ct23 : Value}
    (a0 : PySem.W.nsIn K mainGlobals "on_one_bottom" = some (some (.ref f0))) (l0 : K.lookup f0 = some ⟨oc0, od0, .func (PySem.W.fnOf "on_one_bottom" "on_one_bottom" (defArgs s_on_one_bottom) (defBody s_on_one_bottom) (defScope s_on_one_bottom) .none kV0 dc0 pm0 an0 cd0 ct0), sl0⟩) (c0 : PySem.W.codeIn K cd0 "on_one_bottom" = true) (k0 : PySem.W.keepIn K (.ref f0) = true)
    (a1 : PySem.W.nsIn K mainGlobals "sign" = some (some (.ref f1))) (l1 : K.lookup f1 = some ⟨oc1, od1, .func (PySem.W.fnOf "sign" "sign" (defArgs s_sign) (defBody s_sign) (defScope s_sign) .none kV1 dc1 pm1 an1 cd1 ct1), sl1⟩) (c1 : PySem.W.codeIn K cd1 "sign" = true) (k1 : PySem.W.keepIn K (.ref f1) = true)
    (a2 : PySem.W.nsIn K mainGlobals "scaled_far" = some (some (.ref f2))) (l2 : K.lookup f2 = some ⟨oc2, od2, .func (PySem.W.fnOf "scaled_far" "scaled_far" (defArgs s_scaled_far) (defBody s_scaled_far) (defScope s_scaled_far) .none kV2 dc2 pm2 an2 cd2 ct2), sl2⟩) (c2 : PySem.W.codeIn K cd2 "scaled_far" = true) (k2 : PySem.W.keepIn K (.ref f2) = true)
    (a3 : PySem.W.nsIn K mainGlobals "farther" = some (some (.ref f3))) (l3 : K.lookup f3 = some ⟨oc3, od3, .func (PySem.W.fnOf "farther" "farther" (defArgs s_farther) (defBody s_farther) (defScope s_farther) .none kV3 dc3 pm3 an3 cd3 ct3), sl3⟩) (c3 : PySem.W.codeIn K cd3 "farther" = true) (k3 : PySem.W.keepIn K (.ref f3) = true)
    (a4 : PySem.W.nsIn K mainGlobals "_law_feed" = some (some (.ref f4))) (l4 : K.lookup f4 = some ⟨oc4, od4, .func (PySem.W.fnOf "_law_feed" "_law_feed" (defArgs s_law_feed) (defBody s_law_feed) (defScope s_law_feed) .none kV4 dc4 pm4 an4 cd4 ct4), sl4⟩) (c4 : PySem.W.codeIn K cd4 "_law_feed" = true) (k4 : PySem.W.keepIn K (.ref f4) = true)
    (a5 : PySem.W.nsIn K mainGlobals "_law_draw" = some (some (.ref f5))) (l5 : K.lookup f5 = some ⟨oc5, od5, .func (PySem.W.fnOf "_law_draw" "_law_draw" (defArgs s_law_draw) (defBody s_law_draw) (defScope s_law_draw) .none kV5 dc5 pm5 an5 cd5 ct5), sl5⟩) (c5 : PySem.W.codeIn K cd5 "_law_draw" = true) (k5 : PySem.W.keepIn K (.ref f5) = true)
    (a6 : PySem.W.nsIn K mainGlobals "_law_lowest" = some (some (.ref f6))) (l6 : K.lookup f6 = some ⟨oc6, od6, .func (PySem.W.fnOf "_law_lowest" "_law_lowest" (defArgs s_law_lowest) (defBody s_law_lowest) (defScope s_law_lowest) .none kV6 dc6 pm6 an6 cd6 ct6), sl6⟩) (c6 : PySem.W.codeIn K cd6 "_law_lowest" = true) (k6 : PySem.W.keepIn K (.ref f6) = true)
    (a7 : PySem.W.nsIn K mainGlobals "_law_small" = some (some (.ref f7))) (l7 : K.lookup f7 = some ⟨oc7, od7, .func (PySem.W.fnOf "_law_small" "_law_small" (defArgs s_law_small) (defBody s_law_small) (defScope s_law_small) .none kV7 dc7 pm7 an7 cd7 ct7), sl7⟩) (c7 : PySem.W.codeIn K cd7 "_law_small" = true) (k7 : PySem.W.keepIn K (.ref f7) = true)
    (a8 : PySem.W.nsIn K mainGlobals "_law_spot" = some (some (.ref f8))) (l8 : K.lookup f8 = some ⟨oc8, od8, .func (PySem.W.fnOf "_law_spot" "_law_spot" (defArgs s_law_spot) (defBody s_law_spot) (defScope s_law_spot) .none kV8 dc8 pm8 an8 cd8 ct8), sl8⟩) (c8 : PySem.W.codeIn K cd8 "_law_spot" = true) (k8 : PySem.W.keepIn K (.ref f8) = true)
    (a9 : PySem.W.nsIn K mainGlobals "_law_sum" = some (some (.ref f9))) (l9 : K.lookup f9 = some ⟨oc9, od9, .func (PySem.W.fnOf "_law_sum" "_law_sum" (defArgs s_law_sum) (defBody s_law_sum) (defScope s_law_sum) .none kV9 dc9 pm9 an9 cd9 ct9), sl9⟩) (c9 : PySem.W.codeIn K cd9 "_law_sum" = true) (k9 : PySem.W.keepIn K (.ref f9) = true)
    (a10 : PySem.W.nsIn K mainGlobals "_law_both" = some (some (.ref f10))) (l10 : K.lookup f10 = some ⟨oc10, od10, .func (PySem.W.fnOf "_law_both" "_law_both" (defArgs s_law_both) (defBody s_law_both) (defScope s_law_both) .none kV10 dc10 pm10 an10 cd10 ct10), sl10⟩) (c10 : PySem.W.codeIn K cd10 "_law_both" = true) (k10 : PySem.W.keepIn K (.ref f10) = true)
    (a11 : PySem.W.nsIn K mainGlobals "_law_product" = some (some (.ref f11))) (l11 : K.lookup f11 = some ⟨oc11, od11, .func (PySem.W.fnOf "_law_product" "_law_product" (defArgs s_law_product) (defBody s_law_product) (defScope s_law_product) .none kV11 dc11 pm11 an11 cd11 ct11), sl11⟩) (c11 : PySem.W.codeIn K cd11 "_law_product" = true) (k11 : PySem.W.keepIn K (.ref f11) = true)
    (a12 : PySem.W.nsIn K mainGlobals "_law_at_share" = some (some (.ref f12))) (l12 : K.lookup f12 = some ⟨oc12, od12, .func (PySem.W.fnOf "_law_at_share" "_law_at_share" (defArgs s_law_at_share) (defBody s_law_at_share) (defScope s_law_at_share) .none kV12 dc12 pm12 an12 cd12 ct12), sl12⟩) (c12 : PySem.W.codeIn K cd12 "_law_at_share" = true) (k12 : PySem.W.keepIn K (.ref f12) = true)
    (a13 : PySem.W.nsIn K mainGlobals "_law_share" = some (some (.ref f13))) (l13 : K.lookup f13 = some ⟨oc13, od13, .func (PySem.W.fnOf "_law_share" "_law_share" (defArgs s_law_share) (defBody s_law_share) (defScope s_law_share) .none kV13 dc13 pm13 an13 cd13 ct13), sl13⟩) (c13 : PySem.W.codeIn K cd13 "_law_share" = true) (k13 : PySem.W.keepIn K (.ref f13) = true)
    (a14 : PySem.W.nsIn K mainGlobals "_law_start_here" = some (some (.ref f14))) (l14 : K.lookup f14 = some ⟨oc14, od14, .func (PySem.W.fnOf "_law_start_here" "_law_start_here" (defArgs s_law_start_here) (defBody s_law_start_here) (defScope s_law_start_here) .none kV14 dc14 pm14 an14 cd14 ct14), sl14⟩) (c14 : PySem.W.codeIn K cd14 "_law_start_here" = true) (k14 : PySem.W.keepIn K (.ref f14) = true)
    (a15 : PySem.W.nsIn K mainGlobals "_law_along" = some (some (.ref f15))) (l15 : K.lookup f15 = some ⟨oc15, od15, .func (PySem.W.fnOf "_law_along" "_law_along" (defArgs s_law_along) (defBody s_law_along) (defScope s_law_along) .none kV15 dc15 pm15 an15 cd15 ct15), sl15⟩) (c15 : PySem.W.codeIn K cd15 "_law_along" = true) (k15 : PySem.W.keepIn K (.ref f15) = true)
    (a16 : PySem.W.nsIn K mainGlobals "_law_some" = some (some (.ref f16))) (l16 : K.lookup f16 = some ⟨oc16, od16, .func (PySem.W.fnOf "_law_some" "_law_some" (defArgs s_law_some) (defBody s_law_some) (defScope s_law_some) .none kV16 dc16 pm16 an16 cd16 ct16), sl16⟩) (c16 : PySem.W.codeIn K cd16 "_law_some" = true) (k16 : PySem.W.keepIn K (.ref f16) = true)
    (a17 : PySem.W.nsIn K mainGlobals "arc" = some (some (.ref f17))) (l17 : K.lookup f17 = some ⟨oc17, od17, .func (PySem.W.fnOf "arc" "arc" (defArgs s_arc) (defBody s_arc) (defScope s_arc) .none kV17 dc17 pm17 an17 cd17 ct17), sl17⟩) (c17 : PySem.W.codeIn K cd17 "arc" = true) (k17 : PySem.W.keepIn K (.ref f17) = true)
    (a18 : PySem.W.nsIn K mainGlobals "_law_kind" = some (some (.ref f18))) (l18 : K.lookup f18 = some ⟨oc18, od18, .func (PySem.W.fnOf "_law_kind" "_law_kind" (defArgs s_law_kind) (defBody s_law_kind) (defScope s_law_kind) .none kV18 dc18 pm18 an18 cd18 ct18), sl18⟩) (c18 : PySem.W.codeIn K cd18 "_law_kind" = true) (k18 : PySem.W.keepIn K (.ref f18) = true)
    (a19 : PySem.W.nsIn K mainGlobals "_law_asked" = some (some (.ref f19))) (l19 : K.lookup f19 = some ⟨oc19, od19, .func (PySem.W.fnOf "_law_asked" "_law_asked" (defArgs s_law_asked) (defBody s_law_asked) (defScope s_law_asked) .none kV19 dc19 pm19 an19 cd19 ct19), sl19⟩) (c19 : PySem.W.codeIn K cd19 "_law_asked" = true) (k19 : PySem.W.keepIn K (.ref f19) = true)
    (a20 : PySem.W.nsIn K mainGlobals "_law_far" = some (some (.ref f20))) (l20 : K.lookup f20 = some ⟨oc20, od20, .func (PySem.W.fnOf "_law_far" "_law_far" (defArgs s_law_far) (defBody s_law_far) (defScope s_law_far) .none kV20 dc20 pm20 an20 cd20 ct20), sl20⟩) (c20 : PySem.W.codeIn K cd20 "_law_far" = true) (k20 : PySem.W.keepIn K (.ref f20) = true)
    (a21 : PySem.W.nsIn K mainGlobals "_law_due" = some (some (.ref f21))) (l21 : K.lookup f21 = some ⟨oc21, od21, .func (PySem.W.fnOf "_law_due" "_law_due" (defArgs s_law_due) (defBody s_law_due) (defScope s_law_due) .none kV21 dc21 pm21 an21 cd21 ct21), sl21⟩) (c21 : PySem.W.codeIn K cd21 "_law_due" = true) (k21 : PySem.W.keepIn K (.ref f21) = true)
    (a22 : PySem.W.nsIn K mainGlobals "_law_two" = some (some (.ref f22))) (l22 : K.lookup f22 = some ⟨oc22, od22, .func (PySem.W.fnOf "_law_two" "_law_two" (defArgs s_law_two) (defBody s_law_two) (defScope s_law_two) .none kV22 dc22 pm22 an22 cd22 ct22), sl22⟩) (c22 : PySem.W.codeIn K cd22 "_law_two" = true) (k22 : PySem.W.keepIn K (.ref f22) = true)
    (a23 : PySem.W.nsIn K mainGlobals "law" = some (some (.ref f23))) (l23 : K.lookup f23 = some ⟨oc23, od23, .func (PySem.W.fnOf "law" "law" (defArgs s_law) (defBody s_law) (defScope s_law) .none kV23 dc23 pm23 an23 cd23 ct23), sl23⟩) (c23 : PySem.W.codeIn K cd23 "law" = true) (k23 : PySem.W.keepIn K (.ref f23) = true)
    (z_ValueError : PySem.W.nsIn K mainGlobals "ValueError" = some none)
    (z_abs : PySem.W.nsIn K mainGlobals "abs" = some none)
    (z_int : PySem.W.nsIn K mainGlobals "int" = some none)
    (z_isinstance : PySem.W.nsIn K mainGlobals "isinstance" = some none)
    (z_range : PySem.W.nsIn K mainGlobals "range" = some none)
    (z_tuple : PySem.W.nsIn K mainGlobals "tuple" = some none)
    {C_MillError C_NoKin C_NoNumber C_NoPiece C_NoRow C_NoText C_TooMuch : Addr}
    (ac_NoKin : PySem.W.nsIn K mainGlobals "NoKin" = some (some (.ref C_NoKin)))
    (ac_NoNumber : PySem.W.nsIn K mainGlobals "NoNumber" = some (some (.ref C_NoNumber)))
    (ac_NoRow : PySem.W.nsIn K mainGlobals "NoRow" = some (some (.ref C_NoRow)))
    (ac_NoText : PySem.W.nsIn K mainGlobals "NoText" = some (some (.ref C_NoText)))
    (ac_TooMuch : PySem.W.nsIn K mainGlobals "TooMuch" = some (some (.ref C_TooMuch)))
    (ac_MillError : PySem.W.nsIn K mainGlobals "MillError" = some (some (.ref C_MillError))) (xc_MillError : PySem.W.excIn K C_MillError bmV "ValueError.__new__" = true)
    (ac_NoPiece : PySem.W.nsIn K mainGlobals "NoPiece" = some (some (.ref C_NoPiece))) (xc_NoPiece : PySem.W.excIn K C_NoPiece bmV "ValueError.__new__" = true)
    (ex0_NoPiece : PySem.W.findIn K (.ref C_NoPiece) "__getattribute__" = some (some (.builtin "BaseException.__getattribute__")))
    (ex1_NoPiece : PySem.W.findIn K (.ref C_NoPiece) "__getattr__" = some none)
    (ex2_NoPiece : PySem.W.findIn K (.ref C_NoPiece) "__class__" = some (some (.builtin "object.__class__")))
    (ex3_NoPiece : PySem.W.specialIn K (.builtin "object.__class__") "__get__" = some (some (.builtin "getset_descriptor.__get__")))
    (ex4_NoPiece : PySem.W.takesIn K (.builtin "object.__class__") = some true)
    (ex5_NoPiece : PySem.W.mroIn K C_NoPiece (.type "object") = some true)
    (ex6_NoPiece : PySem.W.mroIn K C_NoPiece (.type "BaseException") = some true)
    (m_MillError : PySem.W.exmOne K (.ref C_NoPiece) (.ref C_MillError) = some true)
    (q_ValueError : PySem.W.kitOne K (.ref C_NoPiece) (.type "ValueError") = some true)
    (q_others : PySem.W.kitAny K (.ref C_NoPiece) [.ref C_NoKin, .ref C_NoNumber, .ref C_NoRow, .ref C_NoText, .ref C_TooMuch] = some false)
    : ∃ fd : FuncData, (∀ (s : Shared) (v : Value), BindsTo s fd ⟨[v], []⟩ [("_law_script", v)]) ∧ ∀ base : Heap, K.In base → base.Ns mainGlobals mg → FnOk l.prog w K mg base CX0 111 fa fd ["_law_script"] (lowSp K sp_law) := by
  have e := hfa.symm.trans (PySem.W.mg_of X G a23)
  cases e
  have F0 := fun_mk (st := s_on_one_bottom) l0 c0 k0
  have H0 : HasF K mg "on_one_bottom" s_on_one_bottom ["p"] := ⟨_, _, F0, PySem.W.mg_of X G a0, F0.binds (ps := ["p"]) fun _ _ _ _ _ _ us hl => match us, hl with | [_], _ => rfl⟩
  have F1 := fun_mk (st := s_sign) l1 c1 k1
  have H1 : HasF K mg "sign" s_sign ["number"] := ⟨_, _, F1, PySem.W.mg_of X G a1, F1.binds (ps := ["number"]) fun _ _ _ _ _ _ us hl => match us, hl with | [_], _ => rfl⟩
  have F2 := fun_mk (st := s_scaled_far) l2 c2 k2
  have H2 : HasF K mg "scaled_far" s_scaled_far ["c", "p"] := ⟨_, _, F2, PySem.W.mg_of X G a2, F2.binds (ps := ["c", "p"]) fun _ _ _ _ _ _ us hl => match us, hl with | [_, _], _ => rfl⟩
  have F3 := fun_mk (st := s_farther) l3 c3 k3
  have H3 : HasF K mg "farther" s_farther ["c", "p", "q"] := ⟨_, _, F3, PySem.W.mg_of X G a3, F3.binds (ps := ["c", "p", "q"]) fun _ _ _ _ _ _ us hl => match us, hl with | [_, _, _], _ => rfl⟩
  have F4 := fun_mk (st := s_law_feed) l4 c4 k4
  have H4 : HasF K mg "_law_feed" s_law_feed ["_law_cell"] := ⟨_, _, F4, PySem.W.mg_of X G a4, F4.binds (ps := ["_law_cell"]) fun _ _ _ _ _ _ us hl => match us, hl with | [_], _ => rfl⟩
  have F5 := fun_mk (st := s_law_draw) l5 c5 k5
  have H5 : HasF K mg "_law_draw" s_law_draw ["_law_from", "_law_many"] := ⟨_, _, F5, PySem.W.mg_of X G a5, F5.binds (ps := ["_law_from", "_law_many"]) fun _ _ _ _ _ _ us hl => match us, hl with | [_, _], _ => rfl⟩
  have F6 := fun_mk (st := s_law_lowest) l6 c6 k6
  have H6 : HasF K mg "_law_lowest" s_law_lowest ["_law_top", "_law_bottom"] := ⟨_, _, F6, PySem.W.mg_of X G a6, F6.binds (ps := ["_law_top", "_law_bottom"]) fun _ _ _ _ _ _ us hl => match us, hl with | [_, _], _ => rfl⟩
  have F7 := fun_mk (st := s_law_small) l7 c7 k7
  have H7 : HasF K mg "_law_small" s_law_small ["_law_from"] := ⟨_, _, F7, PySem.W.mg_of X G a7, F7.binds (ps := ["_law_from"]) fun _ _ _ _ _ _ us hl => match us, hl with | [_], _ => rfl⟩
  have F8 := fun_mk (st := s_law_spot) l8 c8 k8
  have H8 : HasF K mg "_law_spot" s_law_spot ["_law_from"] := ⟨_, _, F8, PySem.W.mg_of X G a8, F8.binds (ps := ["_law_from"]) fun _ _ _ _ _ _ us hl => match us, hl with | [_], _ => rfl⟩
  have F9 := fun_mk (st := s_law_sum) l9 c9 k9
  have H9 : HasF K mg "_law_sum" s_law_sum ["_law_one", "_law_other", "_law_by"] := ⟨_, _, F9, PySem.W.mg_of X G a9, F9.binds (ps := ["_law_one", "_law_other", "_law_by"]) fun _ _ _ _ _ _ us hl => match us, hl with | [_, _, _], _ => rfl⟩
  have F10 := fun_mk (st := s_law_both) l10 c10 k10
  have H10 : HasF K mg "_law_both" s_law_both ["_law_p", "_law_q", "_law_by"] := ⟨_, _, F10, PySem.W.mg_of X G a10, F10.binds (ps := ["_law_p", "_law_q", "_law_by"]) fun _ _ _ _ _ _ us hl => match us, hl with | [_, _, _], _ => rfl⟩
  have F11 := fun_mk (st := s_law_product) l11 c11 k11
  have H11 : HasF K mg "_law_product" s_law_product ["_law_one", "_law_other"] := ⟨_, _, F11, PySem.W.mg_of X G a11, F11.binds (ps := ["_law_one", "_law_other"]) fun _ _ _ _ _ _ us hl => match us, hl with | [_, _], _ => rfl⟩
  have F12 := fun_mk (st := s_law_at_share) l12 c12 k12
  have H12 : HasF K mg "_law_at_share" s_law_at_share ["_law_c", "_law_a", "_law_t"] := ⟨_, _, F12, PySem.W.mg_of X G a12, F12.binds (ps := ["_law_c", "_law_a", "_law_t"]) fun _ _ _ _ _ _ us hl => match us, hl with | [_, _, _], _ => rfl⟩
  have F13 := fun_mk (st := s_law_share) l13 c13 k13
  have H13 : HasF K mg "_law_share" s_law_share ["_law_from"] := ⟨_, _, F13, PySem.W.mg_of X G a13, F13.binds (ps := ["_law_from"]) fun _ _ _ _ _ _ us hl => match us, hl with | [_], _ => rfl⟩
  have F14 := fun_mk (st := s_law_start_here) l14 c14 k14
  have H14 : HasF K mg "_law_start_here" s_law_start_here ["_law_from"] := ⟨_, _, F14, PySem.W.mg_of X G a14, F14.binds (ps := ["_law_from"]) fun _ _ _ _ _ _ us hl => match us, hl with | [_], _ => rfl⟩
  have F15 := fun_mk (st := s_law_along) l15 c15 k15
  have H15 : HasF K mg "_law_along" s_law_along ["_law_p", "_law_q"] := ⟨_, _, F15, PySem.W.mg_of X G a15, F15.binds (ps := ["_law_p", "_law_q"]) fun _ _ _ _ _ _ us hl => match us, hl with | [_, _], _ => rfl⟩
  have F16 := fun_mk (st := s_law_some) l16 c16 k16
  have H16 : HasF K mg "_law_some" s_law_some ["_law_from", "_law_c", "_law_a", "_law_many"] := ⟨_, _, F16, PySem.W.mg_of X G a16, F16.binds (ps := ["_law_from", "_law_c", "_law_a", "_law_many"]) fun _ _ _ _ _ _ us hl => match us, hl with | [_, _, _, _], _ => rfl⟩
  have F17 := fun_mk (st := s_arc) l17 c17 k17
  have H17 : HasF K mg "arc" s_arc ["c", "p", "q"] := ⟨_, _, F17, PySem.W.mg_of X G a17, F17.binds (ps := ["c", "p", "q"]) fun _ _ _ _ _ _ us hl => match us, hl with | [_, _, _], _ => rfl⟩
  have F18 := fun_mk (st := s_law_kind) l18 c18 k18
  have H18 : HasF K mg "_law_kind" s_law_kind ["_law_e"] := ⟨_, _, F18, PySem.W.mg_of X G a18, F18.binds (ps := ["_law_e"]) fun _ _ _ _ _ _ us hl => match us, hl with | [_], _ => rfl⟩
  have F19 := fun_mk (st := s_law_asked) l19 c19 k19
  have H19 : HasF K mg "_law_asked" s_law_asked ["_law_c", "_law_p", "_law_q"] := ⟨_, _, F19, PySem.W.mg_of X G a19, F19.binds (ps := ["_law_c", "_law_p", "_law_q"]) fun _ _ _ _ _ _ us hl => match us, hl with | [_, _, _], _ => rfl⟩
  have F20 := fun_mk (st := s_law_far) l20 c20 k20
  have H20 : HasF K mg "_law_far" s_law_far ["_law_p", "_law_q"] := ⟨_, _, F20, PySem.W.mg_of X G a20, F20.binds (ps := ["_law_p", "_law_q"]) fun _ _ _ _ _ _ us hl => match us, hl with | [_, _], _ => rfl⟩
  have F21 := fun_mk (st := s_law_due) l21 c21 k21
  have H21 : HasF K mg "_law_due" s_law_due ["_law_c", "_law_p", "_law_q"] := ⟨_, _, F21, PySem.W.mg_of X G a21, F21.binds (ps := ["_law_c", "_law_p", "_law_q"]) fun _ _ _ _ _ _ us hl => match us, hl with | [_, _, _], _ => rfl⟩
  have F22 := fun_mk (st := s_law_two) l22 c22 k22
  have H22 : HasF K mg "_law_two" s_law_two ["_law_from", "_law_c", "_law_p"] := ⟨_, _, F22, PySem.W.mg_of X G a22, F22.binds (ps := ["_law_from", "_law_c", "_law_p"]) fun _ _ _ _ _ _ us hl => match us, hl with | [_, _, _], _ => rfl⟩
  have F23 := fun_mk (st := s_law) l23 c23 k23
  have n_ValueError := PySem.W.mg_none_of X G z_ValueError
  have n_abs := PySem.W.mg_none_of X G z_abs
  have n_int := PySem.W.mg_none_of X G z_int
  have n_isinstance := PySem.W.mg_none_of X G z_isinstance
  have n_range := PySem.W.mg_none_of X G z_range
  have n_tuple := PySem.W.mg_none_of X G z_tuple
  have g_NoKin : HasG K mg "NoKin" (.ref C_NoKin) := ⟨_, .ref C_NoKin, PySem.W.mg_of X G ac_NoKin, rfl, fun H => rep_ref⟩
  have g_NoNumber : HasG K mg "NoNumber" (.ref C_NoNumber) := ⟨_, .ref C_NoNumber, PySem.W.mg_of X G ac_NoNumber, rfl, fun H => rep_ref⟩
  have g_NoRow : HasG K mg "NoRow" (.ref C_NoRow) := ⟨_, .ref C_NoRow, PySem.W.mg_of X G ac_NoRow, rfl, fun H => rep_ref⟩
  have g_NoText : HasG K mg "NoText" (.ref C_NoText) := ⟨_, .ref C_NoText, PySem.W.mg_of X G ac_NoText, rfl, fun H => rep_ref⟩
  have g_TooMuch : HasG K mg "TooMuch" (.ref C_TooMuch) := ⟨_, .ref C_TooMuch, PySem.W.mg_of X G ac_TooMuch, rfl, fun H => rep_ref⟩
  have e_NoPiece : ExcK K C_NoPiece := ⟨ex0_NoPiece, ex1_NoPiece, ex2_NoPiece, ex3_NoPiece, ex4_NoPiece, ex5_NoPiece, ex6_NoPiece⟩
  have q_NoPiece : PySem.W.kitOne K (.ref C_NoPiece) (.ref C_NoPiece) = some true := kit_self
  have c_MillError : HasC K mg "MillError" C_MillError := ⟨PySem.W.mg_of X G ac_MillError, xc_MillError⟩
  have c_NoPiece : HasC K mg "NoPiece" C_NoPiece := ⟨PySem.W.mg_of X G ac_NoPiece, xc_NoPiece⟩
  refine ⟨PySem.W.fnOf "law" "law" (defArgs s_law) (defBody s_law) (defScope s_law) .none kV23 dc23 pm23 an23 cd23 ct23, fun s v => .of_eq rfl, fun base _ _ => ?_⟩
  have h_on_one_bottom := has_on_one_bottom (P := l.prog) (w := w) (base := base) H0
  have h_sign := has_sign (P := l.prog) (w := w) (base := base) H1
  have h_scaled_far := has_scaled_far (P := l.prog) (w := w) (base := base) H2 h_on_one_bottom
  have h_farther := has_farther (P := l.prog) (w := w) (base := base) H3 h_scaled_far h_sign
  have h_law_feed := has_law_feed (P := l.prog) (w := w) (base := base) H4 n_int
  have h_law_draw := has_law_draw (P := l.prog) (w := w) (base := base) H5
  have h_law_lowest := has_law_lowest (P := l.prog) (w := w) (base := base) H6 n_abs
  have h_law_small := has_law_small (P := l.prog) (w := w) (base := base) H7 h_law_draw h_law_lowest
  have h_law_spot := has_law_spot (P := l.prog) (w := w) (base := base) H8 h_law_small
  have h_law_sum := has_law_sum (P := l.prog) (w := w) (base := base) H9 h_law_lowest
  have h_law_both := has_law_both (P := l.prog) (w := w) (base := base) H10 h_law_sum
  have h_law_product := has_law_product (P := l.prog) (w := w) (base := base) H11 h_law_lowest
  have h_law_at_share := has_law_at_share (P := l.prog) (w := w) (base := base) H12 h_law_lowest h_law_sum h_law_product h_law_both
  have h_law_share := has_law_share (P := l.prog) (w := w) (base := base) H13 h_law_draw h_law_lowest
  have h_law_start_here := has_law_start_here (P := l.prog) (w := w) (base := base) H14 h_law_spot h_law_both
  have h_law_along := has_law_along (P := l.prog) (w := w) (base := base) H15 h_law_sum h_law_product
  have h_law_some := has_law_some (P := l.prog) (w := w) (base := base) H16 h_law_at_share h_law_share h_law_draw h_law_both n_range
  have h_arc := has_arc (P := l.prog) (w := w) (base := base) H17 h_farther
  have x_arc := hax_arc (P := l.prog) (w := w) (base := base) H17 h_farther c_NoPiece
  have h_law_kind := has_law_kind (P := l.prog) (w := w) (base := base) H18 c_NoPiece q_NoPiece q_ValueError q_others e_NoPiece g_NoKin g_NoNumber g_NoRow g_NoText g_TooMuch n_isinstance n_ValueError
  have h_law_asked := has_law_asked (P := l.prog) (w := w) (base := base) H19 h_arc x_arc h_law_kind c_MillError m_MillError
  have h_law_far := has_law_far (P := l.prog) (w := w) (base := base) H20 h_law_both h_law_along
  have h_law_due := has_law_due (P := l.prog) (w := w) (base := base) H21 h_law_far
  have h_law_two := has_law_two (P := l.prog) (w := w) (base := base) H22 h_law_draw h_law_some h_law_sum h_law_small h_law_spot
  exact has_law (P := l.prog) (w := w) (base := base) F23 h_law_feed h_law_start_here h_law_two h_law_asked h_law_due n_isinstance n_tuple
end Lw
open PySem PySem.W PyProof.Rows
set_option maxRecDepth 100000 in
set_option maxHeartbeats 0 in
theorem PySem.Challenge.cw_arcmill_k14_arcs_made_holds : PySem.Challenge.rw_arcmill_k14_arcs_made.Holds := by
  w_on; o_law; k_head; (case hw => w_witness2)
  k_fill
  refine Dd.walk_ofD (l := PySem.Challenge.rw_arcmill_k14_arcs_made) (n := 63) (k := 111) (x := "_law_script") (sp := Lw.sp_law) rfl (by decide) rfl ⟨rfl, by decide, by decide⟩ (fun w h Y => PySem.W.kIn_of Y) ?F Lw.law_here
  case F =>
    intro w mg fa h KX G hmg
    refine' Lw.all_mk KX G hmg ?a0 ?l0 ?c0 ?k0 ?a1 ?l1 ?c1 ?k1 ?a2 ?l2 ?c2 ?k2 ?a3 ?l3 ?c3 ?k3 ?a4 ?l4 ?c4 ?k4 ?a5 ?l5 ?c5 ?k5 ?a6 ?l6 ?c6 ?k6 ?a7 ?l7 ?c7 ?k7 ?a8 ?l8 ?c8 ?k8 ?a9 ?l9 ?c9 ?k9 ?a10 ?l10 ?c10 ?k10 ?a11 ?l11 ?c11 ?k11 ?a12 ?l12 ?c12 ?k12 ?a13 ?l13 ?c13 ?k13 ?a14 ?l14 ?c14 ?k14 ?a15 ?l15 ?c15 ?k15 ?a16 ?l16 ?c16 ?k16 ?a17 ?l17 ?c17 ?k17 ?a18 ?l18 ?c18 ?k18 ?a19 ?l19 ?c19 ?k19 ?a20 ?l20 ?c20 ?k20 ?a21 ?l21 ?c21 ?k21 ?a22 ?l22 ?c22 ?k22 ?a23 ?l23 ?c23 ?k23 ?z_ValueError ?z_abs ?z_int ?z_isinstance ?z_range ?z_tuple ?ac_NoKin ?ac_NoNumber ?ac_NoRow ?ac_NoText ?ac_TooMuch ?ac_MillError ?xc_MillError ?ac_NoPiece ?xc_NoPiece ?ex0_NoPiece ?ex1_NoPiece ?ex2_NoPiece ?ex3_NoPiece ?ex4_NoPiece ?ex5_NoPiece ?ex6_NoPiece ?m_MillError ?q_ValueError ?q_others
    (case a0 => k_is)
    (case l0 => k_is)
    (case c0 => k_is)
    (case k0 => k_is)
    (case a1 => k_is)
    (case l1 => k_is)
    (case c1 => k_is)
    (case k1 => k_is)
    (case a2 => k_is)
    (case l2 => k_is)
    (case c2 => k_is)
    (case k2 => k_is)
    (case a3 => k_is)
    (case l3 => k_is)
    (case c3 => k_is)
    (case k3 => k_is)
    (case a4 => k_is)
    (case l4 => k_is)
    (case c4 => k_is)
    (case k4 => k_is)
    (case a5 => k_is)
    (case l5 => k_is)
    (case c5 => k_is)
    (case k5 => k_is)
    (case a6 => k_is)
    (case l6 => k_is)
    (case c6 => k_is)
    (case k6 => k_is)
    (case a7 => k_is)
    (case l7 => k_is)
    (case c7 => k_is)
    (case k7 => k_is)
    (case a8 => k_is)
    (case l8 => k_is)
    (case c8 => k_is)
    (case k8 => k_is)
    (case a9 => k_is)
    (case l9 => k_is)
    (case c9 => k_is)
    (case k9 => k_is)
    (case a10 => k_is)
    (case l10 => k_is)
    (case c10 => k_is)
    (case k10 => k_is)
    (case a11 => k_is)
    (case l11 => k_is)
    (case c11 => k_is)
    (case k11 => k_is)
    (case a12 => k_is)
    (case l12 => k_is)
    (case c12 => k_is)
    (case k12 => k_is)
    (case a13 => k_is)
    (case l13 => k_is)
    (case c13 => k_is)
    (case k13 => k_is)
    (case a14 => k_is)
    (case l14 => k_is)
    (case c14 => k_is)
    (case k14 => k_is)
    (case a15 => k_is)
    (case l15 => k_is)
    (case c15 => k_is)
    (case k15 => k_is)
    (case a16 => k_is)
    (case l16 => k_is)
    (case c16 => k_is)
    (case k16 => k_is)
    (case a17 => k_is)
    (case l17 => k_is)
    (case c17 => k_is)
    (case k17 => k_is)
    (case a18 => k_is)
    (case l18 => k_is)
    (case c18 => k_is)
    (case k18 => k_is)
    (case a19 => k_is)
    (case l19 => k_is)
    (case c19 => k_is)
    (case k19 => k_is)
    (case a20 => k_is)
    (case l20 => k_is)
    (case c20 => k_is)
    (case k20 => k_is)
    (case a21 => k_is)
    (case l21 => k_is)
    (case c21 => k_is)
    (case k21 => k_is)
    (case a22 => k_is)
    (case l22 => k_is)
    (case c22 => k_is)
    (case k22 => k_is)
    (case a23 => k_is)
    (case l23 => k_is)
    (case c23 => k_is)
    (case k23 => k_is)
    (case z_ValueError => k_is)
    (case z_abs => k_is)
    (case z_int => k_is)
    (case z_isinstance => k_is)
    (case z_range => k_is)
    (case z_tuple => k_is)
    (case ac_NoKin => k_is)
    (case ac_NoNumber => k_is)
    (case ac_NoRow => k_is)
    (case ac_NoText => k_is)
    (case ac_TooMuch => k_is)
    (case ac_MillError => k_is)
    (case xc_MillError => unfold Dd.bmV; k_exc)
    (case ac_NoPiece => k_is)
    (case xc_NoPiece => unfold Dd.bmV; k_exc)
    (case ex0_NoPiece => k_is)
    (case ex1_NoPiece => k_is)
    (case ex2_NoPiece => k_is)
    (case ex3_NoPiece => k_is)
    (case ex4_NoPiece => k_is)
    (case ex5_NoPiece => k_is)
    (case ex6_NoPiece => k_is)
    (case m_MillError => kts_exm)
    (case q_ValueError => kit_is)
    (case q_others => kit_is)


