import PyProof.Rows.All
import Wide.All
import OpenK.AllK
import Wide.FinOn
import Lean
import PyProof.EqAt
import PyProof.EqKinds
import PyProof.TupleCall
import PyProof.NeKinds
import PyProof.IsRules
import PyProof.CompFree
import KE.LcSums
import PyProof.FactsAll.range_1
import PyProof.SeqRoads2
import KE.KRevSl
import PyProof.ZipIter
import PyProof.TupleIter
import PyProof.FitsBits
import PyProof.NoPylong
import KE.IntBitsLaws
import PyProof.CompMap
import PyProof.AutoSeq1
import PyProof.SeqInW
import KE.KDictList
import PyProof.Rows.TupDisplay
import KE.KSortTup
import PySem.Challenge.RW_arcmill_k13_whole_stretches_cut_to_piece
-- CHANGE: your row's module here, as the last of these rows
set_option Elab.async false
set_option linter.all false
set_option maxRecDepth 100000
namespace L2
open PySem PySem.Spec PyProof.Rows

abbrev Key := Sum Int Str
def keyIs : Key → Value → Bool
  | .inl k, v => Value.isInt k v
  | .inr x, v => Value.isStrOf x v
def keyH (w : World) : Key → Int
  | .inl k => hashInt k
  | .inr x => hashStr w x
theorem keyIs_shape : ∀ {k : Key} {v : Value}, keyIs k v = true → (∃ i t, k = Sum.inl i ∧ v = Value.int i t) ∨ (∃ x t, k = Sum.inr x ∧ v = Value.str x t)
  | .inl i, v, h => by
    obtain ⟨t, e⟩ := Value.isInt_shape (k := i) (v := v) h
    exact .inl ⟨i, t, rfl, e⟩
  | .inr x, v, h => by
    obtain ⟨t, e⟩ := Value.isStrOf_shape (x := x) (v := v) h
    exact .inr ⟨x, t, rfl, e⟩
theorem key_ll (a b : Int) : decide ((Sum.inl a : Key) = Sum.inl b) = (a == b) := by
  by_cases e : a = b
  · subst e; simp
  · have h : ¬ (Sum.inl a : Key) = Sum.inl b := fun q => e (Sum.inl.inj q)
    rw [decide_eq_false h]
    exact (beq_eq_false_iff_ne.mpr e).symm
theorem key_rr (a b : Str) : decide ((Sum.inr a : Key) = Sum.inr b) = decide (a = b) := by
  by_cases e : a = b
  · subst e; simp
  · have h : ¬ (Sum.inr a : Key) = Sum.inr b := fun q => e (Sum.inr.inj q)
    rw [decide_eq_false h, decide_eq_false e]
theorem key_lr (a : Int) (b : Str) : decide ((Sum.inl a : Key) = Sum.inr b) = false := decide_eq_false (fun q => nomatch q)
theorem key_rl (a : Str) (b : Int) : decide ((Sum.inr a : Key) = Sum.inl b) = false := decide_eq_false (fun q => nomatch q)

def mixKind (prog : Program) (w : World) : PySem.KeyKind prog w Key where
  is := keyIs
  hash := keyH w
  inj := fun v a b ha hb => by
    rcases keyIs_shape ha with ⟨i, t, rfl, rfl⟩ | ⟨x, t, rfl, rfl⟩
    · rcases keyIs_shape hb with ⟨j, u, rfl, e⟩ | ⟨y, u, rfl, e⟩
      · injection e with e1 _; rw [e1]
      · exact nomatch e
    · rcases keyIs_shape hb with ⟨j, u, rfl, e⟩ | ⟨y, u, rfl, e⟩
      · exact nomatch e
      · injection e with e1 _; rw [e1]
  byValue := fun k v h => by
    rcases keyIs_shape h with ⟨i, t, rfl, rfl⟩ | ⟨x, t, rfl, rfl⟩ <;> rfl
  pyHash := fun hv h => by
    rcases keyIs_shape hv with ⟨i, t, rfl, rfl⟩ | ⟨x, t, rfl, rfl⟩
    · exact wpAny_pyHash_int h
    · exact wpAny_pyHash_str h
  eqBool := fun hu hv h => by
    rcases keyIs_shape hu with ⟨i, t, rfl, rfl⟩ | ⟨x, t, rfl, rfl⟩
    · rcases keyIs_shape hv with ⟨j, u, rfl, rfl⟩ | ⟨y, u, rfl, rfl⟩
      · rw [key_ll] at h; exact wpAny_eqBool_int h
      · rw [key_lr] at h; exact SeqAt.EqAt.int_str i t y u _ _ _ _ h
    · rcases keyIs_shape hv with ⟨j, u, rfl, rfl⟩ | ⟨y, u, rfl, rfl⟩
      · rw [key_rl] at h; exact SeqAt.EqAt.str_int x t j u _ _ _ _ h
      · rw [key_rr] at h; exact wpAny_eqBool_str h
  «strs» := fun k x t v h => by
    rcases keyIs_shape h with ⟨i, u, rfl, e⟩ | ⟨y, u, rfl, e⟩
    · exact nomatch e
    · injection e with e1 _
      subst e1
      cases v <;> rfl

end L2

namespace L2
open PySem PySem.Spec PyProof.Rows

inductive V where
  | non | bl (b : Bool) | int (i : Int) | str (x : Str) | byt (b : Array UInt8) | flt (b : UInt64) | ref (a : Addr) | ty (n : String)
  deriving DecidableEq

def RelV : V → Value → Prop
  | .non, u => u = Value.none
  | .bl b, u => u = Value.bool b
  | .int i, u => ∃ t, u = Value.int i t
  | .str x, u => ∃ t, u = Value.str x t
  | .byt b, u => ∃ t, u = Value.bytes b t
  | .flt b, u => ∃ t, u = Value.float b t
  | .ref a, u => u = Value.ref a
  | .ty n, u => u = Value.type n

abbrev Vals : List V → List Value → Prop := Paired RelV
theorem Vals.length {xs : List V} {us : List Value} (r : Vals xs us) : xs.length = us.length := Paired.length r
theorem Vals.get : ∀ {xs : List V} {us : List Value} {i : Nat} {x : V}, Vals xs us → xs[i]? = some x → ∃ u, us[i]? = some u ∧ RelV x u
  | _, _, _, _, .nil, e => by simp at e
  | _, _, 0, _, .cons r _, e => by simp at e; subst e; exact ⟨_, rfl, r⟩
  | _, _, i + 1, x, .cons _ t, e => by
    obtain ⟨u, h1, h2⟩ := Vals.get (i := i) (x := x) t (by simpa using e)
    exact ⟨u, by simpa using h1, h2⟩
theorem Vals.set {x : V} {u : Value} (r : RelV x u) : ∀ {xs : List V} {us : List Value} (i : Nat), Vals xs us → Vals (xs.set i x) (us.set i u)
  | _, _, _, .nil => .nil
  | _, _, 0, .cons _ t => .cons r t
  | _, _, i + 1, .cons q t => .cons q (Vals.set r i t)
theorem Vals.append : ∀ {xs ys : List V} {us ws : List Value}, Vals xs us → Vals ys ws → Vals (xs ++ ys) (us ++ ws)
  | _, _, _, _, .nil, s => s
  | _, _, _, _, .cons r t, s => .cons r (Vals.append t s)
theorem Vals.take : ∀ {xs : List V} {us : List Value} (n : Nat), Vals xs us → Vals (xs.take n) (us.take n)
  | _, _, 0, _ => .nil
  | _, _, _ + 1, .nil => .nil
  | _, _, n + 1, .cons r t => .cons r (Vals.take n t)
theorem Vals.drop : ∀ {xs : List V} {us : List Value} (n : Nat), Vals xs us → Vals (xs.drop n) (us.drop n)
  | _, _, 0, r => r
  | _, _, _ + 1, .nil => .nil
  | _, _, n + 1, .cons _ t => Vals.drop n t
def RelO : Option V → Option Value → Prop
  | some v, some u => RelV v u
  | none, none => True
  | _, _ => False
def KV {κ : Type} : List (κ × V) → List (κ × Value) → Prop := Paired fun (p : κ × V) (q : κ × Value) => p.1 = q.1 ∧ RelV p.2 q.2

def kV : Key → V
  | .inl i => .int i
  | .inr x => .str x

inductive HO where
    | lst (xs : List V)
    | tup (xs : List V)
    | dK (kvs : List (Key × V)) | dT (kvs : List (List Key × V))
    | set (S : Int → Bool) (n : Nat)
    | ins (C dx : Addr) (fs : List (Str × V))
    | own (x : Addr)
    | xd (fs : List (Str × V))
    | met (f x : Addr)
    | rng (lo hi : Int)
    | frz (o : Obj) (u : HO)
    | tbl (ps : Array Value)
    | ext (φ : Heap → Prop)

abbrev Hp := Addr → Option HO
def upd (H : Hp) (a : Addr) (o : HO) : Hp := fun b => if b = a then some o else H b
theorem upd_same {H : Hp} {a : Addr} {o : HO} : upd H a o a = some o := by unfold upd; rw [if_pos rfl]
theorem upd_ne {H : Hp} {a b : Addr} {o : HO} (h : b ≠ a) : upd H a o b = H b := by unfold upd; rw [if_neg h]
theorem ne_of {H : Hp} {a b : Addr} {o u : HO} (h : H a = some o) (h' : H b = some u) (d : o ≠ u) : a ≠ b := by
  intro e; subst e; rw [h] at h'; exact d (Option.some.inj h')
theorem ne_of_none {H : Hp} {a b : Addr} {o : HO} (h : H a = some o) (h' : H b = none) : a ≠ b := by
  intro e; subst e; rw [h] at h'; cases h'

section
variable (P : Program) (w : World)
def ObjOk (H : Hp) (h : Heap) (a : Addr) : HO → Prop
  | .lst xs => xs.length ≤ sizeLine ∧ ∃ (its : List Value) (n : Nat), Vals xs its ∧ h.get? a = some { cls := .type "list", data := .seq its.toArray n }
  | .tup xs => xs.length ≤ sizeLine ∧ ∃ its : List Value, Vals xs its ∧ IsTup h a its.toArray
  | .dK kvs => kvs.length ≤ sizeLine ∧ (a == sysModules) = false ∧ ∃ vs, KV kvs vs ∧ h.DictOf (mixKind P w) a vs
  | .dT kvs => kvs.length ≤ sizeLine ∧ (a == sysModules) = false ∧ ∃ xs : List (List Key × Addr × Value),
      Paired (fun (p : List Key × V) (q : List Key × Addr × Value) => p.1 = q.1 ∧ H q.2.1 = some (.tup (p.1.map kV)) ∧ RelV p.2 q.2.2) kvs xs ∧
      ∃ o es ep, h.get? a = some o ∧ o.ExactDict ∧ o.data = .dict es ep ∧ es.toList = xs.map (entryOfKey (tupleKind (mixKind P w))) ∧ (xs.map (·.1)).Nodup
  | .set S n => h.SetOf (intKind P w) a S n
  | .ins C dx fs => H dx = some (.own a) ∧ fs.length ≤ 1000 ∧ dx ≠ a ∧ h.get? a = some (PySem.W.instObj C dx) ∧
      ∃ mA, h.Ns1 dx mA ∧ (∀ f, RelO (fs.lookup f) (mA f)) ∧ PySem.Within mA (fs.map (·.1))
  | .own _ => ∃ o, h.get? a = some o
  | .xd fs => ∃ mA, h.Ns1 a mA ∧ ∀ f, RelO (fs.lookup f) (mA f)
  | .rng lo hi => ∃ t u v, h.get? a = some { cls := .type "range", data := .fields #[.int lo t, .int hi u, .int 1 v] }
  | .frz o u => h.get? a = some o ∧ ObjOk H h a u
  | .tbl ps => h.get? a = some { cls := .none, data := .fields ps }
  | .met f x => h.get? a = some (PySem.W.methodObj (.ref f) (.ref x))
  | .ext φ => φ h ∧ (∃ o, h.get? a = some o) ∧ ∀ h1 h2 : Heap, φ h1 → (∀ o, h1.get? a = some o → h2.get? a = some o) → φ h2
def HOk (H : Hp) (h : Heap) : Prop := ∀ a o, H a = some o → ObjOk P w H h a o
end

section
variable {P : Program} {w : World} {H H' : Hp} {h h' : Heap} {a : Addr} {o : HO}
theorem ObjOk.lt (x : ObjOk P w H h a o) : a < h.objs.size := by
  cases o with
  | lst xs => obtain ⟨_, _, _, _, e⟩ := x; exact Heap.lt_size e
  | tup xs => obtain ⟨_, _, _, p⟩ := x; exact p.lt
  | dK kvs => obtain ⟨_, _, _, _, o, _, _, e, _⟩ := x; exact Heap.lt_size e
  | dT kvs => obtain ⟨_, _, _, _, o, _, _, e, _⟩ := x; exact Heap.lt_size e
  | set S n => obtain ⟨o, _, _, _, e, _⟩ := x; exact Heap.lt_size e
  | ins C dx fs => obtain ⟨_, _, _, e, _⟩ := x; exact Heap.lt_size e
  | own y => obtain ⟨_, e⟩ := x; exact Heap.lt_size e
  | xd fs => obtain ⟨_, ⟨_, _, _, e, _⟩, _⟩ := x; exact Heap.lt_size e
  | rng lo hi => obtain ⟨_, _, _, e⟩ := x; exact Heap.lt_size e
  | frz ob u => obtain ⟨e, _⟩ := x; exact Heap.lt_size e
  | tbl ps => exact Heap.lt_size (show h.get? a = some _ from x)
  | met f y => exact Heap.lt_size (show h.get? a = some _ from x)
  | ext φ => obtain ⟨_, ⟨_, e⟩, _⟩ := x; exact Heap.lt_size e
theorem Paired.mapP {α β : Type} {F G : α → β → Prop} : ∀ {l₁ : List α} {l₂ : List β}, Paired F l₁ l₂ → (∀ a b, F a b → G a b) → Paired G l₁ l₂
  | _, _, .nil, _ => .nil
  | _, _, .cons r t, f => .cons (f _ _ r) (Paired.mapP t f)
theorem ObjOk.stay (x : ObjOk P w H h a o) (k : ∀ b u, (b = a ∨ H b = some (.own a)) → h.get? b = some u → h'.get? b = some u)
    (ho : ∀ b, H b = some (.own a) → H' b = some (.own a)) (ht : ∀ b xs, H b = some (.tup xs) → H' b = some (.tup xs)) : ObjOk P w H' h' a o := by
  induction o with
  | lst xs => obtain ⟨z, its, n, r, e⟩ := x; exact ⟨z, its, n, r, k _ _ (.inl rfl) e⟩
  | tup xs => obtain ⟨z, its, r, ob, e, c⟩ := x; exact ⟨z, its, r, ob, k _ _ (.inl rfl) e, c⟩
  | dK kvs => obtain ⟨z, y, vs, r, ob, es, ep, e, c⟩ := x; exact ⟨z, y, vs, r, ob, es, ep, k _ _ (.inl rfl) e, c⟩
  | dT kvs =>
    obtain ⟨z, y, xs, r, ob, es, ep, e, c⟩ := x
    exact ⟨z, y, xs, Paired.mapP r fun p q z => ⟨z.1, ht _ _ z.2.1, z.2.2⟩, ob, es, ep, k _ _ (.inl rfl) e, c⟩
  | set S n => obtain ⟨ob, es, ep, t, e, c⟩ := x; exact ⟨ob, es, ep, t, k _ _ (.inl rfl) e, c⟩
  | ins C dx fs =>
    obtain ⟨d, z, ne, e, mA, ⟨od, es, ep, e2, c⟩, r⟩ := x
    exact ⟨ho _ d, z, ne, k _ _ (.inl rfl) e, mA, ⟨od, es, ep, k _ _ (.inr d) e2, c⟩, r⟩
  | own y => obtain ⟨ob, e⟩ := x; exact ⟨ob, k _ _ (.inl rfl) e⟩
  | xd fs => obtain ⟨mA, ⟨od, es, ep, e, c⟩, r⟩ := x; exact ⟨mA, ⟨od, es, ep, k _ _ (.inl rfl) e, c⟩, r⟩
  | rng lo hi => obtain ⟨t, u, v, e⟩ := x; exact ⟨t, u, v, k _ _ (.inl rfl) e⟩
  | frz ob u ih => obtain ⟨e, q⟩ := x; exact ⟨k _ _ (.inl rfl) e, ih q⟩
  | tbl ps =>
    have e : h.get? a = some { cls := .none, data := .fields ps } := x
    show h'.get? a = some { cls := .none, data := .fields ps }
    exact k a _ (.inl rfl) e
  | met f y =>
    have e : h.get? a = some (PySem.W.methodObj (.ref f) (.ref y)) := x
    show h'.get? a = some (PySem.W.methodObj (.ref f) (.ref y))
    exact k a _ (.inl rfl) e
  | ext φ => obtain ⟨p, ⟨o, e⟩, st⟩ := x; exact ⟨st _ _ p fun o q => k _ _ (.inl rfl) q, ⟨o, k _ _ (.inl rfl) e⟩, st⟩
theorem HOk.lt (x : HOk P w H h) (e : H a = some o) : a < h.objs.size := (x a o e).lt
theorem HOk.fresh (x : HOk P w H h) (e : h.objs.size ≤ a) : H a = none := by
  cases q : H a with
  | none => rfl
  | some u => exact absurd (Nat.lt_of_lt_of_le (x.lt q) e) (Nat.lt_irrefl _)
theorem HOk.kept (x : HOk P w H h) (k : ∀ b u, h.get? b = some u → h'.get? b = some u) : HOk P w H h' := fun a o e =>
  (x a o e).stay (fun b u _ q => k b u q) (fun _ q => q) fun _ _ q => q
theorem HOk.laid (x : HOk P w H h) (k : ∀ b u, h.get? b = some u → h'.get? b = some u) (hp : h.objs.size ≤ a) (new : ObjOk P w (upd H a o) h' a o) : HOk P w (upd H a o) h' := fun b u e => by
  have hn := x.fresh hp
  by_cases hb : b = a
  · subst hb; rw [upd_same] at e; cases e; exact new
  · rw [upd_ne hb] at e
    exact (x b u e).stay (fun c v _ q => k c v q) (fun c q => by rw [upd_ne (ne_of_none q hn)]; exact q) fun c xs q => by rw [upd_ne (ne_of_none q hn)]; exact q
end

def Rd (H : Hp) (a : Addr) (u : HO) : Prop := H a = some u ∨ ∃ o, H a = some (.frz o u)
theorem Rd.of {H : Hp} {a : Addr} {u : HO} (h : H a = some u) : Rd H a u := .inl h
theorem Rd.ok {P : Program} {w : World} {H : Hp} {h : Heap} {a : Addr} {u : HO} (r : Rd H a u) (x : HOk P w H h) : ObjOk P w H h a u := by
  rcases r with r | ⟨o, r⟩
  · exact x a u r
  · obtain ⟨_, q⟩ := x a _ r
    exact q
def Mut : Option HO → Prop
  | some (.lst _) => True
  | some (.dK _) => True
  | some (.dT _) => True
  | some (.set _ _) => True
  | some (.ins _ _ _) => True
  | some (.ext _) => True
  | _ => False
section
variable {P : Program} {w : World} {H : Hp} {h h' : Heap} {x e : Addr} {o' : HO}
theorem HOk.write (ok : HOk P w H h) (mu : Mut (H x)) (he : e = x ∨ H e = some (.own x)) (k : ∀ b u, b ≠ e → h.get? b = some u → h'.get? b = some u) (heo : ∃ u, h'.get? e = some u)
    (new : ObjOk P w (upd H x o') h' x o') : HOk P w (upd H x o') h' := fun b u q => by
  have nown : ∀ c y, H c = some (.own y) → c ≠ x := fun c y r z => by subst z; rw [r] at mu; exact mu
  have ntup : ∀ c xs, H c = some (.tup xs) → c ≠ x := fun c xs r z => by subst z; rw [r] at mu; exact mu
  by_cases hb : b = x
  · subst hb; rw [upd_same] at q; cases q; exact new
  · rw [upd_ne hb] at q
    by_cases hbe : b = e
    · have q' : H b = some (.own x) := by
        rcases he with z | z
        · exact absurd (hbe.trans z) hb
        · rw [hbe]; exact z
      rw [q] at q'; cases q'
      obtain ⟨v, hv⟩ := heo
      exact ⟨v, by rw [hbe]; exact hv⟩
    · refine (ok b u q).stay (fun c v hc r => k c v ?_ r) (fun c r => by rw [upd_ne (nown c b r)]; exact r) fun c xs r => by rw [upd_ne (ntup c xs r)]; exact r
      rcases hc with rfl | hc
      · exact hbe
      · rintro rfl
        rcases he with z | z
        · exact nown c b hc z
        · rw [hc] at z; cases z; exact hb rfl
end

structure Un (fs ex : List Addr) (H H' : Hp) (h h' : Heap) : Prop where
  keep : ∀ b o, h.get? b = some o → H b = none → b ∉ fs → b ∉ ex → h'.get? b = some o
  slot : ∀ b o, h.get? b = some o → H b = none → b ∈ fs → b ∉ ex → ∃ sl, h'.get? b = some { o with slots := sl }
  free : ∀ b o, h.get? b = some o → H b = none → b ∉ ex → H' b = none
  there : ∀ b o, h.get? b = some o → b ∉ ex → ∃ o', h'.get? b = some o'
  tups : ∀ b xs, H b = some (.tup xs) → H' b = some (.tup xs)
  frzs : ∀ b o u, H b = some (.frz o u) → H' b = some (.frz o u)
  tbls : ∀ b ps, H b = some (.tbl ps) → ∃ more, H' b = some (.tbl (ps ++ more))
section
variable {fs fs' ex ex' : List Addr} {H H1 H2 : Hp} {h h1 h2 h' : Heap} {a x e : Addr} {o : HO}
theorem Un.any (u : Un fs ex H H1 h h1) {b : Addr} {ob : Obj} (q : h.get? b = some ob) (n : H b = none) (hx : b ∉ ex) : ∃ sl, h1.get? b = some { ob with slots := sl } := by
  by_cases hb : b ∈ fs
  · exact u.slot b ob q n hb hx
  · exact ⟨ob.slots, u.keep b ob q n hb hx⟩
theorem Un.trans (a : Un fs ex H H1 h h1) (b : Un fs ex H1 H2 h1 h2) : Un fs ex H H2 h h2 where
  keep := fun c ob q n hc hx => b.keep c ob (a.keep c ob q n hc hx) (a.free c ob q n hx) hc hx
  slot := fun c ob q n hc hx => by
    obtain ⟨sl, e1⟩ := a.slot c ob q n hc hx
    obtain ⟨sl', e2⟩ := b.slot c _ e1 (a.free c ob q n hx) hc hx
    exact ⟨sl', e2⟩
  free := fun c ob q n hx => by
    obtain ⟨o', e1⟩ := a.there c ob q hx
    exact b.free c o' e1 (a.free c ob q n hx) hx
  there := fun c ob q hx => by
    obtain ⟨o', e1⟩ := a.there c ob q hx
    exact b.there c o' e1 hx
  tups := fun c xs q => b.tups c xs (a.tups c xs q)
  frzs := fun c ob xs q => b.frzs c ob xs (a.frzs c ob xs q)
  tbls := fun c ps q => by
    obtain ⟨m1, e1⟩ := a.tbls c ps q
    obtain ⟨m2, e2⟩ := b.tbls c _ e1
    exact ⟨m1 ++ m2, by rw [e2, Array.append_assoc]⟩
theorem Un.kept (k : ∀ b u, h.get? b = some u → h'.get? b = some u) : Un fs ex H H h h' :=
  ⟨fun b ob q _ _ _ => k b ob q, fun b ob q _ _ _ => ⟨ob.slots, k b ob q⟩, fun _ _ _ n _ => n, fun b ob q _ => ⟨ob, k b ob q⟩, fun _ _ q => q, fun _ _ _ q => q, fun _ ps q => ⟨#[], by rw [q]; simp⟩⟩
theorem Un.refl : Un fs ex H H h h := Un.kept fun _ _ q => q
theorem Un.laid (k : ∀ b u, h.get? b = some u → h'.get? b = some u) (hp : h.objs.size ≤ a) (hn : H a = none) : Un fs ex H (upd H a o) h h' where
  keep := fun b u q _ _ _ => k b u q
  slot := fun b u q _ _ _ => ⟨u.slots, k b u q⟩
  free := fun b u q n _ => by rw [upd_ne (Nat.ne_of_lt (Nat.lt_of_lt_of_le (Heap.lt_size q) hp))]; exact n
  there := fun b u q _ => ⟨u, k b u q⟩
  tups := fun b xs q => by rw [upd_ne (ne_of_none q hn)]; exact q
  frzs := fun b u xs q => by rw [upd_ne (ne_of_none q hn)]; exact q
  tbls := fun b ps q => ⟨#[], by rw [upd_ne (ne_of_none q hn), q]; simp⟩
theorem Un.write (mu : Mut (H x)) (he : e = x ∨ H e = some (.own x)) (k : ∀ b u, b ≠ e → h.get? b = some u → h'.get? b = some u) (heo : ∃ u, h'.get? e = some u) : Un fs ex H (upd H x o) h h' := by
  have hx : ∀ b, H b = none → b ≠ x := fun b n z => by subst z; rw [n] at mu; exact mu
  have hb : ∀ b, H b = none → b ≠ e := fun b n z => by
    subst z
    rcases he with r | r
    · exact hx b n r
    · rw [n] at r; cases r
  have hm : ∀ b u, H b = some u → ¬ Mut (some u) → b ≠ x := fun b u q nm z => by subst z; rw [q] at mu; exact nm mu
  refine ⟨fun b u q n _ _ => k b u (hb b n) q, fun b u q n _ _ => ⟨u.slots, k b u (hb b n) q⟩, fun b u q n _ => by rw [upd_ne (hx b n)]; exact n, fun b u q _ => ?_,
    fun b xs q => by rw [upd_ne (hm b _ q fun z => z)]; exact q, fun b u xs q => by rw [upd_ne (hm b _ q fun z => z)]; exact q, fun b ps q => ⟨#[], by rw [upd_ne (hm b _ q fun z => z), q]; simp⟩⟩
  by_cases hbe : b = e
  · subst hbe; exact heo
  · exact ⟨u, k b u hbe q⟩
theorem Un.mono (u : Un fs ex H H1 h h1) (hs : ∀ b ∈ fs, b ∈ fs') (hx : ∀ b ∈ ex, b ∈ ex') : Un fs' ex' H H1 h h1 :=
  ⟨fun b ob q n hb he => u.keep b ob q n (fun z => hb (hs b z)) fun z => he (hx b z), fun _ _ q n _ he => u.any q n fun z => he (hx _ z), fun b ob q n he => u.free b ob q n fun z => he (hx b z), fun b ob q he => u.there b ob q fun z => he (hx b z), u.tups, u.frzs, u.tbls⟩
end

def trk (h : Heap) (H : Hp) : List Addr := (List.range h.objs.size).filter fun a => (H a).isSome
def hidT (h : Heap) (H : Hp) : Heap := PySem.W.hideAll h (trk h H)
theorem hidT_size (h : Heap) (H : Hp) : (hidT h H).objs.size = h.objs.size := PySem.W.hideAll_size _ _
theorem hidT_get {h : Heap} {H : Hp} {b : Addr} {o : Obj} (e : h.get? b = some o) (n : H b = none) : (hidT h H).get? b = some o :=
  PySem.W.hideAll_get _ e fun hm => by
    have q : (H b).isSome = true := (List.mem_filter.mp hm).2
    rw [n] at q; simp at q
theorem of_hidT {h : Heap} {H : Hp} {b : Addr} {o : Obj} (e : (hidT h H).get? b = some o) : h.get? b = some o ∧ H b = none := by
  have e' : h.get? b = some o := PySem.W.of_hideAll (trk h H) e
  refine ⟨e', ?_⟩
  cases q : H b with
  | none => rfl
  | some x =>
    have hm : b ∈ trk h H := List.mem_filter.mpr ⟨List.mem_range.mpr (Heap.lt_size e'), by simp [q]⟩
    have z : (hidT h H).get? b = none := PySem.W.hideAll_none (trk h H) hm
    rw [z] at e; cases e

def allNews (g h : Heap) (L : Addr) : List (Addr × Obj) := (List.range h.objs.size).filterMap fun a => if a = L ∨ (g.get? a).isSome = true then none else (h.get? a).map fun o => (a, o)
theorem mem_allNews {g h : Heap} {L a : Addr} {o : Obj} (h1 : a ≠ L) (h2 : g.get? a = none) (h3 : h.get? a = some o) : (a, o) ∈ allNews g h L :=
  List.mem_filterMap.mpr ⟨a, List.mem_range.mpr (Heap.lt_size h3), by simp [h1, h2, h3]⟩
theorem of_mem_allNews {g h : Heap} {L : Addr} {p : Addr × Obj} (hp : p ∈ allNews g h L) : p.1 ≠ L ∧ g.get? p.1 = none ∧ h.get? p.1 = some p.2 := by
  obtain ⟨b, _, e⟩ := List.mem_filterMap.mp hp
  split at e
  · cases e
  · rename_i hn
    cases q : h.get? b with
    | none => rw [q] at e; simp at e
    | some u =>
      rw [q] at e
      simp only [Option.map_some, Option.some.injEq] at e
      subst e
      refine ⟨fun z => hn (.inl z), ?_, q⟩
      show g.get? b = none
      cases r : g.get? b with
      | none => rfl
      | some v => exact (hn (.inr (by simp [r]))).elim
def rest (g h : Heap) (L d : Addr) : List (Addr × Obj) := (allNews g h L).filter fun p => decide (p.1 ≠ d)
theorem news_all {g h : Heap} {L : Addr} : News g L h (allNews g h L) := fun p hp => let ⟨a, b, c⟩ := of_mem_allNews hp; ⟨c, a, b⟩
end L2

namespace L2
open PySem PySem.Spec PyProof.Rows

structure Mod (K : PySem.W.Frag) (mg : Str → Option Value) (base : Heap) : Prop where
  kin : K.In base
  glob : base.Ns mainGlobals mg
  blt : ∃ mb, base.Ns builtinsNs mb ∧ ∀ x : Str, x ≠ "__name__" → mb x = bootBuiltins x
  nolimit : base.NoLimit

structure Cx where
  prog : Program
  w : World
  K : PySem.W.Frag
  mg : Str → Option Value
  base : Heap
  A : Around
  N : List Str
  s₀ : Shared
  H₀ : Hp
  env : Env
  outer : List Env
  stack : List Env
  ex : List Addr
  fn : Str → Bool
  calm : Bool
  pn : List (Addr × Obj)
  xe : Value → Shared → Prop
def frs (l : List Env) : List Addr := l.filterMap (·.frame)
abbrev Cx.fs (X : Cx) : List Addr := frs X.outer

def Vis (sc : Scope) (x : Str) : Prop := sc.names.lookup x = some .local ∨ sc.names.lookup x = some .cell ∨ sc.names.lookup x = some .free
def Loc (sc : Scope) (x : Str) : Prop := sc.names.lookup x = some .local ∨ sc.names.lookup x = some .cell
def Look (env : Env) (h : Heap) (m : Str → Option Value) (x : Str) (u : Value) : Prop :=
  (env.kindOf x = some .local ∧ m x = some u) ∨ ((env.kindOf x = some .cell ∨ env.kindOf x = some .free) ∧ ∃ c, env.cells.lookup x = some c ∧ h.IsCell c (some u))

structure Cx.Ok (X : Cx) : Prop where
  mod : Mod X.K X.mg X.base
  kind : X.env.scope.kind = .function
  glob : X.env.globals = mainGlobals
  blt : X.env.builtins = builtinsNs
  above : X.s₀.heap.objs.size ≤ X.env.locals
  inj : ∀ x y c, X.env.cells.lookup x = some c → X.env.cells.lookup y = some c → x = y
  has : ∀ x, (X.env.kindOf x = some .cell ∨ X.env.kindOf x = some .free) → ∃ c, X.env.cells.lookup x = some c
  cab : ∀ x c, X.fn x = true → X.env.cells.lookup x = some c → X.s₀.heap.objs.size ≤ c
  hd : X.calm = true → X.A.handled = none
  frames : X.A.frames = some X.stack
  stk : X.stack = X.outer ∨ (X.stack = X.env :: X.outer ∧ X.env.frame = some X.env.locals)
  exf : ∀ b ∈ X.ex, b ≠ X.env.locals ∧ ∀ x c, X.env.cells.lookup x = some c → c ≠ b
  bs : ∀ b o, X.base.get? b = some o → X.s₀.heap.get? b = some o ∧ X.H₀ b = none
  bsz : X.base.objs.size ≤ X.s₀.heap.objs.size
  noex : ∀ b o, X.base.get? b = some o → b ∉ X.ex
  exfs : ∀ b ∈ X.ex, b ∉ X.fs
  funs : X.s₀.heap.FunFrames X.base X.outer
  frf : ∀ b ∈ X.fs, X.H₀ b = none

structure Inv (X : Cx) (pins : List (Addr × Obj)) (σ : List (Option V)) (H : Hp) (s : Shared) : Prop where
  ok : X.Ok
  os : s.os = X.s₀.os
  bare : AllBare s.gens
  base : Un X.fs X.ex X.H₀ H X.s₀.heap s.heap
  loc : ∃ m, s.heap.Ns X.env.locals m ∧ ∀ (i : Nat) (x : Str) (v : V), X.N[i]? = some x → σ[i]? = some (some v) → Vis X.env.scope x → ∃ u, RelV v u ∧ Look X.env s.heap m x u
  cell : ∀ x c, X.env.cells.lookup x = some c → ∃ v, s.heap.IsCell c v
  free : H X.env.locals = none
  freeC : ∀ x c, X.env.cells.lookup x = some c → H c = none
  pin : ∀ p ∈ X.pn ++ pins, s.heap.get? p.1 = some p.2 ∧ H p.1 = none ∧ p.1 ≠ X.env.locals ∧ p.1 ∉ X.fs ∧ ∀ v, p.2.data ≠ .cell v
  hok : HOk X.prog X.w H s.heap
  len : σ.length = X.N.length

section
variable {X : Cx} {pins : List (Addr × Obj)} {σ : List (Option V)} {H H' : Hp} {s : Shared} {h' : Heap}

theorem Cx.Ok.nofr (ok : X.Ok) {b : Addr} {o : Obj} (e : X.base.get? b = some o) : b ∉ X.fs := fun hb => by
  have := (ok.funs.mem hb).1
  rw [e] at this; cases this
theorem Inv.bs (I : Inv X pins σ H s) : ∀ b o, X.base.get? b = some o → s.heap.get? b = some o ∧ H b = none := fun b o e =>
  ⟨I.base.keep b o (I.ok.bs b o e).1 (I.ok.bs b o e).2 (I.ok.nofr e) (I.ok.noex b o e), I.base.free b o (I.ok.bs b o e).1 (I.ok.bs b o e).2 (I.ok.noex b o e)⟩
theorem Inv.bk (I : Inv X pins σ H s) : ∀ b o, X.base.get? b = some o → s.heap.get? b = some o := fun b o e => (I.bs b o e).1
theorem Inv.mod (I : Inv X pins σ H s) : Mod X.K X.mg X.base := I.ok.mod
theorem Inv.kIn (I : Inv X pins σ H s) : X.K.In s.heap := I.ok.mod.kin.keeps I.bk
theorem Inv.nolimit (I : Inv X pins σ H s) : s.heap.NoLimit := I.ok.mod.nolimit.keeps I.bk
theorem Inv.fr (I : Inv X pins σ H s) : ∃ m, Fr X.base X.env.locals s.heap m :=
  let ⟨m, hn, _⟩ := I.loc
  ⟨m, hn, I.bk, Nat.le_trans I.ok.bsz I.ok.above⟩
theorem Inv.lt (I : Inv X pins σ H s) : X.env.locals < s.heap.objs.size := let ⟨_, hn, _⟩ := I.loc; hn.lt
theorem Inv.sz (I : Inv X pins σ H s) : X.s₀.heap.objs.size ≤ s.heap.objs.size := Nat.le_trans I.ok.above (Nat.le_of_lt I.lt)
theorem Inv.nofs (I : Inv X pins σ H s) {a : Addr} (h : s.heap.objs.size ≤ a) : a ∉ X.fs := fun hb => by
  obtain ⟨_, o, ho, _⟩ := I.ok.funs.mem hb
  exact absurd (Nat.lt_of_lt_of_le (Heap.lt_size ho) (Nat.le_trans I.sz h)) (Nat.lt_irrefl _)
theorem Inv.cne (I : Inv X pins σ H s) : ∀ x c, X.env.cells.lookup x = some c → c ≠ X.env.locals := fun x c e z => by
  obtain ⟨v, o, ho, hd⟩ := I.cell x c e
  obtain ⟨m, ⟨o', es, ep, ho', hd', _⟩, _⟩ := I.loc
  rw [z, ho'] at ho; cases ho; rw [hd'] at hd; cases hd
theorem Inv.funs (I : Inv X pins σ H s) : s.heap.FunFrames X.base X.outer := by
  have all : ∀ (l : List Env), (∀ b ∈ frs l, b ∈ X.fs) → X.s₀.heap.FunFrames X.base l → s.heap.FunFrames X.base l := by
    intro l
    induction l with
    | nil => intro _ _; trivial
    | cons env r ih =>
      intro hs hl
      obtain ⟨hk, ⟨L, o, hf, hn, ho, hd⟩, hr⟩ := hl
      have hL : L ∈ X.fs := hs L (by unfold frs; rw [List.filterMap_cons, hf]; exact List.mem_cons_self)
      obtain ⟨sl, e⟩ := I.base.slot L o ho (I.ok.frf L hL) hL fun z => I.ok.exfs L z hL
      exact ⟨hk, ⟨L, _, hf, hn, e, hd⟩, ih (fun b hb => hs b (by unfold frs; rw [List.filterMap_cons, hf]; exact List.mem_cons_of_mem _ hb)) hr⟩
  exact all X.outer (fun _ hb => hb) I.ok.funs

theorem Inv.stack (I : Inv X pins σ H s) : s.heap.FunFrames X.base X.stack := by
  rcases I.ok.stk with e | ⟨e, hf⟩
  · rw [e]; exact I.funs
  · rw [e]
    obtain ⟨m, hn, _⟩ := I.loc
    refine .cons (by rw [I.ok.kind]; decide) hf hn ?_ I.funs
    exact Heap.get?_none_of_le (Nat.le_trans I.ok.bsz I.ok.above)
theorem Inv.stkSub (I : Inv X pins σ H s) : ∀ b ∈ frs X.stack, b ∈ X.env.locals :: X.fs := fun b hb => by
  rcases I.ok.stk with e | ⟨e, hf⟩
  · rw [e] at hb; exact List.mem_cons_of_mem _ hb
  · rw [e] at hb
    unfold frs at hb
    rw [List.filterMap_cons, hf] at hb
    exact hb
theorem Inv.stkFree (I : Inv X pins σ H s) : ∀ b ∈ frs X.stack, H b = none := fun b hb => by
  rcases List.mem_cons.mp (I.stkSub b hb) with e | hb
  · rw [e]; exact I.free
  · obtain ⟨_, o, ho, _⟩ := I.ok.funs.mem hb
    exact I.base.free b o ho (I.ok.frf b hb) fun z => I.ok.exfs b z hb

theorem Inv.step {g' : Array GenState} {t' : Nat} {d' : Drawn} {ch : List Addr} (I : Inv X pins σ H s)
    (hch : ∀ b ∈ ch, (b ∈ X.ex ∨ X.s₀.heap.objs.size ≤ b) ∧ b ≠ X.env.locals ∧ (∀ x c, X.env.cells.lookup x = some c → c ≠ b) ∧ ∀ p ∈ X.pn ++ pins, p.1 ≠ b)
    (keep : ∀ b o, b ≠ X.env.locals → b ∉ X.fs → b ∉ ch → s.heap.get? b = some o → H b = none → h'.get? b = some o)
    (slot : ∀ b o, b ≠ X.env.locals → b ∈ X.fs → b ∉ ch → s.heap.get? b = some o → H b = none → ∃ sl, h'.get? b = some { o with slots := sl }) (free : ∀ b o, b ∉ ch → s.heap.get? b = some o → H b = none → H' b = none)
    (there : ∀ b o, b ∉ ch → s.heap.get? b = some o → ∃ o', h'.get? b = some o')
    (tups : ∀ b xs, H b = some (.tup xs) → H' b = some (.tup xs)) (frzs : ∀ b o u, H b = some (.frz o u) → H' b = some (.frz o u)) (tbls : ∀ b ps, H b = some (.tbl ps) → ∃ more, H' b = some (.tbl (ps ++ more)))
    (ns : ∀ m, s.heap.Ns X.env.locals m → h'.Ns X.env.locals m) (hok : HOk X.prog X.w H' h') (hg : AllBare g') :
    Inv X pins σ H' { s with heap := h', gens := g', drawn := d', toks := t' } := by
  have neL : ∀ b o, X.s₀.heap.get? b = some o → b ≠ X.env.locals := fun b o e => Nat.ne_of_lt (Nat.lt_of_lt_of_le (Heap.lt_size e) I.ok.above)
  have neC : ∀ b o, X.s₀.heap.get? b = some o → b ∉ X.ex → b ∉ ch := fun b o e hx hb => by
    rcases (hch b hb).1 with z | z
    · exact hx z
    · exact absurd (Nat.lt_of_lt_of_le (Heap.lt_size e) z) (Nat.lt_irrefl _)
  have cellK : ∀ x c, X.env.cells.lookup x = some c → ∀ v, s.heap.IsCell c v → h'.IsCell c v := fun x c e v ⟨o, ho, hd⟩ => by
    have nch : c ∉ ch := fun z => (hch c z).2.2.1 x c e rfl
    by_cases hc : c ∈ X.fs
    · obtain ⟨sl, q⟩ := slot c o (I.cne x c e) hc nch ho (I.freeC x c e)
      exact ⟨_, q, hd⟩
    · exact ⟨o, keep c o (I.cne x c e) hc nch ho (I.freeC x c e), hd⟩
  refine ⟨I.ok, I.os, hg, ⟨fun b o e n hb hx => ?_, fun b o e n hb hx => ?_, fun b o e n hx => ?_, fun b o e hx => ?_, fun b xs e => tups b xs (I.base.tups b xs e), fun b o xs e => frzs b o xs (I.base.frzs b o xs e), fun b ps e => ?_⟩, ?_, fun x c e => ?_, ?_, fun x c e => ?_, fun p hp => ?_, hok, I.len⟩
  · exact keep b o (neL b o e) hb (neC b o e hx) (I.base.keep b o e n hb hx) (I.base.free b o e n hx)
  · obtain ⟨sl, e1⟩ := I.base.slot b o e n hb hx
    obtain ⟨sl', e2⟩ := slot b _ (neL b o e) hb (neC b o e hx) e1 (I.base.free b o e n hx)
    exact ⟨sl', e2⟩
  · obtain ⟨o', e1⟩ := I.base.there b o e hx
    exact free b o' (neC b o e hx) e1 (I.base.free b o e n hx)
  · obtain ⟨o', e1⟩ := I.base.there b o e hx
    exact there b o' (neC b o e hx) e1
  · obtain ⟨m1, e1⟩ := I.base.tbls b ps e
    obtain ⟨m2, e2⟩ := tbls b _ e1
    exact ⟨m1 ++ m2, by rw [e2, Array.append_assoc]⟩
  · obtain ⟨m, hn, hl⟩ := I.loc
    refine ⟨m, ns m hn, fun i x v e1 e2 e3 => ?_⟩
    obtain ⟨u, r, l⟩ := hl i x v e1 e2 e3
    refine ⟨u, r, ?_⟩
    rcases l with l | ⟨k, c, e, z⟩
    · exact .inl l
    · exact .inr ⟨k, c, e, cellK x c e _ z⟩
  · obtain ⟨v, z⟩ := I.cell x c e
    exact ⟨v, cellK x c e v z⟩
  · obtain ⟨m, ⟨o, _, _, ho, _⟩, _⟩ := I.loc
    exact free _ o (fun z => (hch _ z).2.1 rfl) ho I.free
  · obtain ⟨v, o, ho, hd⟩ := I.cell x c e
    exact free c o (fun z => (hch c z).2.2.1 x c e rfl) ho (I.freeC x c e)
  · obtain ⟨e, n, ne, nf, d⟩ := I.pin p hp
    have nch : p.1 ∉ ch := fun z => (hch p.1 z).2.2.2 p hp rfl
    exact ⟨keep p.1 p.2 ne nf nch e n, free p.1 p.2 nch e n, ne, nf, d⟩
theorem Inv.un {t' : Nat} (I : Inv X pins σ H s) (u : Un X.fs [] H H' s.heap h') (hok : HOk X.prog X.w H' h') : Inv X pins σ H' { s with heap := h', toks := t' } := by
  obtain ⟨m, ⟨o, es, ep, ho, r⟩, _⟩ := id I.loc
  obtain ⟨sl, hL⟩ := u.any ho I.free (by simp)
  exact I.step (g' := s.gens) (d' := s.drawn) (ch := []) (fun _ z => nomatch z) (fun b o _ hb _ e n => u.keep b o e n hb (by simp)) (fun b o _ hb _ e n => u.slot b o e n hb (by simp)) (fun b o _ e n => u.free b o e n (by simp)) (fun b o _ e => u.there b o e (by simp)) u.tups u.frzs u.tbls (fun m' hm => by
    obtain ⟨o', es', ep', ho', r'⟩ := hm
    rw [ho] at ho'; cases ho'
    exact ⟨_, es', ep', hL, r'⟩) hok I.bare
theorem Inv.call {g' : Array GenState} {t' : Nat} {d' : Drawn} {ch : List Addr} (I : Inv X pins σ H s) (u : Un (frs X.stack) ch H H' s.heap h') (hok : HOk X.prog X.w H' h') (hg : AllBare g')
    (hch : ∀ b ∈ ch, (b ∈ X.ex ∨ X.s₀.heap.objs.size ≤ b) ∧ b ≠ X.env.locals ∧ (∀ x c, X.env.cells.lookup x = some c → c ≠ b) ∧ ∀ p ∈ X.pn ++ pins, p.1 ≠ b) :
    Inv X pins σ H' { s with heap := h', gens := g', drawn := d', toks := t' } := by
  obtain ⟨m, ⟨o, es, ep, ho, r⟩, _⟩ := id I.loc
  obtain ⟨sl, hL⟩ := u.any ho I.free fun z => (hch _ z).2.1 rfl
  exact I.step (ch := ch) hch (fun b o hL hb hc e n => u.keep b o e n (fun z => (List.mem_cons.mp (I.stkSub b z)).elim hL hb) hc) (fun b o _ _ hc e n => u.any e n hc) (fun b o hc e n => u.free b o e n hc) (fun b o hc e => u.there b o e hc) u.tups u.frzs u.tbls (fun m' hm => by
    obtain ⟨o', es', ep', ho', r'⟩ := hm
    rw [ho] at ho'; cases ho'
    exact ⟨_, es', ep', hL, r'⟩) hok hg
theorem Inv.turned {t' : Nat} {it : Addr} (I : Inv X pins σ H s) (k : ∀ b o, b ≠ it → s.heap.get? b = some o → h'.get? b = some o) (hn : H it = none) (hL : it ≠ X.env.locals)
    (h1 : it ∈ X.ex ∨ X.s₀.heap.objs.size ≤ it) (h2 : ∀ x c, X.env.cells.lookup x = some c → c ≠ it) (h3 : ∀ p ∈ X.pn ++ pins, p.1 ≠ it) : Inv X pins σ H { s with heap := h', toks := t' } := by
  have nit : ∀ b u, H b = some u → b ≠ it := fun b u e z => by rw [z, hn] at e; cases e
  refine I.step (g' := s.gens) (d' := s.drawn) (ch := [it]) (fun b hb => ?_) (fun b o _ _ hc e _ => k b o (fun z => hc (by simp [z])) e) (fun b o _ _ hc e _ => ⟨o.slots, k b o (fun z => hc (by simp [z])) e⟩) (fun _ _ _ _ n => n)
    (fun b o hc e => ⟨o, k b o (fun z => hc (by simp [z])) e⟩) (fun _ _ e => e) (fun _ _ _ e => e) (fun b ps e => ⟨#[], by rw [e]; simp⟩) (fun m hm => ?_) (fun b u e => ?_) I.bare
  · have e : b = it := by simpa using hb
    subst e
    exact ⟨h1, hL, h2, h3⟩
  · obtain ⟨o, es, ep, ho, r⟩ := hm
    exact ⟨o, es, ep, k _ o (Ne.symm hL) ho, r⟩
  · refine (I.hok b u e).stay (fun c v hc q => k c v ?_ q) (fun _ q => q) fun _ _ q => q
    rcases hc with z | z
    · rw [z]; exact nit b u e
    · exact nit c _ z
theorem Inv.tok (I : Inv X pins σ H s) (t : Nat) : Inv X pins σ H { s with toks := t } := I.un (h' := s.heap) (t' := t) Un.refl I.hok
theorem Inv.kept {t' : Nat} (I : Inv X pins σ H s) (k : ∀ b u, s.heap.get? b = some u → h'.get? b = some u) : Inv X pins σ H { s with heap := h', toks := t' } := I.un (Un.kept k) (I.hok.kept k)
theorem Inv.laid {a : Addr} {o : HO} {t' : Nat} (I : Inv X pins σ H s) (k : ∀ b u, s.heap.get? b = some u → h'.get? b = some u) (hp : s.heap.objs.size ≤ a) (new : ObjOk X.prog X.w (upd H a o) h' a o) :
    Inv X pins σ (upd H a o) { s with heap := h', toks := t' } := I.un (Un.laid k hp (I.hok.fresh hp)) (I.hok.laid k hp new)
theorem Inv.write {x e : Addr} {o : HO} {t' : Nat} (I : Inv X pins σ H s) (mu : Mut (H x)) (he : e = x ∨ H e = some (.own x)) (k : ∀ b u, b ≠ e → s.heap.get? b = some u → h'.get? b = some u) (heo : ∃ u, h'.get? e = some u)
    (new : ObjOk X.prog X.w (upd H x o) h' x o) : Inv X pins σ (upd H x o) { s with heap := h', toks := t' } := I.un (Un.write mu he k heo) (I.hok.write mu he k heo new)
theorem Inv.pins_of {pins' : List (Addr × Obj)} (I : Inv X pins σ H s) (h : ∀ p ∈ pins', s.heap.get? p.1 = some p.2 ∧ H p.1 = none ∧ p.1 ≠ X.env.locals ∧ p.1 ∉ X.fs ∧ ∀ v, p.2.data ≠ .cell v) : Inv X pins' σ H s :=
  ⟨I.ok, I.os, I.bare, I.base, I.loc, I.cell, I.free, I.freeC, fun p hp => (List.mem_append.mp hp).elim (fun z => I.pin p (List.mem_append_left _ z)) (h p), I.hok, I.len⟩

theorem nodup_ix {N : List Str} (hN : N.Nodup) {i j : Nat} {x : Str} (a : N[i]? = some x) (b : N[j]? = some x) : i = j := by
  obtain ⟨h1, e1⟩ := List.getElem?_eq_some_iff.mp a
  obtain ⟨h2, e2⟩ := List.getElem?_eq_some_iff.mp b
  exact (List.getElem_inj hN).mp (e1.trans e2.symm)

theorem store_ok2 {M : Model} {A : Around} {E : Value → Shared → Prop} {i : Nat} {x : Str} {v : V} {u : Value} {Q : Unit → Shared → Prop} (I : Inv X pins σ H s) (hN : X.N.Nodup) (hi : X.N[i]? = some x) (hx : Loc X.env.scope x) (r : RelV v u)
    (h : ∀ s', Inv X pins (σ.set i (some v)) H s' → (∃ a, Heap.SameBut a s.heap s'.heap ∧ (a = X.env.locals ∨ X.env.cells.lookup x = some a)) → Q () s') (hf : X.fn x = true ∨ X.env.scope.names.lookup x = some .local := by first | exact .inl rfl | exact .inr rfl | assumption) : wpAny M A (storeName X.env x u) Q E s := by
  obtain ⟨m, hn, hl⟩ := id I.loc
  have hcls : (X.env.scope.kind == .class || (X.env.scope.kind == .module && X.env.locals != X.env.globals)) = false := by rw [I.ok.kind]; rfl
  have hiσ : i < σ.length := by rw [I.len]; exact (List.getElem?_eq_some_iff.mp hi).1
  have cne := I.cne
  have tracked : ∀ {a : Addr} {h' : Heap}, (∃ o, s.heap.get? a = some o ∧ H a = none) → Heap.SameBut a s.heap h' → HOk X.prog X.w H h' := fun {a h'} ha hs b ob e => by
    obtain ⟨_, _, hfree⟩ := ha
    refine (I.hok b ob e).stay (fun c w' hc q => (hs.2 c ?_).trans q) (fun _ q => q) fun _ _ q => q
    rintro rfl
    rcases hc with rfl | hc
    · rw [hfree] at e; cases e
    · rw [hfree] at hc; cases hc
  rcases hx with hk | hk
  · refine wpAny_storeName_local hk hn (fun h' hn' hs => ?_) hcls
    obtain ⟨oL, _, _, hoL, _⟩ := id hn
    refine h _ ⟨I.ok, I.os, I.bare, ⟨fun b o e n hb hx => ?_, fun b o e n hb hx => ?_, I.base.free, fun b o e hx => ?_, I.base.tups, I.base.frzs, I.base.tbls⟩, ⟨_, hn', fun j y v' e1 e2 e3 => ?_⟩, fun y c e => ?_, I.free, I.freeC, fun p hp => ?_, tracked ⟨oL, hoL, I.free⟩ hs, by simpa using I.len⟩ ⟨_, hs, .inl rfl⟩
    · exact (hs.2 b (Nat.ne_of_lt (Nat.lt_of_lt_of_le (Heap.lt_size e) I.ok.above))).trans (I.base.keep b o e n hb hx)
    · obtain ⟨sl, e1⟩ := I.base.slot b o e n hb hx
      exact ⟨sl, (hs.2 b (Nat.ne_of_lt (Nat.lt_of_lt_of_le (Heap.lt_size e) I.ok.above))).trans e1⟩
    · obtain ⟨o', e1⟩ := I.base.there b o e hx
      exact ⟨o', (hs.2 b (Nat.ne_of_lt (Nat.lt_of_lt_of_le (Heap.lt_size e) I.ok.above))).trans e1⟩
    · by_cases hj : j = i
      · subst hj
        rw [hi] at e1; cases e1
        rw [List.getElem?_set_self hiσ] at e2
        cases e2
        exact ⟨u, r, .inl ⟨hk, by simp⟩⟩
      · rw [List.getElem?_set_ne (Ne.symm hj)] at e2
        obtain ⟨u', r', q⟩ := hl j y v' e1 e2 e3
        refine ⟨u', r', ?_⟩
        rcases q with ⟨k, e⟩ | ⟨k, c, e, z⟩
        · refine .inl ⟨k, ?_⟩
          have : y ≠ x := fun e => hj (nodup_ix hN e1 (e ▸ hi))
          simp [this, e]
        · exact .inr ⟨k, c, e, z.sameBut hs (cne y c e)⟩
    · obtain ⟨w', z⟩ := I.cell y c e
      exact ⟨w', z.sameBut hs (cne y c e)⟩
    · obtain ⟨e, n, ne, nf, d⟩ := I.pin p hp
      exact ⟨(hs.2 p.1 ne).trans e, n, ne, nf, d⟩
  · have hfn : X.fn x = true := by
      rcases hf with z | z
      · exact z
      · rw [z] at hk; cases hk
    obtain ⟨c, hc⟩ := I.ok.has x (.inl hk)
    obtain ⟨w', z⟩ := I.cell x c hc
    refine wpAny_storeName_cell I.ok.kind hk hc z (fun h' hc' hs => ?_)
    obtain ⟨oc, hoc, hocd⟩ := id z
    refine h { s with heap := h' } ⟨I.ok, I.os, I.bare, ⟨fun b o e n hb hx => ?_, fun b o e n hb hx => ?_, I.base.free, fun b o e hx => ?_, I.base.tups, I.base.frzs, I.base.tbls⟩, ⟨m, hn.sameBut hs (Ne.symm (cne x c hc)), fun j y v' e1 e2 e3 => ?_⟩, fun y c' e => ?_, I.free, I.freeC, fun p hp => ?_, tracked ⟨oc, hoc, I.freeC x c hc⟩ hs, by simpa using I.len⟩ ⟨c, hs, .inr hc⟩
    · exact (hs.2 b (Nat.ne_of_lt (Nat.lt_of_lt_of_le (Heap.lt_size e) (I.ok.cab x c hfn hc)))).trans (I.base.keep b o e n hb hx)
    · obtain ⟨sl, e1⟩ := I.base.slot b o e n hb hx
      exact ⟨sl, (hs.2 b (Nat.ne_of_lt (Nat.lt_of_lt_of_le (Heap.lt_size e) (I.ok.cab x c hfn hc)))).trans e1⟩
    · obtain ⟨o', e1⟩ := I.base.there b o e hx
      exact ⟨o', (hs.2 b (Nat.ne_of_lt (Nat.lt_of_lt_of_le (Heap.lt_size e) (I.ok.cab x c hfn hc)))).trans e1⟩
    · by_cases hj : j = i
      · subst hj
        rw [hi] at e1; cases e1
        rw [List.getElem?_set_self hiσ] at e2
        cases e2
        exact ⟨u, r, .inr ⟨.inl hk, c, hc, hc'⟩⟩
      · rw [List.getElem?_set_ne (Ne.symm hj)] at e2
        obtain ⟨u', r', q⟩ := hl j y v' e1 e2 e3
        refine ⟨u', r', ?_⟩
        rcases q with q | ⟨k, c', e, z'⟩
        · exact .inl q
        · refine .inr ⟨k, c', e, z'.sameBut hs ?_⟩
          rintro rfl
          exact hj (nodup_ix hN e1 (I.ok.inj _ _ _ e hc ▸ hi))
    · by_cases hcc : c' = c
      · subst hcc; exact ⟨_, hc'⟩
      · obtain ⟨w2, z2⟩ := I.cell y c' e
        exact ⟨w2, z2.sameBut hs hcc⟩
    · obtain ⟨e, n, ne, nf, d⟩ := I.pin p hp
      refine ⟨(hs.2 p.1 ?_).trans e, n, ne, nf, d⟩
      intro q
      rw [q, hoc] at e
      have q' : oc = p.2 := Option.some.inj e
      exact d w' (by rw [← q']; exact hocd)
theorem store_ok {M : Model} {A : Around} {E : Value → Shared → Prop} {i : Nat} {x : Str} {v : V} {u : Value} {Q : Unit → Shared → Prop} (I : Inv X pins σ H s) (hN : X.N.Nodup) (hi : X.N[i]? = some x) (hx : Loc X.env.scope x) (r : RelV v u)
    (h : ∀ s', Inv X pins (σ.set i (some v)) H s' → Q () s') (hf : X.fn x = true ∨ X.env.scope.names.lookup x = some .local := by first | exact .inl rfl | exact .inr rfl | assumption) : wpAny M A (storeName X.env x u) Q E s :=
  store_ok2 I hN hi hx r (fun s' I' _ => h s' I') hf
theorem Inv.call' {s' : Shared} {ch : List Addr} (I : Inv X pins σ H s) (ho : s'.os = s.os) (u : Un (frs X.stack) ch H H' s.heap s'.heap) (hok : HOk X.prog X.w H' s'.heap) (hg : AllBare s'.gens)
    (hch : ∀ b ∈ ch, (b ∈ X.ex ∨ X.s₀.heap.objs.size ≤ b) ∧ b ≠ X.env.locals ∧ (∀ x c, X.env.cells.lookup x = some c → c ≠ b) ∧ ∀ p ∈ X.pn ++ pins, p.1 ≠ b) : Inv X pins σ H' s' := by
  obtain ⟨h', g', d', t', o'⟩ := s'
  have e : o' = s.os := ho
  subst e
  exact I.call (g' := g') (t' := t') (d' := d') u hok hg hch
end

abbrev XK := Value → Option Addr → Hp → Prop
abbrev St := List (Option V)
abbrev VK := V → Hp → Prop
abbrev TE := St → Hp → VK → Prop
abbrev TT := St → Hp → (Bool → Hp → Prop) → Prop
abbrev TA := St → Hp → (List V → Hp → Prop) → Prop
structure Ends where
  nx : St → Hp → Prop
  rt : VK
  bk : St → Hp → Prop := fun _ _ => False
  ct : St → Hp → Prop := fun _ _ => False
abbrev TS := Ends → St → Hp → Prop

def EP (X : Cx) (pins : List (Addr × Obj)) (σ : St) (Q : VK) (u : Value) (s' : Shared) : Prop := ∃ v H', Inv X pins σ H' s' ∧ RelV v u ∧ Q v H'
def TP (X : Cx) (pins : List (Addr × Obj)) (σ : St) (Q : Bool → Hp → Prop) (b : Bool) (s' : Shared) : Prop := ∃ H', Inv X pins σ H' s' ∧ Q b H'
def AP (X : Cx) (pins : List (Addr × Obj)) (σ : St) (Q : List V → Hp → Prop) (us : List Value) (s' : Shared) : Prop := ∃ vs H', Inv X pins σ H' s' ∧ Vals vs us ∧ Q vs H'
def SP (X : Cx) (pins : List (Addr × Obj)) (D : Ends) (f : Flow) (s' : Shared) : Prop :=
  match f with
  | .next => ∃ σ' H', Inv X pins σ' H' s' ∧ D.nx σ' H'
  | .brk => ∃ σ' H', Inv X pins σ' H' s' ∧ D.bk σ' H'
  | .cont => ∃ σ' H', Inv X pins σ' H' s' ∧ D.ct σ' H'
  | .ret u => ∃ v σ' H', Inv X pins σ' H' s' ∧ RelV v u ∧ D.rt v H'

def PE (X : Cx) (e : Expr) (t : TE) : Prop :=
  ∀ (pins : List (Addr × Obj)) (s : Shared) (σ : St) (H : Hp) (Q : VK), Inv X pins σ H s → t σ H Q → wpAny (model X.prog X.w) X.A (eval e X.env) (EP X pins σ Q) X.xe s
def PT (X : Cx) (e : Expr) (t : TT) : Prop :=
  ∀ (pins : List (Addr × Obj)) (s : Shared) (σ : St) (H : Hp) (Q : Bool → Hp → Prop), Inv X pins σ H s → t σ H Q → wpAny (model X.prog X.w) X.A (isTrue e X.env (eval e X.env)) (TP X pins σ Q) X.xe s
def PW (X : Cx) (e : Expr) (t : TT) : Prop :=
  ∀ (whole : Sem Value) (pins : List (Addr × Obj)) (s : Shared) (σ : St) (H : Hp) (Q : Bool → Hp → Prop), Inv X pins σ H s → t σ H Q → wpAny (model X.prog X.w) X.A (isTrue e X.env whole) (TP X pins σ Q) X.xe s
theorem PW.pt {X : Cx} {e : Expr} {t : TT} (h : PW X e t) : PT X e t := h _
def PA (X : Cx) (es : List Expr) (t : TA) : Prop :=
  ∀ (pos : Pos) (pins : List (Addr × Obj)) (s : Shared) (σ : St) (H : Hp) (Q : List V → Hp → Prop), Inv X pins σ H s → t σ H Q → wpAny (model X.prog X.w) X.A (spliced (backTo pos (starEach es X.env))) (AP X pins σ Q) X.xe s
def PS (X : Cx) (st : Stmt) (t : TS) : Prop :=
  ∀ (pins : List (Addr × Obj)) (s : Shared) (σ : St) (H : Hp) (D : Ends), Inv X pins σ H s → t D σ H → wpAny (model X.prog X.w) X.A (exec st X.env) (SP X pins D) X.xe s
def PSs (X : Cx) (st : List Stmt) (t : TS) : Prop :=
  ∀ (pins : List (Addr × Obj)) (s : Shared) (σ : St) (H : Hp) (D : Ends), Inv X pins σ H s → t D σ H → wpAny (model X.prog X.w) X.A (execs st X.env) (SP X pins D) X.xe s
theorem thn {α : Type} {t : Sem α} {Q Q' : α → Shared → Prop} {M : Model} {A : Around} {E : Value → Shared → Prop} {s : Shared} (h : wpAny M A t Q E s) (hQ : ∀ a s, Q a s → Q' a s) : wpAny M A t Q' E s := wpAny_mono h hQ fun _ _ x => x
end L2

namespace L2
open PySem PySem.Spec PyProof.Rows
section
variable {X : Cx}

def tVar (i : Nat) : TE := fun σ H Q => ∃ v, σ[i]? = some (some v) ∧ Q v H
def tC (v : V) : TE := fun _ H Q => Q v H
theorem pe_var {i : Nat} {x : Str} {pos : Pos} (hN : X.N[i]? = some x) (hv : Vis X.env.scope x) (hd : (x == ("__debug__" : Str)) = false := by decide) (hcd : (x == ("__classdict__" : Str)) = false := by decide) : PE X (.Name x pos) (tVar i) := by
  intro pins s σ H Q I h
  obtain ⟨v, e, h⟩ := h
  obtain ⟨m, hn, hl⟩ := I.loc
  obtain ⟨u, r, l⟩ := hl i x v hN e hv
  have fin : EP X pins σ Q u s := ⟨v, H, I, r, h⟩
  rcases l with ⟨hk, hm⟩ | ⟨hk, c, hc, hcell⟩
  · exact wpAny_Name (wpAny_loadName_local I.ok.kind hk hn hm fin) hd
  · rcases hk with hk | hk
    · exact wpAny_Name (wpAny_loadName_cell I.ok.kind hk hc hcell fin) hd
    · exact wpAny_Name (wpAny_loadName_free I.ok.kind hk hc hcell fin hcd) hd
theorem pe_int {i j pos} : PE X (.Constant (.int i) j pos) (tC (.int i)) := fun _ _ _ H _ I h => wpAny_Constant_int ⟨.int i, H, I.tok _, ⟨_, rfl⟩, h⟩
theorem pe_bl {b j pos} : PE X (.Constant (.bool b) j pos) (tC (.bl b)) := fun _ _ _ H _ I h => Constant_bool ⟨.bl b, H, I, rfl, h⟩
theorem pe_non {j pos} : PE X (.Constant .none j pos) (tC .non) := fun _ _ _ H _ I h => Constant_none ⟨.non, H, I, rfl, h⟩
theorem pe_str {x j pos} : PE X (.Constant (.str x) j pos) (tC (.str x)) := fun _ _ _ H _ I h => Calls.Constant_str ⟨.str x, H, I.tok _, ⟨_, rfl⟩, h⟩

def Gl (X : Cx) (x : Str) : Prop := X.env.kindOf x = some .globalImplicit
theorem ld_glob {E : Value → Shared → Prop} {pins : List (Addr × Obj)} {s : Shared} {σ : St} {H : Hp} {x : Str} {u : Value} {pos : Pos} {Q : Value → Shared → Prop} (I : Inv X pins σ H s) (hg : Gl X x) (hm : X.mg x = some u) (h : Q u s)
    (hd : (x == ("__debug__" : Str)) = false := by decide) : wpAny (model X.prog X.w) X.A (eval (.Name x pos) X.env) Q E s :=
  Calls.Name_function_global I.ok.kind hg (Calls.loadGlobal_global (by rw [I.ok.glob]; exact I.mod.glob.keeps I.bk) hm h) hd
theorem ld_blt {E : Value → Shared → Prop} {pins : List (Addr × Obj)} {s : Shared} {σ : St} {H : Hp} {x : Str} {u : Value} {pos : Pos} {Q : Value → Shared → Prop} (I : Inv X pins σ H s) (hg : Gl X x) (hm : X.mg x = none) (hv : bootBuiltins x = some u) (h : Q u s)
    (hn : x ≠ "__name__" := by decide) (hd : (x == ("__debug__" : Str)) = false := by decide) : wpAny (model X.prog X.w) X.A (eval (.Name x pos) X.env) Q E s := by
  obtain ⟨mb, h1, h2⟩ := I.mod.blt
  exact Calls.Name_function_global I.ok.kind hg (Calls.loadGlobal_builtin (by rw [I.ok.glob]; exact I.mod.glob.keeps I.bk) hm (by rw [I.ok.blt]; exact h1.keeps I.bk) ((h2 x hn).trans hv) h) hd
variable {a b : Expr} {ta tb : TE} {pos : Pos}
def tB (t : TE) : TT := fun σ H Q => t σ H fun x H1 => ∃ c, x = .bl c ∧ Q c H1
theorem pt_val {e : Expr} {t : TE} (h : PE X e t) (he : ∀ whole, isTrue e X.env whole = (do let v ← whole; standAt e.pos; holding [v] (truthy v)) := by intro _; rfl) : PT X e (tB t) := by
  intro pins s σ H Q I hw
  refine isTrue_plain (thn (h pins s σ H _ I hw) fun v s1 ⟨x, H1, I1, r1, q1⟩ => ?_) (he _)
  obtain ⟨d, rfl, q⟩ := q1
  cases r1
  exact wpAny_truthy_bool ⟨H1, I1, q⟩

variable {tA tB' : TT} {rest : List Expr}
def tAnd (t u : TT) : TT := fun σ H Q => t σ H fun c H1 => if c = true then u σ H1 Q else Q false H1
def tOr (t u : TT) : TT := fun σ H Q => t σ H fun c H1 => if c = true then Q true H1 else u σ H1 Q
def tNot (t : TT) : TT := fun σ H Q => t σ H fun c H1 => Q (!c) H1
theorem pw_and1 (ha : PT X a tA) : PW X (.BoolOp .And [a] pos) tA := by
  intro wh pins s σ H Q I h
  refine isTrue_and (thn (ha pins s σ H Q I h) fun c s1 e => ?_)
  cases c with
  | true => exact isTrue_and_nil e
  | false => exact e
theorem pw_or1 (ha : PT X a tA) : PW X (.BoolOp .Or [a] pos) tA := by
  intro wh pins s σ H Q I h
  refine isTrue_or (thn (ha pins s σ H Q I h) fun c s1 e => ?_)
  cases c with
  | false => exact isTrue_or_nil e
  | true => exact e
theorem pw_and (ha : PT X a tA) (hb : PW X (.BoolOp .And (b :: rest) pos) tB') : PW X (.BoolOp .And (a :: b :: rest) pos) (tAnd tA tB') := by
  intro wh pins s σ H Q I h
  refine isTrue_and (thn (ha pins s σ H _ I h) fun c s1 ⟨H1, I1, q1⟩ => ?_)
  cases c with
  | true => exact hb wh pins s1 σ H1 Q I1 q1
  | false => exact ⟨H1, I1, q1⟩
theorem pw_or (ha : PT X a tA) (hb : PW X (.BoolOp .Or (b :: rest) pos) tB') : PW X (.BoolOp .Or (a :: b :: rest) pos) (tOr tA tB') := by
  intro wh pins s σ H Q I h
  refine isTrue_or (thn (ha pins s σ H _ I h) fun c s1 ⟨H1, I1, q1⟩ => ?_)
  cases c with
  | true => exact ⟨H1, I1, q1⟩
  | false => exact hb wh pins s1 σ H1 Q I1 q1
theorem pt_not (ha : PT X a tA) : PT X (.UnaryOp .Not a pos) (tNot tA) := by
  intro pins s σ H Q I h
  exact isTrue_not (ha pins s σ H (fun c H1 => Q (!c) H1) I h)
def tAndV (ta tb : TE) : TE := fun σ H Q => ta σ H fun x H1 => ∃ c, x = .bl c ∧ if c = true then tb σ H1 Q else Q (.bl false) H1
def tNotV (ta : TE) : TE := fun σ H Q => ta σ H fun x H1 => ∃ c, x = .bl c ∧ Q (.bl (!c)) H1
theorem pe_one {op} {t : TE} (h : PE X a t) : PE X (.BoolOp op [a] pos) t := fun pins s σ H Q I hw => BoolOp_one (h pins s σ H Q I hw)
theorem pe_and (ha : PE X a ta) (hb : PE X (.BoolOp .And (b :: rest) pos) tb) : PE X (.BoolOp .And (a :: b :: rest) pos) (tAndV ta tb) := by
  intro pins s σ H Q I h
  refine BoolOp_and (thn (ha pins s σ H _ I h) fun v s1 ⟨x, H1, I1, r1, q1⟩ => ?_)
  obtain ⟨c, rfl, q1⟩ := q1
  cases r1
  refine wpAny_truthy_bool ?_
  cases c with
  | true => exact hb pins s1 σ H1 Q I1 q1
  | false => exact ⟨.bl false, H1, I1, rfl, q1⟩
theorem pe_not (ha : PE X a ta) : PE X (.UnaryOp .Not a pos) (tNotV ta) := by
  intro pins s σ H Q I h
  refine UnaryOp_ (thn (ha pins s σ H _ I h) fun v s1 ⟨x, H1, I1, r1, q1⟩ => ?_)
  obtain ⟨c, rfl, q1⟩ := q1
  cases r1
  exact not_of (wpAny_truthy_bool ⟨.bl (!c), H1, I1, rfl, q1⟩)
def tIf (t : TT) (ta tb : TE) : TE := fun σ H Q => t σ H fun c H1 => if c = true then ta σ H1 Q else tb σ H1 Q
theorem pe_ifExp {c : Expr} (hc : PT X c tA) (ha : PE X a ta) (hb : PE X b tb) : PE X (.IfExp c a b pos) (tIf tA ta tb) := by
  intro pins s σ H Q I h
  refine wpAny_IfExp (thn (hc pins s σ H _ I h) fun d s1 ⟨H1, I1, q1⟩ => ?_)
  cases d with
  | true => exact ha pins s1 σ H1 Q I1 q1
  | false => exact hb pins s1 σ H1 Q I1 q1
end
end L2

namespace L2
open PySem PySem.Spec PyProof.Rows

def SqL (K : PySem.W.Frag) (H : Hp) (a : Addr) (xs : List V) : Prop :=
  Rd H a (.lst xs) ∨
    ∃ (o : Obj) (its : Array Value) (n : Nat), K.lookup a = some o ∧ o.cls = .type "list" ∧ o.dict = none ∧ o.data = .seq its n ∧ its.size ≤ sizeLine ∧ Vals xs its.toList
def SqT (K : PySem.W.Frag) (H : Hp) (a : Addr) (xs : List V) : Prop :=
  Rd H a (.tup xs) ∨
    ∃ (o : Obj) (its : Array Value) (n : Nat), K.lookup a = some o ∧ o.cls = .type "tuple" ∧ o.data = .seq its n ∧ its.size ≤ sizeLine ∧ Vals xs its.toList
def absV : Value → Option V
  | .none => some .non
  | .bool b => some (.bl b)
  | .int i _ => some (.int i)
  | .str x _ => some (.str x)
  | .bytes b _ => some (.byt b)
  | .float b _ => some (.flt b)
  | .ref a => some (.ref a)
  | .type n => some (.ty n)
  | _ => none
theorem RelV.abs {x : V} {u : Value} (r : RelV x u) : absV u = some x := by
  cases x with
  | non => cases r; rfl
  | bl _ => cases r; rfl
  | int _ => obtain ⟨t, rfl⟩ := r; rfl
  | str _ => obtain ⟨t, rfl⟩ := r; rfl
  | byt _ => obtain ⟨t, rfl⟩ := r; rfl
  | flt _ => obtain ⟨t, rfl⟩ := r; rfl
  | ref _ => cases r; rfl
  | ty _ => cases r; rfl
theorem RelV.inj {x y : V} {u : Value} (r : RelV x u) (q : RelV y u) : x = y := Option.some.inj (r.abs.symm.trans q.abs)
theorem Vals.inj : ∀ {xs ys : List V} {us : List Value}, Vals xs us → Vals ys us → xs = ys
  | _, _, _, .nil, .nil => rfl
  | _, _, _, .cons r t, .cons r' t' => by rw [r.inj r', Vals.inj t t']
section
variable {X : Cx} {pins : List (Addr × Obj)} {σ : St} {H : Hp} {s : Shared} {a : Addr} {xs ys : List V}
theorem SqL.of {K : PySem.W.Frag} (h : H a = some (.lst xs)) : SqL K H a xs := .inl (.inl h)
theorem SqT.of {K : PySem.W.Frag} (h : H a = some (.tup xs)) : SqT K H a xs := .inl (.inl h)
theorem Inv.list (I : Inv X pins σ H s) (h : SqL X.K H a xs) : ∃ its : List Value, Vals xs its ∧ PlainL s.heap a its.toArray ∧ xs.length ≤ sizeLine := by
  rcases h with h | ⟨o, its, n, hk, hc, hd, hs, hz, r⟩
  · obtain ⟨z, its, n, r, e⟩ := h.ok I.hok
    exact ⟨its, r, ⟨_, n, e, rfl, rfl, rfl⟩, z⟩
  · refine ⟨its.toList, r, ⟨o, n, I.kIn a o hk, hc, hd, by simpa using hs⟩, ?_⟩
    have e := r.length
    simp only [Array.length_toList] at e
    omega
theorem Inv.tuple (I : Inv X pins σ H s) (h : SqT X.K H a xs) : ∃ its : List Value, Vals xs its ∧ IsTup s.heap a its.toArray ∧ xs.length ≤ sizeLine := by
  rcases h with h | ⟨o, its, n, hk, hc, hs, hz, r⟩
  · obtain ⟨z, its, r, p⟩ := h.ok I.hok
    exact ⟨its, r, p, z⟩
  · refine ⟨its.toList, r, ⟨o, I.kIn a o hk, hc, n, by simpa using hs⟩, ?_⟩
    have e := r.length
    simp only [Array.length_toList] at e
    omega
theorem Inv.list_inj (I : Inv X pins σ H s) (h : SqL X.K H a xs) (h' : SqL X.K H a ys) : xs = ys := by
  obtain ⟨its, r, ⟨o, n, e, _, _, d⟩, _⟩ := I.list h
  obtain ⟨its', r', ⟨o', n', e', _, _, d'⟩, _⟩ := I.list h'
  rw [e] at e'; cases e'
  rw [d] at d'
  injection d' with d1 _
  have : its = its' := by simpa using congrArg Array.toList d1
  subst this
  exact r.inj r'
theorem Inv.tuple_inj (I : Inv X pins σ H s) (h : SqT X.K H a xs) (h' : SqT X.K H a ys) : xs = ys := by
  obtain ⟨its, r, ⟨o, e, _, n, d⟩, _⟩ := I.tuple h
  obtain ⟨its', r', ⟨o', e', _, n', d'⟩, _⟩ := I.tuple h'
  rw [e] at e'; cases e'
  rw [d] at d'
  injection d' with d1 _
  have : its = its' := by simpa using congrArg Array.toList d1
  subst this
  exact r.inj r'
end

abbrev Cx.wish (X : Cx) (E : Value → Shared → Prop) : Cx := { X with xe := E }
abbrev Cx.nox (X : Cx) : Cx := X.wish fun _ _ => False
theorem Cx.Ok.wish {X : Cx} (ok : X.Ok) (E : Value → Shared → Prop) : (X.wish E).Ok :=
  ⟨ok.mod, ok.kind, ok.glob, ok.blt, ok.above, ok.inj, ok.has, ok.cab, ok.hd, ok.frames, ok.stk, ok.exf, ok.bs, ok.bsz, ok.noex, ok.exfs, ok.funs, ok.frf⟩
theorem Cx.Ok.unwish {X : Cx} {E : Value → Shared → Prop} (ok : (X.wish E).Ok) : X.Ok :=
  ⟨ok.mod, ok.kind, ok.glob, ok.blt, ok.above, ok.inj, ok.has, ok.cab, ok.hd, ok.frames, ok.stk, ok.exf, ok.bs, ok.bsz, ok.noex, ok.exfs, ok.funs, ok.frf⟩
section
variable {X : Cx} {pins : List (Addr × Obj)} {σ : St} {H : Hp} {s : Shared} {E : Value → Shared → Prop}
theorem Inv.wish (I : Inv X pins σ H s) (E : Value → Shared → Prop) : Inv (X.wish E) pins σ H s := ⟨I.ok.wish E, I.os, I.bare, I.base, I.loc, I.cell, I.free, I.freeC, I.pin, I.hok, I.len⟩
theorem Inv.unwish (I : Inv (X.wish E) pins σ H s) : Inv X pins σ H s := ⟨I.ok.unwish, I.os, I.bare, I.base, I.loc, I.cell, I.free, I.freeC, I.pin, I.hok, I.len⟩
theorem SP.unwish {D : Ends} {f : Flow} {s' : Shared} (h : SP (X.wish E) pins D f s') : SP X pins D f s' := by
  cases f with
  | next => obtain ⟨σ', H', I, q⟩ := h; exact ⟨σ', H', I.unwish, q⟩
  | brk => obtain ⟨σ', H', I, q⟩ := h; exact ⟨σ', H', I.unwish, q⟩
  | cont => obtain ⟨σ', H', I, q⟩ := h; exact ⟨σ', H', I.unwish, q⟩
  | ret u => obtain ⟨v, σ', H', I, r, q⟩ := h; exact ⟨v, σ', H', I.unwish, r, q⟩
theorem PE.nox {e : Expr} {t : TE} (h : PE X.nox e t) : PE X e t := fun pins s σ H Q I hw =>
  wpAny_mono (h pins s σ H Q (I.wish _) hw) (fun _ _ ⟨v, H', I', r, q⟩ => ⟨v, H', I'.unwish, r, q⟩) fun _ _ z => False.elim z
theorem PT.nox {e : Expr} {t : TT} (h : PT X.nox e t) : PT X e t := fun pins s σ H Q I hw =>
  wpAny_mono (h pins s σ H Q (I.wish _) hw) (fun _ _ ⟨H', I', q⟩ => ⟨H', I'.unwish, q⟩) fun _ _ z => False.elim z
theorem PSs.nox {st : List Stmt} {t : TS} (h : PSs X.nox st t) : PSs X st t := fun pins s σ H D I hw =>
  wpAny_mono (h pins s σ H D (I.wish _) hw) (fun _ _ q => q.unwish) fun _ _ z => False.elim z
end

section
variable {X : Cx} {st : Stmt} {rest : List Stmt} {t u : TS} {e : Expr} {te : TE} {pos : Pos}
def tNext : TS := fun D σ H => D.nx σ H
def tSeq (t u : TS) : TS := fun D σ H => t { D with nx := u D } σ H
theorem pss_nil : PSs X [] tNext := fun _ _ σ H _ I h => wpAny_execs_nil ⟨σ, H, I, h⟩
theorem pss_cons (h1 : PS X st t) (h2 : PSs X rest u) : PSs X (st :: rest) (tSeq t u) := by
  intro pins s σ H D I h
  refine wpAny_execs_cons (thn (h1 pins s σ H { D with nx := u D } I h) fun f s1 q => ?_)
  cases f with
  | next =>
    obtain ⟨σ', H', I', q⟩ := q
    exact h2 pins s1 σ' H' D I' q
  | ret v => exact q
  | brk => exact q
  | cont => exact q
theorem pss_one (h1 : PS X st t) : PSs X [st] t := by
  intro pins s σ H D I h
  refine wpAny_execs_cons (thn (h1 pins s σ H D I h) fun f s1 q => ?_)
  cases f with
  | next => exact wpAny_execs_nil q
  | ret v => exact q
  | brk => exact q
  | cont => exact q
theorem Inv.quiet {pins : List (Addr × Obj)} {σ : St} {H : Hp} {s : Shared} (I : Inv X pins σ H s) : interactive X.env = false := by simp [interactive, I.ok.kind]
def tDrop (te : TE) : TS := fun D σ H => te σ H fun _ H1 => D.nx σ H1
theorem ps_expr (he : PE X e te) (hs : swapsWith e none pos.line X.env = pure false := by rfl) : PS X (.Expr e pos) (tDrop te) := by
  intro pins s σ H D I h
  exact wpAny_Expr_any (thn (he pins s σ H _ I h) fun v s1 ⟨x, H1, I1, r1, q1⟩ => ⟨σ, H1, I1, q1⟩) I.quiet hs
def tRet (te : TE) : TS := fun D σ H => te σ H D.rt
theorem ps_ret (he : PE X e te) : PS X (.Return (some e) pos) (tRet te) := by
  intro pins s σ H D I h
  exact wpAny_Return_some (thn (he pins s σ H _ I h) fun v s1 ⟨x, H1, I1, r1, q1⟩ => ⟨x, σ, H1, I1, r1, q1⟩)
def tIfS (c : TT) (t u : TS) : TS := fun D σ H => c σ H fun b H1 => if b = true then t D σ H1 else u D σ H1
theorem ps_if {c : Expr} {a b : List Stmt} {tc : TT} (hc : PT X c tc) (ha : PSs X a t) (hb : PSs X b u) : PS X (.If c a b pos) (tIfS tc t u) := by
  intro pins s σ H D I h
  refine wpAny_If (thn (hc pins s σ H _ I h) fun d s1 ⟨H1, I1, q1⟩ => ?_)
  cases d with
  | true => exact ha pins s1 σ H1 D I1 q1
  | false => exact hb pins s1 σ H1 D I1 q1
end

abbrev TG := V → St → Hp → (St → Hp → Prop) → Prop
abbrev TGs := List V → St → Hp → (St → Hp → Prop) → Prop
def PG (X : Cx) (target : Expr) (t : TG) : Prop :=
  ∀ (pins : List (Addr × Obj)) (s : Shared) (σ : St) (H : Hp) (v : V) (u : Value) (Q : St → Hp → Prop), Inv X pins σ H s → RelV v u → t v σ H Q →
    wpAny (model X.prog X.w) X.A (assign target X.env u) (fun _ s' => ∃ σ' H', Inv X pins σ' H' s' ∧ Q σ' H') X.xe s
def PGs (X : Cx) (ts : List Expr) (t : TGs) : Prop :=
  ∀ (pins : List (Addr × Obj)) (s : Shared) (σ : St) (H : Hp) (vs : List V) (us : List Value) (Q : St → Hp → Prop), Inv X pins σ H s → Vals vs us → t vs σ H Q →
    wpAny (model X.prog X.w) X.A (assignInOrder ((assignEach ts X.env).map (·.2)) us) (fun _ s' => ∃ σ' H', Inv X pins σ' H' s' ∧ Q σ' H') X.xe s
abbrev TSet := V → V → V → Hp → (Hp → Prop) → Prop
def PSet (X : Cx) (t : TSet) : Prop :=
  ∀ (pins : List (Addr × Obj)) (s : Shared) (σ : St) (H : Hp) (o i v : V) (ov iv u : Value) (Q : Hp → Prop), Inv X pins σ H s → RelV o ov → RelV i iv → RelV v u → t o i v H Q →
    wpAny (model X.prog X.w) X.A (setItem ov iv u) (fun _ s' => ∃ H', Inv X pins σ H' s' ∧ Q H') X.xe s
section
variable {X : Cx} {pos : Pos}
def gName (i : Nat) : TG := fun v σ H Q => Q (σ.set i (some v)) H
theorem pg_name {i : Nat} {x : Str} (hN : X.N.Nodup) (hi : X.N[i]? = some x) (hx : Loc X.env.scope x) (hf : X.fn x = true ∨ X.env.scope.names.lookup x = some .local := by first | exact .inl rfl | exact .inr rfl | assumption) : PG X (.Name x pos) (gName i) := by
  intro pins s σ H v u Q I r h
  exact wpAny_assign_Name (store_ok I hN hi hx r (fun s' I' => ⟨_, H, I', h⟩) hf)
def gNil : TGs := fun vs σ H Q => vs = [] ∧ Q σ H
def gCons (t : TG) (u : TGs) : TGs := fun vs σ H Q => ∃ v r, vs = v :: r ∧ t v σ H fun σ' H' => u r σ' H' Q
theorem pgs_nil : PGs X [] gNil := by
  intro pins s σ H vs us Q I r h
  obtain ⟨e, h⟩ := h
  subst e
  cases r
  exact assignInOrder_nil ⟨σ, H, I, h⟩
theorem pgs_cons {e : Expr} {es : List Expr} {t : TG} {u : TGs} (h1 : PG X e t) (h2 : PGs X es u)
    (hs : (assignEach (e :: es) X.env).map (·.2) = assign e X.env :: (assignEach es X.env).map (·.2) := by rfl) : PGs X (e :: es) (gCons t u) := by
  intro pins s σ H vs us Q I r h
  obtain ⟨v, vr, e1, h⟩ := h
  subst e1
  cases r with
  | cons r rr =>
    rw [hs]
    refine assignInOrder_cons (thn (h1 pins s σ H _ _ _ I r h) fun _ s1 ⟨σ1, H1, I1, q1⟩ => ?_)
    exact h2 pins s1 σ1 H1 _ _ Q I1 rr q1
def gTup (K : PySem.W.Frag) (n : Nat) (t : TGs) : TG := fun v σ H Q => ∃ a xs, v = .ref a ∧ SqT K H a xs ∧ xs.length = n ∧ t xs σ H Q
theorem pg_tup {es : List Expr} {k : Nat} {t : TGs} {n : Nat} (hc : X.calm = true) (h : PGs X es t)
    (hn : (assignEach es X.env).length = n := by rfl) (hst : (assignEach es X.env).findIdx? (·.1) = none := by rfl) : PG X (.Tuple es k pos) (gTup X.K n t) := by
  intro pins s σ H v u Q I r hw
  obtain ⟨a, xs, e1, hq, hl, hw⟩ := hw
  subst e1
  cases r
  obtain ⟨its, rv, ht, hz⟩ := I.tuple hq
  refine assign_Tuple_tuple (I.ok.hd hc) ht (by simp [hn, ← hl, rv.length]) hst fun h' hx => ?_
  have I1 : Inv X pins σ H { s with heap := h' } := I.kept (t' := s.toks) fun b o e => hx b o (Nat.ne_of_lt (Heap.lt_size e)) e
  exact h pins _ σ H xs _ Q I1 (by simpa using rv) hw
def gSub (to ti : TE) (t : TSet) : TG := fun v σ H Q => to σ H fun o H1 => ti σ H1 fun i H2 => t o i v H2 fun H3 => Q σ H3
theorem pg_sub {o i : Expr} {to ti : TE} {t : TSet} (ho : PE X o to) (hi : PE X i ti) (hs : PSet X t)
    (ha : ∀ v, assign (.Subscript o i pos) X.env v = (do
      let ov ← holding [v] (eval o X.env)
      let iv ← holding [v, ov] (eval i X.env)
      standAt pos
      holding [v, ov, iv] (setItem ov iv v)
      release [v, ov, iv] []) := by intro _; rfl) : PG X (.Subscript o i pos) (gSub to ti t) := by
  intro pins s σ H v u Q I r h
  rw [ha]
  refine wpAny_bind (wpAny_holding (thn (ho pins s σ H _ I h) fun ov s1 ⟨x, H1, I1, r1, q1⟩ => ?_))
  refine wpAny_bind (wpAny_holding (thn (hi pins s1 σ H1 _ I1 q1) fun iv s2 ⟨y, H2, I2, r2, q2⟩ => ?_))
  refine wpAny_bind (wpAny_standAt (wpAny_bind (wpAny_holding (thn (hs pins s2 σ H2 x y v ov iv u _ I2 r1 r2 r q2) fun _ s3 ⟨H3, I3, q3⟩ => ?_))))
  exact wpAny_release ⟨σ, H3, I3, q3⟩
def tAsg (te : TE) (g : TG) : TS := fun D σ H => te σ H fun x H1 => g x σ H1 D.nx
theorem ps_asg {tg e : Expr} {te : TE} {g : TG} (he : PE X e te) (hg : PG X tg g) (hs : swapsWithSole [tg] e pos.line X.env = pure false := by rfl) (hw : swappedStores [tg] e X.env = pure none := by rfl)
    (h1 : (assignEach [tg] X.env).map (·.2) = [assign tg X.env] := by rfl) : PS X (.Assign [tg] e pos) (tAsg te g) := by
  intro pins s σ H D I h
  refine wpAny_Assign_stores (thn (he pins s σ H _ I h) fun v s1 ⟨x, H1, I1, r1, q1⟩ => ?_) hs hw
  rw [h1]
  exact thn (hg pins s1 σ H1 x v _ I1 r1 q1) fun _ s2 q => q
theorem ps_set {i : Nat} {x : Str} {e : Expr} {te : TE} {pos' : Pos} (hN : X.N.Nodup) (hi : X.N[i]? = some x) (hx : Loc X.env.scope x) (he : PE X e te) (hs : swapsWith e (some (.Name x pos')) pos.line X.env = pure false := by rfl) (hf : X.fn x = true ∨ X.env.scope.names.lookup x = some .local := by first | exact .inl rfl | exact .inr rfl | assumption) :
    PS X (.Assign [.Name x pos'] e pos) (tAsg te (gName i)) := by
  intro pins s σ H D I h
  refine wpAny_Assign_Name (thn (he pins s σ H _ I h) fun v s1 ⟨y, H1, I1, r1, q1⟩ => ?_) hs
  exact store_ok I1 hN hi hx r1 (fun s2 I2 => ⟨_, H1, I2, q1⟩) hf
def tPar (i j : Nat) (ta : TA) : TS := fun D σ H => ta σ H fun vs H1 => ∃ v w, vs = [v, w] ∧ D.nx ((σ.set i (some v)).set j (some w)) H1
theorem ps_par {i j : Nat} {x y : Str} {a b : Expr} {ta : TA} {px py pt : Pos} {kt k2 pt2} (hc : X.calm = true) (hN : X.N.Nodup) (hi : X.N[i]? = some x) (hj : X.N[j]? = some y) (hij : i ≠ j)
    (hx : X.env.scope.names.lookup x = some .local) (hy : X.env.scope.names.lookup y = some .local) (ha : PA X [a, b] ta)
    (hw : swappedStores [.Tuple [.Name x px, .Name y py] kt pt] (.Tuple [a, b] k2 pt2) X.env = pure (some [x, y]))
    (hs : swapsWithSole [.Tuple [.Name x px, .Name y py] kt pt] (.Tuple [a, b] k2 pt2) pos.line X.env = pure false := by rfl) :
    PS X (.Assign [.Tuple [.Name x px, .Name y py] kt pt] (.Tuple [a, b] k2 pt2) pos) (tPar i j ta) := by
  intro pins s σ H D I h
  rw [exec_Assign_arm]
  refine wpAny_bind (wpAny_standAt ?_)
  rw [hs]
  refine wpAny_bind (wpAny_pure ?_)
  rw [if_neg (by decide)]
  refine wpAny_bind (Tuple_ (thn (ha _ pins s σ H _ I h) fun us s1 ⟨vs, H1, I1, r1, q1⟩ => ?_))
  obtain ⟨v, w, e1, q1⟩ := q1
  subst e1
  obtain ⟨u1, u2, rfl, rv, rw'⟩ : ∃ u1 u2, us = [u1, u2] ∧ RelV v u1 ∧ RelV w u2 := by
    cases r1 with
    | cons p q =>
      cases q with
      | cons p' q' =>
        cases q'
        exact ⟨_, _, rfl, p, p'⟩
  refine wpAny_newObj_type ?_ (by show 2 ≤ sizeLine; decide)
  have I2 : Inv X pins σ H1 { s1 with heap := s1.heap.push { cls := .type "tuple", data := .seq [u1, u2].toArray } } := I1.kept (t' := s1.toks) fun b o e => Heap.get?_push_of_some _ e
  rw [hw]
  refine wpAny_bind (wpAny_pure ?_)
  show wpAny (model X.prog X.w) X.A (do rule "assign.swapped-stores"; let items ← unpackItems (.ref s1.heap.objs.size) 2 none; assignInOrder [fun v => bindName X.env y v, fun v => bindName X.env x v] items.reverse; pure Flow.next) _ _ _
  refine wpAny_bind (wpAny_rule (wpAny_bind (unpackItems_tuple (items := #[u1, u2]) (I.ok.hd hc) (IsTup.new s1.heap _) fun h' hx' => ?_)))
  have I3 := I2.kept (h' := h') (t' := s1.toks) fun b o e => hx' b o (Nat.ne_of_lt (Heap.lt_size e)) e
  show wpAny _ _ (assignInOrder [fun v => bindName X.env y v, fun v => bindName X.env x v] [u2, u1] >>= fun _ => pure Flow.next) _ _ _
  refine wpAny_bind (assignInOrder_cons (wpAny_bindName (store_ok I3 hN hj (.inl hy) rw' (fun s2 I4 => ?_) (.inr hy))))
  refine assignInOrder_cons (wpAny_bindName (store_ok I4 hN hi (.inl hx) rv (fun s3 I5 => assignInOrder_nil (wpAny_pure ?_)) (.inr hx)))
  rw [List.set_comm _ _ (Ne.symm hij)] at I5
  exact ⟨_, H1, I5, q1⟩
end

section
variable {X : Cx} {pos : Pos}
def tWhile (c : TT) (tb : TS) : TS := fun D σ H => ∃ W : Nat → St → Hp → Prop, (∃ m, W m σ H) ∧ ∀ m σ H, W m σ H →
  c σ H fun b H1 => if b = true then ∃ N : St → Hp → Prop, (∀ σ' H', N σ' H' → ∃ m', m' < m ∧ W m' σ' H') ∧ tb { D with nx := N, ct := N, bk := D.nx } σ H1 else D.nx σ H1
theorem ps_while {c : Expr} {body : List Stmt} {tc : TT} {tb : TS} (hp : PassesOwn (model X.prog X.w) X.A X.env X.xe) (hc : PT X c tc) (hb : PSs X body tb) : PS X (.While c body [] pos) (tWhile tc tb) := by
  intro pins s σ H D I h
  obtain ⟨W, ⟨m0, w0⟩, turn⟩ := h
  refine wpAny_While (codeAny_whileLoop (fun n s' => ∃ σ' H', Inv X pins σ' H' s' ∧ W n σ' H') ?_ m0 ⟨σ, H, I, w0⟩)
  rintro n s1 ⟨σ1, H1, I1, w1⟩
  refine wpAny_passesOwn hp (thn (hc pins s1 σ1 H1 _ I1 (turn n σ1 H1 w1)) fun b s2 ⟨H2, I2, q2⟩ => ?_)
  cases b with
  | true =>
    obtain ⟨N, hN, q2⟩ := q2
    rw [if_pos rfl]
    refine wpAny_passesOwn hp (thn (hb pins s2 σ1 H2 _ I2 q2) fun f s3 q3 => ?_)
    cases f with
    | next =>
      obtain ⟨σ3, H3, I3, n3⟩ := q3
      obtain ⟨m', hm, w3⟩ := hN σ3 H3 n3
      exact ⟨m', hm, σ3, H3, I3, w3⟩
    | cont =>
      obtain ⟨σ3, H3, I3, n3⟩ := q3
      obtain ⟨m', hm, w3⟩ := hN σ3 H3 n3
      exact ⟨m', hm, σ3, H3, I3, w3⟩
    | brk => exact q3
    | ret v => exact q3
  | false =>
    rw [if_neg Bool.false_ne_true]
    exact wpAny_execs_nil ⟨σ1, H2, I2, q2⟩
end

structure It where
  go : Nat → Hp → Prop
  yld : Nat → Hp → V → Hp → Prop
  stop : Nat → Hp → Prop
def FpOk (X : Cx) (pins : List (Addr × Obj)) (H : Hp) (b : Addr) : Prop :=
  H b = none ∧ b ≠ X.env.locals ∧ b ∉ X.fs ∧ (b ∈ X.ex ∨ X.s₀.heap.objs.size ≤ b) ∧ (∀ x c, X.env.cells.lookup x = some c → c ≠ b) ∧ ∀ p ∈ X.pn ++ pins, p.1 ≠ b
theorem Inv.fpOk {X : Cx} {pins : List (Addr × Obj)} {σ : St} {H H' : Hp} {s : Shared} {b : Addr} (I : Inv X pins σ H s) (hb : s.heap.objs.size ≤ b) (hn : H' b = none) : FpOk X pins H' b := by
  refine ⟨hn, Nat.ne_of_gt (Nat.lt_of_lt_of_le I.lt hb), I.nofs hb, .inr (Nat.le_trans I.sz hb), fun x c e z => ?_, fun p hp z => ?_⟩
  · obtain ⟨v, q⟩ := I.cell x c e
    exact absurd (Nat.lt_of_lt_of_le q.lt (by rw [z]; exact hb)) (Nat.lt_irrefl _)
  · exact absurd (Nat.lt_of_lt_of_le (Heap.lt_size (I.pin p hp).1) (by rw [z]; exact hb)) (Nat.lt_irrefl _)
structure Turn (P : Program) (w : World) (K : PySem.W.Frag) (tg : Expr) (J : It) (fp : List Addr) (it : Addr) (tn : Nat → Heap → Prop) : Prop where
  mem : it ∈ fp
  obj : ∀ i h, tn i h → ∀ b ∈ fp, ∃ o, h.get? b = some o ∧ ∀ v, o.data ≠ .cell v
  keep : ∀ i h h', tn i h → (∀ b ∈ fp, ∀ o, h.get? b = some o → h'.get? b = some o) → tn i h'
  item : ∀ (X : Cx), X.prog = P → X.w = w → X.K = K → X.calm = true → ∀ (i : Nat) (pins : List (Addr × Obj)) (s : Shared) (σ : St) (H : Hp) (E : Value → Shared → Prop), Inv X pins σ H s → (∀ b ∈ fp, FpOk X pins H b) → tn i s.heap → J.go i H →
    wpAny (model P w) X.A (pyNext (.ref it)) (fun r s1 => ∃ u, r = some u ∧
      wpAny (model P w) X.A (letOwnedTupleGo tg (.ref it) u) (fun _ s2 => ∃ x H', Inv X pins σ H' s2 ∧ RelV x u ∧ J.yld i H x H' ∧ tn (i + 1) s2.heap ∧ ∀ b ∈ fp, H' b = none) E s1) E s
  done : ∀ (X : Cx), X.prog = P → X.w = w → X.K = K → X.calm = true → ∀ (i : Nat) (pins : List (Addr × Obj)) (s : Shared) (σ : St) (H : Hp) (E : Value → Shared → Prop), Inv X pins σ H s → (∀ b ∈ fp, FpOk X pins H b) → tn i s.heap → J.stop i H →
    wpAny (model P w) X.A (pyNext (.ref it)) (fun r s1 => r = none ∧ Inv X pins σ H s1) E s
  self : ∀ (A : Around) (i : Nat) (s : Shared) (Q : Value → Shared → Prop) (E : Value → Shared → Prop), tn i s.heap → Q (.ref it) s → wpAny (model P w) A (pyIter (.ref it)) Q E s
abbrev TI := St → Hp → (It → Hp → Prop) → Prop
def PIE (X : Cx) (pins : List (Addr × Obj)) (σ : St) (tg : Expr) (R : It → Hp → Prop) (itv : Value) (s2 : Shared) : Prop :=
  ∃ (it : Addr) (fp : List Addr) (tn : Nat → Heap → Prop) (J : It) (H' : Hp), itv = .ref it ∧ Inv X pins σ H' s2 ∧ Turn X.prog X.w X.K tg J fp it tn ∧ tn 0 s2.heap ∧ (∀ b ∈ fp, FpOk X pins H' b) ∧ R J H'
def PI (X : Cx) (tg iter : Expr) (wi : TI) : Prop :=
  ∀ (pins : List (Addr × Obj)) (s : Shared) (σ : St) (H : Hp) (R : It → Hp → Prop), Inv X pins σ H s → wi σ H R →
    wpAny (model X.prog X.w) X.A (eval iter X.env) (fun v s1 => wpAny (model X.prog X.w) X.A (pyIter v) (PIE X pins σ tg R) X.xe s1) X.xe s

theorem go_of {M : Model} {A : Around} {E : Value → Shared → Prop} {s : Shared} {tg : Expr} {it : Addr} {u : Value} {o : Obj} {n : String} {vs : Array Value} {Q : Unit → Shared → Prop} (ho : s.heap.get? it = some o) (hc : o.cls = .type n) (hd : o.data = .fields vs)
    (hn : ["enumerate", "zip", "dict_itemiterator", "dict_reverseitemiterator", "odict_iterator", "itertools.zip_longest", "itertools.pairwise"].contains n = false) (hQ : Q () s) : wpAny M A (letOwnedTupleGo tg (.ref it) u) Q E s := by
  unfold letOwnedTupleGo
  cases tg <;> first
    | exact wpAny_pure hQ
    | (cases u <;> first
        | exact wpAny_pure hQ
        | (refine wpAny_bind (wpAny_load ho ?_)
           rw [hc, hd]
           show wpAny M A (if (["enumerate", "zip", "dict_itemiterator", "dict_reverseitemiterator", "odict_iterator", "itertools.zip_longest", "itertools.pairwise"].contains n && vs[0]? == some (rawInt _)) = true then _ else _) Q E s
           rw [if_neg (by intro h; rw [hn, Bool.false_and] at h; cases h)]
           exact wpAny_pure hQ))

def Itl (K : PySem.W.Frag) (a : Addr) : It :=
  ⟨fun i H => ∃ xs x, SqL K H a xs ∧ xs[i]? = some x, fun i H x H' => H' = H ∧ ∀ xs, SqL K H a xs → xs[i]? = some x, fun i H => ∃ xs, SqL K H a xs ∧ xs.length ≤ i⟩
def Itr (lo : Int) (n : Nat) : It := ⟨fun i _ => i < n, fun i H x H' => H' = H ∧ x = .int (lo + i), fun i _ => n ≤ i⟩
theorem turn_list {P : Program} {w : World} {K : PySem.W.Frag} {tg : Expr} (a it : Addr) : Turn P w K tg (Itl K a) [it] it (fun i h => h.IsListIter it a i) where
  mem := by simp
  obj := fun i h st b hb => by
    have e : b = it := by simpa using hb
    subst e
    obtain ⟨o, e, c, d⟩ := st
    exact ⟨o, e, fun v z => by rw [d] at z; cases z⟩
  keep := fun i h h' st k => st.at fun o e => k it (by simp) o e
  item := by
    intro X hP hw hK hc i pins s σ H E I hf st hg
    subst hP hw hK
    obtain ⟨xs, x, hq, hx⟩ := hg
    obtain ⟨its, rv, p, hz⟩ := I.list hq
    obtain ⟨u, hu, ru⟩ := rv.get hx
    obtain ⟨f0, f1, f2, f3, f4, f5⟩ := hf it (by simp)
    refine wpAny_pyNext_list_item st p.isList (x := u) (by simpa using hu) fun h' st' sb => ?_
    have I1 : Inv X pins σ H { s with heap := h' } := I.turned (t' := s.toks) (fun b o hb e => (sb.2 b hb).trans e) f0 f1 f3 f4 f5
    obtain ⟨o, e, c, d⟩ := id st'
    exact ⟨u, rfl, go_of (s := { s with heap := h' }) e c d (by decide) ⟨x, H, I1, ru, ⟨rfl, fun ys hy => by rw [I.list_inj hy hq]; exact hx⟩, st', fun b hb => (hf b hb).1⟩⟩
  done := by
    intro X hP hw hK hc i pins s σ H E I hf st hg
    subst hP hw hK
    obtain ⟨xs, hq, hx⟩ := hg
    obtain ⟨its, rv, p, hz⟩ := I.list hq
    obtain ⟨f0, f1, f2, f3, f4, f5⟩ := hf it (by simp)
    have hl := rv.length
    exact wpAny_pyNext_list_end (I.ok.hd hc) st p.isList (by simp; omega) fun h' eb => ⟨rfl, I.turned (t' := s.toks) (fun b o hb e => eb b o hb e) f0 f1 f3 f4 f5⟩
  self := fun _ _ _ _ _ st h => wpAny_pyIter_listiter st h
theorem turn_range {P : Program} {w : World} {K : PySem.W.Frag} {tg : Expr} (it : Addr) (lo : Int) (n : Nat) : Turn P w K tg (Itr lo n) [it] it (fun i h => IsRangeIter h it (lo + (i : Nat) * 1) ((n : Int) - (i : Nat)) 1) where
  mem := by simp
  obj := fun i h st b hb => by
    have e : b = it := by simpa using hb
    subst e
    exact ⟨_, st, fun v z => by
      have z' : Data.fields _ = Data.cell v := z
      cases z'⟩
  keep := fun i h h' st k => k it (by simp) _ st
  item := by
    intro X hP hw hK hc i pins s σ H E I hf st hg
    subst hP hw hK
    obtain ⟨f0, f1, f2, f3, f4, f5⟩ := hf it (by simp)
    have W := Walks.range (prog := X.prog) (w := X.w) (I.ok.hd hc) it lo 1 n
    refine W.item i s _ _ hg st fun v h' tk hv st' kk => ?_
    obtain ⟨t, rfl⟩ := hv
    have I1 : Inv X pins σ H { s with heap := h', toks := tk } := I.turned (fun b o hb e => kk b o (by simpa using hb) e) f0 f1 f3 f4 f5
    refine ⟨_, rfl, go_of (s := { s with heap := h', toks := tk }) (n := "range_iterator") st' rfl rfl (by decide) ⟨.int (lo + i), H, I1, ⟨t, ?_⟩, ⟨rfl, rfl⟩, st', fun b hb => (hf b hb).1⟩⟩
    rw [Int.mul_one]
  done := by
    intro X hP hw hK hc i pins s σ H E I hf st hg
    subst hP hw hK
    obtain ⟨f0, f1, f2, f3, f4, f5⟩ := hf it (by simp)
    exact wpAny_pyNext_range_end (I.ok.hd hc) st (by have : n ≤ i := hg; omega) fun h' eb => ⟨rfl, I.turned (t' := s.toks) (fun b o hb e => eb b o hb e) f0 f1 f3 f4 f5⟩
  self := fun _ _ _ _ _ st h => wpAny_pyIter_rangeiter st h
end L2

namespace L2
open PySem PySem.Spec PyProof.Rows
section
variable {X : Cx} {tg : Expr}
def iList (K : PySem.W.Frag) (tl : TE) : TI := fun σ H R => tl σ H fun x H1 => ∃ a, x = .ref a ∧ (∃ xs, SqL K H1 a xs) ∧ R (Itl K a) H1
theorem pi_list {l : Expr} {tl : TE} (hl : PE X l tl) : PI X tg l (iList X.K tl) := by
  intro pins s σ H R I h
  refine thn (hl pins s σ H _ I h) fun v s1 ⟨x, H1, I1, r1, q1⟩ => ?_
  obtain ⟨a, e, ⟨xs, hq⟩, q⟩ := q1
  subst e
  cases r1
  obtain ⟨its, rv, p, hz⟩ := I1.list hq
  refine wpAny_pyIter_list p.isList ?_
  refine ⟨s1.heap.objs.size, [s1.heap.objs.size], _, _, H1, rfl, I1.kept (t' := s1.toks) fun b o e => Heap.get?_push_of_some _ e, turn_list a _, ⟨_, Heap.get?_push_size _ rfl, rfl, rfl⟩, fun b hb => ?_, q⟩
  have e : b = s1.heap.objs.size := by simpa using hb
  subst e
  exact I1.fpOk (Nat.le_refl _) (I1.hok.fresh (Nat.le_refl _))
theorem range_it {pins : List (Addr × Obj)} {σ : St} {H : Hp} {s : Shared} {R : It → Hp → Prop} {E : Value → Shared → Prop} {lo hi : Int} {t u v : Tok} {tk : Nat} (I : Inv X pins σ H s) (h1 : -(2 ^ 62) ≤ lo) (h2 : lo < 2 ^ 62) (h3 : -(2 ^ 62) ≤ hi) (h4 : hi < 2 ^ 62)
    (q : R (Itr lo (hi - lo).toNat) H) : wpAny (model X.prog X.w) X.A (pyIter (.ref s.heap.objs.size)) (PIE X pins σ tg R) E { s with heap := s.heap.push { cls := .type "range", data := .fields #[.int lo t, .int hi u, .int 1 v] }, toks := tk } := by
  refine wpAny_pyIter_range (IsRange.new ..) (small_one h1 h2 h3 h4) ?_
  have I1 : Inv X pins σ H { s with heap := s.heap.push { cls := .type "range", data := .fields #[.int lo t, .int hi u, .int 1 v] }, toks := tk } := I.kept fun b o e => Heap.get?_push_of_some _ e
  refine ⟨(s.heap.push { cls := .type "range", data := .fields #[.int lo t, .int hi u, .int 1 v] }).objs.size, [(s.heap.push { cls := .type "range", data := .fields #[.int lo t, .int hi u, .int 1 v] }).objs.size], _, _, H, rfl,
    I1.kept (t' := tk) fun b o e => Heap.get?_push_of_some _ e, turn_range _ lo (hi - lo).toNat, ?_, fun b hb => ?_, q⟩
  · have e1 : lo + ((0 : Nat) : Int) * 1 = lo := by simp
    have e2 : (((hi - lo).toNat : Nat) : Int) - ((0 : Nat) : Int) = Builtin.Range.rangeSize lo hi 1 := by rw [rangeSize_one]; split <;> omega
    show IsRangeIter _ _ (lo + ((0 : Nat) : Int) * 1) ((((hi - lo).toNat : Nat) : Int) - ((0 : Nat) : Int)) 1
    rw [e1, e2]
    exact Heap.get?_push_size _ rfl
  · have e : b = (s.heap.push { cls := .type "range", data := .fields #[.int lo t, .int hi u, .int 1 v] }).objs.size := by simpa using hb
    subst e
    exact I1.fpOk (Nat.le_refl _) (I1.hok.fresh (Nat.le_refl _))
def iRng1 (ta : TA) : TI := fun σ H R => ta σ H fun vs H1 => ∃ j : Int, vs = [.int j] ∧ -(2 ^ 62) ≤ j ∧ j < 2 ^ 62 ∧ R (Itr 0 j.toNat) H1
theorem pi_range1 {a : Expr} {ta : TA} {p pos : Pos} (hg : Gl X "range") (hm : X.mg "range" = none) (ha : PA X [a] ta) (hs : starEach [a] X.env = [(false, eval a X.env)] := by rfl) : PI X tg (.Call (.Name "range" p) [a] [] pos) (iRng1 ta) := by
  intro pins s σ H R I h
  refine Call_ (ld_blt I hg hm boot_range (PyProof.Rows.callWith_type1 (thn (ha pos pins s σ H _ I h) fun us s1 ⟨vs, H1, I1, r1, q1⟩ => ?_) hs rfl))
  obtain ⟨j, e, q1, q2, q⟩ := q1
  subst e
  cases r1 with
  | cons r rr =>
    cases rr
    obtain ⟨t, rfl⟩ := r
    exact call_range_1 (range_it I1 (by omega) (by omega) q1 q2 (by simpa using q))
def tFor (wi : TI) (g : TG) (tb : TS) : TS := fun D σ H => wi σ H fun J H1 => ∃ W : Nat → Nat → St → Hp → Prop, (∃ m, W 0 m σ H1) ∧ ∀ i m σ H, W i m σ H →
  (J.stop i H ∧ D.nx σ H) ∨ (J.go i H ∧ ∃ N : St → Hp → Prop, (∀ σ' H', N σ' H' → ∃ m', m' < m ∧ W (i + 1) m' σ' H') ∧ ∀ x H', J.yld i H x H' → g x σ H' fun σ2 H2 => tb { D with nx := N, ct := N, bk := D.nx } σ2 H2)
def pinsAt (fp : List Addr) (h : Heap) : List (Addr × Obj) := fp.filterMap fun b => (h.get? b).map fun o => (b, o)
theorem mem_pinsAt {fp : List Addr} {h : Heap} {b : Addr} {o : Obj} (hb : b ∈ fp) (e : h.get? b = some o) : (b, o) ∈ pinsAt fp h := List.mem_filterMap.mpr ⟨b, hb, by rw [e]; rfl⟩
theorem of_pinsAt {fp : List Addr} {h : Heap} {p : Addr × Obj} (hp : p ∈ pinsAt fp h) : p.1 ∈ fp ∧ h.get? p.1 = some p.2 := by
  obtain ⟨b, hb, e⟩ := List.mem_filterMap.mp hp
  cases q : h.get? b with
  | none => rw [q] at e; cases e
  | some o =>
    rw [q] at e
    have e' : (b, o) = p := Option.some.inj e
    subst e'
    exact ⟨hb, q⟩
theorem Inv.pinned {pins : List (Addr × Obj)} {σ : St} {H : Hp} {s : Shared} {fp : List Addr} (I : Inv X pins σ H s) (hf : ∀ b ∈ fp, FpOk X pins H b) (ho : ∀ b ∈ fp, ∃ o, s.heap.get? b = some o ∧ ∀ v, o.data ≠ .cell v) : Inv X (pins ++ pinsAt fp s.heap) σ H s :=
  I.pins_of fun p hp => (List.mem_append.mp hp).elim (fun z => I.pin p (List.mem_append_right _ z)) fun z => by
    obtain ⟨hb, e⟩ := of_pinsAt z
    obtain ⟨f0, f1, f2, _⟩ := hf p.1 hb
    obtain ⟨o, e', d⟩ := ho p.1 hb
    rw [e] at e'; cases e'
    exact ⟨e, f0, f1, f2, d⟩
theorem Inv.unpinned {pins pl : List (Addr × Obj)} {σ : St} {H : Hp} {s : Shared} (I : Inv X (pins ++ pl) σ H s) : Inv X pins σ H s := I.pins_of fun p hp => I.pin p (List.mem_append_right _ (List.mem_append_left _ hp))
theorem ps_for {iter : Expr} {body : List Stmt} {wi : TI} {g : TG} {tb : TS} {pos : Pos} (hp : PassesOwn (model X.prog X.w) X.A X.env X.xe) (hc : X.calm = true) (hi : PI X tg iter wi) (hg : PG X tg g) (hb : PSs X body tb)
    (hs : ∀ x, foldedSetIterable iter X.env x = pure x := by intro _; rfl) : PS X (.For tg iter body [] pos) (tFor wi g tb) := by
  intro pins s σ H D I h
  refine wpAny_For (thn (hi pins s σ H _ I h) fun v s1 h1 => thn h1 fun itv s2 h2 => ?_) hs
  obtain ⟨it, fp, tn, J, H2, e, I2, T, st2, f2, W, ⟨m0, w0⟩, turn⟩ := h2
  subst e
  -- what stays true of the iterator's objects through the loop
  have stat : ∀ {H' : Hp}, (∀ b ∈ fp, H' b = none) → ∀ b ∈ fp, FpOk X pins H' b := fun hn b hb => ⟨hn b hb, (f2 b hb).2⟩
  refine codeAny_forLoop_any (fun n s' => ∃ i σ' H', Inv X pins σ' H' s' ∧ tn i s'.heap ∧ (∀ b ∈ fp, H' b = none) ∧ W i n σ' H') ?_ m0 ⟨0, σ, H2, I2, st2, fun b hb => (f2 b hb).1, w0⟩
  rintro n s3 ⟨i, σ3, H3, I3, st3, fr3, w3⟩
  rcases turn i n σ3 H3 w3 with ⟨stop, qn⟩ | ⟨go, N, hN, step⟩
  · refine wpAny_passesOwn hp (thn (T.done X rfl rfl rfl hc i pins s3 σ3 H3 X.xe I3 (stat fr3) st3 stop) fun r s4 ⟨hr, I4⟩ => ?_)
    subst hr
    exact wpAny_execs_nil ⟨σ3, H3, I4, qn⟩
  · refine wpAny_passesOwn hp (thn (T.item X rfl rfl rfl hc i pins s3 σ3 H3 X.xe I3 (stat fr3) st3 go) fun r s4 ⟨u, hr, h4⟩ => ?_)
    subst hr
    refine wpAny_passesOwn hp (thn h4 fun _ s5 ⟨x, H5, I5, r5, y5, st5, fr5⟩ => ?_)
    have I5' := I5.pinned (stat fr5) (T.obj _ _ st5)
    refine wpAny_passesOwn hp (thn (hg _ s5 σ3 H5 x u _ I5' r5 (step x H5 y5)) fun _ s6 ⟨σ6, H6, I6, q6⟩ => ?_)
    refine wpAny_passesOwn hp (thn (hb _ s6 σ6 H6 _ I6 q6) fun f s7 q7 => ?_)
    have again : ∀ {σ7 : St} {H7 : Hp}, Inv X (pins ++ pinsAt fp s5.heap) σ7 H7 s7 → N σ7 H7 → ∃ m, m < n ∧ ∃ i σ' H', Inv X pins σ' H' s7 ∧ tn i s7.heap ∧ (∀ b ∈ fp, H' b = none) ∧ W i m σ' H' := fun {σ7 H7} I7 n7 => by
      obtain ⟨m', hm, w7⟩ := hN σ7 H7 n7
      refine ⟨m', hm, i + 1, σ7, H7, I7.unpinned, T.keep _ _ _ st5 fun b hb o e => (I7.pin (b, o) (List.mem_append_right _ (List.mem_append_right _ (mem_pinsAt hb e)))).1, fun b hb => ?_, w7⟩
      obtain ⟨o, e, d⟩ := T.obj _ _ st5 b hb
      exact (I7.pin (b, o) (List.mem_append_right _ (List.mem_append_right _ (mem_pinsAt hb e)))).2.1
    cases f with
    | next => obtain ⟨σ7, H7, I7, n7⟩ := q7; exact again I7 n7
    | cont => obtain ⟨σ7, H7, I7, n7⟩ := q7; exact again I7 n7
    | brk => obtain ⟨σ7, H7, I7, q7⟩ := q7; exact ⟨σ7, H7, I7.unpinned, q7⟩
    | ret v => obtain ⟨x7, σ7, H7, I7, r7, q7⟩ := q7; exact ⟨x7, σ7, H7, I7.unpinned, r7, q7⟩
end

end L2

namespace L2
open PySem PySem.Spec PyProof.Rows

abbrev R2 := V → V → Hp → VK → Prop
def OpR (X : Cx) (f : Value → Value → Sem Value) (r : R2) : Prop :=
  ∀ (pins : List (Addr × Obj)) (s : Shared) (σ : St) (H : Hp) (x y : V) (v u : Value) (Q : VK), Inv X pins σ H s → RelV x v → RelV y u → r x y H Q →
    wpAny (model X.prog X.w) X.A (f v u) (EP X pins σ Q) X.xe s
def UnR (X : Cx) (f : Value → Sem Value) (r : V → Hp → VK → Prop) : Prop :=
  ∀ (pins : List (Addr × Obj)) (s : Shared) (σ : St) (H : Hp) (x : V) (v : Value) (Q : VK), Inv X pins σ H s → RelV x v → r x H Q →
    wpAny (model X.prog X.w) X.A (f v) (EP X pins σ Q) X.xe s
def CallR (X : Cx) (f : Value) (r : List V → Hp → VK → Prop) : Prop :=
  ∀ (pins : List (Addr × Obj)) (s : Shared) (σ : St) (H : Hp) (xs : List V) (us : List Value) (Q : VK), Inv X pins σ H s → Vals xs us → r xs H Q →
    wpAny (model X.prog X.w) X.A (call f us) (EP X pins σ Q) X.xe s
def tOp (r : R2) (ta tb : TE) : TE := fun σ H Q => ta σ H fun x H1 => tb σ H1 fun y H2 => r x y H2 Q
def tUn (r : V → Hp → VK → Prop) (ta : TE) : TE := fun σ H Q => ta σ H fun x H1 => r x H1 Q
def rI (C : Int → Int → Prop) (g : Int → Int → V) : R2 := fun x y H Q => ∃ i j, x = .int i ∧ y = .int j ∧ C i j ∧ Q (g i j) H
def rI0 (g : Int → Int → V) : R2 := fun x y H Q => ∃ i j, x = .int i ∧ y = .int j ∧ Q (g i j) H
def rU (g : Int → V) : V → Hp → VK → Prop := fun x H Q => ∃ i, x = .int i ∧ Q (g i) H

section
variable {X : Cx} {a b c : Expr} {ta tb tc : TE} {pos : Pos}

theorem binT (ha : PE X a ta) (hb : PE X b tb) {pins : List (Addr × Obj)} {s : Shared} {σ : St} {H : Hp} {R : V → V → Hp → Prop} (I : Inv X pins σ H s)
    (h : ta σ H fun x H1 => tb σ H1 fun y H2 => R x y H2) {Q : Value → Shared → Prop} {f : Value → Value → Sem Value}
    (hf : ∀ v u s2 x y H2, Inv X pins σ H2 s2 → RelV x v → RelV y u → R x y H2 → wpAny (model X.prog X.w) X.A (f v u) Q X.xe s2) :
    wpAny (model X.prog X.w) X.A (eval a X.env) (fun v s₁ => wpAny (model X.prog X.w) X.A (eval b X.env) (fun u s₂ => wpAny (model X.prog X.w) X.A (f v u) Q X.xe s₂) X.xe s₁) X.xe s := by
  refine thn (ha pins s σ H _ I h) fun v s1 ⟨x, H1, I1, r1, q1⟩ => ?_
  refine thn (hb pins s1 σ H1 _ I1 q1) fun u s2 ⟨y, H2, I2, r2, q2⟩ => ?_
  exact hf v u s2 x y H2 I2 r1 r2 q2

theorem pe_op {op : Operator} {r : R2} (ho : OpR X (binaryOp op) r) (ha : PE X a ta) (hb : PE X b tb) : PE X (.BinOp a op b pos) (tOp r ta tb) := by
  intro pins s σ H Q I h
  exact wpAny_BinOp (binT ha hb I h fun v u s2 x y H2 I2 rx ry q => ho pins s2 σ H2 x y v u Q I2 rx ry q)
theorem pe_un {op : UnaryOp} {r : V → Hp → VK → Prop} (ho : UnR X (unaryOp op) r) (ha : PE X a ta) : PE X (.UnaryOp op a pos) (tUn r ta) := by
  intro pins s σ H Q I h
  exact UnaryOp_ (thn (ha pins s σ H _ I h) fun v s1 ⟨x, H1, I1, r1, q1⟩ => ho pins s1 σ H1 x v Q I1 r1 q1)
theorem opI {f : Value → Value → Sem Value} {C : Int → Int → Prop} {g : Int → Int → Int}
    (rule : ∀ (i j : Int) (t u : Tok) (s : Shared) (Q : Value → Shared → Prop) (E : Value → Shared → Prop), C i j → Q (.int (g i j) s.toks) { s with toks := s.toks + 1 } → wpAny (model X.prog X.w) X.A (f (.int i t) (.int j u)) Q E s) :
    OpR X f (rI C fun i j => .int (g i j)) := by
  intro pins s σ H x y v u Q I rx ry h
  obtain ⟨i, j, rfl, rfl, hc, q⟩ := h
  obtain ⟨t, rfl⟩ := rx
  obtain ⟨t', rfl⟩ := ry
  exact rule i j t t' s _ _ hc ⟨.int (g i j), H, I.tok _, ⟨_, rfl⟩, q⟩
theorem opI0 {f : Value → Value → Sem Value} {g : Int → Int → Int}
    (rule : ∀ (i j : Int) (t u : Tok) (s : Shared) (Q : Value → Shared → Prop) (E : Value → Shared → Prop), Q (.int (g i j) s.toks) { s with toks := s.toks + 1 } → wpAny (model X.prog X.w) X.A (f (.int i t) (.int j u)) Q E s) :
    OpR X f (rI0 fun i j => .int (g i j)) := by
  intro pins s σ H x y v u Q I rx ry h
  obtain ⟨i, j, rfl, rfl, q⟩ := h
  obtain ⟨t, rfl⟩ := rx
  obtain ⟨t', rfl⟩ := ry
  exact rule i j t t' s _ _ ⟨.int (g i j), H, I.tok _, ⟨_, rfl⟩, q⟩
theorem opB0 {f : Value → Value → Sem Value} {g : Int → Int → Bool}
    (rule : ∀ (i j : Int) (t u : Tok) (s : Shared) (Q : Value → Shared → Prop) (E : Value → Shared → Prop), Q (.bool (g i j)) s → wpAny (model X.prog X.w) X.A (f (.int i t) (.int j u)) Q E s) :
    OpR X f (rI0 fun i j => .bl (g i j)) := by
  intro pins s σ H x y v u Q I rx ry h
  obtain ⟨i, j, rfl, rfl, q⟩ := h
  obtain ⟨t, rfl⟩ := rx
  obtain ⟨t', rfl⟩ := ry
  exact rule i j t t' s _ _ ⟨.bl (g i j), H, I, rfl, q⟩

def CPow (i j : Int) : Prop := 0 ≤ j ∧ j ≤ 1000000 ∧ i.natAbs < 2 ^ 64
def CMul (i j : Int) : Prop := (-(2 ^ 64) < i ∧ i < 2 ^ 64) ∨ (-(2 ^ 64) < j ∧ j < 2 ^ 64)
theorem CMul.ok {i j : Int} (h : CMul i j) : IntMulOk i j := by
  rcases h with ⟨h1, h2⟩ | ⟨h1, h2⟩
  · exact .of_left (intBits_le_64 h1 h2)
  · exact .of_right (intBits_le_64 h1 h2)
theorem op_add : OpR X (binaryOp .Add) (rI0 fun i j => .int (i + j)) := opI0 fun _ _ _ _ _ _ _ q => add_int q
theorem op_sub : OpR X (binaryOp .Sub) (rI0 fun i j => .int (i - j)) := opI0 fun _ _ _ _ _ _ _ q => sub_int q
theorem op_modN : OpR X (binaryOp .Mod) (rI (fun _ j => j ≠ 0) fun i j => .int (i.fmod j)) := opI fun _ _ _ _ _ _ _ hc q => mod_int' hc q
theorem op_pow : OpR X (binaryOp .Pow) (rI CPow fun i j => .int (i ^ j.toNat)) := opI fun _ _ _ _ _ _ _ hc q => pow_int_small hc.1 hc.2.1 hc.2.2 q
theorem unI {f : Value → Sem Value} {g : Int → Int}
    (rule : ∀ (i : Int) (t : Tok) (s : Shared) (Q : Value → Shared → Prop) (E : Value → Shared → Prop), Q (.int (g i) s.toks) { s with toks := s.toks + 1 } → wpAny (model X.prog X.w) X.A (f (.int i t)) Q E s) :
    UnR X f (rU fun i => .int (g i)) := by
  intro pins s σ H x v Q I rx h
  obtain ⟨i, rfl, q⟩ := h
  obtain ⟨t, rfl⟩ := rx
  exact rule i t s _ _ ⟨.int (g i), H, I.tok _, ⟨_, rfl⟩, q⟩
theorem un_neg : UnR X (unaryOp .USub) (rU fun i => .int (-i)) := unI fun _ _ _ _ _ q => neg_int q
end

section
variable {X : Cx} {a b c : Expr} {ta tb tc : TE} {pos : Pos}
theorem op_lt : OpR X (compareOp .Lt) (rI0 fun i j => .bl (decide (i < j))) := opB0 fun _ _ _ _ _ _ _ q => lt_int q
theorem op_gt : OpR X (compareOp .Gt) (rI0 fun i j => .bl (decide (j < i))) := opB0 fun _ _ _ _ _ _ _ q => gt_int q
theorem op_ge : OpR X (compareOp .GtE) (rI0 fun i j => .bl (decide (j ≤ i))) := opB0 fun _ _ _ _ _ _ _ q => ge_int q
theorem nomark (b : Expr) {op : CmpOp} (h : op ≠ .In := by decide) (h2 : op ≠ .NotIn := by decide) : behindInMarks op b = false := by
  have e1 : (op == CmpOp.In) = false := by cases op <;> first | rfl | exact absurd rfl h
  have e2 : (op == CmpOp.NotIn) = false := by cases op <;> first | rfl | exact absurd rfl h2
  cases b <;> simp [behindInMarks, e1, e2]
theorem pe_cmpR {op : CmpOp} {r : R2} (ho : OpR X (compareOp op) r) (ha : PE X a ta) (hb : PE X b tb) (hm : behindInMarks op b = false) : PE X (.Compare a [op] [b] pos) (tOp r ta tb) := by
  intro pins s σ H Q I h
  exact wpAny_Compare1 (binT ha hb I h fun v u s2 x y H2 I2 rx ry q => ho pins s2 σ H2 x y v u Q I2 rx ry q) hm
def tTest (t : TE) : TT := fun σ H Q => t σ H fun x H' => ∃ k, x = .bl k ∧ Q k H'
theorem pt_cmpR {op : CmpOp} {r : R2} (ho : OpR X (compareOp op) r) (ha : PE X a ta) (hb : PE X b tb) (hm : behindInMarks op b = false) : PT X (.Compare a [op] [b] pos) (tTest (tOp r ta tb)) := by
  intro pins s σ H Q I h
  refine wpAny_isTrue_Compare1 (thn (ha pins s σ H _ I h) fun v s1 ⟨x, H1, I1, r1, q1⟩ => thn (hb pins s1 σ H1 _ I1 q1) fun u s2 ⟨y, H2, I2, r2, q2⟩ =>
    thn (ho pins s2 σ H2 x y v u _ I2 r1 r2 q2) fun c s3 ⟨z, H3, I3, r3, k, e, q3⟩ => ?_) hm
  subst e
  cases r3
  exact wpAny_truthy_bool ⟨H3, I3, q3⟩
theorem line63 : (sizeLine : Nat) < 2 ^ 63 := by rw [sizeLine_eq]; decide
theorem vals1 {x : V} {us : List Value} (r : Vals [x] us) : ∃ u, us = [u] ∧ RelV x u := by
  cases r with
  | cons r1 r2 => cases r2; exact ⟨_, rfl, r1⟩
theorem call_abs : CallR X (.builtin "abs") (fun xs H Q => ∃ i, xs = [.int i] ∧ Q (.int (if i < 0 then -i else i)) H) := by
  intro pins s σ H xs us Q I r h
  obtain ⟨i, rfl, q⟩ := h
  obtain ⟨u, rfl, t, rfl⟩ := vals1 r
  exact call_abs_int fun u tk => ⟨.int (if i < 0 then -i else i), H, I.tok _, ⟨_, rfl⟩, q⟩
theorem call_int1 : CallR X (.type "int") (fun xs H Q => (∃ i, xs = [.int i] ∧ Q (.int i) H) ∨ ∃ k, xs = [.bl k] ∧ Q (.int (if k then 1 else 0)) H) := by
  intro pins s σ H xs us Q I r h
  rcases h with ⟨i, rfl, q⟩ | ⟨k, rfl, q⟩
  · obtain ⟨u, rfl, t, rfl⟩ := vals1 r
    exact call_int_int ⟨.int i, H, I, ⟨_, rfl⟩, q⟩
  · obtain ⟨u, rfl, r1⟩ := vals1 r
    cases r1
    exact call_int_bool ⟨.int (if k then 1 else 0), H, I.tok _, ⟨_, rfl⟩, q⟩
end
end L2

namespace L2
open PySem PySem.Spec PyProof.Rows

section
variable {prog : Program} {w : World} {A : Around} {E : Value → Shared → Prop} {s : Shared} {K : PySem.W.Frag} {x dx C f : Addr} {mA : Str → Option Value} {name : Str} {v : Value}

end

section
variable {P : Program} {w : World} {H H' : Hp} {h h' : Heap} {a C dx : Addr} {fs fs' : List (Str × V)}
end

structure Cls (K : PySem.W.Frag) (C : Addr) : Prop where
  pg : PySem.W.plainGet K C Str.empty = true
  hd : PySem.W.hasDictIn K C = true
  po : PySem.W.plainOver K C = true
  sa : PySem.W.findIn K (.ref C) "__setattr__" = some (some (.builtin "object.__setattr__"))
theorem Cls.get {K : PySem.W.Frag} {C : Addr} (c : Cls K C) (f : Str) : PySem.W.plainGet K C f = true := c.pg
section
variable {X : Cx} {pins : List (Addr × Obj)} {σ : St} {H : Hp} {s : Shared} {a C dx : Addr} {fs : List (Str × V)} {f : Str} {v : V} {A : Around} {E : Value → Shared → Prop}

end

section
variable {X : Cx} {o e value : Expr} {f : Str} {pos pos' tpos : Pos} {ta tv : TE}
end

section
variable {X : Cx} {pins : List (Addr × Obj)} {σ : St} {H : Hp} {s : Shared} {A : Around} {E : Value → Shared → Prop} {Q : Value → Shared → Prop} {c : Value} {b : Bool}
end
end L2

namespace L2
open PySem PySem.Spec PyProof.Rows

structure Room (k : Nat) (A : Around) : Prop where
  hd : A.handled = none
  dp : A.depth + 3 * k + 5 < recursionLimit
  un : A.units + 16 * k + 200 < cLine
theorem Room.mono {j k : Nat} {A : Around} (r : Room k A) (h : j ≤ k) : Room j A := ⟨r.hd, by have := r.dp; omega, by have := r.un; omega⟩
theorem Room.deeper {k : Nat} {A : Around} (r : Room (k + 1) A) (env : Env) : Room k (A.deeper env) :=
  ⟨r.hd, by have := r.dp; show A.depth + 1 + 3 * k + 5 < _; omega, by have := r.un; show A.units + 3 + 16 * k + 200 < _; omega⟩
theorem Room.in1 {k : Nat} {A : Around} (r : Room (k + 1) A) : Room k A.in1 :=
  ⟨r.hd, by have := r.dp; show A.depth + 3 * k + 5 < _; omega, by have := r.un; show A.units + 1 + 16 * k + 200 < _; omega⟩
theorem make_depth {A : Around} {C : Addr} {us : List Value} {kw : List (Str × Value)} : (A.under (.builtin "type.__call__" ⟨.ref C :: us, kw⟩)).depth = A.depth + 1 := by
  first | rfl | simp [Around.under, Code.weight, Code.isCreation, Code.isGuard, Code.isCaller, Code.frames, Code.isFrame, guardIds]
theorem make_units {A : Around} {C : Addr} {us : List Value} {kw : List (Str × Value)} : (A.under (.builtin "type.__call__" ⟨.ref C :: us, kw⟩)).units = A.units + 1 := by
  first | rfl | simp [Around.under, Code.cUnits, Code.frames, Code.isFrame]
theorem Room.make {k : Nat} {A : Around} (r : Room (k + 1) A) (C : Addr) (us : List Value) (kw : List (Str × Value)) : Room k (A.under (.builtin "type.__call__" ⟨.ref C :: us, kw⟩)) :=
  ⟨r.hd, by have := r.dp; rw [make_depth]; omega, by have := r.un; rw [make_units]; omega⟩
theorem Room.depth {k : Nat} {A : Around} (r : Room k A) : A.depth < recursionLimit := by have := r.dp; omega
theorem Room.units {k : Nat} {A : Around} (r : Room k A) : A.units + 64 < cLine := by have := r.un; omega
def tNil : TA := fun _ H Q => Q [] H
def tCons (ta : TE) (tr : TA) : TA := fun σ H Q => ta σ H fun x H1 => tr σ H1 fun xs H2 => Q (x :: xs) H2
section
variable {X : Cx} {e : Expr} {es : List Expr} {te : TE} {t : TA} {pos : Pos}
theorem pa_nil : PA X [] tNil := fun _ _ _ _ H Q I h => Calls.spliced_nil ⟨[], H, I, .nil, h⟩
theorem pa_cons (ha : PE X e te) (hr : PA X es t) (hs : starEach (e :: es) X.env = (false, eval e X.env) :: starEach es X.env := by rfl) : PA X (e :: es) (tCons te t) := by
  intro pos pins s σ H Q I h
  rw [hs]
  show wpAny _ _ (spliced ((false, eval e X.env) :: backTo pos (starEach es X.env))) _ _ s
  refine Calls.spliced_cons (thn (ha pins s σ H _ I h) fun u s1 ⟨x, H1, I1, r1, q1⟩ => ?_)
  exact thn (hr pos pins s1 σ H1 _ I1 q1) fun us s2 ⟨xs, H2, I2, r2, q2⟩ => ⟨x :: xs, H2, I2, .cons r1 r2, q2⟩

def tTup (t : TA) : TE := fun σ H Q => t σ H fun xs H1 => xs.length ≤ sizeLine ∧ ∀ p, H1 p = none → Q (.ref p) (upd H1 p (.tup xs))
def tLst (t : TA) : TE := fun σ H Q => t σ H fun xs H1 => xs.length ≤ sizeLine ∧ ∀ p, H1 p = none → Q (.ref p) (upd H1 p (.lst xs))
theorem pe_tup {x1} (h : PA X es t) : PE X (.Tuple es x1 pos) (tTup t) := by
  intro pins s σ H Q I hq
  refine wpAny_Tuple_spliced (thn (h pos pins s σ H _ I hq) fun us s1 ⟨xs, H1, I1, r, z, q⟩ => ⟨by rw [← r.length]; exact z, ?_⟩)
  have hf : H1 s1.heap.objs.size = none := I1.hok.fresh (Nat.le_refl _)
  refine ⟨.ref s1.heap.objs.size, upd H1 s1.heap.objs.size (.tup xs), I1.laid (t' := s1.toks) (fun b u e => Heap.get?_push_of_some _ e) (Nat.le_refl _) ?_, rfl, q _ hf⟩
  exact ⟨z, us, r, ⟨_, Heap.get?_push_size _ rfl, rfl, _, rfl⟩⟩
theorem pe_lst (h : PA X es t) : PE X (.List es pos) (tLst t) := by
  intro pins s σ H Q I hq
  refine wpAny_List_spliced (thn (h pos pins s σ H _ I hq) fun us s1 ⟨xs, H1, I1, r, z, q⟩ => ⟨by rw [← r.length]; exact z, ?_⟩)
  have hf : H1 s1.heap.objs.size = none := I1.hok.fresh (Nat.le_refl _)
  refine ⟨.ref s1.heap.objs.size, upd H1 s1.heap.objs.size (.lst xs), I1.laid (t' := s1.toks) (fun b u e => Heap.get?_push_of_some _ e) (Nat.le_refl _) ?_, rfl, q _ hf⟩
  exact ⟨z, us, 0, r, Heap.get?_push_size _ rfl⟩
end

abbrev Sp := List V → Hp → VK → XK → Prop
abbrev CXT := List Env → Hp → Shared → XK → Value → Shared → Prop

structure Env0 (P : Program) (w : World) (K : PySem.W.Frag) (mg : Str → Option Value) (base : Heap) (A : Around) (outer : List Env) (s : Shared) (H : Hp) : Prop where
  frames : A.frames = some outer
  mod : Mod K mg base
  bs : ∀ b o, base.get? b = some o → s.heap.get? b = some o ∧ H b = none
  bsz : base.objs.size ≤ s.heap.objs.size
  funs : s.heap.FunFrames base outer
  frf : ∀ b ∈ frs outer, H b = none
  hok : HOk P w H s.heap
  bare : AllBare s.gens
def CE (outer : List Env) (P : Program) (w : World) (H : Hp) (s : Shared) (Q : VK) (u : Value) (s' : Shared) : Prop :=
  ∃ v H', s'.os = s.os ∧ AllBare s'.gens ∧ Un (frs outer) [] H H' s.heap s'.heap ∧ HOk P w H' s'.heap ∧ RelV v u ∧ Q v H'
def CR (CX : CXT) (outer : List Env) (P : Program) (w : World) (H : Hp) (s : Shared) (Q : VK) (E : XK) (r : Result) (s' : Shared) : Prop :=
  match r with
  | .ok (.ret u) => CE outer P w H s Q u s'
  | .ok _ => False
  | .error e => CX outer H s E e s'
structure FnOk (P : Program) (w : World) (K : PySem.W.Frag) (mg : Str → Option Value) (base : Heap) (CX : CXT) (k : Nat) (f : Addr) (fd : FuncData) (ps : List Str) (sp : Sp) : Prop where
  len : ∀ vs H Q E, sp vs H Q E → vs.length = ps.length
  run : ∀ (A : Around) (outer : List Env) (s : Shared) (H : Hp) (args : Args) (us : List Value) (vs : List V) (Q : VK) (E : XK), Room k A → Env0 P w K mg base A outer s H → BindsTo s fd args (ps.zip us) → Vals vs us → sp vs H Q E →
    codeAny (model P w) A (.call (.ref f) args) (CR CX outer P w H s Q E) s
theorem FnOk.mono {P : Program} {w : World} {K : PySem.W.Frag} {mg : Str → Option Value} {base : Heap} {CX : CXT} {j k : Nat} {f : Addr} {fd : FuncData} {ps : List Str} {sp : Sp} (F : FnOk P w K mg base CX j f fd ps sp) (h : j ≤ k) :
    FnOk P w K mg base CX k f fd ps sp := ⟨F.len, fun A outer s H args us vs Q E hr => F.run A outer s H args us vs Q E (hr.mono h)⟩
theorem FnOk.imp {P : Program} {w : World} {K : PySem.W.Frag} {mg : Str → Option Value} {base : Heap} {CX : CXT} {k : Nat} {f : Addr} {fd : FuncData} {ps : List Str} {sp sp' : Sp} (F : FnOk P w K mg base CX k f fd ps sp)
    (h : ∀ vs H Q E, sp' vs H Q E → sp vs H Q E) : FnOk P w K mg base CX k f fd ps sp' :=
  ⟨fun vs H Q E q => F.len vs H Q E (h _ _ _ _ q), fun A outer s H args us vs Q E hr he hb hv hs => F.run A outer s H args us vs Q E hr he hb hv (h _ _ _ _ hs)⟩

theorem Env0.make {P : Program} {w : World} {K : PySem.W.Frag} {mg : Str → Option Value} {base : Heap} {A : Around} {outer : List Env} {s : Shared} {H : Hp} (e : Env0 P w K mg base A outer s H) (C : Addr) (us : List Value) (kw : List (Str × Value)) :
    Env0 P w K mg base (A.under (.builtin "type.__call__" ⟨.ref C :: us, kw⟩)) outer s H := ⟨by first | exact e.frames | (simpa [Around.under, Code.envs, Code.isFrame, pushEnvs] using e.frames), e.mod, e.bs, e.bsz, e.funs, e.frf, e.hok, e.bare⟩
theorem Env0.in1 {P : Program} {w : World} {K : PySem.W.Frag} {mg : Str → Option Value} {base : Heap} {A : Around} {outer : List Env} {s : Shared} {H : Hp} (e : Env0 P w K mg base A outer s H) :
    Env0 P w K mg base A.in1 outer s H := ⟨e.frames, e.mod, e.bs, e.bsz, e.funs, e.frf, e.hok, e.bare⟩

section
variable {X : Cx} {pins : List (Addr × Obj)} {σ : St} {H : Hp} {s s' : Shared}
theorem Inv.env0 (I : Inv X pins σ H s) : Env0 X.prog X.w X.K X.mg X.base X.A X.stack s H :=
  ⟨I.ok.frames, I.ok.mod, I.bs, Nat.le_trans I.ok.bsz I.sz, I.stack, I.stkFree, I.hok, I.bare⟩
theorem Inv.after {Q : VK} {u : Value} (I : Inv X pins σ H s) (h : CE X.stack X.prog X.w H s Q u s') : EP X pins σ Q u s' := by
  obtain ⟨v, H', os, bare, un, hok, r, q⟩ := h
  obtain ⟨hh, g, d, t, os'⟩ := s'
  obtain rfl : os' = s.os := os
  exact ⟨v, H', I.call (h' := hh) (g' := g) (d' := d) (t' := t) (ch := []) un hok bare (fun b z => absurd z (by simp)), r, q⟩
end

def tCall (sp : Sp) (dvs : List V) (E : XK) (t : TA) : TE := fun σ H Q => t σ H fun vs H1 => sp (vs ++ dvs) H1 Q E
def Binds (K : PySem.W.Frag) (fd : FuncData) (ps : List Str) (ds : List Value) : Prop :=
  ∀ (s : Shared) (us : List Value), K.In s.heap → (us ++ ds).length = ps.length → BindsTo s fd ⟨us, []⟩ (ps.zip (us ++ ds))
theorem Binds.all {K : PySem.W.Frag} {fd : FuncData} {ps : List Str} (h : ∀ us : List Value, us.length = ps.length → bindArgs fd ⟨us, []⟩ = pure (ps.zip us)) : Binds K fd ps [] := fun s us _ hl => by
  rw [List.append_nil] at hl ⊢
  exact .of_eq (h us hl)

def Passes (CX : CXT) (X : Cx) (E : XK) : Prop := ∀ (pins : List (Addr × Obj)) (σ : St) (H : Hp) (s : Shared) (e : Value) (s' : Shared), Inv X pins σ H s → CX X.stack H s E e s' → X.xe e s'

section
variable {X : Cx} {CX : CXT} {k : Nat} {f C : Addr} {fd : FuncData} {ps : List Str} {sp : Sp} {dvs : List V} {ds : List Value} {E : XK} {x m : Str} {p pos apos : Pos} {e o : Expr} {es : List Expr} {ta : TE} {t : TA}

theorem run_fn {pins : List (Addr × Obj)} {σ : St} {H : Hp} {s : Shared} {Q : VK} {us : List Value} {vs : List V} (F : FnOk X.prog X.w X.K X.mg X.base CX k f fd ps sp) (hr : Room k X.A) (hb : Binds X.K fd ps ds) (hd : Vals dvs ds) (hx : Passes CX X E)
    (I : Inv X pins σ H s) (r : Vals vs us) (h : sp (vs ++ dvs) H Q E) : wpAny (model X.prog X.w) X.A (call (.ref f) us) (EP X pins σ Q) X.xe s := by
  have r2 : Vals (vs ++ dvs) (us ++ ds) := r.append hd
  have hl : (us ++ ds).length = ps.length := by rw [← r2.length]; exact F.len _ _ _ _ h
  refine wpAny_call (codeAny_mono (F.run X.A X.stack s H ⟨us, []⟩ (us ++ ds) (vs ++ dvs) Q E hr I.env0 (hb s us I.kIn hl) r2 h) fun r s' hq => ?_)
  cases r with
  | error e => exact hx pins σ H s e s' I hq
  | ok fl =>
    cases fl with
    | ret u => exact I.after hq
    | next => exact False.elim hq
    | brk => exact False.elim hq
    | cont => exact False.elim hq

theorem pe_call (F : FnOk X.prog X.w X.K X.mg X.base CX k f fd ps sp) (hr : Room k X.A) (hg : Gl X x) (hm : X.mg x = some (.ref f)) (hk : PySem.W.keepIn X.K (.ref f) = true) (hb : Binds X.K fd ps ds) (hd : Vals dvs ds) (hx : Passes CX X E)
    (ha : PA X (e :: es) t) (hdb : (x == ("__debug__" : Str)) = false := by decide) (he : starEach (e :: es) X.env = (false, eval e X.env) :: starEach es X.env := by rfl) (hpl : (backTo pos (starEach es X.env)).any (·.1) = false := by rfl) :
    PE X (.Call (.Name x p) (e :: es) [] pos) (tCall sp dvs E t) := by
  intro pins s σ H Q I h
  refine wpAny_Call_Name_kw (ld_glob I hg hm ?_ hdb)
  refine PySem.W.callWith_K (h₀ := X.base) I.ok.mod.kin hk (thn (ha pos pins s σ H _ I h) fun us s1 ⟨vs, H1, I1, r, q⟩ => ⟨I1.kIn, ?_⟩) he hpl
  exact run_fn F hr hb hd hx I1 r q
end

section
variable {X : Cx} {CX : CXT} {k : Nat} {f C : Addr} {fd : FuncData} {ps ks : List Str} {sp : Sp} {E : XK} {x m : Str} {p pos apos kpos : Pos} {e o : Expr} {es : List Expr} {kws : List Keyword} {te ta : TE} {t tk : TA} {nm : Option Str}
variable {g : List Value → List Value → List Value} {gV : List V → List V → List V}
end

structure FnScope (N P : List Str) (sc : Scope) : Prop where
  kind : sc.kind = .function
  co : sc.isCoroutine = false
  gen : sc.isGenerator = false
  nd : N.Nodup
  pre : N.take P.length = P
  par : ∀ x ∈ P, sc.names.lookup x = some .local ∨ sc.names.lookup x = some .cell
  nofree : ∀ y ∈ sc.names, y.2 ≠ .free

theorem bindL_out {kindOf : Str → Option NameKind} {x : Str} : ∀ {binds : List (Str × Value)} {m : Str → Option Value}, (∀ v, (x, v) ∉ binds) → bindL kindOf binds m x = m x
  | [], _, _ => rfl
  | (n, v) :: r, m, h => by
    unfold bindL
    rw [bindL_out fun w hw => h w (List.mem_cons_of_mem _ hw)]
    split
    · have : x ≠ n := by rintro rfl; exact h v List.mem_cons_self
      simp [this]
    · rfl
theorem bindC_out {kindOf : Str → Option NameKind} {x : Str} : ∀ {binds : List (Str × Value)} {m : Str → Option Value}, (∀ v, (x, v) ∉ binds) → bindC kindOf binds m x = m x
  | [], _, _ => rfl
  | (n, v) :: r, m, h => by
    unfold bindC
    rw [bindC_out fun w hw => h w (List.mem_cons_of_mem _ hw)]
    split
    · rfl
    · have : x ≠ n := by rintro rfl; exact h v List.mem_cons_self
      simp [this]
theorem bindL_get {kindOf : Str → Option NameKind} {x : Str} {v : Value} : ∀ {P : List Str} {vs : List Value} {i : Nat} {m : Str → Option Value}, P.Nodup → P[i]? = some x → vs[i]? = some v → kindOf x = some .local →
    bindL kindOf (P.zip vs) m x = some v
  | [], _, _, _, _, h, _, _ => by simp at h
  | _ :: _, [], _, _, _, _, h, _ => by simp at h
  | p :: P, w :: vs, 0, m, nd, h1, h2, hk => by
    simp at h1 h2; subst h1; subst h2
    show bindL kindOf ((p, w) :: P.zip vs) m p = _
    unfold bindL
    rw [bindL_out fun v hv => (List.nodup_cons.mp nd).1 (List.of_mem_zip hv).1, if_pos hk]
    simp
  | p :: P, w :: vs, i + 1, m, nd, h1, h2, hk => by
    show bindL kindOf ((p, w) :: P.zip vs) m x = _
    unfold bindL
    exact bindL_get (i := i) (List.nodup_cons.mp nd).2 (by simpa using h1) (by simpa using h2) hk
theorem bindC_get {kindOf : Str → Option NameKind} {x : Str} {v : Value} : ∀ {P : List Str} {vs : List Value} {i : Nat} {m : Str → Option Value}, P.Nodup → P[i]? = some x → vs[i]? = some v → kindOf x ≠ some .local →
    bindC kindOf (P.zip vs) m x = some v
  | [], _, _, _, _, h, _, _ => by simp at h
  | _ :: _, [], _, _, _, _, h, _ => by simp at h
  | p :: P, w :: vs, 0, m, nd, h1, h2, hk => by
    simp at h1 h2; subst h1; subst h2
    show bindC kindOf ((p, w) :: P.zip vs) m p = _
    unfold bindC
    rw [bindC_out fun v hv => (List.nodup_cons.mp nd).1 (List.of_mem_zip hv).1, if_neg hk]
    simp
  | p :: P, w :: vs, i + 1, m, nd, h1, h2, hk => by
    show bindC kindOf ((p, w) :: P.zip vs) m x = _
    unfold bindC
    exact bindC_get (i := i) (List.nodup_cons.mp nd).2 (by simpa using h1) (by simpa using h2) hk

def start (N : List Str) (vs : List V) : St := vs.map some ++ List.replicate (N.length - vs.length) none

def cxOf (CX : CXT) (P : Program) (w : World) (K : PySem.W.Frag) (mg : Str → Option Value) (base : Heap) (N : List Str) (qual : Str) (scope : Scope) (f : Addr) (cd : Value) (A : Around) (outer : List Env) (s : Shared) (H : Hp) (E : XK) : Cx where
  prog := P
  w := w
  K := K
  mg := mg
  base := base
  A := A.deeper (envOfC qual scope s.heap.objs.size f cd)
  N := N
  s₀ := s
  H₀ := H
  env := envOfC qual scope s.heap.objs.size f cd
  outer := outer
  stack := envOfC qual scope s.heap.objs.size f cd :: outer
  ex := []
  calm := true
  fn := fun _ => true
  pn := []
  xe := fun e s' => wpAny (model P w) (A.deeper (envOfC qual scope s.heap.objs.size f cd)) (leaving (envOfC qual scope s.heap.objs.size f cd) e) (fun _ s'' => CX outer H s E e s'') (fun e' s'' => CX outer H s E e' s'') s'

theorem cell_has {sc : Scope} {n : Nat} {x : Str} (h : sc.names.lookup x = some .cell) : ∃ c, (cellsFrom n sc.names []).lookup x = some c := by
  have q := PySem.W.cellsFrom_some sc.names n [] (.inl h)
  exact Option.isSome_iff_exists.mp q

theorem inv_start {CX : CXT} {P : Program} {w : World} {K : PySem.W.Frag} {mg : Str → Option Value} {base : Heap} {N ps : List Str} {qual : Str} {scope : Scope} {f : Addr} {cd : Value} {A : Around} {outer : List Env} {s s1 : Shared} {H : Hp} {E : XK} {us : List Value} {vs : List V}
    (S : FnScope N ps scope) (hd : A.handled = none) (e0 : Env0 P w K mg base A outer s H) (hl : vs.length = ps.length) (r : Vals vs us)
    (x : InCallC s s.heap.objs.size (bindL (envOfC qual scope s.heap.objs.size f cd).kindOf (ps.zip us) fun _ => none) (cellsFrom (s.heap.objs.size + 1) scope.names []) (bindC (envOfC qual scope s.heap.objs.size f cd).kindOf (ps.zip us) fun _ => none) s1) :
    Inv (cxOf CX P w K mg base N qual scope f cd A outer s H E) [] (start N vs) H s1 := by
  have hpl : ps.length ≤ N.length := by have := congrArg List.length S.pre; rw [List.length_take] at this; omega
  obtain ⟨h1, tk, rfl, hk⟩ := x.done
  have noA : ∀ b : Addr, b ∉ (cxOf CX P w K mg base N qual scope f cd A outer s H E).ex := fun b z => absurd (show b ∈ ([] : List Addr) from z) (by simp)
  refine ⟨⟨e0.mod, S.kind, rfl, rfl, Nat.le_refl _, fun y z c h1 h2 => ?_, fun y hy => ?_, fun y c _ h => ?_, fun _ => hd, Around.frames_deeper e0.frames, .inr ⟨rfl, rfl⟩, fun b z => absurd z (noA b), e0.bs, e0.bsz, fun b _ _ => noA b, fun b z => absurd z (noA b), e0.funs, e0.frf⟩,
    rfl, e0.bare, Un.kept hk, ⟨_, x.toInCall.ns, fun i y v h1 h2 h3 => ?_⟩, fun y c h => ⟨_, x.cell y c h⟩, e0.hok.fresh (Nat.le_refl _), fun y c h => ?_, fun p hp => absurd (show p ∈ ([] : List (Addr × Obj)) from hp) (by simp), e0.hok.kept hk, ?_⟩
  · exact name_of_addr x.apart (PySem.mem_of_lookup h1) (PySem.mem_of_lookup h2)
  · have hy : scope.names.lookup y = some .cell ∨ scope.names.lookup y = some .free := hy
    rcases hy with hy | hy
    · exact cell_has hy
    · exact absurd rfl (S.nofree _ (PySem.mem_of_lookup hy))
  · exact Nat.le_of_lt (x.above y c (PySem.mem_of_lookup h))
  · have hi : i < vs.length := by
      unfold start at h2
      by_cases hi : i < vs.length
      · exact hi
      · rw [List.getElem?_append_right (by simpa using hi)] at h2
        rw [List.getElem?_replicate] at h2
        split at h2 <;> cases h2
    have ha : vs[i]? = some v := by
      unfold start at h2
      rw [List.getElem?_append_left (by simpa using hi), List.getElem?_map] at h2
      cases e : vs[i]? with
      | none => rw [e] at h2; cases h2
      | some a => rw [e] at h2; cases h2; rfl
    obtain ⟨u, hu, rv⟩ := r.get ha
    have hp : ps[i]? = some y := by
      rw [← S.pre, List.getElem?_take_of_lt (by omega)]; exact h1
    have ndP : ps.Nodup := by rw [← S.pre]; exact S.nd.sublist (List.take_sublist _ _)
    refine ⟨u, rv, ?_⟩
    rcases S.par y (List.mem_of_getElem? hp) with k | k
    · exact .inl ⟨k, bindL_get ndP hp hu k⟩
    · obtain ⟨c, e⟩ := cell_has (n := s.heap.objs.size + 1) k
      refine .inr ⟨.inl k, c, e, ?_⟩
      have q := x.cell y c e
      rw [bindC_get ndP hp hu (by show scope.names.lookup y ≠ _; rw [k]; decide)] at q
      exact q
  · exact e0.hok.fresh (Nat.le_of_lt (x.above y c (PySem.mem_of_lookup h)))
  · unfold start
    show _ = N.length
    rw [List.length_append, List.length_map, List.length_replicate]
    omega

theorem fn_of {CX : CXT} {P : Program} {w : World} {K : PySem.W.Frag} {mg : Str → Option Value} {base : Heap} {k : Nat} {f : Addr} {name qual : Str} {params : Arguments} {body : List Stmt} {scope : Scope} {dV kV doc pm cdv ct oc : Value} {an od : Option Addr}
    {osl : Array (Option Value)} {N ps : List Str} {sp : Sp} (lk : K.lookup f = some ⟨oc, od, .func (PySem.W.fnOf name qual params body scope dV kV doc pm an cdv ct), osl⟩) (hcd : PySem.W.codeIn K cdv qual = true) (S : FnScope N ps scope)
    (len : ∀ vs H Q E, sp vs H Q E → vs.length = ps.length)
    (hbody : ∀ (A : Around) (outer : List Env) (s : Shared) (H : Hp) (vs : List V) (Q : VK) (E : XK), Room k (A.deeper (envOfC qual scope s.heap.objs.size f cdv)) → sp vs H Q E →
      ∃ t, PSs (cxOf CX P w K mg base N qual scope f cdv A outer s H E) body t ∧ t { nx := fun _ H' => Q .non H', rt := Q } (start N vs) H) :
    FnOk P w K mg base CX (k + 1) f (PySem.W.fnOf name qual params body scope dV kV doc pm an cdv ct) ps sp := by
  refine ⟨len, fun A outer s H args us vs Q E hr e0 hb r hsp => ?_⟩
  have hl := len _ _ _ _ hsp
  have KX : K.In s.heap := e0.mod.kin.keeps fun b o e => (e0.bs b o e).1
  have lim : s.heap.NoLimit := e0.mod.nolimit.keeps fun b o e => (e0.bs b o e).1
  have hkind : ∀ y ∈ ps.zip us, scope.names.lookup y.1 = some .local ∨ (scope.names.lookup y.1 = some .cell ∧ ((cellsFrom (s.heap.objs.size + 1) scope.names []).lookup y.1).isSome = true) := fun ⟨n, v⟩ hy => by
    rcases S.par n (List.of_mem_zip hy).1 with q | q
    · exact .inl q
    · exact .inr ⟨q, PySem.W.cellsFrom_some _ _ _ (.inl q)⟩
  refine codeAny_call_function hr.depth (KX _ _ lk) rfl S.co S.gen rfl (PySem.W.codeRec_of KX hcd) (hb _ _ _ _ ?_)
  refine wpAny_newFunctionEnv_cells S.kind hkind fun env he s1 x => ?_
  subst he
  refine ⟨lim.keeps x.toInCall.keep, codeAny_func ?_⟩
  obtain ⟨t, ht, hq⟩ := hbody A outer s H vs Q E (hr.deeper _) hsp
  have I : Inv (cxOf CX P w K mg base N qual scope f cdv A outer s H E) [] (start N vs) H s1 := inv_start S hr.hd e0 hl r x
  refine wpAny_mono (ht [] s1 (start N vs) H _ I hq) (fun fl s' hs => ?_) fun e s' hs => hs
  have fin : ∀ {σ' : St} {H' : Hp} {v : V} {u : Value}, Inv (cxOf CX P w K mg base N qual scope f cdv A outer s H E) [] σ' H' s' → RelV v u → Q v H' → CE outer P w H s Q u s' :=
    fun {σ' H' v u} J rv q => ⟨v, H', J.os, J.bare, J.base, J.hok, rv, q⟩
  cases fl with
  | ret u =>
    obtain ⟨v, σ', H', J, rv, q⟩ := hs
    exact fin J rv q
  | next =>
    obtain ⟨σ', H', J, q⟩ := hs
    exact fin (v := V.non) (u := Value.none) J rfl q
  | brk =>
    obtain ⟨_, _, _, q⟩ := hs
    exact False.elim q
  | cont =>
    obtain ⟨_, _, _, q⟩ := hs
    exact False.elim q
end L2

namespace L2
open PySem PySem.Spec PyProof.Rows
section
variable {X : Cx} {x : Str} {p pos : Pos} {e : Expr} {es : List Expr} {t : TA} {id T : String} {r : List V → Hp → VK → Prop}

def tCB (r : List V → Hp → VK → Prop) (t : TA) : TE := fun σ H Q => t σ H fun vs H1 => r vs H1 Q
theorem pe_callB (hc : CallR X (.builtin id) r) (hg : Gl X x) (hm : X.mg x = none) (hv : bootBuiltins x = some (.builtin id)) (ha : PA X (e :: es) t) (hn : x ≠ "__name__" := by decide) (hdb : (x == ("__debug__" : Str)) = false := by decide)
    (he : starEach (e :: es) X.env = (false, eval e X.env) :: starEach es X.env := by rfl) (hpl : (backTo pos (starEach es X.env)).any (·.1) = false := by rfl) : PE X (.Call (.Name x p) (e :: es) [] pos) (tCB r t) := by
  intro pins s σ H Q I h
  refine wpAny_Call_Name_kw (ld_blt I hg hm hv ?_ hn hdb)
  exact PyProof.Rows.callWith_builtin1 (thn (ha pos pins s σ H _ I h) fun us s1 ⟨vs, H1, I1, r1, q1⟩ => hc pins s1 σ H1 vs us Q I1 r1 q1) he hpl
theorem pe_callTy (hc : CallR X (.type T) r) (hg : Gl X x) (hm : X.mg x = none) (hv : bootBuiltins x = some (.type T)) (ha : PA X (e :: es) t) (hn : x ≠ "__name__" := by decide) (hdb : (x == ("__debug__" : Str)) = false := by decide)
    (he : starEach (e :: es) X.env = (false, eval e X.env) :: starEach es X.env := by rfl) (hpl : (backTo pos (starEach es X.env)).any (·.1) = false := by rfl) : PE X (.Call (.Name x p) (e :: es) [] pos) (tCB r t) := by
  intro pins s σ H Q I h
  refine wpAny_Call_Name_kw (ld_blt I hg hm hv ?_ hn hdb)
  exact PyProof.Rows.callWith_type1 (thn (ha pos pins s σ H _ I h) fun us s1 ⟨vs, H1, I1, r1, q1⟩ => hc pins s1 σ H1 vs us Q I1 r1 q1) he hpl
end
end L2

namespace HT
open PySem PyProof.Rows

def lexLt : List Int → List Int → Bool
  | [], [] => false
  | [], _ :: _ => true
  | _ :: _, [] => false
  | x :: xs, y :: ys => if x = y then lexLt xs ys else decide (x < y)
theorem lexLt_cons (x y : Int) (xs ys : List Int) : lexLt (x :: xs) (y :: ys) = if x = y then lexLt xs ys else decide (x < y) := rfl
theorem lexLt_nil_nil : lexLt [] [] = false := rfl
theorem lexLt_nil_cons (y : Int) (ys : List Int) : lexLt [] (y :: ys) = true := rfl
theorem lexLt_cons_nil (x : Int) (xs : List Int) : lexLt (x :: xs) [] = false := rfl

theorem eqAt_int (A : Around) (s : Shared) (a : Int) (t : Tok) (c : Int) (u : Tok) : ∃ e, SeqAt.EqAt A s (.int a t) (.int c u) e ∧ (e = true ↔ a = c) :=
  ⟨(a == c), SeqAt.EqAt.int_int a t c u, by simp⟩
theorem rcLt_int (A : Around) (s : Shared) (a : Int) (t : Tok) (c : Int) (u : Tok) (prog : Program) (w : World) (E : Value → Shared → Prop) (Q : Value → Shared → Prop) (h : Q (.bool (decide (a < c))) s) :
    wpAny (model prog w) A (richCompare .Lt (.int a t) (.int c u)) Q E s :=
  (PyProof.Rows.lt_int h : wpAny (model prog w) A (compareOp .Lt (.int a t) (.int c u)) Q E s)

section
open PySem.SeqAt
open PySem.AutoSeq1 (wpAny_loadPart')
open PySem.MeetsSeq PySem.MeetsSeq2 PySem.MeetsSeq3

theorem tuple_lt_ints (l b : Addr) (items items2 : Array Value) (n n2 : Nat) (dd dd2 : Option Addr) (sl sl2 : Array (Option Value)) (ns ms : List Int) (hi : IntsAre items.toList ns) (hj : IntsAre items2.toList ms) :
    Meets (Builtin.«tuple.__lt__» ⟨[.ref l, .ref b], []⟩)
      (fun _ R s => s.heap.get? l = some { cls := .type "tuple", dict := dd, data := .seq items n, slots := sl } ∧ s.heap.get? b = some { cls := .type "tuple", dict := dd2, data := .seq items2 n2, slots := sl2 } ∧
        R (.ok (.ret (.bool (lexLt ns ms)))) s) :=
  .of_wp fun prog w A R s h => by
    obtain ⟨hp, g, d, tk, os⟩ := s; obtain ⟨hl, hb, h⟩ := h
    have f2 := AutoSeq1.sub_tuple_tuple
    have z1 : items.size = ns.length := by rw [← hi.length]; simp
    have z2 : items2.size = ms.length := by rw [← hj.length]; simp
    wp_walk using wpAny_loadPart' hl, wpAny_loadPart' hb, wpAny_forIn_list _ (fun rest b s' => b.1 = none ∧ s' = ⟨hp, g, d, tk, os⟩ ∧ ∃ (vs ws : List Value) (ns' ms' : List Int), rest = vs.zip ws ∧
      IntsAre vs ns' ∧ IntsAre ws ms' ∧ ns'.length + items2.size = ms'.length + items.size ∧ R (.ok (.ret (.bool (lexLt ns' ms')))) ⟨hp, g, d, tk, os⟩) _
    case turn =>
      rintro ⟨y, x⟩ rest b s' ⟨hb', rfl, vs, ws, ns', ms', hz, hvi, hwi, hlen, hR⟩
      cases hvi with
      | nil => rw [List.zip_nil_left] at hz; cases hz
      | cons a t hvi' =>
        cases hwi with
        | nil => rw [List.zip_nil_right] at hz; cases hz
        | cons c u hwi' =>
          rw [List.zip_cons_cons] at hz
          injection hz with hyx hrest
          injection hyx with hy hx
          subst hy hx
          rw [lexLt_cons] at hR
          simp only [List.length_cons] at hlen
          obtain ⟨e, he, hiff⟩ := eqAt_int A.in1 ⟨hp, g, d, tk, os⟩ a t c u
          refine wpAny_bind (he prog w _ _ ?_)
          cases e with
          | true =>
            rw [if_pos (hiff.mp rfl)] at hR
            wp_walk
            exact ⟨rfl, rfl, _, _, _, _, hrest, hvi', hwi', by omega, hR⟩
          | false =>
            rw [if_neg (fun q => absurd (hiff.mpr q) Bool.false_ne_true)] at hR
            have hri := rcLt_int A.in1 ⟨hp, g, d, tk, os⟩ a t c u prog w
            wp_walk using hri
            exact ⟨_, rfl, by simpa using hR⟩
    case fin =>
      rintro ⟨b1, b2⟩ s' ⟨hb', rfl, vs, ws, ns', ms', hz, hvi, hwi, hlen, hR⟩
      simp only at hb'
      subst hb'
      have hv : lexLt ns' ms' = decide (items.size < items2.size) := by
        cases hvi with
        | nil =>
          cases hwi with
          | nil =>
            simp only [List.length_nil] at hlen
            rw [lexLt_nil_nil]
            exact (decide_eq_false (by omega)).symm
          | cons c u hw =>
            simp only [List.length_nil, List.length_cons] at hlen
            rw [lexLt_nil_cons]
            exact (decide_eq_true (by omega)).symm
        | cons a t hv =>
          cases hwi with
          | nil =>
            simp only [List.length_nil, List.length_cons] at hlen
            rw [lexLt_cons_nil]
            exact (decide_eq_false (by omega)).symm
          | cons c u hw =>
            rw [List.zip_cons_cons] at hz
            cases hz
      rw [hv] at hR
      wp_walk
      exact ⟨_, rfl, by simpa [Builtin.Tuple.tupleCompareSizes] using hR⟩
    case h =>
      exact ⟨rfl, rfl, items.toList, items2.toList, ns, ms, rfl, hi, hj, by omega, h⟩
end

section
variable {prog : Program} {w : World} {A : Around} {E : Value → Shared → Prop} {s : Shared}

theorem lt_tupInts {l b : Addr} {items items2 : Array Value} {ns ms : List Int} {Q : Value → Shared → Prop} (hl : IsTup s.heap l items) (hb : IsTup s.heap b items2) (hi : IntsAre items.toList ns) (hj : IntsAre items2.toList ms)
    (hu : A.units < cLine) (h : Q (.bool (lexLt ns ms)) s) : wpAny (model prog w) A (compareOp .Lt (.ref l) (.ref b)) Q E s := by
  obtain ⟨⟨cls, dd, data, sl⟩, ho, hc, n, hd⟩ := id hl
  obtain ⟨⟨cls2, dd2, data2, sl2⟩, ho2, hc2, n2, hd2⟩ := id hb
  simp only at hc hd hc2 hd2
  subst hc hd hc2 hd2
  exact richCompare_meets_room (op := .Lt) ⟨_, ho, rfl⟩ ⟨_, ho2, rfl⟩ PySem.F.slot_tuple_lt PySem.F.entry_tuple_lt (PySem.F.args_tuple_lt_2 _ _) (tuple_lt_ints l b items items2 n n2 dd dd2 sl sl2 ns ms hi hj)
    ⟨ho, ho2, show Value.bool (lexLt ns ms) ≠ Value.notImplemented ∧ Q (.bool (lexLt ns ms)) s from ⟨(fun x => nomatch x), h⟩⟩ hu

theorem cat_tup {t b : Addr} {vs ws : List Value} {Q : Value → Shared → Prop} (ht : IsTup s.heap t vs.toArray) (hb : IsTup s.heap b ws.toArray) (hv : vs ≠ [])
    (h1 : ws = [] → Q (.ref t) s) (h2 : ws ≠ [] → Q (.ref s.heap.objs.size) { s with heap := s.heap.push { cls := .type "tuple", data := .seq (vs ++ ws).toArray } })
    (hsz : vs.length + ws.length ≤ sizeLine) : wpAny (model prog w) A (binaryOp .Add (.ref t) (.ref b)) Q E s := by
  obtain ⟨⟨cls, dd, data, sl⟩, ho, hc, n, hd⟩ := id ht
  obtain ⟨⟨cls2, dd2, data2, sl2⟩, ho2, hc2, n2, hd2⟩ := id hb
  simp only at hc hd hc2 hd2
  subst hc hd hc2 hd2
  have e : vs.toArray ++ ws.toArray = (vs ++ ws).toArray := by simp
  by_cases hw : ws = []
  · exact concat_meets ⟨_, ho, rfl⟩ ⟨_, ho2, rfl⟩ noFill_tuple_add seq_tuple_add PySem.F.slot_tuple_add PySem.F.entry_tuple_add (PySem.F.args_tuple_add_2 _ _)
      (tuple_addW1 t b vs.toArray ws.toArray n n2 dd dd2 sl sl2 (by simpa using hv) (by simp [hw])) ⟨ho, ho2, h1 hw⟩
  · refine concat_meets ⟨_, ho, rfl⟩ ⟨_, ho2, rfl⟩ noFill_tuple_add seq_tuple_add PySem.F.slot_tuple_add PySem.F.entry_tuple_add (PySem.F.args_tuple_add_2 _ _)
      (tuple_addW2 t b vs.toArray ws.toArray n n2 dd dd2 sl sl2 (by simpa using hv) (by simpa using hw) (by rw [List.size_toArray, List.size_toArray]; exact hsz)) ⟨ho, ho2, ?_⟩
    rw [e]
    exact h2 hw

def sIx (n d : Nat) : Option Int → Nat
  | none => d
  | some v => if v < 0 then (v + (n : Int)).toNat else min v.toNat n
theorem sIx_nat (n d k : Nat) : sIx n d (some (k : Int)) = min k n := by
  show (if (k : Int) < 0 then ((k : Int) + (n : Int)).toNat else min (k : Int).toNat n) = min k n
  rw [if_neg (by omega), Int.toNat_natCast]
end
end HT

namespace L2
open PySem PySem.Spec PyProof.Rows

abbrev TO := St → Hp → (Option Int → Hp → Prop) → Prop
def PO (X : Cx) (e : Option Expr) (t : TO) : Prop :=
  ∀ (pins : List (Addr × Obj)) (s : Shared) (σ : St) (H : Hp) (Q : Option Int → Hp → Prop), Inv X pins σ H s → t σ H Q →
    wpAny (model X.prog X.w) X.A (evalPart e X.env) (fun u s' => ∃ o H', Inv X pins σ H' s' ∧ IsPart u o ∧ Q o H') X.xe s
def tNoPart : TO := fun _ H Q => Q none H
def tPart (t : TE) : TO := fun σ H Q => t σ H fun x H1 => ∃ i, x = .int i ∧ Q (some i) H1

section
variable {X : Cx} {e : Expr} {te : TE} {lo hi : Option Expr} {tl th : TO} {pos p2 : Pos}

theorem po_none : PO X none tNoPart := by
  intro pins s σ H Q I h
  rw [evalPart_none]
  exact wpAny_pure ⟨none, H, I, .none, h⟩
theorem po_some (h : PE X e te) : PO X (some e) (tPart te) := by
  intro pins s σ H Q I hw
  rw [evalPart_some]
  refine thn (h pins s σ H _ I hw) fun u s1 ⟨x, H1, I1, r1, q1⟩ => ?_
  obtain ⟨i, rfl, q⟩ := q1
  obtain ⟨t, rfl⟩ := r1
  exact ⟨some i, H1, I1, .int i t, q⟩

def SlR (X : Cx) (r : V → Option Int → Option Int → Hp → VK → Prop) : Prop :=
  ∀ (pins : List (Addr × Obj)) (s : Shared) (σ : St) (H : Hp) (x : V) (v vl vu : Value) (lo hi : Option Int) (sl : Addr) (Q : VK), Inv X pins σ H s → RelV x v → s.heap.IsSliceOf sl vl vu .none → IsPart vl lo → IsPart vu hi → r x lo hi H Q →
    ∃ T id, typeLookup (.type T) "__getitem__" = pure (some (.builtin id)) ∧ s.TypeIs v T ∧ wpAny (model X.prog X.w) X.A (getItem v (.ref sl)) (EP X pins σ Q) X.xe s
def tSl (r : V → Option Int → Option Int → Hp → VK → Prop) (te : TE) (tl th : TO) : TE := fun σ H Q => te σ H fun x H1 => tl σ H1 fun l H2 => th σ H2 fun u H3 => r x l u H3 Q
theorem pe_slice {r : V → Option Int → Option Int → Hp → VK → Prop} (hr : SlR X r) (he : PE X e te) (hl : PO X lo tl) (hu : PO X hi th) : PE X (.Subscript e (.Slice lo hi none p2) pos) (tSl r te tl th) := by
  intro pins s σ H Q I h
  refine Subscript_ (thn (he pins s σ H _ I h) fun v s1 ⟨x, H1, I1, r1, q1⟩ => ?_)
  refine wpAny_Slice (thn (hl pins s1 σ H1 _ I1 q1) fun vl s2 ⟨l, H2, I2, pl, q2⟩ => thn (hu pins s2 σ H2 _ I2 q2) fun vu s3 ⟨u, H3, I3, pu, q3⟩ => ?_)
  rw [evalPart_none]
  refine wpAny_pure ?_
  have I4 : Inv X pins σ H3 { s3 with heap := s3.heap.push { cls := .type "slice", data := .fields #[vl, vu, .none] } } := I3.kept (t' := s3.toks) fun b ob q => Heap.get?_push_of_some _ q
  obtain ⟨T, id, hT, ht, hg⟩ := hr pins { s3 with heap := s3.heap.push { cls := .type "slice", data := .fields #[vl, vu, .none] } } σ H3 x v vl vu l u s3.heap.objs.size Q I4 r1 (Heap.IsSliceOf.new ..) pl pu q3
  show wpAny (model X.prog X.w) X.A (subscriptTail e (.Slice lo hi none p2) v (.ref s3.heap.objs.size)) (EP X pins σ Q) X.xe { s3 with heap := s3.heap.push { cls := .type "slice", data := .fields #[vl, vu, .none] } }
  exact tail_any (ops := [.ref s3.heap.objs.size, v]) ht hT hg (by with_unfolding_all rfl)

def cutV (xs : List V) (lo hi : Option Int) : List V := (xs.drop (HT.sIx xs.length 0 lo)).take (HT.sIx xs.length xs.length hi - HT.sIx xs.length 0 lo)
theorem cutV_length (xs : List V) (lo hi : Option Int) : (cutV xs lo hi).length ≤ xs.length := by
  unfold cutV
  rw [List.length_take, List.length_drop]
  omega
def rCatT (K : PySem.W.Frag) : R2 := fun x y H Q => ∃ a b xs ys, x = .ref a ∧ y = .ref b ∧ SqT K H a xs ∧ SqT K H b ys ∧ xs ≠ [] ∧ xs.length + ys.length ≤ sizeLine ∧
  (ys = [] → Q (.ref a) H) ∧ (ys ≠ [] → ∀ p, H p = none → Q (.ref p) (upd H p (.tup (xs ++ ys))))
theorem Vals.nil_iff {xs : List V} {us : List Value} (r : Vals xs us) : us = [] ↔ xs = [] := by
  cases r with
  | nil => simp
  | cons _ _ => simp
theorem op_catT : OpR X (binaryOp .Add) (rCatT X.K) := by
  intro pins s σ H x y v u Q I rx ry h
  obtain ⟨a, b, xs, ys, rfl, rfl, ha, hb, hx, hz, q1, q2⟩ := h
  cases rx
  cases ry
  obtain ⟨its, r1, p1, _⟩ := I.tuple ha
  obtain ⟨its2, r2, p2, _⟩ := I.tuple hb
  refine HT.cat_tup p1 p2 (fun z => hx (r1.nil_iff.mp z)) (fun z => ⟨.ref a, H, I, rfl, q1 (r2.nil_iff.mp z)⟩) (fun z => ?_) (by rw [← r1.length, ← r2.length]; exact hz)
  refine ⟨.ref s.heap.objs.size, _, I.laid (t' := s.toks) (o := .tup (xs ++ ys)) (fun b ob q => Heap.get?_push_of_some _ q) (Nat.le_refl _) ?_, rfl, q2 (fun w => z (r2.nil_iff.mpr w)) _ (I.hok.fresh (Nat.le_refl _))⟩
  exact ⟨by rw [List.length_append]; exact hz, _, r1.append r2, IsTup.new _ _⟩
end
end L2

namespace L2
open PySem PySem.Spec PyProof.Rows

def ixN (n : Nat) (i : Int) : Option Nat := if 0 ≤ i then (if i < n then some i.toNat else none) else if -(n : Int) ≤ i then some (i + n).toNat else none
def atI {α : Type} (xs : List α) (i : Int) : Option α := (ixN xs.length i).bind fun j => xs[j]?
theorem ixN_seq {n : Nat} {i : Int} {j : Nat} (h : ixN n i = some j) : seqIndex? i n = some j ∧ j < n ∧ -(n : Int) ≤ i ∧ i < n := by
  unfold ixN at h
  by_cases h0 : 0 ≤ i
  · rw [if_pos h0] at h
    by_cases h1 : i < n
    · rw [if_pos h1] at h
      have e : i.toNat = j := Option.some.inj h
      exact ⟨by rw [seqIndex_of h0 h1, e], by omega, by omega, h1⟩
    · rw [if_neg h1] at h; cases h
  · rw [if_neg h0] at h
    by_cases h1 : -(n : Int) ≤ i
    · rw [if_pos h1] at h
      have e : (i + n).toNat = j := Option.some.inj h
      exact ⟨by rw [seqIndex_neg (by omega) h1, e], by omega, h1, by omega⟩
    · rw [if_neg h1] at h; cases h
theorem atI_get {α : Type} {xs : List α} {i : Int} {v : α} (h : atI xs i = some v) : ∃ j, seqIndex? i xs.length = some j ∧ xs[j]? = some v ∧ j < xs.length ∧ -(xs.length : Int) ≤ i ∧ i < xs.length := by
  unfold atI at h
  cases e : ixN xs.length i with
  | none => rw [e] at h; cases h
  | some j =>
    rw [e] at h
    obtain ⟨h1, h2, h3, h4⟩ := ixN_seq e
    exact ⟨j, h1, h, h2, h3, h4⟩
theorem atI_nat {α : Type} {xs : List α} {j : Nat} {v : α} (h : xs[j]? = some v) : atI xs (j : Int) = some v := by
  have hj : j < xs.length := (List.getElem?_eq_some_iff.mp h).1
  have e : ixN xs.length (j : Int) = some j := by
    unfold ixN
    rw [if_pos (by omega), if_pos (by omega)]; simp
  unfold atI; rw [e]; exact h
theorem atI_last {α : Type} (xs : List α) (v : α) : atI (xs ++ [v]) (-1) = some v := by
  have hl : (xs ++ [v]).length = xs.length + 1 := by simp
  have e : ixN (xs ++ [v]).length (-1) = some xs.length := by
    unfold ixN
    rw [hl, if_neg (by decide), if_pos (by omega)]
    congr 1
    omega
  unfold atI
  rw [e]
  show (xs ++ [v])[xs.length]? = some v
  simp

def PlainIx (b : Expr) : Prop := ∀ o i, subscripted b false o i = operate [o, i] (getItem o i)
def IxR (X : Cx) (r : R2) : Prop :=
  ∀ (value slice : Expr) (pins : List (Addr × Obj)) (s : Shared) (σ : St) (H : Hp) (x y : V) (v u : Value) (Q : VK), Inv X pins σ H s → RelV x v → RelV y u → r x y H Q →
    subscripted slice false v u = operate [v, u] (getItem v u) → wpAny (model X.prog X.w) X.A (subscriptTail value slice v u) (EP X pins σ Q) X.xe s
def MtR (X : Cx) (id : String) (r : V → List V → Hp → VK → Prop) : Prop :=
  ∀ (pins : List (Addr × Obj)) (s : Shared) (σ : St) (H : Hp) (x : V) (xs : List V) (v : Value) (us : List Value) (Q : VK), Inv X pins σ H s → RelV x v → Vals xs us → r x xs H Q →
    wpAny (model X.prog X.w) X.A (call (.builtin id) (v :: us)) (EP X pins σ Q) X.xe s
section
variable {X : Cx} {a b : Expr} {ta tb : TE} {pos : Pos}
theorem pe_ix {r : R2} (hr : IxR X r) (ha : PE X a ta) (hb : PE X b tb) (hs : PlainIx b) : PE X (.Subscript a b pos) (tOp r ta tb) := by
  intro pins s σ H Q I h
  exact Subscript_ (binT ha hb I h fun v u s2 x y H2 I2 rx ry q => hr a b pins s2 σ H2 x y v u Q I2 rx ry q (hs _ _))

def rIxL (K : PySem.W.Frag) : R2 := fun x y H Q => ∃ p xs i v, x = .ref p ∧ y = .int i ∧ SqL K H p xs ∧ atI xs i = some v ∧ Q v H
def rIxT (K : PySem.W.Frag) : R2 := fun x y H Q => ∃ p xs i v, x = .ref p ∧ y = .int i ∧ SqT K H p xs ∧ atI xs i = some v ∧ Q v H
theorem ix_list : IxR X (rIxL X.K) := by
  intro value slice pins s σ H x y v u Q I rx ry h hs
  obtain ⟨p, xs, i, z, rfl, rfl, hq, he, q⟩ := h
  cases rx
  obtain ⟨t, rfl⟩ := ry
  obtain ⟨its, r, pl, hz⟩ := I.list hq
  obtain ⟨j, h1, h2, h3, h4, h5⟩ := atI_get he
  obtain ⟨w, ew, rw'⟩ := r.get h2
  have hl := r.length
  have hn := line63
  have fin : EP X pins σ Q w s := ⟨z, H, I, rw', q⟩
  by_cases h0 : 0 ≤ i
  · have hj : i.toNat = j := by
      rw [seqIndex_of h0 h5] at h1
      exact Option.some.inj h1
    exact item_listR pl.isList h0 (by omega) (by rw [hj]; simpa using ew) fin hs
  · have hj : (i + (its.toArray.size : Int)).toNat = j := by
      rw [seqIndex_neg (by omega) h4] at h1
      rw [List.size_toArray, ← hl]
      exact Option.some.inj h1
    exact subscriptTail_builtinR (x := w) pl.isList.typeIs slot_list_getitem.lookup
      (wpAny_getItem_list_neg (Q := fun r s' => r = w ∧ EP X pins σ Q r s') pl.isList (by omega) (by rw [List.size_toArray] <;> omega) (by omega) (by rw [hj]; simpa using ew) ⟨rfl, fin⟩) hs
theorem ix_tup : IxR X (rIxT X.K) := by
  intro value slice pins s σ H x y v u Q I rx ry h hs
  obtain ⟨p, xs, i, z, rfl, rfl, hq, he, q⟩ := h
  cases rx
  obtain ⟨t, rfl⟩ := ry
  obtain ⟨its, r, pl, hz⟩ := I.tuple hq
  obtain ⟨j, h1, h2, h3, h4, h5⟩ := atI_get he
  obtain ⟨w, ew, rw'⟩ := r.get h2
  have hl := r.length
  have hn := line63
  have fin : EP X pins σ Q w s := ⟨z, H, I, rw', q⟩
  exact subscriptTail_builtinR (x := w) pl.typeIs slot_tuple_getitem.lookup
    (getItem_tuple (j := j) (Q := fun r s' => r = w ∧ EP X pins σ Q r s') pl (by omega) (by omega) (by rw [List.size_toArray, ← hl]; exact h1) (by simpa using ew) ⟨rfl, fin⟩) hs
theorem mapSeq_set (its : List Value) (n j : Nat) (u : Value) : Obj.mapSeq (·.setIfInBounds j u) { cls := .type "list", data := .seq its.toArray n } = { cls := .type "list", data := .seq (its.set j u).toArray n } := by
  simp [Obj.mapSeq]
theorem Inv.lst {pins : List (Addr × Obj)} {σ : St} {H : Hp} {s : Shared} {p : Addr} {xs : List V} (I : Inv X pins σ H s) (h : H p = some (.lst xs)) :
    ∃ (its : List Value) (n : Nat), Vals xs its ∧ s.heap.get? p = some { cls := .type "list", data := .seq its.toArray n } ∧ xs.length ≤ sizeLine := by
  obtain ⟨z, its, n, r, e⟩ := I.hok p _ h
  exact ⟨its, n, r, e, z⟩
theorem Inv.lstUpd {pins : List (Addr × Obj)} {σ : St} {H : Hp} {s : Shared} {p : Addr} {xs ys : List V} {its its' : List Value} {n n' : Nat} {f : Obj → Obj} (I : Inv X pins σ H s) (h : H p = some (.lst xs))
    (ho : s.heap.get? p = some { cls := .type "list", data := .seq its.toArray n }) (hf : f { cls := .type "list", data := .seq its.toArray n } = { cls := .type "list", data := .seq its'.toArray n' }) (r : Vals ys its') (hz : ys.length ≤ sizeLine) (t : Nat) :
    Inv X pins σ (upd H p (.lst ys)) { s with heap := s.heap.update p f, toks := t } := by
  have e : (s.heap.update p f).get? p = some { cls := .type "list", data := .seq its'.toArray n' } := by
    rw [Heap.get?_update_self f ho (by rw [hf] <;> rfl), hf]
  refine I.write (x := p) (e := p) (by rw [h]; trivial) (.inl rfl) (fun b u hb q => (Heap.get?_update_other _ _ (Ne.symm hb)).trans q) ⟨_, e⟩ ?_
  exact ⟨hz, its', n', r, e⟩
def rSetL : V → V → V → Hp → (Hp → Prop) → Prop := fun o i v H Q => ∃ p xs k j, o = .ref p ∧ i = .int k ∧ H p = some (.lst xs) ∧ ixN xs.length k = some j ∧ Q (upd H p (.lst (xs.set j v)))
theorem set_list : PSet X rSetL := by
  intro pins s σ H o i v ov iv u Q I ro ri rv h
  obtain ⟨p, xs, k, j, rfl, rfl, hp, hj, q⟩ := h
  cases ro
  obtain ⟨t, rfl⟩ := ri
  obtain ⟨its, n, r, ho, hz⟩ := I.lst hp
  obtain ⟨h1, h2, h3, h4⟩ := ixN_seq hj
  have hl := r.length
  have hn := line63
  have I' : Inv X pins σ (upd H p (.lst (xs.set j v))) { s with heap := s.heap.update p (Obj.mapSeq (·.setIfInBounds j u)) } :=
    I.lstUpd hp ho (mapSeq_set its n j u) (r.set rv j) (by rw [List.length_set]; exact hz) s.toks
  by_cases h0 : 0 ≤ k
  · have hk : k.toNat = j := by
      rw [seqIndex_of h0 h4] at h1
      exact Option.some.inj h1
    exact PySem.W.ki_setAt ho h0 (by omega) (by rw [List.size_toArray, ← hl]; exact h4) (by rw [hk]; exact ⟨_, I', q⟩)
  · have hk : (k + (its.toArray.size : Int)).toNat = j := by
      rw [seqIndex_neg (by omega) h3] at h1
      rw [List.size_toArray, ← hl]
      exact Option.some.inj h1
    exact PySem.W.ki_setBack ho (by omega) (by rw [List.size_toArray, ← hl]; exact h3) (by omega) (by rw [hk]; exact ⟨_, I', q⟩)

theorem slice_bounds (lo hi : Option Int) (n : Nat) : (sliceBounds lo hi none n).1 = ((HT.sIx n 0 lo : Nat) : Int) ∧ (sliceBounds lo hi none n).2.1 = ((HT.sIx n n hi : Nat) : Int) ∧ (sliceBounds lo hi none n).2.2 = 1 := by
  refine ⟨?_, ?_, rfl⟩
  · cases lo with
    | none => simp [sliceBounds, HT.sIx]
    | some i =>
      simp only [sliceBounds, HT.sIx, Option.getD_none, show (1 : Int) > 0 by decide, if_true]
      by_cases h : i < 0
      · simp only [h, if_true] <;> omega
      · simp only [h, if_false] <;> omega
  · cases hi with
    | none => simp [sliceBounds, HT.sIx]
    | some i =>
      simp only [sliceBounds, HT.sIx, Option.getD_none, show (1 : Int) > 0 by decide, if_true]
      by_cases h : i < 0
      · simp only [h, if_true] <;> omega
      · simp only [h, if_false] <;> omega
theorem slicePick_cut (its : List Value) (lo hi : Option Int) : slicePick its.toArray lo hi none = ((its.drop (HT.sIx its.length 0 lo)).take (HT.sIx its.length its.length hi - HT.sIx its.length 0 lo)).toArray := by
  obtain ⟨h1, h2, h3⟩ := slice_bounds lo hi its.toArray.size
  unfold slicePick
  rw [h1, h2, h3]
  simp only [sliceRange_one, pick_run, List.size_toArray] <;> rfl
def rSlL (K : PySem.W.Frag) : V → Option Int → Option Int → Hp → VK → Prop := fun x lo hi H Q => ∃ a xs, x = .ref a ∧ SqL K H a xs ∧ ∀ p, H p = none → Q (.ref p) (upd H p (.lst (cutV xs lo hi)))
theorem sl_list : SlR X (rSlL X.K) := by
  intro pins s σ H x v vl vu lo hi sl Q I rx hs pl pu h
  obtain ⟨a, xs, rfl, hx, q⟩ := h
  cases rx
  obtain ⟨its, r, ht, hz⟩ := I.list hx
  have hlen := r.length
  refine ⟨"list", _, slot_list_getitem.lookup, ht.isList.typeIs, ?_⟩
  refine wpAny_getItem_list_slice ht.isList hs pl pu .none (by simp) ?_ (by rw [List.size_toArray] <;> omega)
  rw [slicePick_cut, ← hlen]
  refine ⟨.ref s.heap.objs.size, _, I.laid (t' := s.toks) (o := .lst (cutV xs lo hi)) (fun b ob q => Heap.get?_push_of_some _ q) (Nat.le_refl _) ?_, rfl, q _ (I.hok.fresh (Nat.le_refl _))⟩
  exact ⟨Nat.le_trans (cutV_length xs lo hi) hz, _, 0, (r.drop (HT.sIx xs.length 0 lo)).take (HT.sIx xs.length xs.length hi - HT.sIx xs.length 0 lo), Heap.get?_push_size _ rfl⟩

def flatV : V → Bool
  | .non => true
  | .bl _ => true
  | .int _ => true
  | .str _ => true
  | _ => false
def eqV : V → V → Bool
  | .non, .non => true
  | .bl a, .bl b => a == b
  | .bl a, .int b => (if a then 1 else 0) == b
  | .int a, .bl b => a == (if b then 1 else 0)
  | .int a, .int b => a == b
  | .str a, .str b => a == b
  | _, _ => false
theorem eqAt_V {A : Around} {s : Shared} {y x : V} {u v : Value} (ry : RelV y u) (rx : RelV x v) (fy : flatV y = true) (fx : flatV x = true) : SeqAt.EqAt A s u v (eqV y x) := by
  cases y with
  | non =>
    cases ry
    cases x with
    | non => cases rx; exact SeqAt.EqAt.same _
    | bl b => cases rx; exact SeqAt.EqAt.none_bool b
    | int b => obtain ⟨t, rfl⟩ := rx; exact SeqAt.EqAt.none_int b t
    | str b => obtain ⟨t, rfl⟩ := rx; exact SeqAt.EqAt.none_str b t
    | _ => exact absurd (show false = true from fx) Bool.false_ne_true
  | bl a =>
    cases ry
    cases x with
    | non => cases rx; exact SeqAt.EqAt.bool_none a
    | bl b => cases rx; exact SeqAt.EqAt.bool_bool a b
    | int b => obtain ⟨t, rfl⟩ := rx; exact SeqAt.EqAt.bool_int a b t
    | str b => obtain ⟨t, rfl⟩ := rx; exact SeqAt.EqAt.bool_str a b t
    | _ => exact absurd (show false = true from fx) Bool.false_ne_true
  | int a =>
    obtain ⟨t', rfl⟩ := ry
    cases x with
    | non => cases rx; exact SeqAt.EqAt.int_none a t'
    | bl b => cases rx; exact SeqAt.EqAt.int_bool a t' b
    | int b => obtain ⟨t, rfl⟩ := rx; exact SeqAt.EqAt.int_int a t' b t
    | str b => obtain ⟨t, rfl⟩ := rx; exact SeqAt.EqAt.int_str a t' b t
    | _ => exact absurd (show false = true from fx) Bool.false_ne_true
  | str a =>
    obtain ⟨t', rfl⟩ := ry
    cases x with
    | non => cases rx; exact SeqAt.EqAt.str_none a t'
    | bl b => cases rx; exact SeqAt.EqAt.str_bool a t' b
    | int b => obtain ⟨t, rfl⟩ := rx; exact SeqAt.EqAt.str_int a t' b t
    | str b => obtain ⟨t, rfl⟩ := rx; exact SeqAt.EqAt.str_str a t' b t
    | _ => exact absurd (show false = true from fx) Bool.false_ne_true
  | _ => exact absurd (show false = true from fy) Bool.false_ne_true
theorem call_len_seq : CallR X (.builtin "len") (fun xs H Q => ∃ p ys, xs = [.ref p] ∧ (SqL X.K H p ys ∨ SqT X.K H p ys) ∧ Q (.int ys.length) H) := by
  intro pins s σ H xs us Q I r h
  obtain ⟨p, ys, rfl, hq, q⟩ := h
  obtain ⟨u, rfl, rx⟩ := vals1 r
  cases rx
  have hn := line63
  rcases hq with hq | hq
  · obtain ⟨its, r', pl, hz⟩ := I.list hq
    have hlen := r'.length
    exact Calls.call_len_list pl.isList (by simp only [List.size_toArray] <;> omega) ⟨.int ys.length, H, I.tok _, ⟨s.toks + 1, by rw [List.size_toArray, hlen]⟩, q⟩
  · obtain ⟨its, r', pl, hz⟩ := I.tuple hq
    have hlen := r'.length
    exact len_tuple pl (by simp only [List.size_toArray] <;> omega) ⟨.int ys.length, H, I.tok _, ⟨s.toks + 1, by rw [List.size_toArray, hlen]⟩, q⟩
def tyV (K : PySem.W.Frag) (T : String) (x : V) (H : Hp) : Prop := match x with
  | .str _ => T = "str"
  | .int _ => T = "int"
  | .ref p => (T = "list" ∧ ∃ xs, SqL K H p xs) ∨ (T = "tuple" ∧ ∃ o, K.lookup p = some o ∧ o.cls = .type "tuple" ∧ o.dict = none) ∨
      (T = "dict" ∧ ((∃ kvs, H p = some (.dK kvs)) ∨ ∃ kvs, H p = some (.dT kvs))) ∨ (T = "set" ∧ ∃ S n, H p = some (.set S n))
  | _ => False
theorem tyV_is {pins : List (Addr × Obj)} {σ : St} {H : Hp} {s : Shared} {T : String} {x : V} {v : Value} (I : Inv X pins σ H s) (r : RelV x v) (ty : tyV X.K T x H) :
    s.TypeIs v T ∧ ∀ a, v = .ref a → ∃ ob, s.heap.get? a = some ob ∧ ob.dict = none := by
  cases x with
  | str z =>
    obtain ⟨t, rfl⟩ := r
    cases (show T = "str" from ty)
    exact ⟨typeIs_str s z t, fun _ e => nomatch e⟩
  | int i =>
    obtain ⟨t, rfl⟩ := r
    cases (show T = "int" from ty)
    exact ⟨typeIs_int s i t, fun _ e => nomatch e⟩
  | ref p =>
    cases r
    rcases ty with ⟨rfl, xs, hq⟩ | ⟨rfl, o, hk, hc, hd⟩ | ⟨rfl, hk⟩ | ⟨rfl, S, n, hk⟩
    · obtain ⟨its, _, pl, _⟩ := I.list hq
      refine ⟨pl.isList.typeIs, fun a e => ?_⟩
      cases e
      obtain ⟨o, n, e, c, hd, _⟩ := pl
      exact ⟨o, e, hd⟩
    · refine ⟨⟨o, I.kIn p o hk, hc⟩, fun a e => ?_⟩
      cases e
      exact ⟨o, I.kIn _ o hk, hd⟩
    · have z : ∃ o, s.heap.get? p = some o ∧ o.ExactDict := by
        rcases hk with ⟨kvs, hk⟩ | ⟨kvs, hk⟩
        · obtain ⟨_, _, _, _, o, _, _, e, ex, _⟩ := I.hok p _ hk
          exact ⟨o, e, ex⟩
        · obtain ⟨_, _, _, _, o, _, _, e, ex, _⟩ := I.hok p _ hk
          exact ⟨o, e, ex⟩
      obtain ⟨o, e, ex⟩ := z
      refine ⟨⟨o, e, ex.1⟩, fun a e2 => ?_⟩
      cases e2
      exact ⟨o, e, ex.2.1⟩
    · obtain ⟨o, _, _, _, e, ex, _⟩ := I.hok p _ hk
      refine ⟨⟨o, e, ex.1⟩, fun a e2 => ?_⟩
      cases e2
      exact ⟨o, e, ex.2.1⟩
  | _ => exact False.elim ty
def tBM (K : PySem.W.Frag) (T : String) (r : V → List V → Hp → VK → Prop) (to : TE) (t : TA) : TE := fun σ H Q => to σ H fun x H1 => tyV K T x H1 ∧ t σ H1 fun xs H2 => r x xs H2 Q
variable {o e : Expr} {es : List Expr} {to : TE} {t : TA} {name : Str} {apos cpos : Pos} {T id : String} {r : V → List V → Hp → VK → Prop}
theorem pe_bm (pa : PlainAttrs T) (slot : Slot T name id) (hty : typeOf (.builtin id) = pure (.type "method_descriptor")) (hm : MtR X id r) (ho : PE X o to) (ha : PA X (e :: es) t)
    (hbase : attributeBase o name X.env (eval o X.env) = eval o X.env := by rfl)
    (hfew : ((backTo cpos (starEach (e :: es) X.env)).all (fun x => !x.1) && (backToKw cpos (keywordEach [] X.env)).all (fun x => x.1.isSome)
      && decide ((e :: es).length + ([] : List Keyword).length + (if ([] : List Keyword).isEmpty then 0 else 1) < 30)) = true := by rfl)
    (hline : (apos.endLine == cpos.line) = true := by rfl) (hs : starEach (e :: es) X.env = (false, eval e X.env) :: starEach es X.env := by rfl) (hplain : (backTo cpos (starEach es X.env)).any (·.1) = false := by rfl) :
    PE X (.Call (.Attribute o name apos) (e :: es) [] cpos) (tBM X.K T r to t) := by
  intro pins s σ H Q I h
  refine wpAny_Call_method_late hbase hfew hline rfl (thn (ho pins s σ H _ I h) fun v s1 ⟨x, H1, I1, r1, ty, q1⟩ => ?_)
  obtain ⟨h1, h2⟩ := tyV_is I1 r1 ty
  refine ⟨T, id, pa, slot, hty, h1, h2, ?_⟩
  have hA := ha cpos pins s1 σ H1 _ I1 q1
  rw [hs] at hA ⊢
  refine Calls.callWith_builtin (by show (false || (backTo cpos (starEach es X.env)).any (·.1)) = false; rw [hplain] <;> rfl) (Calls.evalArgs_plain ?_)
  exact thn hA fun us s2 ⟨vs, H2, I2, r2, q2⟩ => hm pins s2 σ H2 x vs v us Q I2 r1 r2 q2
end
end L2

namespace L2
open PySem PySem.Spec PyProof.Rows

def MtM (X : Cx) (id : String) (r : V → List V → Hp → VK → Prop) : Prop :=
  ∀ (pins : List (Addr × Obj)) (s : Shared) (σ : St) (H : Hp) (x : V) (xs : List V) (v : Value) (us : List Value) (Q : VK), Inv X pins σ H s → RelV x v → Vals xs us → r x xs H Q →
    wpAny (model X.prog X.w) X.A (call (.builtin id) (v :: us)) (EP X pins σ Q) X.xe s

theorem Vals.one : ∀ {x : V} {us : List Value}, Vals [x] us → ∃ u, us = [u] ∧ RelV x u
  | _, _, .cons r .nil => ⟨_, rfl, r⟩
theorem Vals.two : ∀ {x y : V} {us : List Value}, Vals [x, y] us → ∃ u v, us = [u, v] ∧ RelV x u ∧ RelV y v
  | _, _, _, .cons r (.cons q .nil) => ⟨_, _, rfl, r, q⟩
theorem Vals.zero : ∀ {us : List Value}, Vals [] us → us = []
  | _, .nil => rfl
theorem Vals.dropLast {xs : List V} {us : List Value} (h : Vals xs us) : Vals xs.dropLast us.dropLast := by
  induction h with
  | nil => exact .nil
  | cons r t ih =>
    cases t with
    | nil => exact .nil
    | cons q t' => exact .cons r ih
theorem Vals.reverse {xs : List V} {us : List Value} (h : Vals xs us) : Vals xs.reverse us.reverse := by
  induction h with
  | nil => exact .nil
  | cons r t ih => rw [List.reverse_cons, List.reverse_cons]; exact Vals.append ih (.cons r .nil)
section
variable {X : Cx} {pins : List (Addr × Obj)} {σ : St} {H : Hp} {s : Shared} {l b : Addr} {xs ys zs : List V}

theorem Inv.lset {its its' : List Value} {n : Nat} {f : Array Value → Array Value} {t' : Nat} (I : Inv X pins σ H s) (hH : H l = some (.lst xs))
    (e : s.heap.get? l = some { cls := .type "list", data := .seq its.toArray n }) (hf : f its.toArray = its'.toArray) (hv : Vals ys its') (hz : ys.length ≤ sizeLine) :
    Inv X pins σ (upd H l (.lst ys)) { s with heap := s.heap.update l (Obj.mapSeq f), toks := t' } := by
  have q := PySem.IsL.update e f
  rw [hf] at q
  refine I.write (x := l) (e := l) (by rw [hH]; exact trivial) (.inl rfl) (fun b' u hb hu => (Heap.get?_update_other s.heap (Obj.mapSeq f) (Ne.symm hb)).trans hu) ⟨_, q⟩ ?_
  exact ⟨hz, its', _, hv, q⟩
theorem Inv.lnew {its : List Value} {t' : Nat} (I : Inv X pins σ H s) (hv : Vals ys its) (hz : ys.length ≤ sizeLine) :
    Inv X pins σ (upd H s.heap.objs.size (.lst ys)) { s with heap := s.heap.push { cls := .type "list", data := .seq its.toArray }, toks := t' } :=
  I.laid (fun _ _ q => Heap.get?_push_of_some _ q) (Nat.le_refl _) ⟨hz, its, 0, hv, Heap.get?_push_size _ rfl⟩
theorem Inv.fresh (I : Inv X pins σ H s) : H s.heap.objs.size = none := I.hok.fresh (Nat.le_refl _)
theorem Inv.lstM (I : Inv X pins σ H s) (hH : H l = some (.lst xs)) : xs.length ≤ sizeLine ∧ ∃ (its : List Value) (n : Nat), Vals xs its ∧ xs.length = its.length ∧ s.heap.get? l = some { cls := .type "list", data := .seq its.toArray n } := by
  obtain ⟨z, its, n, r, e⟩ := I.hok l _ hH
  exact ⟨z, its, n, r, r.length, e⟩

theorem notLongL {n : Nat} (h : n ≤ sizeLine) : Builtin.List.listTooLong n = false := by
  unfold Builtin.List.listTooLong
  exact decide_eq_false (by omega)
end

section
variable {X : Cx}

def rAppend : V → List V → Hp → VK → Prop := fun x vs H Q => ∃ l xs y, x = .ref l ∧ vs = [y] ∧ H l = some (.lst xs) ∧ xs.length < sizeLine ∧ Q .non (upd H l (.lst (xs ++ [y])))
theorem mt_append : MtM X "list.append" rAppend := by
  intro pins s σ H x vs v us Q I rx rv h
  obtain ⟨l, xs, y, rfl, rfl, hH, hz, q⟩ := h
  cases rx
  obtain ⟨u, rfl, ru⟩ := rv.one
  obtain ⟨z, its, n, r, hl, e⟩ := I.lstM hH
  refine call_meets F.slot_list_append ⟨_, e, rfl⟩ F.entry_list_append (F.args_list_append_2 _ _) (PySem.list_append l its.toArray n u (by rw [List.size_toArray]; omega)) ⟨e, ?_⟩
  refine ⟨.non, _, I.lset (its' := its ++ [u]) hH e (by simp) (r.append (.cons ru .nil)) ?_, rfl, q⟩
  rw [List.length_append, List.length_singleton]
  omega

def rExtend : V → List V → Hp → VK → Prop := fun x vs H Q => ∃ l b xs zs, x = .ref l ∧ vs = [.ref b] ∧ H l = some (.lst xs) ∧ H b = some (.lst zs) ∧ xs.length + zs.length ≤ sizeLine ∧ Q .non (upd H l (.lst (xs ++ zs)))
theorem mt_extend : MtM X "list.extend" rExtend := by
  intro pins s σ H x vs v us Q I rx rv h
  obtain ⟨l, b, xs, zs, rfl, rfl, hH, hB, hz, q⟩ := h
  cases rx
  obtain ⟨u, rfl, ru⟩ := rv.one
  cases ru
  obtain ⟨z, its, n, r, hl, e⟩ := I.lstM hH
  obtain ⟨z2, its2, n2, r2, hl2, e2⟩ := I.lstM hB
  have hsz : its.toArray.size + its2.toArray.size ≤ sizeLine := by rw [List.size_toArray, List.size_toArray]; omega
  have hlong : ¬ (!its.toArray.isEmpty && Builtin.List.listTooLong (its.toArray.size + its2.toArray.size)) = true := by
    rw [notLongL hsz, Bool.and_false]
    exact Bool.false_ne_true
  refine call_meets F.slot_list_extend ⟨_, e, rfl⟩ F.entry_list_extend (F.args_list_extend_2 _ _)
    (AutoSeq1.list_extend_list_list_0 l its.toArray n b its2.toArray n2 hlong (by rw [List.size_toArray]; omega) (by omega)) ⟨e, e2, ?_⟩
  refine ⟨.non, _, I.lset (its' := its ++ its2) hH e (by simp) (r.append r2) ?_, rfl, q⟩
  rw [List.length_append]
  omega

def rCat : R2 := fun x y H Q => ∃ l b xs zs, x = .ref l ∧ y = .ref b ∧ H l = some (.lst xs) ∧ H b = some (.lst zs) ∧ xs.length + zs.length ≤ sizeLine ∧ ∀ p, H p = none → Q (.ref p) (upd H p (.lst (xs ++ zs)))
theorem op_cat : OpR X (binaryOp .Add) rCat := by
  intro pins s σ H x y v u Q I rx ry h
  obtain ⟨l, b, xs, zs, rfl, rfl, hH, hB, hz, q⟩ := h
  cases rx
  cases ry
  obtain ⟨z, its, n, r, hl, e⟩ := I.lstM hH
  obtain ⟨z2, its2, n2, r2, hl2, e2⟩ := I.lstM hB
  refine PySem.P.add_list e e2 ?_ (by rw [List.size_toArray, List.size_toArray]; omega)
  have ea : its.toArray ++ its2.toArray = (its ++ its2).toArray := by simp
  rw [ea]
  exact ⟨.ref _, _, I.lnew (t' := s.toks) (r.append r2) (by rw [List.length_append]; omega), rfl, q _ I.fresh⟩
end

section
variable {prog : Program} {w : World} {A : Around} {E : Value → Shared → Prop} {s : Shared}
end

section
variable {X : Cx}
end
end L2

namespace Att
open PySem PySem.W PySem.Calls PyProof.Rows

theorem ints_of_wellAll {P : Params} {h : Heap} : ∀ (ns : List Int) (vs : List Value), WellAll P h vs (ns.map WData.int) → IntsAre vs ns := by
  intro ns
  induction ns with
  | nil =>
    intro vs w
    rw [List.map_nil] at w
    cases w
    exact .nil
  | cons n ns ih =>
    intro vs w
    rw [List.map_cons] at w
    cases w with
    | cons a b =>
      cases a
      exact .cons _ _ (ih _ b)

theorem script_of {l : OpenLaw} {n : Nat} (hn : l.most = some n) {P : Params} {h : Heap} {args : List WData} {vals : List Value}
    (hpre : l.row.toRowW.claim.pre args = true) (hwl : WellAll P h vals args) :
    ∃ a vs ns, vals = [Value.ref a] ∧ args = [WData.list (ns.map WData.int)] ∧ h.get? a = some { cls := .type "list", data := .seq vs.toArray } ∧ IntsAre vs ns ∧ ns.length ≤ n := by
  have hsh : WShape.hasAll [] args [.list .int] = true := (pre_splitW hpre).1
  have hc : l.pre.holds [] { args := args } = true := (pre_splitW hpre).2
  obtain ⟨d, r, rfl, h1, h2⟩ := hasAllW_cons hsh
  obtain rfl := hasAllW_nil h2
  obtain ⟨xs, rfl, h3⟩ := hasW_list h1
  obtain ⟨ns, rfl⟩ := items_int h3
  have hlen : ns.length ≤ n := by
    unfold OpenLaw.pre at hc
    have h4 : (WTm.not (.lt (.lit (.int (n : Int))) (.len (.arg 0)))).holds [] { args := [.list (ns.map .int)] } = true := by
      have h4 := (holds_andW hc).1
      rw [hn] at h4
      exact h4
    have h5 := condW_of h4 (w_not (w_lt w_lit (w_len_list (w_arg rfl))))
    rw [List.length_map] at h5
    refine Nat.le_of_not_lt fun q => ?_
    have q' : (n : Int) < ((ns.length : Nat) : Int) := by omega
    first
      | (rw [decide_eq_true q'] at h5; exact absurd h5 (by decide))
      | (simp at h5; omega)
  cases hwl with
  | cons w1 w2 =>
    cases w2
    cases w1 with
    | list ho hall => exact ⟨_, _, ns, rfl, rfl, ho, ints_of_wellAll ns _ hall, hlen⟩

theorem post_true (l : OpenLaw) (args : List WData) : l.row.toRowW.claim.post args (.bool true) args = true :=
  postW_of (r := l.row.toRowW) (X := (true == true))
    (show WShape.has [] (.bool true) .bool = true by first | rfl | decide | simp [WShape.has, WShape.arms, WShape.armsAll])
    (show (WTm.eq .res (.lit (.bool true))).value [] { args := args, res := some (.bool true), after := args } = some (.bool (true == true)) from w_eq_bool (w_res rfl) w_lit) rfl

theorem attach_call {l : OpenLaw} {n : Nat} {q : Program} {loose : List Str} {XP : (Str → Option Value) → Heap → Prop} {YP : World → Heap → Prop} {d : DefRec}
    (hn : l.most = some n) (hdf : d.params.defaults = [])
    (call : ∀ (w : World) (s₀ s₁ : Shared) (mg mb : Str → Option Value) (fa : Addr) (o : Obj) (pm cd doc : Value) (a : Addr) (vs : List Value) (ns : List Int),
      Ground q loose [] XP w s₀ mg mb s₁.heap → YP w s₁.heap →
      s₁.heap.get? fa = some o → o.data = .func (docDef d.name d.params d.body d.scope pm cd doc) → s₁.heap.CodeRec cd d.name → mg d.name = some (.ref fa) →
      s₁.heap.get? a = some { cls := .type "list", data := .seq vs.toArray } → IntsAre vs ns → ns.length ≤ n → s₁.gens = #[] →
      codeAny (model l.prog w) callerA (.call (.ref fa) ⟨[.ref a], []⟩) (fun r s' => r = .ok (.ret (.bool true)) ∧ OldK s₁.heap s'.heap ∧ s'.os = s₁.os ∧ AllBare s'.gens) s₁) :
    WalkO q loose XP YP l.row.toRowW d [] (fun f vs => PySem.call f vs) := by
  intro w s₀ s₁ mg mb G Y fa o pm cd doc dV kV ho hd hcd hD hmg hg args vals as hpre hlay hrd hwl hlo
  obtain rfl : dV = .none := Dflts.none hD hdf
  obtain rfl : kV = .none := Dflts.noKw hD
  obtain ⟨a, vs, ns, rfl, rfl, hobj, hints, hlen⟩ := script_of hn hpre hwl
  refine enter_call (codeAny_mono (call w s₀ s₁ mg mb fa o pm cd doc a vs ns G Y ho (fd_plain hd) hcd hmg hobj hints hlen hg) fun r s' hq => ?_)
  obtain ⟨rfl, h2, h3, h4⟩ := hq
  exact ⟨.inl ⟨.bool true, .bool true, [], rfl, fun _ => rfl, .bool true, post_true l _, fun _ => ⟨List.Pairwise.nil, fun _ hm => (nomatch hm)⟩⟩, h2, h3, h4⟩

section
variable {prog : Program} {w : World} {A : Around} {E : Value → Shared → Prop} {s : Shared} {K : Frag}

end
end Att

namespace L2
open PySem PySem.Spec PyProof.Rows

theorem vals_ints : ∀ {vs : List Value} {ns : List Int}, IntsAre vs ns → Vals (ns.map V.int) vs
  | _, _, .nil => .nil
  | _, _, .cons n t h => .cons ⟨t, rfl⟩ (vals_ints h)

def Only (H : Hp) : Prop := ∀ b, H b = none ∨ ∃ o xs, H b = some (.frz o (.lst xs))

theorem law_call {P : Program} {w : World} {K : PySem.W.Frag} {mg mb : Str → Option Value} {CX : CXT} {k : Nat} {fa a : Addr} {fd : FuncData} {x : Str} {sp : Sp} {s₁ : Shared} {vs : List Value} {ns : List Int}
    (KX : K.In s₁.heap) (hns : s₁.heap.Ns mainGlobals mg) (hb : s₁.heap.Ns builtinsNs mb) (hbb : ∀ x : Str, x ≠ "__name__" → mb x = bootBuiltins x) (hlim : s₁.heap.NoLimit) (hg : s₁.gens = #[])
    (ha : s₁.heap.get? a = some { cls := .type "list", data := .seq vs.toArray }) (hi : IntsAre vs ns) (hl : ns.length ≤ sizeLine) (hr : Room k callerA)
    (F : ∀ base : Heap, K.In base → base.Ns mainGlobals mg → FnOk P w K mg base CX k fa fd [x] sp) (hbind : ∀ (s : Shared) (u : Value), BindsTo s fd ⟨[u], []⟩ [(x, u)])
    (hsp : ∀ H : Hp, Only H → SqL K H a (ns.map V.int) → sp [.ref a] H (fun v _ => v = .bl true) fun _ _ _ => False)
    (hCX : ∀ H e s', CX [] H s₁ (fun _ _ _ => False) e s' → False) :
    codeAny (model P w) callerA (.call (.ref fa) ⟨[.ref a], []⟩) (fun r s' => r = .ok (.ret (.bool true)) ∧ OldK s₁.heap s'.heap ∧ s'.os = s₁.os ∧ AllBare s'.gens) s₁ := by
  have rv := vals_ints hi
  have lenV := hi.length
  -- from an abstract heap in which nothing but the script may be tracked
  have core : ∀ H : Hp, Only H → SqL K H a (ns.map V.int) → HOk P w H s₁.heap → (∀ b, H b ≠ none → b = a) → (H a ≠ none → K.lookup a = none) →
      codeAny (model P w) callerA (.call (.ref fa) ⟨[.ref a], []⟩) (fun r s' => r = .ok (.ret (.bool true)) ∧ OldK s₁.heap s'.heap ∧ s'.os = s₁.os ∧ AllBare s'.gens) s₁ := by
    intro H hO hS hok hA hK
    have base_of : ∀ {b : Addr} {o : Obj}, s₁.heap.get? b = some o → H b = none → (hidT s₁.heap H).get? b = some o := fun e n => hidT_get e n
    have noA : ∀ {b : Addr} {o : Obj} {es : Array DictEntry} {ep : Nat}, s₁.heap.get? b = some o → o.data = .dict es ep → H b = none := fun {b o es ep} e d => by
      cases q : H b with
      | none => rfl
      | some u =>
        have e' : b = a := hA b (by rw [q]; simp)
        subst e'
        rw [ha] at e; cases e
        have d' : Data.seq vs.toArray _ = Data.dict es ep := d
        cases d'
    have nsK : ∀ {b : Addr} {m : Str → Option Value}, s₁.heap.Ns b m → (hidT s₁.heap H).Ns b m := fun {b m} ⟨o, es, ep, e, d, r⟩ => ⟨o, es, ep, base_of e (noA e d), d, r⟩
    have hKb : K.In (hidT s₁.heap H) := fun b o e => base_of (KX b o e) (by
      cases q : H b with
      | none => rfl
      | some u =>
        have e' : b = a := hA b (by rw [q]; simp)
        subst e'
        rw [hK (by rw [q]; simp)] at e; cases e)
    have hM : Mod K mg (hidT s₁.heap H) := ⟨hKb, nsK hns, ⟨mb, nsK hb, hbb⟩, let ⟨mc, h1, h2⟩ := hlim; ⟨mc, nsK h1, h2⟩⟩
    have e0 : Env0 P w K mg (hidT s₁.heap H) callerA [] s₁ H := ⟨rfl, hM, fun b o e => of_hidT e, Nat.le_of_eq (hidT_size _ _), trivial, fun b hb => absurd (show b ∈ ([] : List Addr) from hb) (by simp), hok, .of_eq hg⟩
    refine codeAny_mono ((F _ hKb (nsK hns)).run callerA [] s₁ H ⟨[.ref a], []⟩ [.ref a] [.ref a] _ _ hr e0 (hbind s₁ (.ref a)) (.cons rfl .nil) (hsp H hO hS)) fun r s' h => ?_
    cases r with
    | error e => exact (hCX H e s' h).elim
    | ok fl =>
      cases fl with
      | next => exact False.elim h
      | brk => exact False.elim h
      | cont => exact False.elim h
      | ret u =>
        obtain ⟨v, H', os, bare, un, hok', r', q⟩ := h
        have q' : v = .bl true := q
        subst q'
        obtain rfl : u = Value.bool true := r'
        refine ⟨rfl, OldK.of_keep fun b o e => ?_, os, bare⟩
        cases q : H b with
        | none => exact un.keep b o e q (by intro z; exact absurd (show b ∈ ([] : List Addr) from z) (by simp)) (by simp)
        | some u =>
          rcases hO b with z | ⟨ob, xs, z⟩
          · rw [q] at z; cases z
          · have z2 := un.frzs b ob _ z
            obtain ⟨e1, _⟩ := hok b _ z
            obtain ⟨e2, _⟩ := hok' b _ z2
            rw [e] at e1; cases e1
            exact e2
  cases hk : K.lookup a with
  | some o =>
    -- the script is one of the module's own objects
    have e := KX a o hk
    rw [ha] at e
    cases e
    refine core (fun _ => none) (fun _ => .inl rfl) (.inr ⟨_, vs.toArray, _, hk, rfl, rfl, rfl, by rw [List.size_toArray, lenV]; exact hl, by simpa using rv⟩) (fun b u z => by have z' : (none : Option HO) = some u := z; cases z') (fun b z => absurd rfl z) fun z => absurd rfl z
  | none =>
    refine core (fun b => if b = a then some (.frz { cls := .type "list", data := .seq vs.toArray } (.lst (ns.map V.int))) else none) (fun b => ?_) (.inl (.inr ⟨{ cls := .type "list", data := .seq vs.toArray }, if_pos rfl⟩)) (fun b u z => ?_) (fun b z => ?_) fun _ => hk
    · by_cases hb : b = a
      · exact .inr ⟨_, _, if_pos hb⟩
      · exact .inl (if_neg hb)
    · by_cases hb : b = a
      · have z' := (if_pos hb).symm.trans z
        cases z'
        subst hb
        exact ⟨ha, by rw [List.length_map]; exact hl, vs, _, rv, ha⟩
      · have z' := (if_neg hb).symm.trans z
        cases z'
    · by_cases hb : b = a
      · exact hb
      · exact absurd (if_neg hb) z
end L2

namespace L2
open PySem PySem.Spec PyProof.Rows

end L2

namespace L2
open PySem PySem.Spec PyProof.Rows

def defArgs (s : Stmt) : Arguments := match s with
  | .FunctionDef _ a _ _ _ _ _ _ _ _ => a
  | _ => { posonlyargs := [], args := [], vararg := none, kwonlyargs := [], kw_defaults := [], kwarg := none, defaults := [] }
def defBody (s : Stmt) : List Stmt := match s with
  | .FunctionDef _ _ b _ _ _ _ _ _ _ => b
  | _ => []
def defScope (s : Stmt) : Scope := match s with
  | .FunctionDef _ _ _ _ _ _ sc _ _ _ => sc
  | _ => { kind := .function, names := [], isGenerator := false, isCoroutine := false }

abbrev CX0 : CXT := fun _ _ _ _ _ _ => False
abbrev E0 : XK := fun _ _ _ => False
theorem pass0 {X : Cx} : Passes CX0 X E0 := fun _ _ _ _ _ _ _ h => h.elim

structure Fun (K : PySem.W.Frag) (x qual : Str) (st : Stmt) (f : Addr) (fd : FuncData) : Prop where
  ex : ∃ (oc : Value) (od : Option Addr) (kV doc pm : Value) (an : Option Addr) (cdv ct : Value) (osl : Array (Option Value)),
    fd = PySem.W.fnOf x qual (defArgs st) (defBody st) (defScope st) .none kV doc pm an cdv ct ∧ K.lookup f = some ⟨oc, od, .func fd, osl⟩ ∧ PySem.W.codeIn K cdv qual = true
  kp : PySem.W.keepIn K (.ref f) = true
section
variable {P : Program} {w : World} {K : PySem.W.Frag} {mg : Str → Option Value} {base : Heap}
theorem Fun.ok {x qual : Str} {st : Stmt} {f : Addr} {fd : FuncData} {N ps : List Str} {k : Nat} {sp : Sp} (F : Fun K x qual st f fd) (S : FnScope N ps (defScope st)) (len : ∀ vs H Q E, sp vs H Q E → vs.length = ps.length)
    (hbody : ∀ (cdv : Value) (A : Around) (outer : List Env) (s : Shared) (H : Hp) (vs : List V) (Q : VK) (E : XK), Room k (A.deeper (envOfC qual (defScope st) s.heap.objs.size f cdv)) → sp vs H Q E →
      ∃ t, PSs (cxOf CX0 P w K mg base N qual (defScope st) f cdv A outer s H E).nox (defBody st) t ∧ t { nx := fun _ H' => Q .non H', rt := Q } (start N vs) H) : FnOk P w K mg base CX0 (k + 1) f fd ps sp := by
  obtain ⟨oc, od, kV, doc, pm, an, cdv, ct, osl, rfl, lk, hcd⟩ := F.ex
  refine fn_of lk hcd S len fun A outer s H vs Q E hr hsp => ?_
  obtain ⟨t, h, q⟩ := hbody cdv A outer s H vs Q E hr hsp
  exact ⟨t, h.nox, q⟩
theorem Fun.binds {x qual : Str} {st : Stmt} {f : Addr} {fd : FuncData} {ps : List Str} (F : Fun K x qual st f fd)
    (h : ∀ (kV doc pm : Value) (an : Option Addr) (cdv ct : Value) (us : List Value), us.length = ps.length → bindArgs (PySem.W.fnOf x qual (defArgs st) (defBody st) (defScope st) .none kV doc pm an cdv ct) ⟨us, []⟩ = pure (ps.zip us)) : Binds K fd ps [] := by
  obtain ⟨oc, od, kV, doc, pm, an, cdv, ct, osl, rfl, lk, hcd⟩ := F.ex
  exact .all (h kV doc pm an cdv ct)
theorem fun_mk {x qual : Str} {st : Stmt} {f : Addr} {oc : Value} {od an : Option Addr} {osl : Array (Option Value)} {kV doc pm cdv ct : Value} (l : K.lookup f = some ⟨oc, od, .func (PySem.W.fnOf x qual (defArgs st) (defBody st) (defScope st) .none kV doc pm an cdv ct), osl⟩)
    (c : PySem.W.codeIn K cdv qual = true) (k : PySem.W.keepIn K (.ref f) = true) : Fun K x qual st f (PySem.W.fnOf x qual (defArgs st) (defBody st) (defScope st) .none kV doc pm an cdv ct) := ⟨⟨oc, od, kV, doc, pm, an, cdv, ct, osl, rfl, l, c⟩, k⟩
end
theorem small1000 {n : Nat} (h : n ≤ 1000) : n < sizeLine := Nat.lt_of_le_of_lt h (by decide)

section
variable {X : Cx}
end

def Same (H H' : Hp) : Prop := ∀ b o, H b = some o → H' b = some o
theorem Same.refl (H : Hp) : Same H H := fun _ _ h => h
theorem Same.trans {H H1 H2 : Hp} (a : Same H H1) (b : Same H1 H2) : Same H H2 := fun c o h => b c o (a c o h)
theorem Same.free {H H' : Hp} (e : Same H H') {l : Addr} (h : H' l = Option.none) : H l = Option.none := by
  cases q : H l with
  | none => rfl
  | some o =>
    rw [e l o q] at h
    cases h
theorem Same.seq {K : PySem.W.Frag} {H H' : Hp} {a : Addr} {xs : List V} (e : Same H H') (h : SqL K H a xs) : SqL K H' a xs := by
  rcases h with (h | ⟨o, h⟩) | h
  · exact .inl (.inl (e _ _ h))
  · exact .inl (.inr ⟨o, e _ _ h⟩)
  · exact .inr h

end L2

set_option Elab.async false
set_option linter.all false
set_option maxRecDepth 100000
set_option maxHeartbeats 4000000

namespace Dd
open PySem PySem.Spec PyProof.Rows L2

inductive D where
  | non | bl (b : Bool) | int (i : Int) | str (x : Str) | tup (xs : List D) | fz (xs : List D) | ref (a : Addr)

def SqX (K : PySem.W.Frag) (H : Hp) (a : Addr) (xs : List V) : Prop :=
  (∃ o, H a = some (.frz o (.lst xs))) ∨
  ∃ (its : Array Value) (n : Nat), K.lookup a = some { cls := .type "list", data := .seq its n } ∧ its.size ≤ sizeLine ∧ Vals xs its.toList
theorem SqX.sq {K : PySem.W.Frag} {H : Hp} {a : Addr} {xs : List V} (h : SqX K H a xs) : SqL K H a xs := by
  rcases h with ⟨o, h⟩ | ⟨its, n, h, z, r⟩
  · exact .inl (.inr ⟨o, h⟩)
  · exact .inr ⟨_, its, n, h, rfl, rfl, rfl, z, r⟩

mutual
def Rep (K : PySem.W.Frag) (H : Hp) : D → V → Prop
  | .non, v => v = .non
  | .bl b, v => v = .bl b
  | .int i, v => v = .int i
  | .str x, v => v = .str x
  | .ref a, v => v = .ref a
  | .tup ds, v => ∃ a xs, v = .ref a ∧ SqT K H a xs ∧ Reps K H ds xs
  | .fz ds, v => ∃ a xs, v = .ref a ∧ SqX K H a xs ∧ Reps K H ds xs
def Reps (K : PySem.W.Frag) (H : Hp) : List D → List V → Prop
  | [], vs => vs = []
  | d :: ds, vs => ∃ v r, vs = v :: r ∧ Rep K H d v ∧ Reps K H ds r
end
structure Ext (H H' : Hp) : Prop where
  tup : ∀ a xs, H a = some (.tup xs) → H' a = some (.tup xs)
  frz : ∀ a o u, H a = some (.frz o u) → H' a = some (.frz o u)
theorem Ext.refl (H : Hp) : Ext H H := ⟨fun _ _ h => h, fun _ _ _ h => h⟩
theorem Ext.trans {H H1 H2 : Hp} (a : Ext H H1) (b : Ext H1 H2) : Ext H H2 := ⟨fun c xs h => b.tup c xs (a.tup c xs h), fun c o u h => b.frz c o u (a.frz c o u h)⟩
theorem Ext.new {H : Hp} {p : Addr} (h : H p = none) (o : HO) : Ext H (upd H p o) :=
  ⟨fun a xs e => by rw [upd_ne (ne_of_none e h)]; exact e, fun a ob u e => by rw [upd_ne (ne_of_none e h)]; exact e⟩
theorem Ext.put {H : Hp} {p : Addr} {xs : List V} (h : H p = some (.lst xs)) (o : HO) : Ext H (upd H p o) :=
  ⟨fun a ys e => by rw [upd_ne (ne_of e h (by intro z; cases z))]; exact e, fun a ob u e => by rw [upd_ne (ne_of e h (by intro z; cases z))]; exact e⟩
section
variable {K : PySem.W.Frag} {H H' : Hp}
theorem sqT_ext (e : Ext H H') {a : Addr} {xs : List V} (h : SqT K H a xs) : SqT K H' a xs := by
  rcases h with (h | ⟨o, h⟩) | h
  · exact .inl (.inl (e.tup _ _ h))
  · exact .inl (.inr ⟨o, e.frz _ _ _ h⟩)
  · exact .inr h
theorem sqX_ext (e : Ext H H') {a : Addr} {xs : List V} (h : SqX K H a xs) : SqX K H' a xs := by
  rcases h with ⟨o, h⟩ | h
  · exact .inl ⟨o, e.frz _ _ _ h⟩
  · exact .inr h
mutual
theorem Rep.ext (e : Ext H H') : ∀ {d : D} {v : V}, Rep K H d v → Rep K H' d v
  | .non, _, h => by unfold Rep at h ⊢; exact h
  | .bl _, _, h => by unfold Rep at h ⊢; exact h
  | .int _, _, h => by unfold Rep at h ⊢; exact h
  | .str _, _, h => by unfold Rep at h ⊢; exact h
  | .ref _, _, h => by unfold Rep at h ⊢; exact h
  | .tup ds, _, h => by
    unfold Rep at h ⊢
    obtain ⟨a, xs, e1, sq, r⟩ := h
    exact ⟨a, xs, e1, sqT_ext e sq, Reps.ext e r⟩
  | .fz ds, _, h => by
    unfold Rep at h ⊢
    obtain ⟨a, xs, e1, sq, r⟩ := h
    exact ⟨a, xs, e1, sqX_ext e sq, Reps.ext e r⟩
theorem Reps.ext (e : Ext H H') : ∀ {ds : List D} {vs : List V}, Reps K H ds vs → Reps K H' ds vs
  | [], _, h => by unfold Reps at h ⊢; exact h
  | d :: ds, _, h => by
    unfold Reps at h ⊢
    obtain ⟨v, r, e1, hv, hr⟩ := h
    exact ⟨v, r, e1, Rep.ext e hv, Reps.ext e hr⟩
end
theorem rep_int {i : Int} : Rep K H (.int i) (.int i) := by unfold Rep; rfl
theorem rep_bl {b : Bool} : Rep K H (.bl b) (.bl b) := by unfold Rep; rfl
theorem rep_str {x : Str} : Rep K H (.str x) (.str x) := by unfold Rep; rfl
theorem rep_non : Rep K H .non .non := by unfold Rep; rfl
theorem rep_ref {a : Addr} : Rep K H (.ref a) (.ref a) := by unfold Rep; rfl
theorem rep_int_eq {i : Int} {v : V} (h : Rep K H (.int i) v) : v = .int i := by unfold Rep at h; exact h
theorem rep_bl_eq {b : Bool} {v : V} (h : Rep K H (.bl b) v) : v = .bl b := by unfold Rep at h; exact h
theorem rep_str_eq {x : Str} {v : V} (h : Rep K H (.str x) v) : v = .str x := by unfold Rep at h; exact h
theorem rep_non_eq {v : V} (h : Rep K H .non v) : v = .non := by unfold Rep at h; exact h
theorem rep_ref_eq {a : Addr} {v : V} (h : Rep K H (.ref a) v) : v = .ref a := by unfold Rep at h; exact h
theorem rep_tup {ds : List D} {v : V} (h : Rep K H (.tup ds) v) : ∃ a xs, v = .ref a ∧ SqT K H a xs ∧ Reps K H ds xs := by unfold Rep at h; exact h
theorem rep_fz {ds : List D} {v : V} (h : Rep K H (.fz ds) v) : ∃ a xs, v = .ref a ∧ SqX K H a xs ∧ Reps K H ds xs := by unfold Rep at h; exact h
theorem rep_tup_mk {ds : List D} {a : Addr} {xs : List V} (sq : SqT K H a xs) (r : Reps K H ds xs) : Rep K H (.tup ds) (.ref a) := by unfold Rep; exact ⟨a, xs, rfl, sq, r⟩
theorem reps_nil : Reps K H [] [] := by unfold Reps; rfl
theorem reps_nil_eq {vs : List V} (h : Reps K H [] vs) : vs = [] := by unfold Reps at h; exact h
theorem reps_cons {d : D} {ds : List D} {v : V} {vs : List V} (h : Rep K H d v) (r : Reps K H ds vs) : Reps K H (d :: ds) (v :: vs) := by unfold Reps; exact ⟨v, vs, rfl, h, r⟩
theorem reps_cons_eq {d : D} {ds : List D} {vs : List V} (h : Reps K H (d :: ds) vs) : ∃ v r, vs = v :: r ∧ Rep K H d v ∧ Reps K H ds r := by unfold Reps at h; exact h
theorem Reps.length : ∀ {ds : List D} {vs : List V}, Reps K H ds vs → ds.length = vs.length
  | [], _, h => by rw [reps_nil_eq h]; rfl
  | d :: ds, _, h => by
    obtain ⟨v, r, rfl, _, hr⟩ := reps_cons_eq h
    rw [List.length_cons, List.length_cons, Reps.length hr]
theorem Reps.get : ∀ {ds : List D} {vs : List V} {i : Nat} {d : D}, Reps K H ds vs → ds[i]? = some d → ∃ v, vs[i]? = some v ∧ Rep K H d v
  | [], _, i, d, h, e => by simp at e
  | d0 :: ds, _, 0, d, h, e => by
    obtain ⟨v, r, rfl, hv, hr⟩ := reps_cons_eq h
    simp at e; subst e
    exact ⟨v, rfl, hv⟩
  | d0 :: ds, _, i + 1, d, h, e => by
    obtain ⟨v, r, rfl, hv, hr⟩ := reps_cons_eq h
    exact Reps.get (i := i) hr (by simpa using e)
theorem Reps.getV : ∀ {ds : List D} {vs : List V} {i : Nat} {v : V}, Reps K H ds vs → vs[i]? = some v → ∃ d, ds[i]? = some d ∧ Rep K H d v
  | [], _, i, v, h, e => by rw [reps_nil_eq h] at e; simp at e
  | d0 :: ds, _, 0, v, h, e => by
    obtain ⟨v0, r, rfl, hv, hr⟩ := reps_cons_eq h
    simp at e; subst e
    exact ⟨d0, rfl, hv⟩
  | d0 :: ds, _, i + 1, v, h, e => by
    obtain ⟨v0, r, rfl, hv, hr⟩ := reps_cons_eq h
    exact Reps.getV (i := i) hr (by simpa using e)
theorem Reps.set {d : D} {v : V} (h : Rep K H d v) : ∀ {ds : List D} {vs : List V} (i : Nat), Reps K H ds vs → Reps K H (ds.set i d) (vs.set i v)
  | [], _, i, r => by rw [reps_nil_eq r]; exact reps_nil
  | d0 :: ds, _, 0, r => by
    obtain ⟨v0, r0, rfl, hv, hr⟩ := reps_cons_eq r
    exact reps_cons h hr
  | d0 :: ds, _, i + 1, r => by
    obtain ⟨v0, r0, rfl, hv, hr⟩ := reps_cons_eq r
    exact reps_cons hv (Reps.set h i hr)
theorem Reps.append : ∀ {ds es : List D} {vs us : List V}, Reps K H ds vs → Reps K H es us → Reps K H (ds ++ es) (vs ++ us)
  | [], es, vs, us, h, q => by rw [reps_nil_eq h]; exact q
  | d :: ds, es, _, us, h, q => by
    obtain ⟨v, r, rfl, hv, hr⟩ := reps_cons_eq h
    exact reps_cons hv (Reps.append hr q)
theorem Reps.take : ∀ {ds : List D} {vs : List V} (n : Nat), Reps K H ds vs → Reps K H (ds.take n) (vs.take n)
  | ds, vs, 0, h => by rw [List.take_zero, List.take_zero]; exact reps_nil
  | [], _, n + 1, h => by rw [reps_nil_eq h]; exact reps_nil
  | d :: ds, _, n + 1, h => by
    obtain ⟨v, r, rfl, hv, hr⟩ := reps_cons_eq h
    exact reps_cons hv (Reps.take n hr)
theorem Reps.drop : ∀ {ds : List D} {vs : List V} (n : Nat), Reps K H ds vs → Reps K H (ds.drop n) (vs.drop n)
  | ds, vs, 0, h => h
  | [], _, n + 1, h => by rw [reps_nil_eq h]; exact reps_nil
  | d :: ds, _, n + 1, h => by
    obtain ⟨v, r, rfl, hv, hr⟩ := reps_cons_eq h
    exact Reps.drop n hr
theorem reps_ints : ∀ (ns : List Int), Reps K H (ns.map D.int) (ns.map V.int)
  | [] => reps_nil
  | n :: ns => reps_cons rep_int (reps_ints ns)
end

inductive AK where
  | l (a : Addr) | d (a : Addr)
deriving DecidableEq
instance : Coe Addr AK := ⟨AK.l⟩
abbrev DM := AK → Option (List D)
def putM (M : DM) (a : Addr) (ds : List D) : DM := fun b => if b = AK.l a then some ds else M b
def putK (M : DM) (a : Addr) (ds : List D) : DM := fun b => if b = AK.d a then some ds else M b
theorem putM_same {M : DM} {a : Addr} {ds : List D} : putM M a ds a = some ds := if_pos rfl
theorem putM_ne {M : DM} {a b : Addr} {ds : List D} (h : b ≠ a) : putM M a ds b = M b := if_neg fun e => h (AK.l.inj e)
theorem putM_neK {M : DM} {a : Addr} {b : AK} {ds : List D} (h : b ≠ AK.l a) : putM M a ds b = M b := if_neg h
theorem putM_d {M : DM} {a b : Addr} {ds : List D} : putM M a ds (.d b) = M (.d b) := if_neg fun e => nomatch e
theorem putM_putM {M : DM} {a : Addr} {ds es : List D} : putM (putM M a ds) a es = putM M a es := by
  funext b; unfold putM; split <;> rfl
theorem putK_same {M : DM} {a : Addr} {ds : List D} : putK M a ds (.d a) = some ds := if_pos rfl
theorem putK_ne {M : DM} {a b : Addr} {ds : List D} (h : b ≠ a) : putK M a ds (.d b) = M (.d b) := if_neg fun e => h (AK.d.inj e)
theorem putK_l {M : DM} {a b : Addr} {ds : List D} : putK M a ds (.l b) = M (.l b) := if_neg fun e => nomatch e
theorem putK_putK {M : DM} {a : Addr} {ds es : List D} : putK (putK M a ds) a es = putK M a es := by
  funext b; unfold putK; split <;> rfl
theorem ne_of_noneM {M : DM} {a b : Addr} {o : List D} (h : M a = some o) (h' : M b = none) : a ≠ b := by
  intro e; subst e; rw [h] at h'; cases h'
theorem ne_of_noneK {M : DM} {a b : AK} {o : List D} (h : M a = some o) (h' : M b = none) : a ≠ b := by
  intro e; subst e; rw [h] at h'; cases h'
def DictO (a : Addr) (es : List DictEntry) : Heap → Prop := fun h => (a == sysModules) = false ∧ es.length ≤ sizeLine ∧ ∃ ep, h.get? a = some { cls := .type "dict", data := .dict es.toArray ep }
def EntR (K : PySem.W.Frag) (H : Hp) (d : D) (e : DictEntry) : Prop := ∃ k v kv vv, d = .tup [.int e.hash, k, v] ∧ RelV kv e.key ∧ Rep K H k kv ∧ RelV vv e.val ∧ Rep K H v vv
theorem EntR.ext {K : PySem.W.Frag} {H H' : Hp} {d : D} {e : DictEntry} (h : EntR K H d e) (x : Ext H H') : EntR K H' d e :=
  let ⟨k, v, kv, vv, a, b, c, f, g⟩ := h; ⟨k, v, kv, vv, a, b, c.ext x, f, g.ext x⟩
abbrev EntsR (K : PySem.W.Frag) (H : Hp) (ds : List D) (es : List DictEntry) : Prop := Paired (EntR K H) ds es
theorem entsR_ext {K : PySem.W.Frag} {H H' : Hp} {ds : List D} {es : List DictEntry} (h : EntsR K H ds es) (x : Ext H H') : EntsR K H' ds es := Paired.mapP h fun _ _ r => r.ext x
structure HRep (K : PySem.W.Frag) (M : DM) (H : Hp) : Prop where
  l : ∀ (a : Addr) ds, M (.l a) = some ds → ∃ xs, H a = some (.lst xs) ∧ Reps K H ds xs
  d : ∀ (a : Addr) ds, M (.d a) = some ds → ∃ es, H a = some (.ext (DictO a es)) ∧ EntsR K H ds es
theorem Ext.putX {H : Hp} {p : Addr} {φ : Heap → Prop} (h : H p = some (.ext φ)) (o : HO) : Ext H (upd H p o) :=
  ⟨fun a ys e => by rw [upd_ne (ne_of e h (by intro z; cases z))]; exact e, fun a ob u e => by rw [upd_ne (ne_of e h (by intro z; cases z))]; exact e⟩
section
variable {K : PySem.W.Frag} {H H' : Hp} {M M' : DM}
theorem HRep.fresh (h : HRep K M H) {p : Addr} (e : H p = none) : M p = none := by
  cases q : M p with
  | none => rfl
  | some ds => obtain ⟨xs, z, _⟩ := h.l p ds q; rw [e] at z; cases z
theorem HRep.freshD (h : HRep K M H) {p : Addr} (e : H p = none) : M (.d p) = none := by
  cases q : M (.d p) with
  | none => rfl
  | some ds => obtain ⟨xs, z, _⟩ := h.d p ds q; rw [e] at z; cases z
theorem HRep.new (h : HRep K M H) {p : Addr} (e : H p = none) (o : HO) : HRep K M (upd H p o) where
  l := fun a ds q => by
    obtain ⟨xs, z, r⟩ := h.l a ds q
    exact ⟨xs, by rw [upd_ne (ne_of_none z e)]; exact z, r.ext (Ext.new e o)⟩
  d := fun a ds q => by
    obtain ⟨xs, z, r⟩ := h.d a ds q
    exact ⟨xs, by rw [upd_ne (ne_of_none z e)]; exact z, entsR_ext r (Ext.new e o)⟩
theorem HRep.lnew (h : HRep K M H) {p : Addr} (e : H p = none) {xs : List V} {ds : List D} (r : Reps K H ds xs) : HRep K (putM M p ds) (upd H p (.lst xs)) where
  l := fun a es q => by
    by_cases ha : a = p
    · subst ha
      rw [putM_same] at q
      cases q
      exact ⟨xs, upd_same, r.ext (Ext.new e _)⟩
    · rw [putM_ne ha] at q
      obtain ⟨ys, z, r2⟩ := h.l a es q
      exact ⟨ys, by rw [upd_ne ha]; exact z, r2.ext (Ext.new e _)⟩
  d := fun a es q => by
    rw [putM_d] at q
    obtain ⟨ys, z, r2⟩ := h.d a es q
    exact ⟨ys, by rw [upd_ne (ne_of_none z e)]; exact z, entsR_ext r2 (Ext.new e _)⟩
theorem HRep.put (h : HRep K M H) {p : Addr} {xs0 : List V} (e : H p = some (.lst xs0)) {xs : List V} {ds : List D} (r : Reps K H ds xs) : HRep K (putM M p ds) (upd H p (.lst xs)) where
  l := fun a es q => by
    by_cases ha : a = p
    · subst ha
      rw [putM_same] at q
      cases q
      exact ⟨xs, upd_same, r.ext (Ext.put e _)⟩
    · rw [putM_ne ha] at q
      obtain ⟨ys, z, r2⟩ := h.l a es q
      exact ⟨ys, by rw [upd_ne ha]; exact z, r2.ext (Ext.put e _)⟩
  d := fun a es q => by
    rw [putM_d] at q
    obtain ⟨ys, z, r2⟩ := h.d a es q
    exact ⟨ys, by rw [upd_ne (ne_of z e (by intro z; cases z))]; exact z, entsR_ext r2 (Ext.put e _)⟩
theorem HRep.knew (h : HRep K M H) {p : Addr} (e : H p = none) {xs : List DictEntry} {ds : List D} (r : EntsR K H ds xs) : HRep K (putK M p ds) (upd H p (.ext (DictO p xs))) where
  d := fun a es q => by
    by_cases ha : a = p
    · subst ha
      rw [putK_same] at q
      cases q
      exact ⟨xs, upd_same, entsR_ext r (Ext.new e _)⟩
    · rw [putK_ne ha] at q
      obtain ⟨ys, z, r2⟩ := h.d a es q
      exact ⟨ys, by rw [upd_ne ha]; exact z, entsR_ext r2 (Ext.new e _)⟩
  l := fun a es q => by
    rw [putK_l] at q
    obtain ⟨ys, z, r2⟩ := h.l a es q
    exact ⟨ys, by rw [upd_ne (ne_of_none z e)]; exact z, r2.ext (Ext.new e _)⟩
theorem HRep.kput (h : HRep K M H) {p : Addr} {φ : Heap → Prop} (e : H p = some (.ext φ)) {xs : List DictEntry} {ds : List D} (r : EntsR K H ds xs) : HRep K (putK M p ds) (upd H p (.ext (DictO p xs))) where
  d := fun a es q => by
    by_cases ha : a = p
    · subst ha
      rw [putK_same] at q
      cases q
      exact ⟨xs, upd_same, entsR_ext r (Ext.putX e _)⟩
    · rw [putK_ne ha] at q
      obtain ⟨ys, z, r2⟩ := h.d a es q
      exact ⟨ys, by rw [upd_ne ha]; exact z, entsR_ext r2 (Ext.putX e _)⟩
  l := fun a es q => by
    rw [putK_l] at q
    obtain ⟨ys, z, r2⟩ := h.l a es q
    exact ⟨ys, by rw [upd_ne (ne_of z e (by intro z; cases z))]; exact z, r2.ext (Ext.putX e _)⟩
def SubM (M M' : DM) : Prop := ∀ a o, M a = some o → M' a = some o
theorem SubM.refl (M : DM) : SubM M M := fun _ _ h => h
theorem SubM.trans {M1 M2 M3 : DM} (a : SubM M1 M2) (b : SubM M2 M3) : SubM M1 M3 := fun c o h => b c o (a c o h)
theorem SubM.new {M : DM} {p : Addr} (h : M p = none) (ds : List D) : SubM M (putM M p ds) := fun a o e => by rw [putM_neK (ne_of_noneK e h)]; exact e
theorem HRep.sub (h : HRep K M' H) (s : SubM M M') : HRep K M H := ⟨fun a ds q => h.l a ds (s _ ds q), fun a ds q => h.d a ds (s _ ds q)⟩
end

abbrev DEnv := List (Option D)
structure RepE (K : PySem.W.Frag) (H : Hp) (ρ : DEnv) (σ : L2.St) : Prop where
  len : ρ.length = σ.length
  get : ∀ (i : Nat) d, ρ[i]? = some (some d) → ∃ v, σ[i]? = some (some v) ∧ Rep K H d v
section
variable {K : PySem.W.Frag} {H H' : Hp} {ρ : DEnv} {σ : L2.St}
theorem RepE.ext (h : RepE K H ρ σ) (e : Ext H H') : RepE K H' ρ σ := ⟨h.len, fun i d q => let ⟨v, a, b⟩ := h.get i d q; ⟨v, a, b.ext e⟩⟩
theorem RepE.set (h : RepE K H ρ σ) {d : D} {v : V} (r : Rep K H d v) (i : Nat) : RepE K H (ρ.set i (some d)) (σ.set i (some v)) := by
  refine ⟨by rw [List.length_set, List.length_set, h.len], fun j d' q => ?_⟩
  rw [List.getElem?_set] at q
  by_cases hij : i = j
  · subst hij
    rw [if_pos rfl] at q
    by_cases hl : i < ρ.length
    · rw [if_pos hl] at q
      cases q
      exact ⟨v, by rw [List.getElem?_set, if_pos rfl, if_pos (by rw [← h.len]; exact hl)], r⟩
    · rw [if_neg hl] at q
      cases q
  · rw [if_neg hij] at q
    obtain ⟨u, a, b⟩ := h.get j d' q
    exact ⟨u, by rw [List.getElem?_set, if_neg hij]; exact a, b⟩
end

abbrev DQ := D → DM → Prop
abbrev DE := DEnv → DM → DQ → Prop
abbrev DT := DEnv → DM → (Bool → DM → Prop) → Prop
abbrev DA := DEnv → DM → (List D → DM → Prop) → Prop
structure DEnds where
  nx : DEnv → DM → Prop
  rt : DQ
  bk : DEnv → DM → Prop := fun _ _ => False
  ct : DEnv → DM → Prop := fun _ _ => False
abbrev DS := DEnds → DEnv → DM → Prop
abbrev DG := D → DEnv → DM → (DEnv → DM → Prop) → Prop
abbrev DGs := List D → DEnv → DM → (DEnv → DM → Prop) → Prop
def LQ (K : PySem.W.Frag) (H : Hp) (Q : DQ) : VK := fun v H' => ∃ d M', Rep K H' d v ∧ HRep K M' H' ∧ Ext H H' ∧ Q d M'
def LT (K : PySem.W.Frag) (H : Hp) (Q : Bool → DM → Prop) : Bool → Hp → Prop := fun b H' => ∃ M', HRep K M' H' ∧ Ext H H' ∧ Q b M'
def LA (K : PySem.W.Frag) (H : Hp) (Q : List D → DM → Prop) : List V → Hp → Prop := fun vs H' => ∃ ds M', Reps K H' ds vs ∧ HRep K M' H' ∧ Ext H H' ∧ Q ds M'
def LN (K : PySem.W.Frag) (H : Hp) (Q : DEnv → DM → Prop) : L2.St → Hp → Prop := fun σ' H' => ∃ ρ' M', RepE K H' ρ' σ' ∧ HRep K M' H' ∧ Ext H H' ∧ Q ρ' M'
structure EndsOk (K : PySem.W.Frag) (H : Hp) (D : DEnds) (E : Ends) : Prop where
  nx : ∀ σ' H', LN K H D.nx σ' H' → E.nx σ' H'
  rt : ∀ v H', LQ K H D.rt v H' → E.rt v H'
  bk : ∀ σ' H', LN K H D.bk σ' H' → E.bk σ' H'
  ct : ∀ σ' H', LN K H D.ct σ' H' → E.ct σ' H'
def low (K : PySem.W.Frag) (t : DE) : TE := fun σ H Q => ∃ ρ M Q', RepE K H ρ σ ∧ HRep K M H ∧ t ρ M Q' ∧ ∀ v H', LQ K H Q' v H' → Q v H'
def lowT (K : PySem.W.Frag) (t : DT) : TT := fun σ H Q => ∃ ρ M Q', RepE K H ρ σ ∧ HRep K M H ∧ t ρ M Q' ∧ ∀ v H', LT K H Q' v H' → Q v H'
def lowA (K : PySem.W.Frag) (t : DA) : TA := fun σ H Q => ∃ ρ M Q', RepE K H ρ σ ∧ HRep K M H ∧ t ρ M Q' ∧ ∀ v H', LA K H Q' v H' → Q v H'
def lowS (K : PySem.W.Frag) (t : DS) : TS := fun E σ H => ∃ ρ M D, RepE K H ρ σ ∧ HRep K M H ∧ t D ρ M ∧ EndsOk K H D E
def lowG (K : PySem.W.Frag) (g : DG) : TG := fun v σ H Q => ∃ d ρ M Q', Rep K H d v ∧ RepE K H ρ σ ∧ HRep K M H ∧ g d ρ M Q' ∧ ∀ σ' H', LN K H Q' σ' H' → Q σ' H'
def lowGs (K : PySem.W.Frag) (g : DGs) : TGs := fun vs σ H Q => ∃ ds ρ M Q', Reps K H ds vs ∧ RepE K H ρ σ ∧ HRep K M H ∧ g ds ρ M Q' ∧ ∀ σ' H', LN K H Q' σ' H' → Q σ' H'
abbrev PDE (X : Cx) (e : Expr) (t : DE) : Prop := PE X e (low X.K t)
abbrev PDT (X : Cx) (e : Expr) (t : DT) : Prop := PT X e (lowT X.K t)
abbrev PDW (X : Cx) (e : Expr) (t : DT) : Prop := PW X e (lowT X.K t)
abbrev PDA (X : Cx) (es : List Expr) (t : DA) : Prop := PA X es (lowA X.K t)
abbrev PDS (X : Cx) (st : Stmt) (t : DS) : Prop := PS X st (lowS X.K t)
abbrev PDSs (X : Cx) (st : List Stmt) (t : DS) : Prop := PSs X st (lowS X.K t)
abbrev PDG (X : Cx) (e : Expr) (g : DG) : Prop := PG X e (lowG X.K g)
abbrev PDGs (X : Cx) (es : List Expr) (g : DGs) : Prop := PGs X es (lowGs X.K g)
section
variable {K : PySem.W.Frag} {H H1 : Hp}
theorem LQ.back {Q : DQ} {v : V} {H2 : Hp} (e : Ext H H1) (h : LQ K H1 Q v H2) : LQ K H Q v H2 := let ⟨d, M, a, b, c, q⟩ := h; ⟨d, M, a, b, e.trans c, q⟩
theorem LT.back {Q : Bool → DM → Prop} {v : Bool} {H2 : Hp} (e : Ext H H1) (h : LT K H1 Q v H2) : LT K H Q v H2 := let ⟨M, b, c, q⟩ := h; ⟨M, b, e.trans c, q⟩
theorem LA.back {Q : List D → DM → Prop} {v : List V} {H2 : Hp} (e : Ext H H1) (h : LA K H1 Q v H2) : LA K H Q v H2 := let ⟨d, M, a, b, c, q⟩ := h; ⟨d, M, a, b, e.trans c, q⟩
theorem LN.back {Q : DEnv → DM → Prop} {v : L2.St} {H2 : Hp} (e : Ext H H1) (h : LN K H1 Q v H2) : LN K H Q v H2 := let ⟨d, M, a, b, c, q⟩ := h; ⟨d, M, a, b, e.trans c, q⟩
theorem EndsOk.at {D : DEnds} {E : Ends} (h : EndsOk K H D E) (e : Ext H H1) : EndsOk K H1 D E :=
  ⟨fun s H2 q => h.nx s H2 (q.back e), fun s H2 q => h.rt s H2 (q.back e), fun s H2 q => h.bk s H2 (q.back e), fun s H2 q => h.ct s H2 (q.back e)⟩
end
section
variable {X : Cx} {e : Expr} {st : Stmt} {sts : List Stmt}
theorem pe_imp {t u : TE} (h : PE X e t) (k : ∀ σ H Q, u σ H Q → t σ H Q) : PE X e u := fun pins s σ H Q I q => h pins s σ H Q I (k σ H Q q)
theorem pt_imp {t u : TT} (h : PT X e t) (k : ∀ σ H Q, u σ H Q → t σ H Q) : PT X e u := fun pins s σ H Q I q => h pins s σ H Q I (k σ H Q q)
theorem pw_imp {t u : TT} (h : PW X e t) (k : ∀ σ H Q, u σ H Q → t σ H Q) : PW X e u := fun wh pins s σ H Q I q => h wh pins s σ H Q I (k σ H Q q)
theorem pa_imp {es : List Expr} {t u : TA} (h : PA X es t) (k : ∀ σ H Q, u σ H Q → t σ H Q) : PA X es u := fun pos pins s σ H Q I q => h pos pins s σ H Q I (k σ H Q q)
theorem ps_imp {t u : TS} (h : PS X st t) (k : ∀ D σ H, u D σ H → t D σ H) : PS X st u := fun pins s σ H D I q => h pins s σ H D I (k D σ H q)
theorem pss_imp {t u : TS} (h : PSs X sts t) (k : ∀ D σ H, u D σ H → t D σ H) : PSs X sts u := fun pins s σ H D I q => h pins s σ H D I (k D σ H q)
theorem pg_imp {t u : TG} (h : PG X e t) (k : ∀ v σ H Q, u v σ H Q → t v σ H Q) : PG X e u := fun pins s σ H v w Q I r q => h pins s σ H v w Q I r (k v σ H Q q)
theorem pgs_imp {es : List Expr} {t u : TGs} (h : PGs X es t) (k : ∀ v σ H Q, u v σ H Q → t v σ H Q) : PGs X es u := fun pins s σ H v w Q I r q => h pins s σ H v w Q I r (k v σ H Q q)
end

section
variable {X : Cx} {a b c e : Expr} {es : List Expr} {ta tb tc te : DE} {tA tB : DT} {t : DA} {pos : Pos}
def dVar (i : Nat) : DE := fun ρ M Q => match ρ[i]? with
  | some (some d) => Q d M
  | _ => False
theorem de_var (i : Nat) {x : Str} {pos : Pos} (hN : X.N[i]? = some x := by rfl) (hv : Vis X.env.scope x := by first | exact Or.inl rfl | exact Or.inr (Or.inl rfl) | exact Or.inr (Or.inr rfl)) (hd : (x == ("__debug__" : Str)) = false := by decide)
    (hcd : (x == ("__classdict__" : Str)) = false := by decide) : PDE X (.Name x pos) (dVar i) :=
  pe_imp (pe_var (i := i) hN hv hd hcd) fun σ H Q ⟨ρ, M, Q', re, hm, q, k⟩ => by
    unfold dVar at q
    split at q
    · rename_i d e
      obtain ⟨v, e1, r⟩ := re.get i d e
      exact ⟨v, e1, k v H ⟨d, M, r, hm, .refl H, q⟩⟩
    · exact q.elim
def dC (d : D) : DE := fun _ M Q => Q d M
theorem de_int {i j pos} : PDE X (.Constant (.int i) j pos) (dC (.int i)) := pe_imp pe_int fun σ H Q ⟨ρ, M, Q', re, hm, q, k⟩ => k _ H ⟨_, M, rep_int, hm, .refl H, q⟩
theorem de_bl {i j pos} : PDE X (.Constant (.bool i) j pos) (dC (.bl i)) := pe_imp pe_bl fun σ H Q ⟨ρ, M, Q', re, hm, q, k⟩ => k _ H ⟨_, M, rep_bl, hm, .refl H, q⟩
theorem de_non {j pos} : PDE X (.Constant .none j pos) (dC .non) := pe_imp pe_non fun σ H Q ⟨ρ, M, Q', re, hm, q, k⟩ => k _ H ⟨_, M, rep_non, hm, .refl H, q⟩
theorem de_str {x j pos} : PDE X (.Constant (.str x) j pos) (dC (.str x)) := pe_imp pe_str fun σ H Q ⟨ρ, M, Q', re, hm, q, k⟩ => k _ H ⟨_, M, rep_str, hm, .refl H, q⟩
abbrev D2 := D → D → DM → DQ → Prop
def OpL (K : PySem.W.Frag) (r : R2) (r' : D2) : Prop := ∀ x y H M dx dy Q, Rep K H dx x → Rep K H dy y → HRep K M H → r' dx dy M Q → r x y H (LQ K H Q)
def OpD (X : Cx) (f : Value → Value → Sem Value) (r' : D2) : Prop :=
  OpR X f fun x y H Q => ∃ dx dy M Q', Rep X.K H dx x ∧ Rep X.K H dy y ∧ HRep X.K M H ∧ r' dx dy M Q' ∧ ∀ v H', LQ X.K H Q' v H' → Q v H'
theorem ep_mono {pins : List (Addr × Obj)} {σ : L2.St} {Q Q' : VK} {u : Value} {s : Shared} (h : EP X pins σ Q u s) (k : ∀ v H, Q v H → Q' v H) : EP X pins σ Q' u s := let ⟨v, H, a, b, c⟩ := h; ⟨v, H, a, b, k v H c⟩
theorem OpD.of {f : Value → Value → Sem Value} {r : R2} {r' : D2} (h : OpR X f r) (l : OpL X.K r r') : OpD X f r' := fun pins s σ H x y v u Q I rx ry ⟨dx, dy, M, Q', r1, r2, hm, q, k⟩ =>
  thn (h pins s σ H x y v u _ I rx ry (l x y H M dx dy Q' r1 r2 hm q)) fun v s h => ep_mono h k
def dOp (r : D2) (ta tb : DE) : DE := fun ρ M Q => ta ρ M fun x M1 => tb ρ M1 fun y M2 => r x y M2 Q
theorem low_op {r' : D2} {σ : L2.St} {H : Hp} {Q : VK} {R : V → V → Hp → VK → Prop} (hR : ∀ x y H1 Q1, (∃ dx dy M Q', Rep X.K H1 dx x ∧ Rep X.K H1 dy y ∧ HRep X.K M H1 ∧ r' dx dy M Q' ∧ ∀ v H', LQ X.K H1 Q' v H' → Q1 v H') → R x y H1 Q1)
    (h : low X.K (dOp r' ta tb) σ H Q) : low X.K ta σ H fun x H1 => low X.K tb σ H1 fun y H2 => R x y H2 Q := by
  obtain ⟨ρ, M, Q', re, hm, q, k⟩ := h
  refine ⟨ρ, M, _, re, hm, q, fun x H1 ⟨dx, M1, rx, hm1, e1, q1⟩ => ⟨ρ, M1, _, re.ext e1, hm1, q1, fun y H2 ⟨dy, M2, ry, hm2, e2, q2⟩ => ?_⟩⟩
  exact hR x y H2 Q ⟨dx, dy, M2, Q', rx.ext e2, ry, hm2, q2, fun v H' z => k v H' (z.back (e1.trans e2))⟩
theorem de_op {op : Operator} {r : D2} (ho : OpD X (binaryOp op) r) (ha : PDE X a ta) (hb : PDE X b tb) : PDE X (.BinOp a op b pos) (dOp r ta tb) :=
  pe_imp (pe_op ho ha hb) fun σ H Q h => low_op (fun _ _ _ _ z => z) h
theorem de_cmp {op : CmpOp} {r : D2} (ho : OpD X (compareOp op) r) (ha : PDE X a ta) (hb : PDE X b tb) (hm : behindInMarks op b = false := by exact nomark _) : PDE X (.Compare a [op] [b] pos) (dOp r ta tb) :=
  pe_imp (pe_cmpR ho ha hb hm) fun σ H Q h => low_op (fun _ _ _ _ z => z) h
def dTest (t : DE) : DT := fun ρ M Q => t ρ M fun d M' => match d with
  | .bl k => Q k M'
  | _ => False
theorem low_test {σ : L2.St} {H : Hp} {Q : Bool → Hp → Prop} (h : lowT X.K (dTest te) σ H Q) : low X.K te σ H fun x H' => ∃ k, x = .bl k ∧ Q k H' := by
  obtain ⟨ρ, M, Q', re, hm, q, k⟩ := h
  refine ⟨ρ, M, _, re, hm, q, fun x H1 ⟨d, M1, rd, hm1, e1, q1⟩ => ?_⟩
  cases d with
  | bl c => exact ⟨c, rep_bl_eq rd, k c H1 ⟨M1, hm1, e1, q1⟩⟩
  | _ => exact q1.elim
theorem dt_cmp {op : CmpOp} {r : D2} (ho : OpD X (compareOp op) r) (ha : PDE X a ta) (hb : PDE X b tb) (hm : behindInMarks op b = false := by exact nomark _) : PDT X (.Compare a [op] [b] pos) (dTest (dOp r ta tb)) :=
  pt_imp (pt_cmpR ho ha hb hm) fun σ H Q h => low_op (R := fun x y H Q1 => ∃ dx dy M Q', Rep X.K H dx x ∧ Rep X.K H dy y ∧ HRep X.K M H ∧ r dx dy M Q' ∧ ∀ v H', LQ X.K H Q' v H' → Q1 v H') (fun _ _ _ _ z => z) (low_test h)
theorem dt_val (h : PDE X e te) (he : ∀ whole, isTrue e X.env whole = (do let v ← whole; standAt e.pos; holding [v] (truthy v)) := by intro _; rfl) : PDT X e (dTest te) :=
  pt_imp (pt_val h he) fun σ H Q h => low_test h
def dAnd (t u : DT) : DT := fun ρ M Q => t ρ M fun c M1 => if c = true then u ρ M1 Q else Q false M1
def dOr (t u : DT) : DT := fun ρ M Q => t ρ M fun c M1 => if c = true then Q true M1 else u ρ M1 Q
def dNot (t : DT) : DT := fun ρ M Q => t ρ M fun c M1 => Q (!c) M1
variable {rest : List Expr}
theorem dw_and1 (ha : PDT X a tA) : PDW X (.BoolOp .And [a] pos) tA := pw_and1 ha
theorem dw_or1 (ha : PDT X a tA) : PDW X (.BoolOp .Or [a] pos) tA := pw_or1 ha
theorem dw_and (ha : PDT X a tA) (hb : PDW X (.BoolOp .And (b :: rest) pos) tB) : PDW X (.BoolOp .And (a :: b :: rest) pos) (dAnd tA tB) :=
  pw_imp (pw_and ha hb) fun σ H Q ⟨ρ, M, Q', re, hm, q, k⟩ => ⟨ρ, M, _, re, hm, q, fun c H1 ⟨M1, hm1, e1, q1⟩ => by
    cases c with
    | true => exact ⟨ρ, M1, _, re.ext e1, hm1, q1, fun v H' z => k v H' (z.back e1)⟩
    | false => exact k false H1 ⟨M1, hm1, e1, q1⟩⟩
theorem dw_or (ha : PDT X a tA) (hb : PDW X (.BoolOp .Or (b :: rest) pos) tB) : PDW X (.BoolOp .Or (a :: b :: rest) pos) (dOr tA tB) :=
  pw_imp (pw_or ha hb) fun σ H Q ⟨ρ, M, Q', re, hm, q, k⟩ => ⟨ρ, M, _, re, hm, q, fun c H1 ⟨M1, hm1, e1, q1⟩ => by
    cases c with
    | false => exact ⟨ρ, M1, _, re.ext e1, hm1, q1, fun v H' z => k v H' (z.back e1)⟩
    | true => exact k true H1 ⟨M1, hm1, e1, q1⟩⟩
theorem dt_w (h : PDW X e tA) : PDT X e tA := PW.pt h
theorem dt_not (ha : PDT X a tA) : PDT X (.UnaryOp .Not a pos) (dNot tA) :=
  pt_imp (pt_not ha) fun σ H Q ⟨ρ, M, Q', re, hm, q, k⟩ => ⟨ρ, M, _, re, hm, q, fun c H1 ⟨M1, hm1, e1, q1⟩ => k (!c) H1 ⟨M1, hm1, e1, q1⟩⟩
def dAndV (ta tb : DE) : DE := fun ρ M Q => ta ρ M fun x M1 => match x with
  | .bl c => if c = true then tb ρ M1 Q else Q (.bl false) M1
  | _ => False
def dOrV (ta tb : DE) : DE := fun ρ M Q => ta ρ M fun x M1 => match x with
  | .bl c => if c = true then Q (.bl true) M1 else tb ρ M1 Q
  | _ => False
def dNotV (ta : DE) : DE := fun ρ M Q => ta ρ M fun x M1 => match x with
  | .bl c => Q (.bl (!c)) M1
  | _ => False
theorem de_one {op} (h : PDE X a ta) : PDE X (.BoolOp op [a] pos) ta := pe_one h
theorem de_and (ha : PDE X a ta) (hb : PDE X (.BoolOp .And (b :: rest) pos) tb) : PDE X (.BoolOp .And (a :: b :: rest) pos) (dAndV ta tb) :=
  pe_imp (pe_and ha hb) fun σ H Q ⟨ρ, M, Q', re, hm, q, k⟩ => ⟨ρ, M, _, re, hm, q, fun x H1 ⟨d, M1, rd, hm1, e1, q1⟩ => by
    cases d with
    | bl c =>
      refine ⟨c, rep_bl_eq rd, ?_⟩
      cases c with
      | true => exact ⟨ρ, M1, _, re.ext e1, hm1, q1, fun v H' z => k v H' (z.back e1)⟩
      | false => exact k _ H1 ⟨_, M1, rep_bl, hm1, e1, q1⟩
    | _ => exact q1.elim⟩
theorem de_not (ha : PDE X a ta) : PDE X (.UnaryOp .Not a pos) (dNotV ta) :=
  pe_imp (pe_not ha) fun σ H Q ⟨ρ, M, Q', re, hm, q, k⟩ => ⟨ρ, M, _, re, hm, q, fun x H1 ⟨d, M1, rd, hm1, e1, q1⟩ => by
    cases d with
    | bl c => exact ⟨c, rep_bl_eq rd, k _ H1 ⟨_, M1, rep_bl, hm1, e1, q1⟩⟩
    | _ => exact q1.elim⟩
def dIfE (t : DT) (ta tb : DE) : DE := fun ρ M Q => t ρ M fun c M1 => if c = true then ta ρ M1 Q else tb ρ M1 Q
theorem de_ifExp (hc : PDT X c tA) (ha : PDE X a ta) (hb : PDE X b tb) : PDE X (.IfExp c a b pos) (dIfE tA ta tb) :=
  pe_imp (pe_ifExp hc ha hb) fun σ H Q ⟨ρ, M, Q', re, hm, q, k⟩ => ⟨ρ, M, _, re, hm, q, fun c H1 ⟨M1, hm1, e1, q1⟩ => by
    cases c with
    | true => exact ⟨ρ, M1, _, re.ext e1, hm1, q1, fun v H' z => k v H' (z.back e1)⟩
    | false => exact ⟨ρ, M1, _, re.ext e1, hm1, q1, fun v H' z => k v H' (z.back e1)⟩⟩

def dNil : DA := fun _ M Q => Q [] M
def dCons (ta : DE) (tr : DA) : DA := fun ρ M Q => ta ρ M fun x M1 => tr ρ M1 fun xs M2 => Q (x :: xs) M2
theorem da_nil : PDA X [] dNil := pa_imp pa_nil fun σ H Q ⟨ρ, M, Q', re, hm, q, k⟩ => k [] H ⟨[], M, reps_nil, hm, .refl H, q⟩
theorem da_cons (ha : PDE X e te) (hr : PDA X es t) (hs : starEach (e :: es) X.env = (false, eval e X.env) :: starEach es X.env := by rfl) : PDA X (e :: es) (dCons te t) :=
  pa_imp (pa_cons ha hr hs) fun σ H Q ⟨ρ, M, Q', re, hm, q, k⟩ => ⟨ρ, M, _, re, hm, q, fun x H1 ⟨dx, M1, rx, hm1, e1, q1⟩ => ⟨ρ, M1, _, re.ext e1, hm1, q1, fun xs H2 ⟨dxs, M2, rxs, hm2, e2, q2⟩ =>
    k _ H2 ⟨dx :: dxs, M2, reps_cons (rx.ext e2) rxs, hm2, e1.trans e2, q2⟩⟩⟩
def dTup (t : DA) : DE := fun ρ M Q => t ρ M fun xs M1 => xs.length ≤ 1000 ∧ Q (.tup xs) M1
def dLst (t : DA) : DE := fun ρ M Q => t ρ M fun xs M1 => xs.length ≤ 1000 ∧ ∀ p : Addr, M1 p = none → Q (.ref p) (putM M1 p xs)
theorem de_tup {x1} (h : PDA X es t) : PDE X (.Tuple es x1 pos) (dTup t) :=
  pe_imp (pe_tup h) fun σ H Q ⟨ρ, M, Q', re, hm, q, k⟩ => ⟨ρ, M, _, re, hm, q, fun xs H1 ⟨ds, M1, rs, hm1, e1, q1, q2⟩ => ⟨by rw [← rs.length]; exact Nat.le_of_lt (small1000 q1), fun p hp =>
    k _ _ ⟨.tup ds, M1, rep_tup_mk (.of upd_same) (rs.ext (Ext.new hp _)), hm1.new hp _, e1.trans (Ext.new hp _), q2⟩⟩⟩
theorem de_lst (h : PDA X es t) : PDE X (.List es pos) (dLst t) :=
  pe_imp (pe_lst h) fun σ H Q ⟨ρ, M, Q', re, hm, q, k⟩ => ⟨ρ, M, _, re, hm, q, fun xs H1 ⟨ds, M1, rs, hm1, e1, q1, q2⟩ => ⟨by rw [← rs.length]; exact Nat.le_of_lt (small1000 q1), fun p hp =>
    k _ _ ⟨.ref p, _, rep_ref, hm1.lnew hp rs, e1.trans (Ext.new hp _), q2 p (hm1.fresh hp)⟩⟩⟩
end
end Dd

set_option Elab.async false
set_option linter.all false
set_option maxRecDepth 100000
set_option maxHeartbeats 4000000

namespace Dd
open PySem PySem.Spec PyProof.Rows L2

section
variable {X : Cx} {st : Stmt} {rest : List Stmt} {t u : DS} {e : Expr} {te : DE} {pos : Pos}
def dNext : DS := fun E ρ M => E.nx ρ M
def dSeq (t u : DS) : DS := fun E ρ M => t { E with nx := u E } ρ M
theorem dss_nil : PDSs X [] dNext := pss_imp pss_nil fun E σ H ⟨ρ, M, D, re, hm, q, k⟩ => k.nx σ H ⟨ρ, M, re, hm, .refl H, q⟩
theorem dss_cons (h1 : PDS X st t) (h2 : PDSs X rest u) : PDSs X (st :: rest) (dSeq t u) :=
  pss_imp (pss_cons h1 h2) fun E σ H ⟨ρ, M, D, re, hm, q, k⟩ => ⟨ρ, M, { D with nx := u D }, re, hm, q,
    ⟨fun σ' H' ⟨ρ', M', re', hm', ex, q'⟩ => ⟨ρ', M', D, re', hm', q', k.at ex⟩, k.rt, k.bk, k.ct⟩⟩
theorem dss_one (h1 : PDS X st t) : PDSs X [st] t := pss_one h1
def dBreak : DS := fun E ρ M => E.bk ρ M
def dCont : DS := fun E ρ M => E.ct ρ M
def dDrop (te : DE) : DS := fun E ρ M => te ρ M fun _ M1 => E.nx ρ M1
theorem ds_expr (he : PDE X e te) (hs : swapsWith e none pos.line X.env = pure false := by rfl) : PDS X (.Expr e pos) (dDrop te) :=
  ps_imp (ps_expr he hs) fun E σ H ⟨ρ, M, D, re, hm, q, k⟩ => ⟨ρ, M, _, re, hm, q, fun v H1 ⟨d, M1, rd, hm1, ex, q1⟩ => k.nx σ H1 ⟨ρ, M1, re.ext ex, hm1, ex, q1⟩⟩
def dRet (te : DE) : DS := fun E ρ M => te ρ M E.rt
theorem ds_ret (he : PDE X e te) : PDS X (.Return (some e) pos) (dRet te) :=
  ps_imp (ps_ret he) fun E σ H ⟨ρ, M, D, re, hm, q, k⟩ => ⟨ρ, M, _, re, hm, q, k.rt⟩
def dRetN : DS := fun E _ M => E.rt .non M
def dIfS (c : DT) (t u : DS) : DS := fun E ρ M => c ρ M fun b M1 => if b = true then t E ρ M1 else u E ρ M1
theorem ds_if {c : Expr} {a b : List Stmt} {tc : DT} (hc : PDT X c tc) (ha : PDSs X a t) (hb : PDSs X b u) : PDS X (.If c a b pos) (dIfS tc t u) :=
  ps_imp (ps_if hc ha hb) fun E σ H ⟨ρ, M, D, re, hm, q, k⟩ => ⟨ρ, M, _, re, hm, q, fun b H1 ⟨M1, hm1, ex, q1⟩ => by
    cases b with
    | true => exact ⟨ρ, M1, D, re.ext ex, hm1, q1, k.at ex⟩
    | false => exact ⟨ρ, M1, D, re.ext ex, hm1, q1, k.at ex⟩⟩
def dNever : DS := fun _ _ _ => False
theorem ds_never : PDS X st dNever := fun _ _ _ _ _ _ ⟨_, _, _, _, _, q, _⟩ => q.elim
end

section
variable {X : Cx} {pos : Pos} {e tg : Expr} {es : List Expr} {te : DE}
def gN (i : Nat) : DG := fun d ρ M Q => Q (ρ.set i (some d)) M
theorem dg_name {i : Nat} {x : Str} (hN : X.N.Nodup) (hi : X.N[i]? = some x := by rfl) (hx : Loc X.env.scope x := by first | exact Or.inl rfl | exact Or.inr rfl) (hf : X.fn x = true ∨ X.env.scope.names.lookup x = some .local := by first | exact .inl rfl | exact .inr rfl | assumption) : PDG X (.Name x pos) (gN i) :=
  pg_imp (pg_name (i := i) hN hi hx hf) fun v σ H Q ⟨d, ρ, M, Q', rd, re, hm, q, k⟩ => k _ H ⟨_, M, re.set rd i, hm, .refl H, q⟩
def gNl : DGs := fun ds ρ M Q => match ds with
  | [] => Q ρ M
  | _ => False
def gCn (t : DG) (u : DGs) : DGs := fun ds ρ M Q => match ds with
  | d :: r => t d ρ M fun ρ' M' => u r ρ' M' Q
  | [] => False
theorem dgs_nil : PDGs X [] gNl := pgs_imp pgs_nil fun v σ H Q ⟨ds, ρ, M, Q', rd, re, hm, q, k⟩ => by
  cases ds with
  | nil => exact ⟨reps_nil_eq rd, k σ H ⟨ρ, M, re, hm, .refl H, q⟩⟩
  | cons _ _ => exact q.elim
theorem dgs_cons {t : DG} {u : DGs} (h1 : PDG X e t) (h2 : PDGs X es u) (hs : (assignEach (e :: es) X.env).map (·.2) = assign e X.env :: (assignEach es X.env).map (·.2) := by rfl) : PDGs X (e :: es) (gCn t u) :=
  pgs_imp (pgs_cons h1 h2 hs) fun v σ H Q ⟨ds, ρ, M, Q', rd, re, hm, q, k⟩ => by
    cases ds with
    | nil => exact q.elim
    | cons d r =>
      obtain ⟨x, xs, rfl, rx, rxs⟩ := reps_cons_eq rd
      exact ⟨x, xs, rfl, d, ρ, M, _, rx, re, hm, q, fun σ' H' ⟨ρ', M', re', hm', ex, q'⟩ => ⟨r, ρ', M', Q', rxs.ext ex, re', hm', q', fun σ2 H2 z => k σ2 H2 (z.back ex)⟩⟩
def gT (n : Nat) (t : DGs) : DG := fun d ρ M Q => match d with
  | .tup ds => ds.length = n ∧ t ds ρ M Q
  | _ => False
theorem dg_tup {k : Nat} {t : DGs} {n : Nat} (hc : X.calm = true) (h : PDGs X es t) (hn : (assignEach es X.env).length = n := by rfl) (hst : (assignEach es X.env).findIdx? (·.1) = none := by rfl) : PDG X (.Tuple es k pos) (gT n t) :=
  pg_imp (pg_tup hc h hn hst) fun v σ H Q ⟨d, ρ, M, Q', rd, re, hm, q, k⟩ => by
    cases d with
    | tup ds =>
      obtain ⟨a, xs, rfl, sq, rs⟩ := rep_tup rd
      exact ⟨a, xs, rfl, sq, by rw [← rs.length]; exact q.1, ds, ρ, M, Q', rs, re, hm, q.2, k⟩
    | _ => exact q.elim
def dAsg (te : DE) (g : DG) : DS := fun E ρ M => te ρ M fun x M1 => g x ρ M1 E.nx
theorem low_asg {g : DG} {σ : L2.St} {H : Hp} {E : Ends} (h : lowS X.K (dAsg te g) E σ H) : low X.K te σ H fun x H1 => lowG X.K g x σ H1 E.nx := by
  obtain ⟨ρ, M, D, re, hm, q, k⟩ := h
  exact ⟨ρ, M, _, re, hm, q, fun v H1 ⟨d, M1, rd, hm1, ex, q1⟩ => ⟨d, ρ, M1, _, rd, re.ext ex, hm1, q1, fun σ' H' z => k.nx σ' H' (z.back ex)⟩⟩
theorem ds_asg {g : DG} (he : PDE X e te) (hg : PDG X tg g) (hs : swapsWithSole [tg] e pos.line X.env = pure false := by rfl) (hw : swappedStores [tg] e X.env = pure none := by rfl)
    (h1 : (assignEach [tg] X.env).map (·.2) = [assign tg X.env] := by rfl) : PDS X (.Assign [tg] e pos) (dAsg te g) :=
  ps_imp (ps_asg he hg hs hw h1) fun E σ H h => low_asg h
theorem ds_set {i : Nat} {x : Str} {pos' : Pos} (hN : X.N.Nodup) (he : PDE X e te) (hi : X.N[i]? = some x := by rfl) (hx : Loc X.env.scope x := by first | exact Or.inl rfl | exact Or.inr rfl) (hs : swapsWith e (some (.Name x pos')) pos.line X.env = pure false := by rfl) (hf : X.fn x = true ∨ X.env.scope.names.lookup x = some .local := by first | exact .inl rfl | exact .inr rfl | assumption) :
    PDS X (.Assign [.Name x pos'] e pos) (dAsg te (gN i)) :=
  ps_imp (ps_set (i := i) hN hi hx he hs hf) fun E σ H ⟨ρ, M, D, re, hm, q, k⟩ => ⟨ρ, M, _, re, hm, q, fun v H1 ⟨d, M1, rd, hm1, ex, q1⟩ => k.nx _ H1 ⟨_, M1, (re.ext ex).set rd i, hm1, ex, q1⟩⟩
def dPar (i j : Nat) (ta : DA) : DS := fun E ρ M => ta ρ M fun ds M1 => match ds with
  | [x, y] => E.nx ((ρ.set i (some x)).set j (some y)) M1
  | _ => False
theorem ds_par {i j : Nat} {x y : Str} {a b : Expr} {ta : DA} {px py pt : Pos} {kt k2 pt2} (hc : X.calm = true) (hN : X.N.Nodup) (ha : PDA X [a, b] ta) (hi : X.N[i]? = some x := by rfl) (hj : X.N[j]? = some y := by rfl) (hij : i ≠ j := by decide)
    (hx : X.env.scope.names.lookup x = some .local := by rfl) (hy : X.env.scope.names.lookup y = some .local := by rfl)
    (hw : swappedStores [.Tuple [.Name x px, .Name y py] kt pt] (.Tuple [a, b] k2 pt2) X.env = pure (some [x, y]) := by rfl)
    (hs : swapsWithSole [.Tuple [.Name x px, .Name y py] kt pt] (.Tuple [a, b] k2 pt2) pos.line X.env = pure false := by rfl) :
    PDS X (.Assign [.Tuple [.Name x px, .Name y py] kt pt] (.Tuple [a, b] k2 pt2) pos) (dPar i j ta) :=
  ps_imp (ps_par (i := i) (j := j) hc hN hi hj hij hx hy ha hw hs) fun E σ H ⟨ρ, M, D, re, hm, q, k⟩ => ⟨ρ, M, _, re, hm, q, fun vs H1 ⟨ds, M1, rs, hm1, ex, q1⟩ => by
    match ds, q1 with
    | [d1, d2], q1 =>
      obtain ⟨v1, r1, rfl, rv1, rr1⟩ := reps_cons_eq rs
      obtain ⟨v2, r2, rfl, rv2, rr2⟩ := reps_cons_eq rr1
      obtain rfl := reps_nil_eq rr2
      exact ⟨v1, v2, rfl, k.nx _ H1 ⟨_, M1, ((re.ext ex).set rv1 i).set rv2 j, hm1, ex, q1⟩⟩
    | [], q1 => exact q1.elim
    | [_], q1 => exact q1.elim
    | _ :: _ :: _ :: _, q1 => exact q1.elim⟩
def dSetI (to ti : DE) : DG := fun d ρ M Q => to ρ M fun o M1 => ti ρ M1 fun i M2 => match o, i with
  | .ref p, .int k => ∃ ds j, M2 p = some ds ∧ ixN ds.length k = some j ∧ Q ρ (putM M2 p (ds.set j d))
  | _, _ => False
theorem dg_sub {o i : Expr} {to ti : DE} (ho : PDE X o to) (hi : PDE X i ti)
    (ha : ∀ v, assign (.Subscript o i pos) X.env v = (do
      let ov ← holding [v] (eval o X.env)
      let iv ← holding [v, ov] (eval i X.env)
      standAt pos
      holding [v, ov, iv] (setItem ov iv v)
      release [v, ov, iv] []) := by intro _; rfl) : PDG X (.Subscript o i pos) (dSetI to ti) :=
  pg_imp (pg_sub ho hi set_list ha) fun v σ H Q ⟨d, ρ, M, Q', rd, re, hm, q, k⟩ => ⟨ρ, M, _, re, hm, q, fun ov H1 ⟨dov, M1, rov, hm1, e1, q1⟩ => ⟨ρ, M1, _, re.ext e1, hm1, q1, fun iv H2 ⟨div, M2, riv, hm2, e2, q2⟩ => by
    cases dov with
    | ref p =>
      cases div with
      | int z =>
        obtain ⟨ds, j, hp, hj, q2⟩ := q2
        obtain rfl := rep_ref_eq rov
        obtain rfl := rep_int_eq riv
        obtain ⟨xs, hx, rs⟩ := hm2.l p ds hp
        exact ⟨p, xs, z, j, rfl, rfl, hx, by rw [← rs.length]; exact hj, k _ _ ⟨ρ, _, ((re.ext e1).ext e2).ext (Ext.put hx _), hm2.put hx (rs.set ((rd.ext e1).ext e2) j), (e1.trans e2).trans (Ext.put hx _), q2⟩⟩
      | _ => exact q2.elim
    | _ => exact q2.elim⟩⟩
end

section
variable {X : Cx} {pos : Pos}
def dWhile (c : DT) (tb : DS) : DS := fun E ρ M => ∃ W : Nat → DEnv → DM → Prop, (∃ m, W m ρ M) ∧ ∀ m ρ M, W m ρ M →
  c ρ M fun b M1 => if b = true then tb { E with nx := fun ρ' M' => ∃ m', m' < m ∧ W m' ρ' M', ct := fun ρ' M' => ∃ m', m' < m ∧ W m' ρ' M', bk := E.nx } ρ M1 else E.nx ρ M1
theorem ds_while {c : Expr} {body : List Stmt} {tc : DT} {tb : DS} (hp : PassesOwn (model X.prog X.w) X.A X.env X.xe) (hc : PDT X c tc) (hb : PDSs X body tb) : PDS X (.While c body [] pos) (dWhile tc tb) :=
  ps_imp (ps_while hp hc hb) fun E σ H ⟨ρ, M, D, re, hm, ⟨W, ⟨m0, w0⟩, turn⟩, k⟩ => by
    refine ⟨fun m σ' H' => ∃ ρ' M', RepE X.K H' ρ' σ' ∧ HRep X.K M' H' ∧ Ext H H' ∧ W m ρ' M', ⟨m0, ρ, M, re, hm, .refl H, w0⟩, ?_⟩
    rintro m σ1 H1 ⟨ρ1, M1, re1, hm1, e1, w1⟩
    refine ⟨ρ1, M1, _, re1, hm1, turn m ρ1 M1 w1, fun b H2 ⟨M2, hm2, e2, q2⟩ => ?_⟩
    cases b with
    | false => exact k.nx σ1 H2 ⟨ρ1, M2, re1.ext e2, hm2, e1.trans e2, q2⟩
    | true =>
      refine ⟨fun σ' H' => ∃ m', m' < m ∧ ∃ ρ' M', RepE X.K H' ρ' σ' ∧ HRep X.K M' H' ∧ Ext H H' ∧ W m' ρ' M', fun σ' H' z => z, ?_⟩
      refine ⟨ρ1, M2, _, re1.ext e2, hm2, q2, ?_⟩
      have ex := e1.trans e2
      exact ⟨fun σ' H' ⟨ρ', M', a, b, c, m', l, d⟩ => ⟨m', l, ρ', M', a, b, ex.trans c, d⟩, fun v H' z => k.rt v H' (z.back ex), fun σ' H' z => k.nx σ' H' (z.back ex), fun σ' H' ⟨ρ', M', a, b, c, m', l, d⟩ => ⟨m', l, ρ', M', a, b, ex.trans c, d⟩⟩
theorem dwhile_by {c : DT} {tb : DS} {E : DEnds} {ρ : DEnv} {M : DM} (Pv : Nat → DEnv → DM → Prop) (m0 : Nat) (h0 : Pv m0 ρ M)
    (hs : ∀ m ρ M, Pv m ρ M → c ρ M fun b M1 => if b = true then tb { E with nx := fun ρ' M' => ∃ m', m' < m ∧ Pv m' ρ' M', ct := fun ρ' M' => ∃ m', m' < m ∧ Pv m' ρ' M', bk := E.nx } ρ M1 else E.nx ρ M1) : dWhile c tb E ρ M := ⟨Pv, ⟨m0, h0⟩, hs⟩

def dIt (at' : Option Addr) (ds : List D) (g : DG) (tb : DS) : DS := fun E ρ M => ∃ Pv : Nat → DEnv → DM → Prop, Pv 0 ρ M ∧
  (∀ i ρ M, i ≤ ds.length → Pv i ρ M → ∀ a, at' = some a → M a = some ds) ∧
  (∀ i d ρ M, ds[i]? = some d → Pv i ρ M → g d ρ M fun ρ2 M2 => tb { E with nx := Pv (i + 1), ct := Pv (i + 1), bk := E.nx } ρ2 M2) ∧ ∀ ρ M, Pv ds.length ρ M → E.nx ρ M
def dForT (tl : DE) (g : DG) (tb : DS) : DS := fun E ρ M => tl ρ M fun d M1 => match d with
  | .tup ds => dIt none ds g tb E ρ M1
  | _ => False
def dForL (tl : DE) (g : DG) (tb : DS) : DS := fun E ρ M => tl ρ M fun d M1 => match d with
  | .fz ds => dIt none ds g tb E ρ M1
  | .ref a => ∃ ds, M1 a = some ds ∧ dIt (some a) ds g tb E ρ M1
  | _ => False
variable {iter tg : Expr} {body : List Stmt} {tl : DE} {g : DG} {tb : DS}
theorem it_ok {K : PySem.W.Frag} {a' : Option Addr} {ds : List D} {E : Ends} {Dn : DEnds} {σ : L2.St} {ρ : DEnv} {M : DM} {H0 H : Hp} {J : It} (ex0 : Ext H0 H) (re : RepE K H ρ σ) (hm : HRep K M H) (k : EndsOk K H0 Dn E) (h : dIt a' ds g tb Dn ρ M)
    (seq : ∀ H', Ext H H' → (∀ M', HRep K M' H' → (∀ a, a' = some a → M' a = some ds) → ∃ xs, Reps K H' ds xs ∧ (∀ i, xs.length ≤ i → J.stop i H') ∧ (∀ i, i < xs.length → J.go i H') ∧ ∀ i x H2, J.yld i H' x H2 → H2 = H' ∧ xs[i]? = some x)) :
    ∃ W : Nat → Nat → L2.St → Hp → Prop, (∃ m, W 0 m σ H) ∧ ∀ i m σ H, W i m σ H →
      (J.stop i H ∧ E.nx σ H) ∨ (J.go i H ∧ ∃ N : L2.St → Hp → Prop, (∀ σ' H', N σ' H' → ∃ m', m' < m ∧ W (i + 1) m' σ' H') ∧ ∀ x H', J.yld i H x H' → lowG K g x σ H' fun σ2 H2 => lowS K tb { E with nx := N, ct := N, bk := E.nx } σ2 H2) := by
  obtain ⟨Pv, p0, hat, step, done⟩ := h
  refine ⟨fun i m σ' H' => ∃ ρ' M', RepE K H' ρ' σ' ∧ HRep K M' H' ∧ Ext H H' ∧ m = ds.length - i ∧ i ≤ ds.length ∧ Pv i ρ' M', ⟨ds.length, ρ, M, re, hm, .refl H, rfl, Nat.zero_le _, p0⟩, ?_⟩
  rintro i m σ1 H1 ⟨ρ1, M1, re1, hm1, e1, rfl, hi, w1⟩
  obtain ⟨xs, rs, hst, hgo, hy⟩ := seq H1 e1 M1 hm1 (hat i ρ1 M1 hi w1)
  have hl := rs.length
  by_cases hlt : i < ds.length
  · refine .inr ⟨hgo i (by omega), fun σ' H' => ∃ ρ' M', RepE K H' ρ' σ' ∧ HRep K M' H' ∧ Ext H H' ∧ Pv (i + 1) ρ' M', fun σ' H' ⟨ρ', M', a, b, c, d⟩ => ⟨ds.length - (i + 1), by omega, ρ', M', a, b, c, rfl, hlt, d⟩, fun x H' y => ?_⟩
    obtain ⟨rfl, hx⟩ := hy i x H' y
    obtain ⟨d, hd, rd⟩ := rs.getV hx
    refine ⟨d, ρ1, M1, _, rd, re1, hm1, step i d ρ1 M1 hd w1, fun σ2 H2 ⟨ρ2, M2, re2, hm2, e2, q2⟩ => ⟨ρ2, M2, _, re2, hm2, q2, ?_⟩⟩
    have ex := e1.trans e2
    exact ⟨fun σ' H' ⟨ρ', M', a, b, c, d⟩ => ⟨ρ', M', a, b, ex.trans c, d⟩, fun v H' z => k.rt v H' (z.back (ex0.trans ex)), fun σ' H' z => k.nx σ' H' (z.back (ex0.trans ex)), fun σ' H' ⟨ρ', M', a, b, c, d⟩ => ⟨ρ', M', a, b, ex.trans c, d⟩⟩
  · have e : i = ds.length := by omega
    subst e
    exact .inl ⟨hst _ (by omega), k.nx σ1 H1 ⟨ρ1, M1, re1, hm1, ex0.trans e1, done ρ1 M1 w1⟩⟩
def dRng (lo : Int) (n : Nat) (g : DG) (tb : DS) : DS := fun E ρ M => ∃ Pv : Nat → DEnv → DM → Prop, Pv 0 ρ M ∧
  (∀ i ρ M, i < n → Pv i ρ M → g (.int (lo + i)) ρ M fun ρ2 M2 => tb { E with nx := Pv (i + 1), ct := Pv (i + 1), bk := E.nx } ρ2 M2) ∧ ∀ ρ M, Pv n ρ M → E.nx ρ M
def dFor1 (ta : DA) (g : DG) (tb : DS) : DS := fun E ρ M => ta ρ M fun ds M1 => match ds with
  | [.int j] => (-(2 ^ 62) ≤ j ∧ j < 2 ^ 62) ∧ dRng 0 j.toNat g tb E ρ M1
  | _ => False
def dFor2 (ta : DA) (g : DG) (tb : DS) : DS := fun E ρ M => ta ρ M fun ds M1 => match ds with
  | [.int i, .int j] => (-(2 ^ 62) ≤ i ∧ i < 2 ^ 62 ∧ -(2 ^ 62) ≤ j ∧ j < 2 ^ 62) ∧ dRng i (j - i).toNat g tb E ρ M1
  | _ => False
theorem rng_ok {K : PySem.W.Frag} {lo : Int} {n : Nat} {E : Ends} {Dn : DEnds} {σ : L2.St} {ρ : DEnv} {M : DM} {H0 H : Hp} (ex0 : Ext H0 H) (re : RepE K H ρ σ) (hm : HRep K M H) (k : EndsOk K H0 Dn E) (h : dRng lo n g tb Dn ρ M) :
    ∃ W : Nat → Nat → L2.St → Hp → Prop, (∃ m, W 0 m σ H) ∧ ∀ i m σ H, W i m σ H →
      ((Itr lo n).stop i H ∧ E.nx σ H) ∨ ((Itr lo n).go i H ∧ ∃ N : L2.St → Hp → Prop, (∀ σ' H', N σ' H' → ∃ m', m' < m ∧ W (i + 1) m' σ' H') ∧ ∀ x H', (Itr lo n).yld i H x H' → lowG K g x σ H' fun σ2 H2 => lowS K tb { E with nx := N, ct := N, bk := E.nx } σ2 H2) := by
  obtain ⟨Pv, p0, step, done⟩ := h
  refine ⟨fun i m σ' H' => ∃ ρ' M', RepE K H' ρ' σ' ∧ HRep K M' H' ∧ Ext H H' ∧ m = n - i ∧ i ≤ n ∧ Pv i ρ' M', ⟨n, ρ, M, re, hm, .refl H, rfl, Nat.zero_le _, p0⟩, ?_⟩
  rintro i m σ1 H1 ⟨ρ1, M1, re1, hm1, e1, rfl, hi, w1⟩
  by_cases hlt : i < n
  · refine .inr ⟨hlt, fun σ' H' => ∃ ρ' M', RepE K H' ρ' σ' ∧ HRep K M' H' ∧ Ext H H' ∧ Pv (i + 1) ρ' M', fun σ' H' ⟨ρ', M', a, b, c, d⟩ => ⟨n - (i + 1), by omega, ρ', M', a, b, c, rfl, hlt, d⟩, fun x H' y => ?_⟩
    obtain ⟨rfl, rfl⟩ := y
    refine ⟨_, ρ1, M1, _, rep_int, re1, hm1, step i ρ1 M1 hlt w1, fun σ2 H2 ⟨ρ2, M2, re2, hm2, e2, q2⟩ => ⟨ρ2, M2, _, re2, hm2, q2, ?_⟩⟩
    have ex := e1.trans e2
    exact ⟨fun σ' H' ⟨ρ', M', a, b, c, d⟩ => ⟨ρ', M', a, b, ex.trans c, d⟩, fun v H' z => k.rt v H' (z.back (ex0.trans ex)), fun σ' H' z => k.nx σ' H' (z.back (ex0.trans ex)), fun σ' H' ⟨ρ', M', a, b, c, d⟩ => ⟨ρ', M', a, b, ex.trans c, d⟩⟩
  · have e : i = n := by omega
    subst e
    exact .inl ⟨Nat.le_refl _, k.nx σ1 H1 ⟨ρ1, M1, re1, hm1, ex0.trans e1, done ρ1 M1 w1⟩⟩
end
end Dd

set_option Elab.async false
set_option linter.all false
set_option maxRecDepth 100000
set_option maxHeartbeats 4000000

namespace Dd
open PySem PySem.Spec PyProof.Rows L2

section
variable {X : Cx} {pos : Pos} {iter tg : Expr} {body : List Stmt} {tl : DE} {g : DG} {tb : DS} {ta : DA}
theorem ds_forL (hp : PassesOwn (model X.prog X.w) X.A X.env X.xe) (hc : X.calm = true) (hi : PDE X iter tl) (hg : PDG X tg g) (hb : PDSs X body tb) (hs : ∀ x, foldedSetIterable iter X.env x = pure x := by intro _; rfl) : PDS X (.For tg iter body [] pos) (dForL tl g tb) :=
  ps_imp (ps_for hp hc (pi_list hi) hg hb hs) fun E σ H ⟨ρ, M, Dn, re, hm, q, k⟩ => ⟨ρ, M, _, re, hm, q, fun v H1 ⟨d, M1, rd, hm1, ex, q1⟩ => by
    cases d with
    | fz ds =>
      obtain ⟨a, xs, rfl, sq, rs⟩ := rep_fz rd
      exact ⟨a, rfl, ⟨xs, sq.sq⟩, it_ok ex (re.ext ex) hm1 k q1 fun H' e' M' hm' _ => ⟨xs, rs.ext e', fun i hi => ⟨xs, (sqX_ext e' sq).sq, hi⟩, fun i hi => ⟨xs, xs[i], (sqX_ext e' sq).sq, by simp [hi]⟩, fun i x H2 y => ⟨y.1, y.2 xs (sqX_ext e' sq).sq⟩⟩⟩
    | ref a =>
      obtain ⟨ds, ha, q1⟩ := q1
      obtain rfl := rep_ref_eq rd
      obtain ⟨xs, hx, rs⟩ := hm1.l a ds ha
      refine ⟨a, rfl, ⟨xs, .of hx⟩, it_ok ex (re.ext ex) hm1 k q1 fun H' e' M' hm' hat => ?_⟩
      obtain ⟨ys, hy, rs'⟩ := hm'.l a ds (hat a rfl)
      exact ⟨ys, rs', fun i hi => ⟨ys, .of hy, hi⟩, fun i hi => ⟨ys, ys[i], .of hy, by simp [hi]⟩, fun i x H2 y => ⟨y.1, y.2 ys (.of hy)⟩⟩
    | _ => exact q1.elim⟩
theorem ds_for1 {a : Expr} {p pos' : Pos} (hp : PassesOwn (model X.prog X.w) X.A X.env X.xe) (hc : X.calm = true) (hmg : X.mg "range" = none) (ha : PDA X [a] ta) (hg : PDG X tg g) (hb : PDSs X body tb) (hgl : Gl X "range" := by rfl) (hse : starEach [a] X.env = [(false, eval a X.env)] := by rfl)
    (hs : ∀ x, foldedSetIterable (.Call (.Name "range" p) [a] [] pos') X.env x = pure x := by intro _; rfl) : PDS X (.For tg (.Call (.Name "range" p) [a] [] pos') body [] pos) (dFor1 ta g tb) :=
  ps_imp (ps_for hp hc (pi_range1 hgl hmg ha hse) hg hb hs) fun E σ H ⟨ρ, M, Dn, re, hm, q, k⟩ => ⟨ρ, M, _, re, hm, q, fun vs H1 ⟨ds, M1, rs, hm1, ex, q1⟩ => by
    rcases ds with _ | ⟨d, _ | ⟨d2, r⟩⟩
    · exact q1.elim
    · cases d with
      | int j =>
        obtain ⟨⟨j1, j2⟩, q1⟩ := q1
        obtain ⟨v1, r1, rfl, rv1, rr1⟩ := reps_cons_eq rs
        obtain rfl := reps_nil_eq rr1
        obtain rfl := rep_int_eq rv1
        exact ⟨j, rfl, j1, j2, rng_ok ex (re.ext ex) hm1 k q1⟩
      | _ => exact q1.elim
    · cases d <;> exact q1.elim⟩
end

mutual
def eqD : D → D → Bool
  | .tup xs, .tup ys => eqDs xs ys
  | .non, .non => true
  | .bl a, .bl b => a == b
  | .bl a, .int b => (if a then 1 else 0) == b
  | .int a, .bl b => a == (if b then 1 else 0)
  | .int a, .int b => a == b
  | .str a, .str b => a == b
  | _, _ => false
def eqDs : List D → List D → Bool
  | [], [] => true
  | x :: xs, y :: ys => eqD x y && eqDs xs ys
  | _, _ => false
end
def pureN : Nat → D → Bool
  | _, .ref _ => false
  | _, .fz _ => false
  | 0, .tup _ => false
  | n + 1, .tup ds => ds.all (pureN n)
  | _, _ => true
def pairE : List D → List D → Nat → Bool
  | x :: _, y :: _, 0 => eqD x y
  | _ :: xs, _ :: ys, j + 1 => pairE xs ys j
  | _, _, _ => true
theorem all_range_succ (n : Nat) (e : Nat → Bool) : (List.range (n + 1)).all e = (e 0 && (List.range n).all fun j => e (j + 1)) := by
  rw [List.range_succ_eq_map, List.all_cons, List.all_map]
  rfl
theorem eqDs_pairs : ∀ (xs ys : List D), eqDs xs ys = ((List.range (min xs.length ys.length)).all (pairE xs ys) && xs.length == ys.length)
  | [], [] => by simp [eqDs]
  | [], _ :: _ => by simp [eqDs]
  | _ :: _, [] => by simp [eqDs]
  | x :: xs, y :: ys => by
    have ih := eqDs_pairs xs ys
    have e1 : min (x :: xs).length (y :: ys).length = min xs.length ys.length + 1 := by simp only [List.length_cons]; omega
    have e2 : ((x :: xs).length == (y :: ys).length) = (xs.length == ys.length) := by simp
    rw [e1, e2, all_range_succ]
    show (eqD x y && eqDs xs ys) = ((eqD x y && (List.range (min xs.length ys.length)).all fun j => pairE xs ys j) && xs.length == ys.length)
    rw [ih, Bool.and_assoc]
section
variable {X : Cx} {pins : List (Addr × Obj)} {σ : L2.St} {H : Hp} {s : Shared}
theorem pure0 {n : Nat} {d : D} (p : pureN n d = true) (h : ∀ xs, d ≠ .tup xs) : pureN 0 d = true := by
  cases d with
  | tup xs => exact absurd rfl (h xs)
  | ref b => cases n <;> exact absurd p Bool.false_ne_true
  | fz b => cases n <;> exact absurd p Bool.false_ne_true
  | _ => rfl
theorem eq_same0 {d d' : D} {v : V} (p : pureN 0 d = true) (p' : pureN 0 d' = true) (r : Rep X.K H d v) (r' : Rep X.K H d' v) : eqD d d' = true := by
  cases d <;> cases d' <;> first
    | (exact absurd p Bool.false_ne_true)
    | (exact absurd p' Bool.false_ne_true)
    | (unfold Rep at r r'; subst r; cases r' <;> simp [eqD])
theorem sc_noref {d : D} {a : Addr} (p : pureN 0 d = true) (r : Rep X.K H d (.ref a)) : False := by
  cases d <;> first
    | (exact absurd p Bool.false_ne_true)
    | (unfold Rep at r; cases r)
theorem eq_sames {n : Nat} (ih : ∀ {d d' : D} {v : V}, pureN n d = true → pureN n d' = true → Rep X.K H d v → Rep X.K H d' v → eqD d d' = true) :
    ∀ {xs ys : List D} {us : List V}, xs.all (pureN n) = true → ys.all (pureN n) = true → Reps X.K H xs us → Reps X.K H ys us → eqDs xs ys = true
  | [], [], _, _, _, _, _ => by simp [eqDs]
  | [], _ :: _, _, _, _, r, r' => by
    rw [reps_nil_eq r] at r'
    obtain ⟨_, _, z, _⟩ := reps_cons_eq r'
    cases z
  | _ :: _, [], _, _, _, r, r' => by
    rw [reps_nil_eq r'] at r
    obtain ⟨_, _, z, _⟩ := reps_cons_eq r
    cases z
  | x :: xs, y :: ys, _, p1, p2, r, r' => by
    obtain ⟨v0, r0, rfl, h1, h2⟩ := reps_cons_eq r
    obtain ⟨v0', r0', e0, h1', h2'⟩ := reps_cons_eq r'
    cases e0
    rw [List.all_cons, Bool.and_eq_true] at p1 p2
    show (eqD x y && eqDs xs ys) = true
    rw [ih p1.1 p2.1 h1 h1', eq_sames ih p1.2 p2.2 h2 h2']
    rfl
theorem eq_same (I : Inv X pins σ H s) : ∀ (n : Nat) {d d' : D} {v : V}, pureN n d = true → pureN n d' = true → Rep X.K H d v → Rep X.K H d' v → eqD d d' = true := by
  intro n
  induction n with
  | zero => intro d d' v p p' r r'; exact eq_same0 p p' r r'
  | succ n ih =>
    intro d d' v p p' r r'
    by_cases h1 : ∃ xs, d = .tup xs
    · obtain ⟨xs, rfl⟩ := h1
      obtain ⟨a, us, rfl, sq, rs⟩ := rep_tup r
      by_cases h2 : ∃ ys, d' = .tup ys
      · obtain ⟨ys, rfl⟩ := h2
        obtain ⟨a', us', e1', sq', rs'⟩ := rep_tup r'
        cases e1'
        obtain rfl := I.tuple_inj sq sq'
        exact eq_sames ih p p' rs rs'
      · exact (sc_noref (pure0 p' fun xs e => h2 ⟨xs, e⟩) r').elim
    · have p0 := pure0 p fun xs e => h1 ⟨xs, e⟩
      by_cases h2 : ∃ ys, d' = .tup ys
      · obtain ⟨ys, rfl⟩ := h2
        obtain ⟨a', us', rfl, sq', rs'⟩ := rep_tup r'
        exact (sc_noref p0 r).elim
      · exact eq_same0 p0 (pure0 p' fun xs e => h2 ⟨xs, e⟩) r r'
theorem tup_at (I : Inv X pins σ H s) {a : Addr} {xs : List V} (sq : SqT X.K H a xs) : ∃ its : List Value, Vals xs its ∧ s.heap.IsTuple a its.toArray := let ⟨its, r, p, _⟩ := I.tuple sq; ⟨its, r, p⟩
theorem sc_flat {d : D} {v : V} {n : Nat} (h : Rep X.K H d v) (p : pureN 0 d = true) : flatV v = true := by
  cases d with
  | non => unfold Rep at h; subst h; rfl
  | bl b => unfold Rep at h; subst h; rfl
  | int b => unfold Rep at h; subst h; rfl
  | str b => unfold Rep at h; subst h; rfl
  | tup b => exact absurd p Bool.false_ne_true
  | ref b => exact absurd p Bool.false_ne_true
  | fz b => exact absurd p Bool.false_ne_true
theorem eq_items {A : Around} {n : Nat} (ih : ∀ {d d' : D} {v v' : V} {u u' : Value}, pureN n d = true → pureN n d' = true → Rep X.K H d v → Rep X.K H d' v' → RelV v u → RelV v' u' → SeqAt.EqAt A s u u' (eqD d d')) :
    ∀ {xs ys : List D} {us us' : List V} {its its' : List Value}, xs.all (pureN n) = true → ys.all (pureN n) = true → Reps X.K H xs us → Reps X.K H ys us' → Vals us its → Vals us' its' → ∀ j (h1 : j < its.length) (h2 : j < its'.length), SeqAt.EqAt A s its[j] its'[j] (pairE xs ys j)
  | [], ys, us, us', its, its', _, _, r1, _, v1, _, j, h1, _ => by rw [reps_nil_eq r1] at v1; cases v1; exact absurd h1 (Nat.not_lt_zero _)
  | _ :: _, [], us, us', its, its', _, _, _, r2, _, v2, j, _, h2 => by rw [reps_nil_eq r2] at v2; cases v2; exact absurd h2 (Nat.not_lt_zero _)
  | x :: xs, y :: ys, us, us', its, its', p1, p2, r1, r2, v1, v2, j, h1, h2 => by
    obtain ⟨a, ra, rfl, ha, hra⟩ := reps_cons_eq r1
    obtain ⟨b, rb, rfl, hb, hrb⟩ := reps_cons_eq r2
    rw [List.all_cons, Bool.and_eq_true] at p1 p2
    cases v1 with
    | cons q1 w1 =>
      cases v2 with
      | cons q2 w2 =>
        cases j with
        | zero => exact ih p1.1 p2.1 ha hb q1 q2
        | succ j => exact eq_items ih p1.2 p2.2 hra hrb w1 w2 j (Nat.lt_of_succ_lt_succ h1) (Nat.lt_of_succ_lt_succ h2)
theorem eqv_sc {d d' : D} {v v' : V} (p : pureN 0 d = true) (p' : pureN 0 d' = true) (r : Rep X.K H d v) (r' : Rep X.K H d' v') : eqV v v' = eqD d d' := by
  cases d <;> cases d' <;> first
    | (exact absurd p Bool.false_ne_true)
    | (exact absurd p' Bool.false_ne_true)
    | (unfold Rep at r r'; subst r; subst r'; simp [eqD, eqV])
theorem eq_at (I : Inv X pins σ H s) : ∀ (n : Nat) {A : Around} {d d' : D} {v v' : V} {u u' : Value}, A.units + n < cLine → pureN n d = true → pureN n d' = true → Rep X.K H d v → Rep X.K H d' v' → RelV v u → RelV v' u' → SeqAt.EqAt A s u u' (eqD d d') := by
  intro n
  induction n with
  | zero =>
    intro A d d' v v' u u' hu p p' r r' q q'
    have := eqAt_V (A := A) (s := s) q q' (sc_flat (n := 0) r p) (sc_flat (n := 0) r' p')
    rw [eqv_sc p p' r r'] at this
    exact this
  | succ n ih =>
    intro A d d' v v' u u' hu p p' r r' q q'
    by_cases h1 : ∃ xs, d = .tup xs
    · obtain ⟨xs, rfl⟩ := h1
      obtain ⟨a, us, rfl, sq, rs⟩ := rep_tup r
      obtain ⟨its, rv, ht⟩ := tup_at I sq
      cases q
      by_cases h2 : ∃ ys, d' = .tup ys
      · obtain ⟨ys, rfl⟩ := h2
        obtain ⟨a', us', rfl, sq', rs'⟩ := rep_tup r'
        obtain ⟨its', rv', ht'⟩ := tup_at I sq'
        cases q'
        by_cases hll : a = a'
        · subst hll
          rw [eq_same I (n + 1) p p' r r']
          exact SeqAt.EqAt.same _
        · have e1 := rs.length
          have e2 := rv.length
          have e3 := rs'.length
          have e4 := rv'.length
          show SeqAt.EqAt A s (.ref a) (.ref a') (eqDs xs ys)
          rw [eqDs_pairs, show xs.length = its.toArray.size by rw [List.size_toArray]; omega, show ys.length = its'.toArray.size by rw [List.size_toArray]; omega]
          refine SeqAt.EqAt.of_refs hll (SeqAt.RcAt.tuples ht ht' (by omega) fun j j1 j2 => ?_)
          have hu' : A.in1.units + n < cLine := by show A.units + 1 + n < cLine; omega
          have := eq_items (A := A.in1) (s := s) (fun {d d' v v' u u'} p p' r r' q q' => ih hu' p p' r r' q q') p p' rs rs' rv rv' j (by simpa using j1) (by simpa using j2)
          simpa using this
      · have p0 := pure0 p' (fun xs e => h2 ⟨xs, e⟩)
        cases d' with
        | non => rw [rep_non_eq r'] at q'; cases q'; exact SeqAt.EqAt.tuple_none ht (by omega)
        | bl b => rw [rep_bl_eq r'] at q'; cases q'; exact SeqAt.EqAt.tuple_bool b ht (by omega)
        | int b => rw [rep_int_eq r'] at q'; obtain ⟨t, rfl⟩ := q'; exact SeqAt.EqAt.tuple_int b t ht (by omega)
        | str b => rw [rep_str_eq r'] at q'; obtain ⟨t, rfl⟩ := q'; exact SeqAt.EqAt.tuple_str b t ht (by omega)
        | tup b => exact absurd p0 Bool.false_ne_true
        | ref b => exact absurd p0 Bool.false_ne_true
        | fz b => exact absurd p0 Bool.false_ne_true
    · have p0 := pure0 p (fun xs e => h1 ⟨xs, e⟩)
      by_cases h2 : ∃ ys, d' = .tup ys
      · obtain ⟨ys, rfl⟩ := h2
        obtain ⟨a', us', rfl, sq', rs'⟩ := rep_tup r'
        obtain ⟨its', rv', ht'⟩ := tup_at I sq'
        cases q'
        cases d with
        | non => rw [rep_non_eq r] at q; cases q; exact SeqAt.EqAt.none_tuple ht' (by omega)
        | bl b => rw [rep_bl_eq r] at q; cases q; exact SeqAt.EqAt.bool_tuple b ht' (by omega)
        | int b => rw [rep_int_eq r] at q; obtain ⟨t, rfl⟩ := q; exact SeqAt.EqAt.int_tuple b t ht' (by omega)
        | str b => rw [rep_str_eq r] at q; obtain ⟨t, rfl⟩ := q; exact SeqAt.EqAt.str_tuple b t ht' (by omega)
        | tup b => exact absurd p0 Bool.false_ne_true
        | ref b => exact absurd p0 Bool.false_ne_true
        | fz b => exact absurd p0 Bool.false_ne_true
      · have p0' := pure0 p' (fun xs e => h2 ⟨xs, e⟩)
        have := eqAt_V (A := A) (s := s) q q' (sc_flat (n := 0) r p0) (sc_flat (n := 0) r' p0')
        rw [eqv_sc p0 p0' r r'] at this
        exact this
theorem rc_at (I : Inv X pins σ H s) {A : Around} (hu : A.units + 60 < cLine) {d d' : D} {v v' : V} {u u' : Value} (p : pureN 60 d = true) (p' : pureN 60 d' = true) (r : Rep X.K H d v) (r' : Rep X.K H d' v') (q : RelV v u) (q' : RelV v' u') :
    SeqAt.RcAt A s u u' (eqD d d') ∧ SeqAt.RcNeAt A s u u' (!eqD d d') := by
  have hu0 : A.units < cLine := by omega
  cases d with
  | ref b => exact absurd p Bool.false_ne_true
  | fz b => exact absurd p Bool.false_ne_true
  | tup xs =>
    obtain ⟨a, us, rfl, sq, rs⟩ := rep_tup r
    obtain ⟨its, rv, ht⟩ := tup_at I sq
    cases q
    cases d' with
    | ref b => exact absurd p' Bool.false_ne_true
    | fz b => exact absurd p' Bool.false_ne_true
    | non => rw [rep_non_eq r'] at q'; cases q'; exact ⟨SeqAt.RcAt.tuple_none ht hu0, SeqAt.RcNeAt.tuple_none ht hu0⟩
    | bl b => rw [rep_bl_eq r'] at q'; cases q'; exact ⟨SeqAt.RcAt.tuple_bool b ht hu0, SeqAt.RcNeAt.tuple_bool b ht hu0⟩
    | int b => rw [rep_int_eq r'] at q'; obtain ⟨t, rfl⟩ := q'; exact ⟨SeqAt.RcAt.tuple_int b t ht hu0, SeqAt.RcNeAt.tuple_int b t ht hu0⟩
    | str b => rw [rep_str_eq r'] at q'; obtain ⟨t, rfl⟩ := q'; exact ⟨SeqAt.RcAt.tuple_str b t ht hu0, SeqAt.RcNeAt.tuple_str b t ht hu0⟩
    | tup ys =>
      obtain ⟨a', us', rfl, sq', rs'⟩ := rep_tup r'
      obtain ⟨its', rv', ht'⟩ := tup_at I sq'
      cases q'
      have e1 := rs.length
      have e2 := rv.length
      have e3 := rs'.length
      have e4 := rv'.length
      have hit : ∀ j (h1 : j < its.toArray.size) (h2 : j < its'.toArray.size), SeqAt.EqAt A.in1 s its.toArray[j] its'.toArray[j] (pairE xs ys j) := fun j j1 j2 => by
        have hu' : A.in1.units + 59 < cLine := by show A.units + 1 + 59 < cLine; omega
        have := eq_items (A := A.in1) (s := s) (fun {d d' v v' u u'} p p' r r' q q' => eq_at I 59 hu' p p' r r' q q') p p' rs rs' rv rv' j (by simpa using j1) (by simpa using j2)
        simpa using this
      have hz : eqD (.tup xs) (.tup ys) = ((List.range (min its.toArray.size its'.toArray.size)).all (pairE xs ys) && its.toArray.size == its'.toArray.size) := by
        show eqDs xs ys = _
        rw [eqDs_pairs, show xs.length = its.toArray.size by rw [List.size_toArray]; omega, show ys.length = its'.toArray.size by rw [List.size_toArray]; omega]
      rw [hz]
      exact ⟨SeqAt.RcAt.tuples ht ht' hu0 hit, SeqAt.RcNeAt.tuples ht ht' hu0 hit⟩
  | non =>
    rw [rep_non_eq r] at q; cases q
    cases d' with
    | ref b => exact absurd p' Bool.false_ne_true
    | fz b => exact absurd p' Bool.false_ne_true
    | non => rw [rep_non_eq r'] at q'; cases q'; exact ⟨SeqAt.RcAt.none_none, SeqAt.RcNeAt.none_none⟩
    | bl b => rw [rep_bl_eq r'] at q'; cases q'; exact ⟨SeqAt.RcAt.none_bool b, SeqAt.RcNeAt.none_bool b⟩
    | int b => rw [rep_int_eq r'] at q'; obtain ⟨t, rfl⟩ := q'; exact ⟨SeqAt.RcAt.none_int b t, SeqAt.RcNeAt.none_int b t⟩
    | str b => rw [rep_str_eq r'] at q'; obtain ⟨t, rfl⟩ := q'; exact ⟨SeqAt.RcAt.none_str b t, SeqAt.RcNeAt.none_str b t⟩
    | tup ys =>
      obtain ⟨a', us', rfl, sq', rs'⟩ := rep_tup r'
      obtain ⟨its', rv', ht'⟩ := tup_at I sq'
      cases q'
      exact ⟨SeqAt.RcAt.none_tuple ht' hu0, SeqAt.RcNeAt.none_tuple ht' hu0⟩
  | bl z =>
    rw [rep_bl_eq r] at q; cases q
    cases d' with
    | ref b => exact absurd p' Bool.false_ne_true
    | fz b => exact absurd p' Bool.false_ne_true
    | non => rw [rep_non_eq r'] at q'; cases q'; exact ⟨SeqAt.RcAt.bool_none z, SeqAt.RcNeAt.bool_none z⟩
    | bl b => rw [rep_bl_eq r'] at q'; cases q'; exact ⟨SeqAt.RcAt.bool_bool z b, SeqAt.RcNeAt.bool_bool z b⟩
    | int b => rw [rep_int_eq r'] at q'; obtain ⟨t, rfl⟩ := q'; exact ⟨SeqAt.RcAt.bool_int z b t, SeqAt.RcNeAt.bool_int z b t⟩
    | str b => rw [rep_str_eq r'] at q'; obtain ⟨t, rfl⟩ := q'; exact ⟨SeqAt.RcAt.bool_str z b t, SeqAt.RcNeAt.bool_str z b t⟩
    | tup ys =>
      obtain ⟨a', us', rfl, sq', rs'⟩ := rep_tup r'
      obtain ⟨its', rv', ht'⟩ := tup_at I sq'
      cases q'
      exact ⟨SeqAt.RcAt.bool_tuple z ht' hu0, SeqAt.RcNeAt.bool_tuple z ht' hu0⟩
  | int z =>
    rw [rep_int_eq r] at q; obtain ⟨tz, rfl⟩ := q
    cases d' with
    | ref b => exact absurd p' Bool.false_ne_true
    | fz b => exact absurd p' Bool.false_ne_true
    | non => rw [rep_non_eq r'] at q'; cases q'; exact ⟨SeqAt.RcAt.int_none z tz, SeqAt.RcNeAt.int_none z tz⟩
    | bl b => rw [rep_bl_eq r'] at q'; cases q'; exact ⟨SeqAt.RcAt.int_bool z tz b, SeqAt.RcNeAt.int_bool z tz b⟩
    | int b => rw [rep_int_eq r'] at q'; obtain ⟨t, rfl⟩ := q'; exact ⟨SeqAt.RcAt.int_int z tz b t, SeqAt.RcNeAt.int_int z tz b t⟩
    | str b => rw [rep_str_eq r'] at q'; obtain ⟨t, rfl⟩ := q'; exact ⟨SeqAt.RcAt.int_str z tz b t, SeqAt.RcNeAt.int_str z tz b t⟩
    | tup ys =>
      obtain ⟨a', us', rfl, sq', rs'⟩ := rep_tup r'
      obtain ⟨its', rv', ht'⟩ := tup_at I sq'
      cases q'
      exact ⟨SeqAt.RcAt.int_tuple z tz ht' hu0, SeqAt.RcNeAt.int_tuple z tz ht' hu0⟩
  | str z =>
    rw [rep_str_eq r] at q; obtain ⟨tz, rfl⟩ := q
    cases d' with
    | ref b => exact absurd p' Bool.false_ne_true
    | fz b => exact absurd p' Bool.false_ne_true
    | non => rw [rep_non_eq r'] at q'; cases q'; exact ⟨SeqAt.RcAt.str_none z tz, SeqAt.RcNeAt.str_none z tz⟩
    | bl b => rw [rep_bl_eq r'] at q'; cases q'; exact ⟨SeqAt.RcAt.str_bool z tz b, SeqAt.RcNeAt.str_bool z tz b⟩
    | int b => rw [rep_int_eq r'] at q'; obtain ⟨t, rfl⟩ := q'; exact ⟨SeqAt.RcAt.str_int z tz b t, SeqAt.RcNeAt.str_int z tz b t⟩
    | str b => rw [rep_str_eq r'] at q'; obtain ⟨t, rfl⟩ := q'; exact ⟨SeqAt.RcAt.str_str z tz b t, SeqAt.RcNeAt.str_str z tz b t⟩
    | tup ys =>
      obtain ⟨a', us', rfl, sq', rs'⟩ := rep_tup r'
      obtain ⟨its', rv', ht'⟩ := tup_at I sq'
      cases q'
      exact ⟨SeqAt.RcAt.str_tuple z tz ht' hu0, SeqAt.RcNeAt.str_tuple z tz ht' hu0⟩
end
end Dd

set_option Elab.async false
set_option linter.all false
set_option maxRecDepth 100000
set_option maxHeartbeats 4000000

namespace Dd
open PySem PySem.Spec PyProof.Rows L2

section
variable {X : Cx} {a b e o : Expr} {es : List Expr} {ta tb te to : DE} {t : DA} {pos : Pos}
def d2I (C : Int → Int → Prop) (g : Int → Int → D) : D2 := fun x y M Q => match x, y with
  | .int i, .int j => C i j ∧ Q (g i j) M
  | _, _ => False
def d2J (g : Int → Int → D) : D2 := fun x y M Q => match x, y with
  | .int i, .int j => Q (g i j) M
  | _, _ => False
theorem od_I {f : Value → Value → Sem Value} {C : Int → Int → Prop} {g : Int → Int → D} {g' : Int → Int → V} (h : OpR X f (rI C g')) (hg : ∀ H i j, Rep X.K H (g i j) (g' i j)) : OpD X f (d2I C g) :=
  OpD.of h fun x y H M dx dy Q rx ry hm q => by
    cases dx with
    | int i =>
      cases dy with
      | int j => exact ⟨i, j, rep_int_eq rx, rep_int_eq ry, q.1, _, M, hg H i j, hm, .refl H, q.2⟩
      | _ => exact q.elim
    | _ => exact q.elim
theorem od_J {f : Value → Value → Sem Value} {g : Int → Int → D} {g' : Int → Int → V} (h : OpR X f (rI0 g')) (hg : ∀ H i j, Rep X.K H (g i j) (g' i j)) : OpD X f (d2J g) :=
  OpD.of h fun x y H M dx dy Q rx ry hm q => by
    cases dx with
    | int i =>
      cases dy with
      | int j => exact ⟨i, j, rep_int_eq rx, rep_int_eq ry, _, M, hg H i j, hm, .refl H, q⟩
      | _ => exact q.elim
    | _ => exact q.elim
theorem od_sub : OpD X (binaryOp .Sub) (d2J fun i j => .int (i - j)) := od_J op_sub fun _ _ _ => rep_int
theorem op_mulB : OpR X (binaryOp .Mult) (rI IntMulOk fun i j => .int (i * j)) := opI fun _ _ _ _ _ _ _ hc q => mul_int q hc
theorem od_mul : OpD X (binaryOp .Mult) (d2I IntMulOk fun i j => .int (i * j)) := od_I op_mulB fun _ _ _ => rep_int
def CFd (i j : Int) : Prop := j ≠ 0 ∧ j.natAbs.log2 < 9000
theorem op_fdB : OpR X (binaryOp .FloorDiv) (rI CFd fun i j => .int (i.fdiv j)) := opI fun _ _ _ _ _ _ _ hc q => floordiv_int hc.1 q (.inl (PyProof.noPylong_of_log2 hc.2))
theorem od_fdiv : OpD X (binaryOp .FloorDiv) (d2I CFd fun i j => .int (i.fdiv j)) := od_I op_fdB fun _ _ _ => rep_int
theorem od_mod : OpD X (binaryOp .Mod) (d2I (fun _ j => j ≠ 0) fun i j => .int (i.fmod j)) := od_I op_modN fun _ _ _ => rep_int
theorem od_pow : OpD X (binaryOp .Pow) (d2I CPow fun i j => .int (i ^ j.toNat)) := od_I op_pow fun _ _ _ => rep_int
theorem od_lt : OpD X (compareOp .Lt) (d2J fun i j => .bl (decide (i < j))) := od_J op_lt fun _ _ _ => rep_bl
theorem od_gt : OpD X (compareOp .Gt) (d2J fun i j => .bl (decide (j < i))) := od_J op_gt fun _ _ _ => rep_bl
theorem od_ge : OpD X (compareOp .GtE) (d2J fun i j => .bl (decide (j ≤ i))) := od_J op_ge fun _ _ _ => rep_bl
def dAdd : D2 := fun x y M Q => match x, y with
  | .int i, .int j => Q (.int (i + j)) M
  | .ref a, .ref b => ∃ xs ys, M a = some xs ∧ M b = some ys ∧ xs.length + ys.length ≤ 1000 ∧ ∀ p : Addr, M p = none → Q (.ref p) (putM M p (xs ++ ys))
  | .fz xs, .ref b => ∃ ys, M b = some ys ∧ xs.length + ys.length ≤ 1000 ∧ ∀ p : Addr, M p = none → Q (.ref p) (putM M p (xs ++ ys))
  | .tup xs, .tup ys => xs ≠ [] ∧ ys ≠ [] ∧ xs.length + ys.length ≤ 1000 ∧ Q (.tup (xs ++ ys)) M
  | _, _ => False
theorem fz_obj {pins : List (Addr × Obj)} {σ : L2.St} {H : Hp} {s : Shared} (I : Inv X pins σ H s) {a : Addr} {xs : List V} (h : SqX X.K H a xs) : xs.length ≤ sizeLine ∧ ∃ (its : List Value) (n : Nat), Vals xs its ∧ s.heap.get? a = some { cls := .type "list", data := .seq its.toArray n } := by
  rcases h with ⟨o, h⟩ | ⟨its, n, hk, hz, r⟩
  · obtain ⟨_, z, its, n, r, e⟩ := I.hok a _ h
    exact ⟨z, its, n, r, e⟩
  · have e := r.length
    simp only [Array.length_toList] at e
    exact ⟨by omega, its.toList, n, r, by simpa using I.kIn a _ hk⟩
theorem od_add : OpD X (binaryOp .Add) dAdd := by
  intro pins s σ H x y v u Q I rx ry ⟨dx, dy, M, Q', r1, r2, hm, q, k⟩
  cases dx with
  | int i =>
    cases dy with
    | int j => exact op_add pins s σ H x y v u Q I rx ry ⟨i, j, rep_int_eq r1, rep_int_eq r2, k _ H ⟨_, M, rep_int, hm, .refl H, q⟩⟩
    | _ => exact q.elim
  | ref a =>
    cases dy with
    | ref b =>
      obtain ⟨xs, ys, ha, hb, hl, q⟩ := q
      obtain ⟨us, hu, ru⟩ := hm.l a xs ha
      obtain ⟨ws, hw, rw'⟩ := hm.l b ys hb
      refine op_cat pins s σ H x y v u Q I rx ry ⟨a, b, us, ws, rep_ref_eq r1, rep_ref_eq r2, hu, hw, ?_, fun p hp => k _ _ ⟨.ref p, _, rep_ref, hm.lnew hp (ru.append rw'), Ext.new hp _, q p (hm.fresh hp)⟩⟩
      rw [← ru.length, ← rw'.length]; exact Nat.le_of_lt (small1000 hl)
    | _ => exact q.elim
  | fz xs =>
    cases dy with
    | ref b =>
      obtain ⟨ys, hb, hl, q⟩ := q
      obtain ⟨a, us, rfl, sq, ru⟩ := rep_fz r1
      obtain ⟨ws, hw, rw'⟩ := hm.l b ys hb
      obtain rfl := rep_ref_eq r2
      cases rx
      cases ry
      obtain ⟨z, its, n, r, e⟩ := fz_obj I sq
      obtain ⟨z2, its2, n2, r3, hl2, e2⟩ := I.lstM hw
      have l1 := r.length
      have l2 := r3.length
      have l3 := ru.length
      have l4 := rw'.length
      have hz := small1000 hl
      refine PySem.P.add_list e e2 ?_ (by rw [List.size_toArray, List.size_toArray]; omega)
      have ea : its.toArray ++ its2.toArray = (its ++ its2).toArray := by simp
      rw [ea]
      refine ⟨.ref _, _, I.lnew (t' := s.toks) (r.append r3) (by rw [List.length_append]; omega), rfl, k _ _ ⟨.ref _, _, rep_ref, hm.lnew I.fresh (ru.append rw'), Ext.new I.fresh _, q _ (hm.fresh I.fresh)⟩⟩
    | _ => exact q.elim
  | tup xs =>
    cases dy with
    | tup ys =>
      obtain ⟨h1, h2, hl, q⟩ := q
      obtain ⟨a, us, rfl, sq, ru⟩ := rep_tup r1
      obtain ⟨b, ws, rfl, sq2, rw'⟩ := rep_tup r2
      have l3 := ru.length
      have l4 := rw'.length
      refine op_catT pins s σ H _ _ v u Q I rx ry ?_
      have n1 : us ≠ [] := fun z => by rw [z] at l3; exact h1 (List.length_eq_zero_iff.mp l3)
      have n2 : ws ≠ [] := fun z => by rw [z] at l4; exact h2 (List.length_eq_zero_iff.mp l4)
      exact ⟨a, b, us, ws, rfl, rfl, sq, sq2, n1, by rw [← l3, ← l4]; exact Nat.le_of_lt (small1000 hl), fun z => absurd z n2, fun _ p hp => k _ _ ⟨.tup _, M, rep_tup_mk (.of upd_same) ((ru.append rw').ext (Ext.new hp _)), hm.new hp _, Ext.new hp _, q⟩⟩
    | _ => exact q.elim
  | _ => exact q.elim
def dEq (g : Bool → Bool) : D2 := fun x y M Q => match x, y with
  | .ref a, .ref b => ∃ xs ys, M a = some xs ∧ M b = some ys ∧ (a ≠ b) ∧ xs.all (pureN 59) = true ∧ ys.all (pureN 59) = true ∧ Q (.bl (g (eqDs xs ys))) M
  | x, y => pureN 60 x = true ∧ pureN 60 y = true ∧ Q (.bl (g (eqD x y))) M
theorem lists_at {pins : List (Addr × Obj)} {σ : L2.St} {H : Hp} {s : Shared} (I : Inv X pins σ H s) {A : Around} (hu : A.units + 60 < cLine) {a b : Addr} {us ws : List V} {xs ys : List D} (ha : H a = some (.lst us)) (hb : H b = some (.lst ws)) (ru : Reps X.K H xs us) (rw' : Reps X.K H ys ws)
    (p : xs.all (pureN 59) = true) (p' : ys.all (pureN 59) = true) : SeqAt.RcAt A s (.ref a) (.ref b) (eqDs xs ys) ∧ SeqAt.RcNeAt A s (.ref a) (.ref b) (!eqDs xs ys) := by
  obtain ⟨z, its, n, r, hl, e⟩ := I.lstM ha
  obtain ⟨z2, its2, n2, r3, hl2, e2⟩ := I.lstM hb
  have i1 : s.heap.IsList a its.toArray := ⟨_, e, rfl, _, rfl⟩
  have i2 : s.heap.IsList b its2.toArray := ⟨_, e2, rfl, _, rfl⟩
  have l3 := ru.length
  have l4 := rw'.length
  have hu0 : A.units < cLine := by omega
  by_cases hz : its.toArray.size = its2.toArray.size
  · have hz' := hz
    rw [List.size_toArray, List.size_toArray] at hz'
    have hit : ∀ j (h1 : j < its.toArray.size) (h2 : j < its2.toArray.size), SeqAt.EqAt A.in1 s its.toArray[j] its2.toArray[j] (pairE xs ys j) := fun j j1 j2 => by
      have hu' : A.in1.units + 59 < cLine := by show A.units + 1 + 59 < cLine; omega
      have := eq_items (A := A.in1) (s := s) (fun {d d' v v' u u'} p p' r r' q q' => eq_at I 59 hu' p p' r r' q q') p p' ru rw' r r3 j (by simpa using j1) (by simpa using j2)
      simpa using this
    have hz2 : eqDs xs ys = (List.range its.toArray.size).all (pairE xs ys) := by
      rw [eqDs_pairs, show min xs.length ys.length = its.toArray.size by rw [List.size_toArray]; omega, show (xs.length == ys.length) = true by simp; omega, Bool.and_true]
    rw [hz2]
    exact ⟨SeqAt.RcAt.lists i1 i2 hz hu0 hit, SeqAt.RcNeAt.lists i1 i2 hz hu0 hit⟩
  · have hz' := hz
    rw [List.size_toArray, List.size_toArray] at hz'
    have hz2 : eqDs xs ys = false := by
      rw [eqDs_pairs, show (xs.length == ys.length) = false by simp; omega, Bool.and_false]
    rw [hz2]
    exact ⟨SeqAt.RcAt.lists_lengths i1 i2 (by simpa using hz) hu0, SeqAt.RcNeAt.lists_lengths i1 i2 (by simpa using hz) hu0⟩
theorem od_eqs (hu : X.A.units + 60 < cLine) : OpD X (compareOp .Eq) (dEq id) ∧ OpD X (compareOp .NotEq) (dEq not) := by
  have key : ∀ {pins : List (Addr × Obj)} {s : Shared} {σ : L2.St} {H : Hp} {x y : V} {v u : Value} {dx dy : D} {M : DM} {Q' : DQ} {g : Bool → Bool}, Inv X pins σ H s → RelV x v → RelV y u → Rep X.K H dx x → Rep X.K H dy y → HRep X.K M H → dEq g dx dy M Q' →
      ∃ b, SeqAt.RcAt X.A s v u b ∧ SeqAt.RcNeAt X.A s v u (!b) ∧ Q' (.bl (g b)) M := by
    intro pins s σ H x y v u dx dy M Q' g I rx ry r1 r2 hm q
    have gen : pureN 60 dx = true → pureN 60 dy = true → Q' (.bl (g (eqD dx dy))) M → ∃ b, SeqAt.RcAt X.A s v u b ∧ SeqAt.RcNeAt X.A s v u (!b) ∧ Q' (.bl (g b)) M := fun p p' q => let ⟨h1, h2⟩ := rc_at I hu p p' r1 r2 rx ry; ⟨_, h1, h2, q⟩
    cases dx with
    | ref a =>
      cases dy with
      | ref b =>
        obtain ⟨xs, ys, ha, hb, _, p, p', q⟩ := q
        obtain ⟨us, hu', ru⟩ := hm.l a xs ha
        obtain ⟨ws, hw, rw'⟩ := hm.l b ys hb
        obtain rfl := rep_ref_eq r1
        obtain rfl := rep_ref_eq r2
        cases rx
        cases ry
        obtain ⟨h1, h2⟩ := lists_at I hu hu' hw ru rw' p p'
        exact ⟨_, h1, h2, q⟩
      | _ => exact gen q.1 q.2.1 q.2.2
    | _ => exact gen q.1 q.2.1 q.2.2
  refine ⟨fun pins s σ H x y v u Q I rx ry ⟨dx, dy, M, Q', r1, r2, hm, q, k⟩ => ?_, fun pins s σ H x y v u Q I rx ry ⟨dx, dy, M, Q', r1, r2, hm, q, k⟩ => ?_⟩
  · obtain ⟨b, h1, _, q⟩ := key I rx ry r1 r2 hm q
    exact h1 X.prog X.w X.xe _ ⟨.bl b, H, I, rfl, k _ H ⟨.bl b, M, rep_bl, hm, .refl H, q⟩⟩
  · obtain ⟨b, _, h2, q⟩ := key I rx ry r1 r2 hm q
    exact h2 X.prog X.w X.xe _ ⟨.bl (!b), H, I, rfl, k _ H ⟨.bl (!b), M, rep_bl, hm, .refl H, q⟩⟩
theorem od_eq {k : Nat} (hr : Room k X.A) : OpD X (compareOp .Eq) (dEq id) := (od_eqs (by have := hr.un; omega)).1
theorem od_ne {k : Nat} (hr : Room k X.A) : OpD X (compareOp .NotEq) (dEq not) := (od_eqs (by have := hr.un; omega)).2
def dNeg (ta : DE) : DE := fun ρ M Q => ta ρ M fun x M1 => match x with
  | .int i => Q (.int (-i)) M1
  | _ => False
theorem de_neg (ha : PDE X a ta) : PDE X (.UnaryOp .USub a pos) (dNeg ta) :=
  pe_imp (pe_un un_neg ha) fun σ H Q ⟨ρ, M, Q', re, hm, q, k⟩ => ⟨ρ, M, _, re, hm, q, fun x H1 ⟨d, M1, rd, hm1, ex, q1⟩ => by
    cases d with
    | int i => exact ⟨i, rep_int_eq rd, k _ H1 ⟨_, M1, rep_int, hm1, ex, q1⟩⟩
    | _ => exact q1.elim⟩
def dIxR : D2 := fun x y M Q => match x, y with
  | .tup ds, .int i => match atI ds i with
    | some d => Q d M
    | none => False
  | .fz ds, .int i => match atI ds i with
    | some d => Q d M
    | none => False
  | .ref a, .int i => ∃ ds d, M a = some ds ∧ atI ds i = some d ∧ Q d M
  | _, _ => False
theorem atI_reps {K : PySem.W.Frag} {H : Hp} {ds : List D} {xs : List V} {i : Int} {d : D} (r : Reps K H ds xs) (h : atI ds i = some d) : ∃ v, atI xs i = some v ∧ Rep K H d v := by
  unfold atI at h ⊢
  rw [← r.length]
  cases e : ixN ds.length i with
  | none => rw [e] at h; cases h
  | some j =>
    rw [e] at h
    exact r.get h
theorem ixd : IxR X fun x y H Q => ∃ dx dy M Q', Rep X.K H dx x ∧ Rep X.K H dy y ∧ HRep X.K M H ∧ dIxR dx dy M Q' ∧ ∀ v H', LQ X.K H Q' v H' → Q v H' := by
  intro value slice pins s σ H x y v u Q I rx ry ⟨dx, dy, M, Q', r1, r2, hm, q, k⟩ hs
  cases dx with
  | tup ds =>
    cases dy with
    | int i =>
      obtain ⟨a, us, rfl, sq, ru⟩ := rep_tup r1
      obtain rfl := rep_int_eq r2
      cases e : atI ds i with
      | none => exact absurd q (by show ¬ (match atI ds i with | some d => Q' d M | none => False); rw [e]; exact id)
      | some d =>
        have q' : Q' d M := by
          have z : (match atI ds i with | some d => Q' d M | none => False) := q
          rw [e] at z; exact z
        obtain ⟨w, hw, rw'⟩ := atI_reps ru e
        exact ix_tup value slice pins s σ H _ _ v u Q I rx ry ⟨a, us, i, w, rfl, rfl, sq, hw, k _ H ⟨d, M, rw', hm, .refl H, q'⟩⟩ hs
    | _ => exact q.elim
  | fz ds =>
    cases dy with
    | int i =>
      obtain ⟨a, us, rfl, sq, ru⟩ := rep_fz r1
      obtain rfl := rep_int_eq r2
      cases e : atI ds i with
      | none => exact absurd q (by show ¬ (match atI ds i with | some d => Q' d M | none => False); rw [e]; exact id)
      | some d =>
        have q' : Q' d M := by
          have z : (match atI ds i with | some d => Q' d M | none => False) := q
          rw [e] at z; exact z
        obtain ⟨w, hw, rw'⟩ := atI_reps ru e
        exact ix_list value slice pins s σ H _ _ v u Q I rx ry ⟨a, us, i, w, rfl, rfl, sq.sq, hw, k _ H ⟨d, M, rw', hm, .refl H, q'⟩⟩ hs
    | _ => exact q.elim
  | ref a =>
    cases dy with
    | int i =>
      obtain ⟨ds, d, ha, e, q'⟩ := q
      obtain rfl := rep_ref_eq r1
      obtain rfl := rep_int_eq r2
      obtain ⟨us, hu, ru⟩ := hm.l a ds ha
      obtain ⟨w, hw, rw'⟩ := atI_reps ru e
      exact ix_list value slice pins s σ H _ _ v u Q I rx ry ⟨a, us, i, w, rfl, rfl, .of hu, hw, k _ H ⟨d, M, rw', hm, .refl H, q'⟩⟩ hs
    | _ => exact q.elim
  | _ => exact q.elim
theorem de_ix (ha : PDE X a ta) (hb : PDE X b tb) (hs : PlainIx b := by exact fun _ _ => rfl) : PDE X (.Subscript a b pos) (dOp dIxR ta tb) :=
  pe_imp (pe_ix ixd ha hb hs) fun σ H Q h => low_op (fun _ _ _ _ z => z) h
abbrev DO := DEnv → DM → (Option Int → DM → Prop) → Prop
def lowO (K : PySem.W.Frag) (t : DO) : TO := fun σ H Q => ∃ ρ M Q', RepE K H ρ σ ∧ HRep K M H ∧ t ρ M Q' ∧ ∀ i H', (∃ M', HRep K M' H' ∧ Ext H H' ∧ Q' i M') → Q i H'
def dNoP : DO := fun _ M Q => Q none M
def dPt (t : DE) : DO := fun ρ M Q => t ρ M fun x M1 => match x with
  | .int i => Q (some i) M1
  | _ => False
theorem do_none : PO X none (lowO X.K dNoP) := fun pins s σ H Q I ⟨ρ, M, Q', re, hm, q, k⟩ => po_none pins s σ H Q I (k none H ⟨M, hm, .refl H, q⟩)
theorem do_some (h : PDE X e te) : PO X (some e) (lowO X.K (dPt te)) := fun pins s σ H Q I ⟨ρ, M, Q', re, hm, q, k⟩ => po_some h pins s σ H Q I ⟨ρ, M, _, re, hm, q, fun v H1 ⟨d, M1, rd, hm1, ex, q1⟩ => by
  cases d with
  | int i => exact ⟨i, rep_int_eq rd, k (some i) H1 ⟨M1, hm1, ex, q1⟩⟩
  | _ => exact q1.elim⟩
def cutD (xs : List D) (lo hi : Option Int) : List D := (xs.drop (HT.sIx xs.length 0 lo)).take (HT.sIx xs.length xs.length hi - HT.sIx xs.length 0 lo)
theorem cut_reps {K : PySem.W.Frag} {H : Hp} {ds : List D} {xs : List V} (r : Reps K H ds xs) (lo hi : Option Int) : Reps K H (cutD ds lo hi) (cutV xs lo hi) := by
  unfold cutD cutV
  rw [r.length]
  exact (r.drop _).take _
def dSlR (x : D) (lo hi : Option Int) (M : DM) (Q : DQ) : Prop := match x with
  | .fz ds => ∀ p : Addr, M p = none → Q (.ref p) (putM M p (cutD ds lo hi))
  | .ref a => ∃ ds, M a = some ds ∧ ∀ p : Addr, M p = none → Q (.ref p) (putM M p (cutD ds lo hi))
  | _ => False
def dSl (te : DE) (tl th : DO) : DE := fun ρ M Q => te ρ M fun x M1 => tl ρ M1 fun l M2 => th ρ M2 fun h M3 => dSlR x l h M3 Q
variable {lo hi : Option Expr} {tl th : DO} {p2 : Pos}
theorem de_slice (he : PDE X e te) (hl : PO X lo (lowO X.K tl)) (hu : PO X hi (lowO X.K th)) : PDE X (.Subscript e (.Slice lo hi none p2) pos) (dSl te tl th) :=
  pe_imp (pe_slice sl_list he hl hu) fun σ H Q ⟨ρ, M, Q', re, hm, q, k⟩ => ⟨ρ, M, _, re, hm, q, fun v H1 ⟨d, M1, rd, hm1, e1, q1⟩ => ⟨ρ, M1, _, re.ext e1, hm1, q1, fun l H2 ⟨M2, hm2, e2, q2⟩ => ⟨ρ, M2, _, (re.ext e1).ext e2, hm2, q2, fun h H3 ⟨M3, hm3, e3, q3⟩ => by
    have rd3 := (rd.ext e2).ext e3
    have ex := (e1.trans e2).trans e3
    cases d with
    | fz ds =>
      obtain ⟨a, us, rfl, sq, ru⟩ := rep_fz rd3
      exact ⟨a, us, rfl, sq.sq, fun p hp => k _ _ ⟨.ref p, _, rep_ref, hm3.lnew hp (cut_reps ru l h), ex.trans (Ext.new hp _), q3 p (hm3.fresh hp)⟩⟩
    | ref a =>
      obtain ⟨ds, ha, q3⟩ := q3
      obtain rfl := rep_ref_eq rd
      obtain ⟨us, hu, ru⟩ := hm3.l a ds ha
      exact ⟨a, us, rfl, .of hu, fun p hp => k _ _ ⟨.ref p, _, rep_ref, hm3.lnew hp (cut_reps ru l h), ex.trans (Ext.new hp _), q3 p (hm3.fresh hp)⟩⟩
    | _ => exact q3.elim⟩⟩⟩

abbrev DSp := List D → DM → DQ → Prop
def lowSp (K : PySem.W.Frag) (sp : DSp) : Sp := fun vs H Q _ => ∃ ds M Q', Reps K H ds vs ∧ HRep K M H ∧ sp ds M Q' ∧ ∀ v H', LQ K H Q' v H' → Q v H'
def dCall (sp : DSp) (t : DA) : DE := fun ρ M Q => t ρ M fun ds M1 => sp ds M1 Q
variable {CX : CXT} {k : Nat} {f : Addr} {fd : FuncData} {ps : List Str} {sp : DSp} {E : XK} {x : Str} {p : Pos}
theorem de_call (F : FnOk X.prog X.w X.K X.mg X.base CX k f fd ps (lowSp X.K sp)) (hr : Room k X.A) (hm : X.mg x = some (.ref f)) (hk : PySem.W.keepIn X.K (.ref f) = true) (hb : Binds X.K fd ps []) (hx : Passes CX X E) (ha : PDA X (e :: es) t) (hg : Gl X x := by rfl)
    (hdb : (x == ("__debug__" : Str)) = false := by decide) (he : starEach (e :: es) X.env = (false, eval e X.env) :: starEach es X.env := by rfl) (hpl : (backTo pos (starEach es X.env)).any (·.1) = false := by rfl) :
    PDE X (.Call (.Name x p) (e :: es) [] pos) (dCall sp t) :=
  pe_imp (pe_call F hr hg hm hk hb .nil hx ha hdb he hpl) fun σ H Q ⟨ρ, M, Q', re, hm, q, k⟩ => ⟨ρ, M, _, re, hm, q, fun vs H1 ⟨ds, M1, rs, hm1, ex, q1⟩ => ⟨ds, M1, Q', by rw [List.append_nil]; exact rs, hm1, q1, fun v H' z => k v H' (z.back ex)⟩⟩
def CallD (X : Cx) (fv : Value) (r : DSp) : Prop := CallR X fv fun vs H Q => ∃ ds M Q', Reps X.K H ds vs ∧ HRep X.K M H ∧ r ds M Q' ∧ ∀ v H', LQ X.K H Q' v H' → Q v H'
theorem CallD.of {fv : Value} {r : List V → Hp → VK → Prop} {r' : DSp} (h : CallR X fv r) (l : ∀ vs H M ds Q, Reps X.K H ds vs → HRep X.K M H → r' ds M Q → r vs H (LQ X.K H Q)) : CallD X fv r' := fun pins s σ H xs us Q I rs ⟨ds, M, Q', r1, hm, q, k⟩ =>
  thn (h pins s σ H xs us _ I rs (l xs H M ds Q' r1 hm q)) fun v s h => ep_mono h k
theorem low_cb {r : DSp} {σ : L2.St} {H : Hp} {Q : VK} (h : low X.K (dCall r t) σ H Q) : lowA X.K t σ H fun vs H1 => ∃ ds M Q', Reps X.K H1 ds vs ∧ HRep X.K M H1 ∧ r ds M Q' ∧ ∀ v H', LQ X.K H1 Q' v H' → Q v H' := by
  obtain ⟨ρ, M, Q', re, hm, q, k⟩ := h
  exact ⟨ρ, M, _, re, hm, q, fun vs H1 ⟨ds, M1, rs, hm1, ex, q1⟩ => ⟨ds, M1, Q', rs, hm1, q1, fun v H' z => k v H' (z.back ex)⟩⟩
theorem de_callB {id : String} {r : DSp} (hc : CallD X (.builtin id) r) (hm : X.mg x = none) (ha : PDA X (e :: es) t) (hv : bootBuiltins x = some (.builtin id) := by rfl) (hg : Gl X x := by rfl) (hn : x ≠ "__name__" := by decide) (hdb : (x == ("__debug__" : Str)) = false := by decide)
    (he : starEach (e :: es) X.env = (false, eval e X.env) :: starEach es X.env := by rfl) (hpl : (backTo pos (starEach es X.env)).any (·.1) = false := by rfl) : PDE X (.Call (.Name x p) (e :: es) [] pos) (dCall r t) :=
  pe_imp (pe_callB hc hg hm hv ha hn hdb he hpl) fun σ H Q h => low_cb h
theorem de_callTy {T : String} {r : DSp} (hc : CallD X (.type T) r) (hm : X.mg x = none) (ha : PDA X (e :: es) t) (hv : bootBuiltins x = some (.type T) := by rfl) (hg : Gl X x := by rfl) (hn : x ≠ "__name__" := by decide) (hdb : (x == ("__debug__" : Str)) = false := by decide)
    (he : starEach (e :: es) X.env = (false, eval e X.env) :: starEach es X.env := by rfl) (hpl : (backTo pos (starEach es X.env)).any (·.1) = false := by rfl) : PDE X (.Call (.Name x p) (e :: es) [] pos) (dCall r t) :=
  pe_imp (pe_callTy hc hg hm hv ha hn hdb he hpl) fun σ H Q h => low_cb h
end
end Dd

set_option Elab.async false
set_option linter.all false
set_option maxRecDepth 100000
set_option maxHeartbeats 4000000

namespace Dd
open PySem PySem.Spec PyProof.Rows L2

section
variable {X : Cx} {a b e o : Expr} {es : List Expr} {ta tb te to : DE} {t : DA} {pos : Pos}
def sAbs : DSp := fun ds M Q => match ds with
  | [.int i] => Q (.int (if i < 0 then -i else i)) M
  | _ => False
theorem one_of {K : PySem.W.Frag} {H : Hp} {d : D} {vs : List V} (h : Reps K H [d] vs) : ∃ v, vs = [v] ∧ Rep K H d v := by
  obtain ⟨v, r, rfl, rv, rr⟩ := reps_cons_eq h
  obtain rfl := reps_nil_eq rr
  exact ⟨v, rfl, rv⟩
theorem two_of {K : PySem.W.Frag} {H : Hp} {d d2 : D} {vs : List V} (h : Reps K H [d, d2] vs) : ∃ v v2, vs = [v, v2] ∧ Rep K H d v ∧ Rep K H d2 v2 := by
  obtain ⟨v, r, rfl, rv, rr⟩ := reps_cons_eq h
  obtain ⟨v2, rfl, rv2⟩ := one_of rr
  exact ⟨v, v2, rfl, rv, rv2⟩
theorem cd_abs : CallD X (.builtin "abs") sAbs := CallD.of call_abs fun vs H M ds Q rs hm q => by
  rcases ds with _ | ⟨d, _ | ⟨d2, r⟩⟩
  · exact q.elim
  · cases d with
    | int i =>
      obtain ⟨v, rfl, rv⟩ := one_of rs
      obtain rfl := rep_int_eq rv
      exact ⟨i, rfl, _, M, rep_int, hm, .refl H, q⟩
    | _ => exact q.elim
  · cases d <;> exact q.elim
def sInt : DSp := fun ds M Q => match ds with
  | [.int i] => Q (.int i) M
  | [.bl k] => Q (.int (if k then 1 else 0)) M
  | _ => False
theorem cd_int : CallD X (.type "int") sInt := CallD.of call_int1 fun vs H M ds Q rs hm q => by
  rcases ds with _ | ⟨d, _ | ⟨d2, r⟩⟩
  · exact q.elim
  · cases d with
    | int i =>
      obtain ⟨v, rfl, rv⟩ := one_of rs
      obtain rfl := rep_int_eq rv
      exact .inl ⟨i, rfl, _, M, rep_int, hm, .refl H, q⟩
    | bl i =>
      obtain ⟨v, rfl, rv⟩ := one_of rs
      obtain rfl := rep_bl_eq rv
      exact .inr ⟨i, rfl, _, M, rep_int, hm, .refl H, q⟩
    | _ => exact q.elim
  · cases d <;> exact q.elim
def sLen : DSp := fun ds M Q => match ds with
  | [.tup xs] => Q (.int xs.length) M
  | [.fz xs] => Q (.int xs.length) M
  | [.ref a] => ∃ xs, M a = some xs ∧ Q (.int xs.length) M
  | _ => False
theorem cd_len : CallD X (.builtin "len") sLen := CallD.of call_len_seq fun vs H M ds Q rs hm q => by
  rcases ds with _ | ⟨d, _ | ⟨d2, r⟩⟩
  · exact q.elim
  · cases d with
    | tup xs =>
      obtain ⟨v, rfl, rv⟩ := one_of rs
      obtain ⟨a, us, rfl, sq, ru⟩ := rep_tup rv
      exact ⟨a, us, rfl, .inr sq, _, M, by rw [← ru.length]; exact rep_int, hm, .refl H, q⟩
    | fz xs =>
      obtain ⟨v, rfl, rv⟩ := one_of rs
      obtain ⟨a, us, rfl, sq, ru⟩ := rep_fz rv
      exact ⟨a, us, rfl, .inl sq.sq, _, M, by rw [← ru.length]; exact rep_int, hm, .refl H, q⟩
    | ref a =>
      obtain ⟨v, rfl, rv⟩ := one_of rs
      obtain rfl := rep_ref_eq rv
      obtain ⟨xs, ha, q⟩ := q
      obtain ⟨us, hu, ru⟩ := hm.l a xs ha
      exact ⟨a, us, rfl, .inl (.of hu), _, M, by rw [← ru.length]; exact rep_int, hm, .refl H, q⟩
    | _ => exact q.elim
  · cases d <;> exact q.elim
def dAppend (to te : DE) : DE := fun ρ M Q => to ρ M fun x M1 => match x with
  | .ref p => (∃ ds, M1 p = some ds) ∧ dCons te dNil ρ M1 fun ys M2 => ∃ ds y, ys = [y] ∧ M2 p = some ds ∧ ds.length < 1000 ∧ Q .non (putM M2 p (ds ++ [y]))
  | _ => False
theorem de_append {apos cpos : Pos} (ho : PDE X o to) (he : PDE X e te) (hse : starEach [e] X.env = (false, eval e X.env) :: starEach [] X.env := by rfl)
    (hbase : attributeBase o "append" X.env (eval o X.env) = eval o X.env := by rfl)
    (hfew : ((backTo cpos (starEach [e] X.env)).all (fun x => !x.1) && (backToKw cpos (keywordEach [] X.env)).all (fun x => x.1.isSome)
      && decide ([e].length + ([] : List Keyword).length + (if ([] : List Keyword).isEmpty then 0 else 1) < 30)) = true := by rfl)
    (hline : (apos.endLine == cpos.line) = true := by rfl) (hplain : (backTo cpos (starEach [] X.env)).any (·.1) = false := by rfl) :
    PDE X (.Call (.Attribute o "append" apos) [e] [] cpos) (dAppend to te) :=
  pe_imp (pe_bm PySem.F.plainAttrs_list PySem.F.slot_list_append PySem.F.type_list_append mt_append ho (da_cons he da_nil hse) hbase hfew hline hse hplain) fun σ H Q ⟨ρ, M, Q', re, hm, q, k⟩ => ⟨ρ, M, _, re, hm, q, fun v H1 ⟨d, M1, rd, hm1, e1, q1⟩ => by
    cases d with
    | ref p =>
      obtain rfl := rep_ref_eq rd
      obtain ⟨⟨ds0, h0⟩, q1⟩ := q1
      obtain ⟨us0, hu0, _⟩ := hm1.l p ds0 h0
      refine ⟨.inl ⟨rfl, us0, .of hu0⟩, ρ, M1, _, re.ext e1, hm1, q1, fun vs H2 ⟨dvs, M2, rs, hm2, e2, ds, y, ey, hp, hl, q2⟩ => ?_⟩
      subst ey
      obtain ⟨w, rfl, rw'⟩ := one_of rs
      obtain ⟨us, hu, ru⟩ := hm2.l p ds hp
      exact ⟨p, us, w, rfl, rfl, hu, by rw [← ru.length]; exact small1000 (Nat.le_of_lt hl), k _ _ ⟨.non, _, rep_non, hm2.put hu (ru.append (reps_cons rw' reps_nil)), (e1.trans e2).trans (Ext.put hu _), q2⟩⟩
    | _ => exact q1.elim⟩

def tyD : D → Option String
  | .non => some "NoneType"
  | .bl _ => some "bool"
  | .int _ => some "int"
  | .str _ => some "str"
  | .tup _ => some "tuple"
  | .fz _ => some "list"
  | .ref _ => none
def dIs (K : PySem.W.Frag) (c : Value) (te : DE) : DE := fun ρ M Q => te ρ M fun d M1 => (∃ T k, tyD d = some T ∧ PySem.W.kitOne K (.type T) c = some k ∧ Q (.bl k) M1) ∨ (∃ (p : Addr) (xs : List D) (k : Bool), d = .ref p ∧ M1 p = some xs ∧ PySem.W.kitOne K (.type "list") c = some k ∧ Q (.bl k) M1)
end

def startD (N : List Str) (ds : List D) : DEnv := ds.map some ++ List.replicate (N.length - ds.length) none
def Dn (Q : DQ) : DQ := fun d M => ∃ M', SubM M' M ∧ Q d M'
section
variable {P : Program} {w : World} {K : PySem.W.Frag} {mg : Str → Option Value} {base : Heap}
theorem reps_start {H : Hp} {ds : List D} {vs : List V} (r : Reps K H ds vs) (N : List Str) : RepE K H (startD N ds) (L2.start N vs) := by
  have hl := r.length
  refine ⟨by unfold startD L2.start; simp only [List.length_append, List.length_map, List.length_replicate, hl], fun i d q => ?_⟩
  unfold startD at q
  unfold L2.start
  by_cases hi : i < ds.length
  · rw [List.getElem?_append_left (by simpa using hi), List.getElem?_map] at q
    rw [List.getElem?_append_left (by simpa [← hl] using hi), List.getElem?_map]
    cases e : ds[i]? with
    | none => rw [e] at q; cases q
    | some d' =>
      rw [e] at q
      cases q
      obtain ⟨v, e2, rv⟩ := r.get e
      exact ⟨v, by rw [e2]; rfl, rv⟩
  · rw [List.getElem?_append_right (by simpa using hi), List.getElem?_replicate] at q
    split at q <;> cases q
theorem Fun.okD {x qual : Str} {st : Stmt} {f : Addr} {fd : FuncData} {N ps : List Str} {k : Nat} {sp : DSp} (F : L2.Fun K x qual st f fd) (S : FnScope N ps (defScope st)) (len : ∀ ds M Q, sp ds M Q → ds.length = ps.length)
    (hbody : ∀ (cdv : Value) (A : Around) (outer : List Env) (s : Shared) (H : Hp) (ds : List D) (M : DM) (Q : DQ) (E : XK), Room k (A.deeper (envOfC qual (defScope st) s.heap.objs.size f cdv)) → sp ds M Q →
      ∃ t, PDSs (cxOf CX0 P w K mg base N qual (defScope st) f cdv A outer s H E).nox (defBody st) t ∧ t { nx := fun _ M' => Dn Q .non M', rt := Dn Q } (startD N ds) M) : FnOk P w K mg base CX0 (k + 1) f fd ps (lowSp K sp) := by
  refine F.ok S (fun vs H Q E ⟨ds, M, Q', rs, hm, q, _⟩ => by rw [← rs.length]; exact len ds M Q' q) fun cdv A outer s H vs Q E hr ⟨ds, M, Q', rs, hm, q, k'⟩ => ?_
  obtain ⟨t, h1, h2⟩ := hbody cdv A outer s H ds M Q' E hr q
  have fin : ∀ v H', LQ K H (Dn Q') v H' → Q v H' := fun v H' ⟨d, M1, rd, hm1, ex, M2, sub, q2⟩ => k' v H' ⟨d, M2, rd, hm1.sub sub, ex, q2⟩
  refine ⟨_, h1, startD N ds, M, _, reps_start rs N, hm, h2, ⟨fun σ' H' ⟨ρ', M', _, hm', ex, q'⟩ => fin _ H' ⟨.non, M', rep_non, hm', ex, q'⟩, fin, fun σ' H' ⟨_, _, _, _, _, z⟩ => z.elim, fun σ' H' ⟨_, _, _, _, _, z⟩ => z.elim⟩⟩
end

theorem law_callX {P : Program} {w : World} {K : PySem.W.Frag} {mg mb : Str → Option Value} {CX : CXT} {k : Nat} {fa a : Addr} {fd : FuncData} {x : Str} {sp : Sp} {s₁ : Shared} {vs : List Value} {ns : List Int}
    (KX : K.In s₁.heap) (hns : s₁.heap.Ns mainGlobals mg) (hb : s₁.heap.Ns builtinsNs mb) (hbb : ∀ x : Str, x ≠ "__name__" → mb x = bootBuiltins x) (hlim : s₁.heap.NoLimit) (hg : s₁.gens = #[])
    (ha : s₁.heap.get? a = some { cls := .type "list", data := .seq vs.toArray }) (hi : IntsAre vs ns) (hl : ns.length ≤ sizeLine) (hr : Room k callerA)
    (F : ∀ base : Heap, K.In base → base.Ns mainGlobals mg → FnOk P w K mg base CX k fa fd [x] sp) (hbind : ∀ (s : Shared) (u : Value), BindsTo s fd ⟨[u], []⟩ [(x, u)])
    (hsp : ∀ H : Hp, Only H → SqX K H a (ns.map V.int) → sp [.ref a] H (fun v _ => v = .bl true) fun _ _ _ => False)
    (hCX : ∀ H e s', CX [] H s₁ (fun _ _ _ => False) e s' → False) :
    codeAny (model P w) callerA (.call (.ref fa) ⟨[.ref a], []⟩) (fun r s' => r = .ok (.ret (.bool true)) ∧ OldK s₁.heap s'.heap ∧ s'.os = s₁.os ∧ AllBare s'.gens) s₁ := by
  have rv := vals_ints hi
  have lenV := hi.length
  refine law_call (ns := ns) (sp := fun vs H Q E => SqX K H a (ns.map V.int) ∧ sp vs H Q E) KX hns hb hbb hlim hg ha hi hl hr (fun base h1 h2 => (F base h1 h2).imp fun _ _ _ _ z => z.2) hbind (fun H hO hS => ?_) hCX
  have sx : SqX K H a (ns.map V.int) := by
    rcases hS with (h | h) | ⟨o, its, n, hk, hc, hd, hs, hz, r⟩
    · rcases hO a with z | ⟨o, xs, z⟩
      · rw [h] at z; cases z
      · rw [h] at z; cases z
    · exact .inl h
    · have e := KX a o hk
      rw [ha] at e
      cases e
      cases hs
      exact .inr ⟨_, _, hk, hz, r⟩
  exact ⟨sx, hsp H hO sx⟩
theorem walk_ofD {l : PySem.W.OpenLaw} {n k : Nat} {q : Program} {loose : List Str} {XP : (Str → Option Value) → Heap → Prop} {YP : World → Heap → Prop} {d : DefRec} {K : Params → PySem.W.Frag} {sp : DSp} {x : Str}
    (hn : l.most = some n) (hn2 : n ≤ sizeLine) (hdf : d.params.defaults = []) (hr : Room k callerA)
    (hY : ∀ (w : World) (h : Heap), YP w h → (K w.params).In h)
    (F : ∀ (w : World) (mg : Str → Option Value) (fa : Addr) (h : Heap), (K w.params).In h → h.Ns mainGlobals mg → mg d.name = some (.ref fa) →
      ∃ fd : FuncData, (∀ (s : Shared) (u : Value), BindsTo s fd ⟨[u], []⟩ [(x, u)]) ∧
        ∀ base : Heap, (K w.params).In base → base.Ns mainGlobals mg → FnOk l.prog w (K w.params) mg base CX0 k fa fd [x] (lowSp (K w.params) sp))
    (hsp : ∀ (ns : List Int), ns.length ≤ n → ∀ M, sp [.fz (ns.map D.int)] M fun d _ => d = .bl true) :
    PySem.W.WalkO q loose XP YP l.row.toRowW d [] (fun f vs => PySem.call f vs) := by
  refine Att.attach_call hn hdf fun w s₀ s₁ mg mb fa o pm cd doc a vs ns G Y ho hd hcd hmg hobj hints hlen hg => ?_
  have KX := hY w _ Y
  obtain ⟨fd, hb, hF⟩ := F w mg fa _ KX G.T.g hmg
  refine law_callX KX G.T.g G.T.b G.T.builtins G.T.nolimit hg hobj hints (Nat.le_trans hlen hn2) hr hF hb (fun H hO hS => ?_) fun H e s' h => h
  refine ⟨[.fz (ns.map D.int)], fun _ => none, _, reps_cons (by unfold Rep; exact ⟨a, _, rfl, hS, reps_ints ns⟩) reps_nil, ⟨(fun _ _ z => by cases z), (fun _ _ z => by cases z)⟩, hsp ns hlen _, fun v H' z => ?_⟩
  obtain ⟨d, M', rd, _, _, e⟩ := z
  have e' : d = .bl true := e
  subst e'
  exact rep_bl_eq rd
end Dd

set_option Elab.async false
set_option linter.all false
set_option maxRecDepth 100000
set_option maxHeartbeats 4000000

namespace Dd
open PySem PySem.Spec PyProof.Rows L2

def HasF (K : PySem.W.Frag) (mg : Str → Option Value) (x : Str) (st : Stmt) (ps : List Str) : Prop := ∃ f fd, L2.Fun K x x st f fd ∧ mg x = some (.ref f) ∧ Binds K fd ps []
def Has (P : Program) (w : World) (K : PySem.W.Frag) (mg : Str → Option Value) (base : Heap) (k : Nat) (x : Str) (ps : List Str) (sp : DSp) : Prop :=
  ∃ f fd, FnOk P w K mg base CX0 k f fd ps (lowSp K sp) ∧ mg x = some (.ref f) ∧ PySem.W.keepIn K (.ref f) = true ∧ Binds K fd ps []
section
variable {P : Program} {w : World} {K : PySem.W.Frag} {mg : Str → Option Value} {base : Heap}
theorem Has.mk {x : Str} {st : Stmt} {N ps : List Str} {k : Nat} {sp : DSp} (h : HasF K mg x st ps) (S : FnScope N ps (defScope st)) (len : ∀ ds M Q, sp ds M Q → ds.length = ps.length)
    (hbody : ∀ (f : Addr) (cdv : Value) (A : Around) (outer : List Env) (s : Shared) (H : Hp) (ds : List D) (M : DM) (Q : DQ) (E : XK), Room k (A.deeper (envOfC x (defScope st) s.heap.objs.size f cdv)) → sp ds M Q →
      ∃ t, PDSs (cxOf CX0 P w K mg base N x (defScope st) f cdv A outer s H E).nox (defBody st) t ∧ t { nx := fun _ M' => Dn Q .non M', rt := Dn Q } (startD N ds) M) : Has P w K mg base (k + 1) x ps sp := by
  obtain ⟨f, fd, F, hm, hb⟩ := h
  exact ⟨f, fd, Fun.okD F S len fun cdv A outer s H ds M Q E hr q => hbody f cdv A outer s H ds M Q E hr q, hm, F.kp, hb⟩
theorem Has.imp {x : Str} {ps : List Str} {k : Nat} {sp sp' : DSp} (h : Has P w K mg base k x ps sp) (i : ∀ ds M Q, sp' ds M Q → sp ds M Q) : Has P w K mg base k x ps sp' := by
  obtain ⟨f, fd, F, hm, hk, hb⟩ := h
  exact ⟨f, fd, F.imp fun vs H Q E ⟨ds, M, Q', a, b, c, d⟩ => ⟨ds, M, Q', a, b, i _ _ _ c, d⟩, hm, hk, hb⟩
end
section
variable {X : Cx} {a b c e : Expr} {es : List Expr} {ta tb te : DE} {t : DA} {pos p : Pos} {x : Str} {ps : List Str} {sp : DSp} {k j : Nat}
theorem de_callH (h : Has X.prog X.w X.K X.mg X.base k x ps sp) (hr : Room j X.A) (hkj : k ≤ j) (ha : PDA X (e :: es) t) (hg : Gl X x := by rfl)
    (hdb : (x == ("__debug__" : Str)) = false := by decide) (he : starEach (e :: es) X.env = (false, eval e X.env) :: starEach es X.env := by rfl) (hpl : (backTo pos (starEach es X.env)).any (·.1) = false := by rfl) :
    PDE X (.Call (.Name x p) (e :: es) [] pos) (dCall sp t) := by
  obtain ⟨f, fd, F, hm, hk, hb⟩ := h
  exact de_call F (hr.mono hkj) hm hk hb pass0 ha hg hdb he hpl
def dAug (i : Nat) (te : DE) (g : Int → Int → Int) : DS := fun E ρ M => match ρ[i]? with
  | some (some (.int z)) => te ρ M fun y M1 => match y with
    | .int j => E.nx (ρ.set i (some (.int (g z j)))) M1
    | _ => False
  | _ => False
end

theorem dif {c A B : Prop} [Decidable c] (h1 : c → A) (h2 : ¬ c → B) : if decide c = true then A else B := by
  by_cases h : c
  · rw [decide_eq_true h]; exact h1 h
  · rw [decide_eq_false h]; exact h2 h
theorem bcase {b : Bool} {A B : Prop} (h1 : b = true → A) (h2 : b = false → B) : if b = true then A else B := by
  cases b
  · exact h2 rfl
  · exact h1 rfl
end Dd

set_option Elab.async false
set_option linter.all false
set_option maxRecDepth 100000
set_option maxHeartbeats 4000000

namespace Dd
open PySem PySem.Spec PyProof.Rows L2

section
variable {prog : Program} {w : World} {A : Around} {E : Value → Shared → Prop} {s : Shared}
theorem isList_but {h h' : Heap} {it t : Addr} {items : Array Value} (ht : h.IsList t items) (hs : Heap.SameBut it h h') (hne : t ≠ it) : h'.IsList t items := by
  obtain ⟨o, e, r⟩ := ht
  exact ⟨o, (hs.2 t hne).trans e, r⟩
theorem isList_push {h : Heap} {t : Addr} {items : Array Value} (ht : h.IsList t items) (o : Obj) : (h.push o).IsList t items := by
  obtain ⟨o', e, r⟩ := ht
  exact ⟨o', Heap.get?_push_of_some _ e, r⟩
theorem draw_list {it t : Addr} {items : Array Value} (hne : t ≠ it) : ∀ (n i : Nat) (s : Shared) (Q : List Value → Shared → Prop), s.heap.IsListIter it t i → s.heap.IsList t items → i + n ≤ items.size →
    (∀ h', h'.IsListIter it t (i + n) → Heap.SameBut it s.heap h' → Q ((items.toList.drop i).take n) { s with heap := h' }) → wpAny (model prog w) A (draw (.ref it) n) Q E s
  | 0, i, s, Q, hit, _, _, hQ => by
    show wpAny _ _ (pure []) Q E s
    exact wpAny_pure (by simpa using hQ s.heap hit (Heap.SameBut.refl ..))
  | n + 1, i, s, Q, hit, ht, hle, hQ => by
    have hlt : i < items.size := by omega
    show wpAny _ _ (pyNext (.ref it) >>= _) Q E s
    refine wpAny_bind (wpAny_pyNext_list_item hit ht (x := items[i]) (by simp [hlt]) fun h₁ hit₁ hs₁ => ?_)
    refine wpAny_bind (wpAny_holding (draw_list hne n (i + 1) _ _ hit₁ (isList_but ht hs₁ hne) (by omega) fun h₂ hit₂ hs₂ => wpAny_pure ?_))
    have hd : items.toList.drop i = items[i] :: items.toList.drop (i + 1) := by simp [List.drop_eq_getElem_cons, hlt]
    have := hQ h₂ (by rw [show i + (n + 1) = i + 1 + n by omega]; exact hit₂) (hs₁.trans hs₂)
    rw [hd, List.take_succ_cons] at this
    exact this
theorem unpackItems_list {t : Addr} {items : Array Value} {Q : List Value → Shared → Prop} (hh : A.handled = none) (ht : s.heap.IsList t items)
    (hQ : ∀ h', Heap.ExtBut s.heap.objs.size s.heap h' → Q items.toList { s with heap := h' }) : wpAny (model prog w) A (unpackItems (.ref t) items.size none) Q E s := by
  have hlt : t ≠ s.heap.objs.size := by obtain ⟨o, ho, _⟩ := ht; exact Nat.ne_of_lt (Heap.lt_size ho)
  unfold unpackItems
  refine wpAny_bind ?_
  · unfold notIterableAtAll
    refine wpAny_bind (wpAny_specialOf ht.typeIs slot_list_iter.lookup ?_)
    refine wpAny_pure ?_
    simp only [Bool.false_eq_true, if_false]
    refine wpAny_bind (wpAny_holding (wpAny_pyIter_list ht ?_))
    refine wpAny_bind (wpAny_holding (draw_list hlt items.size 0 _ _ ⟨_, Heap.get?_push_size _ rfl, rfl, rfl⟩ (isList_push ht _) (by omega) fun h₁ hit₁ hs₁ => ?_))
    have hall : List.take items.size (List.drop 0 items.toList) = items.toList := by
      rw [List.drop_zero]; exact List.take_of_length_le (by simp)
    rw [hall]
    rw [if_neg (by simp)]
    have ht₁ : h₁.IsList t items := isList_but (isList_push ht _) hs₁ hlt
    refine wpAny_bind (wpAny_holding (wpAny_pyNext_list_end hh hit₁ ht₁ (by simp) fun h₂ he₂ => ?_))
    simp only [Option.isSome_none, Bool.false_eq_true, if_false]
    refine wpAny_pure (hQ h₂ fun b o hb e => he₂ b o hb (hs₁.extBut b o hb (Heap.get?_push_of_some _ e)))
theorem assign_Tuple_list {env : Env} {elts : List Expr} {x1} {pos : Pos} {t : Addr} {items : Array Value} {Q : Unit → Shared → Prop} (hh : A.handled = none) (ht : s.heap.IsList t items)
    (hn : (assignEach elts env).length = items.size) (hstar : (assignEach elts env).findIdx? (·.1) = none)
    (h : ∀ h', Heap.ExtBut s.heap.objs.size s.heap h' → wpAny (model prog w) A (assignInOrder ((assignEach elts env).map (·.2)) items.toList) Q E { s with heap := h' }) :
    wpAny (model prog w) A (assign (.Tuple elts x1 pos) env (.ref t)) Q E s := by
  rw [assign_Tuple]
  refine wpAny_bind (wpAny_standAt ?_)
  unfold unpack
  rw [hn, hstar]
  exact wpAny_bind (wpAny_holding (unpackItems_list hh ht h))
end
section
variable {X : Cx} {pos : Pos} {e a b : Expr} {es : List Expr} {te ta tb : DE}
def gU (n : Nat) (t : DGs) : DG := fun d ρ M Q => match d with
  | .tup ds => ds.length = n ∧ t ds ρ M Q
  | .ref a => ∃ ds, M a = some ds ∧ ds.length = n ∧ t ds ρ M Q
  | _ => False
theorem dg_unp {k : Nat} {t : DGs} {n : Nat} (hc : X.calm = true) (h : PDGs X es t) (hn : (assignEach es X.env).length = n := by rfl) (hst : (assignEach es X.env).findIdx? (·.1) = none := by rfl) : PDG X (.Tuple es k pos) (gU n t) := by
  intro pins s σ H v u Q I r ⟨d, ρ, M, Q', rd, re, hm, q, k'⟩
  cases d with
  | tup ds => exact dg_tup hc h hn hst pins s σ H v u Q I r ⟨.tup ds, ρ, M, Q', rd, re, hm, q, k'⟩
  | ref p =>
    obtain ⟨ds, hp, hl, q⟩ := q
    obtain rfl := rep_ref_eq rd
    cases r
    obtain ⟨us, hu, ru⟩ := hm.l p ds hp
    obtain ⟨z, its, nn, rv, hlen, e1⟩ := I.lstM hu
    have l1 := ru.length
    refine assign_Tuple_list (I.ok.hd hc) ⟨_, e1, rfl, _, rfl⟩ (by rw [hn, List.size_toArray]; omega) hst fun h' hx => ?_
    have I1 : Inv X pins σ H { s with heap := h' } := I.kept (t' := s.toks) fun b o e => hx b o (Nat.ne_of_lt (Heap.lt_size e)) e
    exact h pins _ σ H us _ Q I1 (by simpa using rv) ⟨ds, ρ, M, Q', ru, re, hm, q, k'⟩
  | _ => exact q.elim

def isV : D → D → Option Bool
  | .non, .non => some true
  | .bl a, .bl b => some (a == b)
  | .non, .bl _ => some false
  | .bl _, .non => some false
  | .int _, .non => some false
  | .str _, .non => some false
  | .tup _, .non => some false
  | .ref _, .non => some false
  | .fz _, .non => some false
  | .tup _, .bl _ => some false
  | _, _ => none
def dIsR (g : Bool → Bool) : D2 := fun x y M Q => match isV x y with
  | some k => Q (.bl (g k)) M
  | none => False
theorem is_key {K : PySem.W.Frag} {H : Hp} {x y : V} {v u : Value} {dx dy : D} {k : Bool} (rx : RelV x v) (ry : RelV y u) (r1 : Rep K H dx x) (r2 : Rep K H dy y) (h : isV dx dy = some k) : plainIs v u = true ∧ (v == u) = k := by
  cases dx <;> cases dy <;> first
    | (cases (show (none : Option Bool) = some k from h))
    | (first
        | (rw [rep_non_eq r1] at rx; cases rx)
        | (rw [rep_bl_eq r1] at rx; cases rx)
        | (rw [rep_int_eq r1] at rx; obtain ⟨t, rfl⟩ := rx)
        | (rw [rep_str_eq r1] at rx; obtain ⟨t, rfl⟩ := rx)
        | (rw [rep_ref_eq r1] at rx; cases rx)
        | (obtain ⟨a, us, rfl, _, _⟩ := rep_tup r1; cases rx)
        | (obtain ⟨a, us, rfl, _, _⟩ := rep_fz r1; cases rx)
       first
        | (rw [rep_non_eq r2] at ry; cases ry)
        | (rw [rep_bl_eq r2] at ry; cases ry)
       simp only [isV, Option.some.injEq] at h
       subst h
       constructor <;> first | rfl | (rename_i b1 b2; cases b1 <;> cases b2 <;> rfl))
theorem od_is : OpD X (compareOp .Is) (dIsR id) := fun pins s σ H x y v u Q I rx ry ⟨dx, dy, M, Q', r1, r2, hm, q, k⟩ => by
  unfold dIsR at q
  split at q
  · rename_i b e
    obtain ⟨h1, h2⟩ := is_key rx ry r1 r2 e
    exact wpAny_is_plain h1 (by rw [h2]; exact ⟨.bl b, H, I, rfl, k _ H ⟨_, M, rep_bl, hm, .refl H, q⟩⟩)
  · exact q.elim
end
end Dd

set_option Elab.async false
set_option linter.all false
set_option maxRecDepth 100000
set_option maxHeartbeats 4000000
namespace Dd
open PySem PySem.Spec PyProof.Rows L2
section
variable {M : DM} {Q : DQ} {g : Bool → Bool} {ds : List D} {i : Int} {a : Addr} {α : Type} {x0 x1 x2 x3 x4 x5 : α} {l : List α}
theorem ixT : dIxR (.tup ds) (.int i) M Q = (match atI ds i with | some d => Q d M | none => False) := rfl
theorem ixF : dIxR (.fz ds) (.int i) M Q = (match atI ds i with | some d => Q d M | none => False) := rfl
theorem ixRf : dIxR (.ref a) (.int i) M Q = (∃ ds d, M a = some ds ∧ atI ds i = some d ∧ Q d M) := rfl
theorem at_1_0 : atI [x0] 0 = some x0 := rfl
theorem at_1_m : atI [x0] (-1) = some x0 := rfl
theorem at_2_0 : atI [x0, x1] 0 = some x0 := rfl
theorem at_2_1 : atI [x0, x1] 1 = some x1 := rfl
theorem at_2_m : atI [x0, x1] (-1) = some x1 := rfl
theorem at_3_0 : atI [x0, x1, x2] 0 = some x0 := rfl
theorem at_3_1 : atI [x0, x1, x2] 1 = some x1 := rfl
theorem at_3_2 : atI [x0, x1, x2] 2 = some x2 := rfl
theorem at_3_m : atI [x0, x1, x2] (-1) = some x2 := rfl
theorem at_4_0 : atI [x0, x1, x2, x3] 0 = some x0 := rfl
theorem at_4_1 : atI [x0, x1, x2, x3] 1 = some x1 := rfl
theorem at_4_2 : atI [x0, x1, x2, x3] 2 = some x2 := rfl
theorem at_4_3 : atI [x0, x1, x2, x3] 3 = some x3 := rfl
theorem at_4_m : atI [x0, x1, x2, x3] (-1) = some x3 := rfl
theorem at_5_0 : atI [x0, x1, x2, x3, x4] 0 = some x0 := rfl
theorem at_5_1 : atI [x0, x1, x2, x3, x4] 1 = some x1 := rfl
theorem at_5_2 : atI [x0, x1, x2, x3, x4] 2 = some x2 := rfl
theorem at_5_3 : atI [x0, x1, x2, x3, x4] 3 = some x3 := rfl
theorem at_5_4 : atI [x0, x1, x2, x3, x4] 4 = some x4 := rfl
theorem at_5_m : atI [x0, x1, x2, x3, x4] (-1) = some x4 := rfl
theorem at_6_0 : atI [x0, x1, x2, x3, x4, x5] 0 = some x0 := rfl
theorem at_6_1 : atI [x0, x1, x2, x3, x4, x5] 1 = some x1 := rfl
theorem at_6_2 : atI [x0, x1, x2, x3, x4, x5] 2 = some x2 := rfl
theorem at_6_3 : atI [x0, x1, x2, x3, x4, x5] 3 = some x3 := rfl
theorem at_6_4 : atI [x0, x1, x2, x3, x4, x5] 4 = some x4 := rfl
theorem at_6_5 : atI [x0, x1, x2, x3, x4, x5] 5 = some x5 := rfl
theorem at_6_m : atI [x0, x1, x2, x3, x4, x5] (-1) = some x5 := rfl
theorem gU_tup {n : Nat} {t : DGs} {ρ : DEnv} {R : DEnv → DM → Prop} : gU n t (.tup ds) ρ M R = (ds.length = n ∧ t ds ρ M R) := rfl
theorem gU_ref {n : Nat} {t : DGs} {ρ : DEnv} {R : DEnv → DM → Prop} : gU n t (.ref a) ρ M R = (∃ ds, M a = some ds ∧ ds.length = n ∧ t ds ρ M R) := rfl
theorem dEq_int {i j : Int} : dEq g (.int i) (.int j) M Q = Q (.bl (g (decide (i = j)))) M := by
  show (pureN 60 (.int i) = true ∧ pureN 60 (.int j) = true ∧ Q (.bl (g (eqD (.int i) (.int j)))) M) = _
  have e : eqD (.int i) (.int j) = decide (i = j) := by show (i == j) = _; by_cases h : i = j <;> simp [h]
  rw [e]
  exact propext ⟨fun h => h.2.2, fun h => ⟨rfl, rfl, h⟩⟩
theorem dEq_str {x y : Str} : dEq g (.str x) (.str y) M Q = Q (.bl (g (decide (x = y)))) M := by
  show (pureN 60 (.str x) = true ∧ pureN 60 (.str y) = true ∧ Q (.bl (g (eqD (.str x) (.str y)))) M) = _
  have e : eqD (.str x) (.str y) = decide (x = y) := by show (x == y) = _; by_cases h : x = y <;> simp [h]
  rw [e]
  exact propext ⟨fun h => h.2.2, fun h => ⟨rfl, rfl, h⟩⟩
def isK (K : PySem.W.Frag) (c : Value) (d : D) (M : DM) (Q : DQ) : Prop := (∃ T k, tyD d = some T ∧ PySem.W.kitOne K (.type T) c = some k ∧ Q (.bl k) M) ∨ (∃ (p : Addr) (xs : List D) (k : Bool), d = .ref p ∧ M p = some xs ∧ PySem.W.kitOne K (.type "list") c = some k ∧ Q (.bl k) M)
theorem dIs_eq {K : PySem.W.Frag} {c : Value} {te : DE} {ρ : DEnv} : dIs K c te ρ M Q = te ρ M fun d M1 => isK K c d M1 Q := rfl
end
end Dd

set_option Elab.async false
set_option linter.all false
set_option maxRecDepth 100000
set_option maxHeartbeats 4000000
namespace L2
open PySem PySem.Spec PyProof.Rows
def clo (cells : List (Str × Addr)) : List (Str × NameKind) → List (Str × Addr) → List (Str × Addr)
  | [], cs => cs
  | (n, k) :: r, cs => clo cells r (if k == .free then (n, (cells.lookup n).getD 0) :: cs else cs)
def cloB (env : Env) (x : Str × NameKind) (r : List (Str × Addr)) : Sem (ForInStep (List (Str × Addr))) :=
  if (x.2 == NameKind.free) = true then do let a ← cellOf env x.1; pure (ForInStep.yield ((x.1, a) :: r)) else pure (ForInStep.yield r)
theorem cloB_key {env : Env} : ∀ (names : List (Str × NameKind)) (cs : List (Str × Addr)), (∀ y ∈ names, y.2 = .free → ∃ c, env.cells.lookup y.1 = some c) → (forIn names cs (cloB env) : Sem (List (Str × Addr))) = pure (clo env.cells names cs)
  | [], cs, _ => rfl
  | (n, k) :: r, cs, hh => by
    rw [List.forIn_cons]
    have ih := fun cs => cloB_key (env := env) r cs fun z hz => hh z (List.mem_cons_of_mem _ hz)
    cases hk : k == NameKind.free with
    | true =>
      have hf : k = .free := by simpa using hk
      obtain ⟨c, hc⟩ := hh (n, k) List.mem_cons_self hf
      have hc : env.cells.lookup n = some c := hc
      have e : cloB env (n, k) cs = pure (ForInStep.yield ((n, c) :: cs)) := by
        unfold cloB
        rw [if_pos hk]
        show (cellOf env n >>= _) = _
        unfold cellOf
        rw [hc]
        rfl
      rw [e]
      refine Eq.trans (b := (forIn r ((n, c) :: cs) (cloB env) : Sem (List (Str × Addr)))) rfl ?_
      rw [ih]
      show _ = pure (clo env.cells r (if k == .free then (n, (env.cells.lookup n).getD 0) :: cs else cs))
      rw [hk, if_pos rfl, hc]
      rfl
    | false =>
      have e : cloB env (n, k) cs = pure (ForInStep.yield cs) := by
        unfold cloB
        rw [if_neg (by rw [hk]; decide)]
      rw [e]
      refine Eq.trans (b := (forIn r cs (cloB env) : Sem (List (Str × Addr)))) rfl ?_
      rw [ih]
      show _ = pure (clo env.cells r (if k == .free then (n, (env.cells.lookup n).getD 0) :: cs else cs))
      rw [hk, if_neg (by decide)]
theorem closure_clo {scope : Scope} {env : Env} (h : ∀ y ∈ scope.names, y.2 = .free → ∃ c, env.cells.lookup y.1 = some c) : closureFor scope env = pure (clo env.cells scope.names []) := by
  have e : closureFor scope env = ((forIn scope.names [] (cloB env) : Sem (List (Str × Addr))) >>= fun cs => pure cs) := rfl
  rw [e, cloB_key _ _ h]
  rfl
theorem clo_sub {cells : List (Str × Addr)} {x : Str} {c : Addr} : ∀ {names : List (Str × NameKind)} {cs : List (Str × Addr)}, (∀ y ∈ names, y.2 = .free → ∃ c, cells.lookup y.1 = some c) → (cs.lookup x = some c → cells.lookup x = some c) → (clo cells names cs).lookup x = some c → cells.lookup x = some c
  | [], cs, _, h, e => h e
  | (n, k) :: r, cs, hh, h, e => by
    unfold clo at e
    refine clo_sub (fun y hy => hh y (List.mem_cons_of_mem _ hy)) (fun e2 => ?_) e
    cases hk : k == NameKind.free with
    | false => rw [hk, if_neg (by decide)] at e2; exact h e2
    | true =>
      rw [hk, if_pos rfl] at e2
      have hk' : k = .free := by simpa using hk
      obtain ⟨c', hc'⟩ := hh (n, k) List.mem_cons_self hk'
      have hc' : cells.lookup n = some c' := hc'
      rw [List.lookup_cons] at e2
      cases hx : x == n with
      | true =>
        rw [hx] at e2
        have : x = n := by simpa using hx
        subst this
        rw [hc'] at e2 ⊢
        exact e2
      | false => rw [hx] at e2; exact h e2
theorem clo_has {cells : List (Str × Addr)} {x : Str} : ∀ {names : List (Str × NameKind)} {cs : List (Str × Addr)}, ((x, NameKind.free) ∈ names ∨ ∃ c, cs.lookup x = some c) → ∃ c, (clo cells names cs).lookup x = some c
  | [], cs, h => by
    rcases h with h | h
    · exact nomatch h
    · exact h
  | (n, k) :: r, cs, h => by
    unfold clo
    refine clo_has ?_
    have ins : ∀ {v : Addr}, (∃ c, cs.lookup x = some c) → ∃ c, ((n, v) :: cs).lookup x = some c := fun {v} ⟨c, e⟩ => by
      rw [List.lookup_cons]
      cases x == n with
      | true => exact ⟨_, rfl⟩
      | false => exact ⟨c, e⟩
    rcases h with h | h
    · rcases List.mem_cons.mp h with e | e
      · cases e
        refine .inr ⟨_, by rw [if_pos (by rfl), List.lookup_cons, beq_self_eq_true]⟩
      · exact .inl e
    · cases hk : k == NameKind.free with
      | true => rw [if_pos rfl]; exact .inr (ins h)
      | false => rw [if_neg (by decide)]; exact .inr h

theorem lookup_mapK {g : Str → NameKind → NameKind} {x : Str} : ∀ {names : List (Str × NameKind)}, (names.map fun p => (p.1, g p.1 p.2)).lookup x = (names.lookup x).map (g x)
  | [] => rfl
  | (n, k) :: r => by
    rw [List.map_cons, List.lookup_cons, List.lookup_cons]
    cases hx : x == n with
    | true =>
      have : x = n := by simpa using hx
      subst this
      rfl
    | false => exact lookup_mapK
theorem relabel_lookup {scope : Scope} {env : Env} {x : Str} : (relabel scope env).names.lookup x = (scope.names.lookup x).map fun k => if (k == NameKind.free && env.scope.kind == .function && env.kindOf x == some .cell) = true then .cell else k := by
  rw [← lookup_mapK (g := fun x k => if (k == NameKind.free && env.scope.kind == .function && env.kindOf x == some .cell) = true then .cell else k)]
  unfold relabel
  dsimp only
  congr 1
  refine List.map_congr_left fun p _ => ?_
  obtain ⟨n, k⟩ := p
  dsimp only
  split <;> rfl
abbrev Cx.blk (X : Cx) (N' : List Str) (scope : Scope) (C : Addr) (s : Shared) (H : Hp) (fp : List Addr) (pins : List (Addr × Obj)) : Cx :=
  { X with N := N', s₀ := s, H₀ := H, env := compEnvC scope (clo X.env.cells scope.names []) C X.env, outer := X.stack, ex := fp, fn := fun _ => false, pn := X.pn ++ pins, xe := fun _ _ => False }
structure BlkScope (X : Cx) (N' : List Str) (fr : List (Option Nat)) (scope : Scope) : Prop where
  kind : scope.kind = .function
  nocell : ∀ y ∈ scope.names, y.2 ≠ .cell
  names : ∀ y ∈ scope.names, y.2 = .local → scope.names.lookup y.1 = some .local
  free : ∀ y ∈ scope.names, y.2 = .free → X.env.scope.names.lookup y.1 = some .cell
  len : fr.length = N'.length
  at' : ∀ (i j : Nat) (x : Str), N'[i]? = some x → fr[i]? = some (some j) → X.N[j]? = some x ∧ scope.names.lookup x = some .free
structure BlkS (oN : List Str) (osc : Scope) (N' : List Str) (fr : List (Option Nat)) (scope : Scope) : Prop where
  kind : scope.kind = .function
  nocell : ∀ y ∈ scope.names, y.2 ≠ .cell
  names : ∀ y ∈ scope.names, y.2 = .local → scope.names.lookup y.1 = some .local
  free : ∀ y ∈ scope.names, y.2 = .free → osc.names.lookup y.1 = some .cell
  len : fr.length = N'.length
  at' : ∀ p ∈ N'.zip fr, ∀ j ∈ p.2, oN[j]? = some p.1 ∧ scope.names.lookup p.1 = some .free
theorem BlkS.scope {X : Cx} {oN : List Str} {osc : Scope} {N' : List Str} {fr : List (Option Nat)} {scope : Scope} (B : BlkS oN osc N' fr scope) (hN : X.N = oN) (ho : X.env.scope = osc) : BlkScope X N' fr scope := by
  subst hN ho
  refine ⟨B.kind, B.nocell, B.names, B.free, B.len, fun i j x h1 h2 => ?_⟩
  have : (x, some j) ∈ N'.zip fr := by
    refine List.mem_of_getElem? (i := i) ?_
    rw [List.getElem?_zip_eq_some]
    exact ⟨h1, h2⟩
  exact B.at' _ this j rfl
def sig0 (fr : List (Option Nat)) (σ : St) : St := fr.map fun o => match o with
  | some j => (σ[j]?).join
  | none => none
section
variable {X : Cx} {pins : List (Addr × Obj)} {σ : St} {H : Hp} {s : Shared} {N' : List Str} {fr : List (Option Nat)} {scope : Scope} {C : Addr} {fp : List Addr}
theorem BlkScope.hasC (S : BlkScope X N' fr scope) (ok : X.Ok) : ∀ y ∈ scope.names, y.2 = .free → ∃ c, X.env.cells.lookup y.1 = some c := fun y hy e => ok.has y.1 (.inl (S.free y hy e))
theorem BlkScope.sub (S : BlkScope X N' fr scope) (ok : X.Ok) {x : Str} {c : Addr} (h : (clo X.env.cells scope.names []).lookup x = some c) : X.env.cells.lookup x = some c := clo_sub (S.hasC ok) (fun z => by cases z) h
theorem blk_loc (S : BlkScope X N' fr scope) (I : Inv X pins σ H s) {h' : Heap} {m : Str → Option Value} (k : ∀ x c v, (clo X.env.cells scope.names []).lookup x = some c → s.heap.IsCell c v → h'.IsCell c v) :
    ∀ (i : Nat) (x : Str) (v : V), N'[i]? = some x → (sig0 fr σ)[i]? = some (some v) → ∃ u, RelV v u ∧ Look (compEnvC scope (clo X.env.cells scope.names []) C X.env) h' m x u := by
  intro i x v hx hv
  unfold sig0 at hv
  rw [List.getElem?_map] at hv
  cases hf : fr[i]? with
  | none => rw [hf] at hv; cases hv
  | some o =>
    rw [hf] at hv
    cases o with
    | none => cases hv
    | some j =>
      have hv : (σ[j]?).join = some v := Option.some.inj hv
      obtain ⟨hN, hfree⟩ := S.at' i j x hx hf
      have hσ : σ[j]? = some (some v) := by
        cases e : σ[j]? with
        | none => rw [e] at hv; cases hv
        | some o => rw [e] at hv; rw [show o = some v from hv]
      have hmem : (x, NameKind.free) ∈ scope.names := PySem.mem_of_lookup hfree
      have hcell := S.free _ hmem rfl
      obtain ⟨mm, _, hl⟩ := I.loc
      obtain ⟨u, r, l⟩ := hl j x v hN hσ (.inr (.inl hcell))
      refine ⟨u, r, .inr ⟨.inl ?_, ?_⟩⟩
      · show (relabel scope X.env).names.lookup x = some .cell
        rw [relabel_lookup, hfree]
        have h1 : X.env.scope.kind = .function := I.ok.kind
        have h2 : X.env.kindOf x = some .cell := hcell
        rw [h1, h2]
        rfl
      · rcases l with ⟨k1, _⟩ | ⟨_, c, e, z⟩
        · have : X.env.scope.names.lookup x = some .local := k1
          rw [hcell] at this; cases this
        · obtain ⟨c', e'⟩ := clo_has (cells := X.env.cells) (x := x) (names := scope.names) (cs := []) (.inl hmem)
          have e2 := S.sub I.ok e'
          rw [e] at e2
          cases e2
          exact ⟨c, e', k x c _ e' z⟩
theorem inv_blk (S : BlkScope X N' fr scope) (I : Inv X pins σ H s) (hf : ∀ b ∈ fp, FpOk X pins H b) (ho : ∀ b ∈ fp, ∃ o, s.heap.get? b = some o) {s1 : Shared} {m : Str → Option Value} (hos : s1.os = s.os) (hg : s1.gens = s.gens) (hC : s.heap.objs.size ≤ C) (k : ∀ b o, s.heap.get? b = some o → s1.heap.get? b = some o) (hn : s1.heap.Ns C m) :
    Inv (X.blk N' scope C s H fp pins) [] (sig0 fr σ) H s1 := by
  have lt : ∀ b o, s.heap.get? b = some o → b ≠ C := fun b o e => Nat.ne_of_lt (Nat.lt_of_lt_of_le (Heap.lt_size e) hC)
  have stk : ∀ b, b ≠ X.env.locals → b ∉ X.fs → b ∉ frs X.stack := fun b h1 h2 hb => (List.mem_cons.mp (I.stkSub b hb)).elim h1 h2
  have cellK : ∀ x c v, (clo X.env.cells scope.names []).lookup x = some c → s.heap.IsCell c v → s1.heap.IsCell c v := fun x c v _ ⟨o, e, d⟩ => ⟨o, k c o e, d⟩
  refine ⟨⟨I.ok.mod, S.kind, I.ok.glob, I.ok.blt, hC, fun x y c h1 h2 => I.ok.inj x y c (S.sub I.ok h1) (S.sub I.ok h2), fun x hx => ?_, (fun x c z => by cases z), I.ok.hd, I.ok.frames, .inl rfl, fun b hb => ?_, I.bs, Nat.le_trans I.ok.bsz I.sz, fun b o e hb => ?_, fun b hb => ?_, I.stack, I.stkFree⟩,
    hos, by rw [hg]; exact I.bare, Un.kept k, ⟨m, hn, fun i x v h1 h2 _ => blk_loc S I cellK i x v h1 h2⟩, fun x c e => ?_, I.hok.fresh hC, fun x c e => I.freeC x c (S.sub I.ok e), fun p hp => ?_, I.hok.kept k, ?_⟩
  · have hx : (relabel scope X.env).names.lookup x = some .cell ∨ (relabel scope X.env).names.lookup x = some .free := hx
    rw [relabel_lookup] at hx
    have hfree : (x, NameKind.free) ∈ scope.names := by
      cases e : scope.names.lookup x with
      | none => rw [e] at hx; rcases hx with z | z <;> cases z
      | some kk =>
        rw [e] at hx
        have hm := PySem.mem_of_lookup e
        cases kk with
        | free => exact hm
        | cell => exact absurd rfl (S.nocell _ hm)
        | _ => rcases hx with z | z <;> cases z
    exact clo_has (.inl hfree)
  · obtain ⟨o, e⟩ := ho b hb
    obtain ⟨_, _, _, _, f4, _⟩ := hf b hb
    exact ⟨lt b o e, fun x c z => f4 x c (S.sub I.ok z)⟩
  · obtain ⟨_, _, _, f3, _⟩ := hf b hb
    rcases f3 with z | z
    · exact I.ok.noex b o e z
    · exact absurd (Nat.lt_of_lt_of_le (Heap.lt_size e) (Nat.le_trans I.ok.bsz z)) (Nat.lt_irrefl _)
  · obtain ⟨_, f1, f2, _⟩ := hf b hb
    exact stk b f1 f2
  · obtain ⟨v, z⟩ := I.cell x c (S.sub I.ok e)
    exact ⟨v, cellK x c v e z⟩
  · rw [List.append_nil] at hp
    obtain ⟨e, n, ne, nf, d⟩ := I.pin p hp
    exact ⟨k p.1 p.2 e, n, lt p.1 p.2 e, stk p.1 ne nf, d⟩
  · unfold sig0
    rw [List.length_map]
    exact S.len
theorem blk_again (S : BlkScope X N' fr scope) {s1 : Shared} {H1 : Hp} {σ1 : St} {pl : List (Addr × Obj)} (I : Inv X pins σ H s) (J : Inv (X.blk N' scope C s H fp pins) pl σ1 H1 s1) : Inv (X.blk N' scope C s H fp pins) pl (sig0 fr σ) H1 s1 := by
  obtain ⟨m, hn, _⟩ := id J.loc
  refine ⟨J.ok, J.os, J.bare, J.base, ⟨m, hn, fun i x v h1 h2 _ => blk_loc S I (fun x c v e z => ?_) i x v h1 h2⟩, J.cell, J.free, J.freeC, J.pin, J.hok, ?_⟩
  · obtain ⟨o, eo, d⟩ := z
    have e' := S.sub I.ok e
    have hfree := I.freeC x c e'
    have nex : c ∉ fp := fun hb => (J.ok.exf c hb).2 x c e rfl
    by_cases hfs : c ∈ frs X.stack
    · obtain ⟨sl, q⟩ := J.base.slot c o eo hfree hfs nex
      exact ⟨_, q, d⟩
    · exact ⟨o, J.base.keep c o eo hfree hfs nex, d⟩
  · unfold sig0
    rw [List.length_map]
    exact S.len
end

section
variable {prog : Program} {w : World} {A : Around} {R : Result → Shared → Prop} {s : Shared}
theorem codeAny_compLoop_any {elt target iter : Expr} {scope : Scope} {pos : Pos} {it acc : Value} {env : Env} (I : Nat → Shared → Prop)
    (turn : ∀ n s, I n s → wpAny (model prog w) A (pyNext it) (fun r s₁ => match r with
      | none => R (.ok .next) s₁
      | some v => wpAny (model prog w) A (letOwnedTupleGo target it v) (fun _ s₁' => wpAny (model prog w) A (assign target env v) (fun _ s₂ => wpAny (model prog w) A (eval elt env) (fun x s₃ =>
          wpAny (model prog w) A (call (.builtin "list.append") [acc, x]) (fun _ s₄ => ∃ m, m < n ∧ I m s₄) (fun _ _ => False) s₃)
          (fun _ _ => False) s₂) (fun _ _ => False) s₁') (fun _ _ => False) s₁) (fun _ _ => False) s)
    (n : Nat) (h : I n s) : codeAny (model prog w) A (.compLoop (.ListComp elt [⟨target, iter, [], 0⟩] scope pos) 0 it acc env) R s := by
  refine codeAny_loop rfl I (fun n s hI => ?_) n h
  show wpAny _ _ ((compTurn (.ListComp elt [⟨target, iter, [], 0⟩] scope pos) 0 it acc env).onRaise (fun x => do noteFrame x env; theTreesLotGoes x)) _ _ s
  refine wpAny_noted ?_
  rw [compTurn_list1]
  refine wpAny_bind (wpAny_standAt (wpAny_bind (wpAny_mono (turn n s hI) (fun r s₁ h₁ => ?_) fun _ _ h' => h'.elim)))
  cases r with
  | none => exact wpAny_pure h₁
  | some v =>
    exact wpAny_bind (wpAny_mono h₁ (fun _ s₁' h₁' => wpAny_bind (wpAny_mono h₁' (fun _ s₂ h₂ => wpAny_bind (wpAny_bind (wpAny_mono h₂ (fun x s₃ h₃ => wpAny_bind (wpAny_mono h₃
      (fun _ s₄ h₄ => wpAny_pure (wpAny_pure ⟨rfl, h₄⟩)) fun _ _ h' => h'.elim)) fun _ _ h' => h'.elim))) fun _ _ h' => h'.elim)) fun _ _ h' => h'.elim)
end
theorem Inv.track {X : Cx} {pins : List (Addr × Obj)} {σ : St} {H : Hp} {s : Shared} {d : Addr} {ys : List V} (I : Inv X pins σ H s) (hn : H d = none) (hs : X.s₀.heap.objs.size ≤ d) (hL : d ≠ X.env.locals) (hc : ∀ x c, X.env.cells.lookup x = some c → c ≠ d) (hp : ∀ p ∈ X.pn ++ pins, p.1 ≠ d) (new : ObjOk X.prog X.w (upd H d (.lst ys)) s.heap d (.lst ys)) : Inv X pins σ (upd H d (.lst ys)) s := by
  have ne0 : ∀ b o, X.s₀.heap.get? b = some o → b ≠ d := fun b o e => Nat.ne_of_lt (Nat.lt_of_lt_of_le (Heap.lt_size e) hs)
  refine ⟨I.ok, I.os, I.bare, ⟨I.base.keep, I.base.slot, fun b o e n hx => ?_, I.base.there, fun b xs e => ?_, fun b o u e => ?_, fun b ps e => ?_⟩, I.loc, I.cell, ?_, fun x c e => ?_, fun p hpp => ?_, fun b u e => ?_, I.len⟩
  · rw [upd_ne (ne0 b o e)]; exact I.base.free b o e n hx
  · have := I.base.tups b xs e
    rw [upd_ne (ne_of_none this hn)]; exact this
  · have := I.base.frzs b o u e
    rw [upd_ne (ne_of_none this hn)]; exact this
  · obtain ⟨more, q⟩ := I.base.tbls b ps e
    exact ⟨more, by rw [upd_ne (ne_of_none q hn)]; exact q⟩
  · rw [upd_ne (Ne.symm hL)]; exact I.free
  · rw [upd_ne (hc x c e)]; exact I.freeC x c e
  · obtain ⟨e, n, r⟩ := I.pin p hpp
    exact ⟨e, by rw [upd_ne (hp p hpp)]; exact n, r⟩
  · by_cases hb : b = d
    · subst hb; rw [upd_same] at e; cases e; exact new
    · rw [upd_ne hb] at e
      exact (I.hok b u e).stay (fun c v _ q => q) (fun c q => by rw [upd_ne (ne_of_none q hn)]; exact q) fun c xs q => by rw [upd_ne (ne_of_none q hn)]; exact q
def tLc (wi : TI) (fr : List (Option Nat)) (g : TG) (te : TE) : TE := fun σ H Q => wi σ H fun J H1 => ∃ W : Nat → Nat → List V → Hp → Prop, (∃ m, W 0 m [] H1) ∧ ∀ i m ys H, W i m ys H →
  (J.stop i H ∧ ys.length ≤ sizeLine ∧ ∀ p, H p = none → Q (.ref p) (upd H p (.lst ys))) ∨
  (J.go i H ∧ ys.length ≤ sizeLine ∧ ∀ x H', J.yld i H x H' → g x (sig0 fr σ) H' fun σ2 H2 => te σ2 H2 fun y H3 => ∃ m', m' < m ∧ W (i + 1) m' (ys ++ [y]) H3)
structure CF (X : Cx) (pins : List (Addr × Obj)) (H : Hp) (C : Addr) : Prop where
  none : H C = none
  loc : C ≠ X.env.locals
  sz : X.s₀.heap.objs.size ≤ C
  cel : ∀ x c, X.env.cells.lookup x = some c → c ≠ C
  pin : ∀ p ∈ X.pn ++ pins, p.1 ≠ C
theorem lc_core {X : Cx} {elt iter tg : Expr} {scope : Scope} {pos pos2 : Pos} {N' : List Str} {fr : List (Option Nat)} {wi : TI} {g : TG} {te : TE} (S : BlkScope X N' fr scope) (hc : X.calm = true) (hi : PI X tg iter wi)
    (hg : ∀ C s H fp pins, PG (X.blk N' scope C s H fp pins) tg g) (he : ∀ C s H fp pins, PE (X.blk N' scope C s H fp pins) elt te) (hs : ∀ x, foldedSetIterable iter X.env x = pure x)
    {pins : List (Addr × Obj)} {s : Shared} {σ : St} {H : Hp} {Q : VK} (I : Inv X pins σ H s) (h : tLc wi fr g te σ H Q) (use : Option (Value → Sem Unit)) (Post : Value → Shared → Prop)
    (fin : ∀ D C H' s4 m, Inv X pins σ H' s4 → s4.heap.Ns C m → CF X pins H' C → Q (.ref D) H' → compPost (model X.prog X.w) X.A X.xe use Post (.ref D) C (.ok .next) s4) :
    wpAny (model X.prog X.w) X.A (comprehension (.ListComp elt [⟨tg, iter, [], 0⟩] scope pos) scope X.env pos2 (newList []) false (eval iter X.env) use) Post X.xe s := by
  refine wpAny_comprehension_free (use := use) rfl hs (closure_clo (S.hasC I.ok)) S.kind S.names ?_
  show wpAny _ _ (eval iter X.env) _ _ s
  refine thn (hi pins s σ H _ I h) fun v s1 h1 => thn h1 fun itv s2 h2 => ?_
  obtain ⟨it, fp, tn, J, H2, e, I2, T, st2, f2, W, ⟨m0, w0⟩, turn⟩ := h2
  subst e
  refine wpAny_newObj_type (wpAny_newFunctionEnv S.nocell (by intro y hy; simp at hy) (fun h₁ hns₁ hsb₁ => ?_) S.kind)
  dsimp only at hns₁ hsb₁ ⊢
  generalize hHp : s2.heap.push { cls := .type "list", dict := none, data := .seq ([] : List Value).toArray } = HP at hns₁ hsb₁ ⊢
  have hC : HP.objs.size = s2.heap.objs.size + 1 := by rw [← hHp, Heap.size_push]
  generalize hCe : HP.objs.size = C at hns₁ hsb₁ ⊢
  generalize hDe : s2.heap.objs.size = D at hC ⊢
  have hDC : D ≠ C := by omega
  have hCle : s2.heap.objs.size ≤ C := by omega
  have old : ∀ b o, s2.heap.get? b = some o → h₁.get? b = some o := fun b o e => hsb₁.extBut b o (Nat.ne_of_lt (Nat.lt_of_lt_of_le (Heap.lt_size e) hCle)) (Heap.get?_push_of_some _ (hHp ▸ Heap.get?_push_of_some _ e))
  have hD1 : h₁.PlainList D #[] := ⟨_, by
    refine hsb₁.extBut _ _ hDC (Heap.get?_push_of_some _ ?_)
    rw [← hHp, ← hDe]
    exact Heap.get?_push_size _ rfl⟩
  have ltf : ∀ b ∈ fp, b < D := fun b hb => by
    obtain ⟨o, e, _⟩ := T.obj _ _ st2 b hb
    exact Nat.lt_of_lt_of_eq (Heap.lt_size e) hDe
  have J0 := inv_blk (s1 := { s2 with heap := h₁, toks := s2.toks + ([] : List (Str × Value)).length }) S I2 f2 (fun b hb => let ⟨o, e, _⟩ := T.obj _ _ st2 b hb; ⟨o, e⟩) rfl rfl hCle old hns₁
  have ltC : ∀ b, b < D → b ≠ C := fun b hb => Nat.ne_of_lt (Nat.lt_of_lt_of_le hb (by rw [← hDe]; exact hCle))
  have old2 : ∀ b o, s2.heap.get? b = some o → b < D := fun b o e => Nat.lt_of_lt_of_eq (Heap.lt_size e) hDe
  have neD : ∀ b o, s2.heap.get? b = some o → b ≠ D := fun b o e => Nat.ne_of_lt (old2 b o e)
  have hDs : s2.heap.objs.size ≤ D := Nat.le_of_eq hDe
  have hDfs : D ∉ frs X.stack := fun hb => by
    rcases List.mem_cons.mp (I2.stkSub D hb) with z | z
    · have := I2.lt
      rw [← z] at this
      exact absurd (Nat.lt_of_lt_of_le this hDs) (Nat.lt_irrefl _)
    · exact I2.nofs hDs z
  have cellD : ∀ x c, X.env.cells.lookup x = some c → c ≠ D ∧ c ≠ C := fun x c e => by
    obtain ⟨v, o, ho, _⟩ := I2.cell x c e
    exact ⟨neD c o ho, ltC c (old2 c o ho)⟩
  have pinD : ∀ p ∈ X.pn ++ pins, p.1 ≠ D ∧ p.1 ≠ C := fun p hp => by
    have e := (I2.pin p hp).1
    exact ⟨neD _ _ e, ltC _ (old2 _ _ e)⟩
  have fpok : ∀ (pl : List (Addr × Obj)) (H' : Hp), (∀ b ∈ fp, H' b = none) → (∀ p ∈ pl, ∀ b ∈ fp, p.1 ≠ b) → ∀ b ∈ fp, FpOk (X.blk N' scope C s2 H2 fp pins) pl H' b := fun pl H' hn hpl b hb => by
    refine ⟨hn b hb, ltC b (ltf b hb), J0.ok.exfs b hb, .inl hb, (J0.ok.exf b hb).2, fun p hp => ?_⟩
    rcases List.mem_append.mp hp with z | z
    · exact (f2 b hb).2.2.2.2.2 p z
    · exact hpl p z b hb
  have loop : codeAny (model X.prog X.w) X.A (.compLoop (.ListComp elt [⟨tg, iter, [], 0⟩] scope pos) 0 (.ref it) (.ref D) (compEnvC scope (clo X.env.cells scope.names []) C X.env))
      (compPost (model X.prog X.w) X.A X.xe use Post (.ref D) C) { s2 with heap := h₁, toks := s2.toks + ([] : List (Str × Value)).length } := by
    refine codeAny_compLoop_any (fun n s' => ∃ i H' ys its, Inv (X.blk N' scope C s2 H2 fp pins) [] (sig0 fr σ) H' s' ∧ tn i s'.heap ∧ (∀ b ∈ fp, H' b = none) ∧ s'.heap.PlainList D its ∧ H' D = none ∧ Vals ys its.toList ∧ W i n ys H') ?_ m0
      ⟨0, H2, [], #[], J0, T.keep _ _ _ st2 fun b hb o e => old b o e, fun b hb => (f2 b hb).1, hD1, I2.hok.fresh hDs, .nil, w0⟩
    rintro n s3 ⟨i, H3, ys, its, I3, st3, fr3, ⟨nn, pl3⟩, hD3, rv3, w3⟩
    have I3p : Inv (X.blk N' scope C s2 H2 fp pins) [(D, { cls := .type "list", data := .seq its nn })] (sig0 fr σ) H3 s3 := I3.pins_of fun p hp => by
      have e := List.mem_singleton.mp hp
      subst e
      exact ⟨pl3, hD3, hDC, hDfs, fun v z => by cases z⟩
    have pf : ∀ p ∈ [((D, { cls := .type "list", data := .seq its nn }) : Addr × Obj)], ∀ b ∈ fp, p.1 ≠ b := fun p hp b hb => by
      have e := List.mem_singleton.mp hp
      subst e
      exact (Nat.ne_of_lt (ltf b hb)).symm
    rcases turn i n ys H3 w3 with ⟨stop, hz, q⟩ | ⟨go, hz, step⟩
    · refine thn (T.done (X.blk N' scope C s2 H2 fp pins) rfl rfl rfl hc i _ s3 _ H3 (fun _ _ => False) I3p (fpok _ H3 fr3 pf) st3 stop) fun r s4 ⟨hr, I4⟩ => ?_
      subst hr
      obtain ⟨mm, hn4, _⟩ := id I4.loc
      have pD := (I4.pin _ (List.mem_append_right _ List.mem_cons_self)).1
      have IX : Inv X pins σ H3 s4 := I2.call' I4.os I4.base I4.hok I4.bare fun b hb => ⟨(f2 b hb).2.2.2.1, (f2 b hb).2.1, (f2 b hb).2.2.2.2.1, (f2 b hb).2.2.2.2.2⟩
      have CL : C ≠ X.env.locals := (Nat.ne_of_lt (Nat.lt_of_lt_of_le I2.lt hCle)).symm
      have DL : D ≠ X.env.locals := (Nat.ne_of_lt (Nat.lt_of_lt_of_le I2.lt hDs)).symm
      refine fin D C (upd H3 D (.lst ys)) s4 mm (IX.track hD3 (Nat.le_trans I2.sz hDs) DL (fun x c e => (cellD x c e).1) (fun p hp => (pinD p hp).1) ⟨hz, its.toList, nn, rv3, pD⟩) hn4 ⟨by rw [upd_ne (Ne.symm hDC)]; exact I4.free, CL, Nat.le_trans I2.sz hCle, fun x c e => (cellD x c e).2, fun p hp => (pinD p hp).2⟩ (q D hD3)
    · refine thn (T.item (X.blk N' scope C s2 H2 fp pins) rfl rfl rfl hc i _ s3 _ H3 (fun _ _ => False) I3p (fpok _ H3 fr3 pf) st3 go) fun r s4 ⟨u, hr, h4⟩ => ?_
      subst hr
      refine thn h4 fun _ s5 ⟨x, H5, I5, r5, y5, st5, fr5⟩ => ?_
      have I5' := I5.pinned (fpok _ H5 fr5 pf) (T.obj _ _ st5)
      refine thn (hg C s2 H2 fp pins _ s5 _ H5 x u _ I5' r5 (step x H5 y5)) fun _ s6 ⟨σ6, H6, I6, q6⟩ => ?_
      refine thn (he C s2 H2 fp pins _ s6 σ6 H6 _ I6 q6) fun yv s7 ⟨y, H7, I7, ry, m', hm, w7⟩ => ?_
      obtain ⟨pD, nD, _⟩ := I7.pin _ (List.mem_append_right _ (List.mem_append_left _ List.mem_cons_self))
      have lz : its.size ≤ sizeLine := by
        have e : ys.length = its.size := by rw [rv3.length]; simp
        rw [← e]; exact hz
      refine wpAny_list_append_plain (hsz := lz) ⟨nn, pD⟩ fun h8 pl8 sb8 => ?_
      have I7a : Inv (X.blk N' scope C s2 H2 fp pins) [] σ6 H7 s7 := I7.pins_of fun p hp => nomatch hp
      have I8 : Inv (X.blk N' scope C s2 H2 fp pins) [] σ6 H7 { s7 with heap := h8, toks := s7.toks } := I7a.turned (it := D) (fun b o hb e => sb8.extBut b o hb e) nD hDC (.inr hDs) (fun x c e => (cellD x c (S.sub I2.ok e)).1) fun p hp => by
        rw [List.append_nil] at hp
        exact (pinD p hp).1
      refine ⟨m', hm, i + 1, H7, ys ++ [y], its.push yv, blk_again S I2 I8, ?_, fun b hb => ?_, pl8, nD, ?_, w7⟩
      · refine T.keep _ _ _ st5 fun b hb o e => sb8.extBut b o (Nat.ne_of_lt (ltf b hb)) (I7.pin (b, o) (List.mem_append_right _ (List.mem_append_right _ (mem_pinsAt hb e)))).1
      · obtain ⟨o, e, d⟩ := T.obj _ _ st5 b hb
        exact (I7.pin (b, o) (List.mem_append_right _ (List.mem_append_right _ (mem_pinsAt hb e)))).2.1
      · rw [Array.toList_push]
        exact rv3.append (.cons ry .nil)
  exact codeAny_compStart_list loop (T.self _ _ _ _ _ (T.keep _ _ _ st2 fun b hb o e => old b o e) loop)
theorem pe_lc {X : Cx} {elt iter tg : Expr} {scope : Scope} {pos : Pos} {N' : List Str} {fr : List (Option Nat)} {wi : TI} {g : TG} {te : TE} (S : BlkScope X N' fr scope) (hc : X.calm = true) (hi : PI X tg iter wi)
    (hg : ∀ C s H fp pins, PG (X.blk N' scope C s H fp pins) tg g) (he : ∀ C s H fp pins, PE (X.blk N' scope C s H fp pins) elt te) (hs : ∀ x, foldedSetIterable iter X.env x = pure x := by intro _; rfl) :
    PE X (.ListComp elt [⟨tg, iter, [], 0⟩] scope pos) (tLc wi fr g te) := by
  intro pins s σ H Q I h
  rw [eval_ListComp]
  refine lc_core S hc hi hg he hs I h none (EP X pins σ Q) fun D C H' s4 m J hn F q => ⟨m, hn, fun h' sb => ?_⟩
  exact ⟨.ref D, H', J.turned (t' := s4.toks) (it := C) (fun b o hb e => sb.extBut b o hb e) F.none F.loc (.inr F.sz) F.cel F.pin, rfl, q⟩
end L2
namespace Dd
open PySem PySem.Spec PyProof.Rows L2
def rho0 (fr : List (Option Nat)) (ρ : DEnv) : DEnv := fr.map fun o => match o with
  | some j => (ρ[j]?).join
  | none => none
section
variable {K : PySem.W.Frag} {H : Hp} {ρ : DEnv} {σ : L2.St}
theorem rep_sig0 (re : RepE K H ρ σ) (fr : List (Option Nat)) : RepE K H (rho0 fr ρ) (sig0 fr σ) := by
  refine ⟨by unfold rho0 sig0; rw [List.length_map, List.length_map], fun i d e => ?_⟩
  unfold rho0 at e
  unfold sig0
  rw [List.getElem?_map] at e ⊢
  cases hf : fr[i]? with
  | none => rw [hf] at e; cases e
  | some o =>
    rw [hf] at e
    cases o with
    | none => cases e
    | some j =>
      have e : (ρ[j]?).join = some d := Option.some.inj e
      have e2 : ρ[j]? = some (some d) := by
        cases h : ρ[j]? with
        | none => rw [h] at e; cases e
        | some o => rw [h] at e; rw [show o = some d from e]
      obtain ⟨v, hv, r⟩ := re.get j d e2
      refine ⟨v, ?_, r⟩
      show some (σ[j]?).join = some (some v)
      rw [hv]
      rfl
end
def dItC (at' : Option Addr) (ds : List D) (ρ0 : DEnv) (g : DG) (te : DE) (M : DM) (Q : DQ) : Prop := ds.length ≤ 1000 ∧ ∃ Pv : Nat → List D → DM → Prop, Pv 0 [] M ∧
  (∀ i ys M, i ≤ ds.length → Pv i ys M → ∀ a, at' = some a → M a = some ds) ∧
  (∀ i d ys M, ds[i]? = some d → Pv i ys M → g d ρ0 M fun ρ2 M2 => te ρ2 M2 fun y M3 => Pv (i + 1) (ys ++ [y]) M3) ∧
  ∀ ys M, ys.length = ds.length → Pv ds.length ys M → ∀ p : Addr, M p = none → Q (.ref p) (putM M p ys)
def dRngC (lo : Int) (n : Nat) (ρ0 : DEnv) (g : DG) (te : DE) (M : DM) (Q : DQ) : Prop := n ≤ 1000 ∧ ∃ Pv : Nat → List D → DM → Prop, Pv 0 [] M ∧
  (∀ (i : Nat) ys M, i < n → Pv i ys M → g (.int (lo + i)) ρ0 M fun ρ2 M2 => te ρ2 M2 fun y M3 => Pv (i + 1) (ys ++ [y]) M3) ∧
  ∀ ys M, ys.length = n → Pv n ys M → ∀ p : Addr, M p = none → Q (.ref p) (putM M p ys)
def dLcL (tl : DE) (fr : List (Option Nat)) (g : DG) (te : DE) : DE := fun ρ M Q => tl ρ M fun d M1 => match d with
  | .fz ds => dItC none ds (rho0 fr ρ) g te M1 Q
  | .ref a => ∃ ds, M1 a = some ds ∧ dItC (some a) ds (rho0 fr ρ) g te M1 Q
  | _ => False
def dLcT (tl : DE) (fr : List (Option Nat)) (g : DG) (te : DE) : DE := fun ρ M Q => tl ρ M fun d M1 => match d with
  | .tup ds => dItC none ds (rho0 fr ρ) g te M1 Q
  | _ => False
def dLc1 (ta : DA) (fr : List (Option Nat)) (g : DG) (te : DE) : DE := fun ρ M Q => ta ρ M fun ds M1 => match ds with
  | [.int j] => (-(2 ^ 62) ≤ j ∧ j < 2 ^ 62) ∧ dRngC 0 j.toNat (rho0 fr ρ) g te M1 Q
  | _ => False
section
variable {X : Cx} {g : DG} {te : DE}
theorem itc_ok {K : PySem.W.Frag} {a' : Option Addr} {ds : List D} {fr : List (Option Nat)} {σ : L2.St} {ρ : DEnv} {M : DM} {H0 H : Hp} {J : It} {Q : VK} {Q' : DQ} (ex0 : Ext H0 H) (re : RepE K H ρ σ) (hm : HRep K M H) (h : dItC a' ds (rho0 fr ρ) g te M Q') (kq : ∀ v H', LQ K H0 Q' v H' → Q v H')
    (seq : ∀ H', Ext H H' → (∀ M', HRep K M' H' → (∀ a, a' = some a → M' a = some ds) → ∃ xs, Reps K H' ds xs ∧ (∀ i, xs.length ≤ i → J.stop i H') ∧ (∀ i, i < xs.length → J.go i H') ∧ ∀ i x H2, J.yld i H' x H2 → H2 = H' ∧ xs[i]? = some x)) :
    ∃ W : Nat → Nat → List V → Hp → Prop, (∃ m, W 0 m [] H) ∧ ∀ i m ys H, W i m ys H →
      (J.stop i H ∧ ys.length ≤ sizeLine ∧ ∀ p, H p = none → Q (.ref p) (upd H p (.lst ys))) ∨
      (J.go i H ∧ ys.length ≤ sizeLine ∧ ∀ x H', J.yld i H x H' → lowG K g x (sig0 fr σ) H' fun σ2 H2 => low K te σ2 H2 fun y H3 => ∃ m', m' < m ∧ W (i + 1) m' (ys ++ [y]) H3) := by
  obtain ⟨hl, Pv, p0, hat, step, done⟩ := h
  refine ⟨fun i m ysV H' => ∃ ys M', Reps K H' ys ysV ∧ HRep K M' H' ∧ Ext H H' ∧ m = ds.length - i ∧ i ≤ ds.length ∧ ys.length = i ∧ Pv i ys M', ⟨ds.length, [], M, reps_nil, hm, .refl H, rfl, Nat.zero_le _, rfl, p0⟩, ?_⟩
  rintro i m ysV H1 ⟨ys, M1, ry, hm1, e1, rfl, hi, ly, w1⟩
  obtain ⟨xs, rs, hst, hgo, hy⟩ := seq H1 e1 M1 hm1 (hat i ys M1 hi w1)
  have hll := rs.length
  have lz : ysV.length ≤ sizeLine := by rw [← ry.length]; exact Nat.le_of_lt (small1000 (by omega))
  by_cases hlt : i < ds.length
  · refine .inr ⟨hgo i (by omega), lz, fun x H' y => ?_⟩
    obtain ⟨rfl, hx⟩ := hy i x H' y
    obtain ⟨d, hd, rd⟩ := rs.getV hx
    refine ⟨d, rho0 fr ρ, M1, _, rd, rep_sig0 (re.ext e1) fr, hm1, step i d ys M1 hd w1, fun σ2 H2 ⟨ρ2, M2, re2, hm2, e2, q2⟩ => ?_⟩
    refine ⟨ρ2, M2, _, re2, hm2, q2, fun v H3 ⟨dy, M3, rdy, hm3, e3, q3⟩ => ?_⟩
    exact ⟨ds.length - (i + 1), by omega, ys ++ [dy], M3, (ry.ext (e2.trans e3)).append (reps_cons rdy reps_nil), hm3, (e1.trans e2).trans e3, rfl, hlt, by rw [List.length_append, ly]; rfl, q3⟩
  · have e : i = ds.length := by omega
    subst e
    exact .inl ⟨hst _ (by omega), lz, fun p hp => kq _ _ ⟨.ref p, _, rep_ref, hm1.lnew hp ry, (ex0.trans e1).trans (Ext.new hp _), done ys M1 ly w1 p (hm1.fresh hp)⟩⟩
variable {elt iter tg : Expr} {scope : Scope} {pos : Pos} {N' : List Str} {fr : List (Option Nat)} {tl : DE} {ta : DA} {oN : List Str} {osc : Scope}
theorem de_lcL (B : BlkS oN osc N' fr scope) (hc : X.calm = true) (hi : PDE X iter tl) (hg : ∀ C s H fp pins, PG (X.blk N' scope C s H fp pins) tg (lowG X.K g)) (he : ∀ C s H fp pins, PE (X.blk N' scope C s H fp pins) elt (low X.K te)) (hN : X.N = oN := by rfl) (ho : X.env.scope = osc := by rfl) (hs : ∀ x, foldedSetIterable iter X.env x = pure x := by intro _; rfl) :
    PDE X (.ListComp elt [⟨tg, iter, [], 0⟩] scope pos) (dLcL tl fr g te) :=
  pe_imp (pe_lc (B.scope hN ho) hc (pi_list hi) hg he hs) fun σ H Q ⟨ρ, M, Q', re, hm, q, k⟩ => ⟨ρ, M, _, re, hm, q, fun v H1 ⟨d, M1, rd, hm1, ex, q1⟩ => by
    cases d with
    | fz ds =>
      obtain ⟨a, xs, rfl, sq, rs⟩ := rep_fz rd
      exact ⟨a, rfl, ⟨xs, sq.sq⟩, itc_ok ex (re.ext ex) hm1 q1 k fun H' e' M' hm' _ => ⟨xs, rs.ext e', fun i hi => ⟨xs, (sqX_ext e' sq).sq, hi⟩, fun i hi => ⟨xs, xs[i], (sqX_ext e' sq).sq, by simp [hi]⟩, fun i x H2 y => ⟨y.1, y.2 xs (sqX_ext e' sq).sq⟩⟩⟩
    | ref a =>
      obtain ⟨ds, ha, q1⟩ := q1
      obtain rfl := rep_ref_eq rd
      obtain ⟨xs, hx, rs⟩ := hm1.l a ds ha
      refine ⟨a, rfl, ⟨xs, .of hx⟩, itc_ok ex (re.ext ex) hm1 q1 k fun H' e' M' hm' hat => ?_⟩
      obtain ⟨ys, hy, rs'⟩ := hm'.l a ds (hat a rfl)
      exact ⟨ys, rs', fun i hi => ⟨ys, .of hy, hi⟩, fun i hi => ⟨ys, ys[i], .of hy, by simp [hi]⟩, fun i x H2 y => ⟨y.1, y.2 ys (.of hy)⟩⟩
    | _ => exact q1.elim⟩
def dSetLc (i : Nat) (t : DE) : DS := fun E ρ M => t ρ M fun x M1 => E.nx (ρ.set i (some x)) M1
end
end Dd

set_option Elab.async false
set_option linter.all false
set_option maxRecDepth 100000
set_option maxHeartbeats 4000000
namespace L2
open PySem PySem.Spec PyProof.Rows
variable {X : Cx}
end L2
namespace Dd
open PySem PySem.Spec PyProof.Rows L2
variable {X : Cx}
def sAll : DSp := fun ds M Q => match ds with
  | [.ref a] => ∃ bs : List Bool, M a = some (bs.map D.bl) ∧ Q (.bl (bs.all id)) M
  | _ => False
section
variable {g : DG} {te : DE} {tb : DS} {Q : DQ} {ρ0 : DEnv}
def itT (d : D) (ρ0 : DEnv) (g : DG) (te : DE) (M : DM) (Q : DQ) : Prop := match d with
  | .tup ds => dItC none ds ρ0 g te M Q
  | _ => False
theorem dLcT_eq {tl : DE} {fr : List (Option Nat)} {ρ : DEnv} {M : DM} : dLcT tl fr g te ρ M Q = tl ρ M fun d M1 => itT d (rho0 fr ρ) g te M1 Q := rfl
theorem itT_tup {ds : List D} {M : DM} : itT (.tup ds) ρ0 g te M Q = dItC none ds ρ0 g te M Q := rfl
def foT (d : D) (g : DG) (tb : DS) (E : DEnds) (ρ : DEnv) (M : DM) : Prop := match d with
  | .tup ds => dIt none ds g tb E ρ M
  | _ => False
theorem dForT_eq {tl : DE} {E : DEnds} {ρ : DEnv} {M : DM} : dForT tl g tb E ρ M = tl ρ M fun d M1 => foT d g tb E ρ M1 := rfl
theorem foT_tup {ds : List D} {E : DEnds} {ρ : DEnv} {M : DM} : foT (.tup ds) g tb E ρ M = dIt none ds g tb E ρ M := rfl
def goC (g : DG) (te : DE) (ρ0 : DEnv) (Q : DQ) : List D → List D → DM → Prop
  | [], ys, M => ∀ p : Addr, M p = none → Q (.ref p) (putM M p ys)
  | d :: r, ys, M => g d ρ0 M fun ρ2 M2 => te ρ2 M2 fun y M3 => goC g te ρ0 Q r (ys ++ [y]) M3
def goA (a : Addr) (ds : List D) (g : DG) (te : DE) (ρ0 : DEnv) (Q : DQ) : List D → List D → DM → Prop
  | [], ys, M => M a = some ds ∧ ∀ p : Addr, M p = none → Q (.ref p) (putM M p ys)
  | d :: r, ys, M => M a = some ds ∧ g d ρ0 M fun ρ2 M2 => te ρ2 M2 fun y M3 => goA a ds g te ρ0 Q r (ys ++ [y]) M3
def goF (g : DG) (tb : DS) (E : DEnds) : List D → DEnv → DM → Prop
  | [], ρ, M => E.nx ρ M
  | d :: r, ρ, M => g d ρ M fun ρ2 M2 => tb { E with nx := goF g tb E r, ct := goF g tb E r, bk := E.nx } ρ2 M2
theorem it_go {E : DEnds} {ds : List D} {ρ : DEnv} {M : DM} (h : goF g tb E ds ρ M) : dIt none ds g tb E ρ M := by
  refine ⟨fun i ρ M => goF g tb E (ds.drop i) ρ M, h, fun _ _ _ _ _ a e => (by cases e), fun i d ρ M hd hp => ?_, fun ρ M hp => ?_⟩
  · obtain ⟨hi, e⟩ := List.getElem?_eq_some_iff.mp hd
    have hp : goF g tb E (ds.drop i) ρ M := hp
    rw [List.drop_eq_getElem_cons hi, e] at hp
    exact hp
  · have hp : goF g tb E (ds.drop ds.length) ρ M := hp
    rw [List.drop_length] at hp
    exact hp
def goR (lo : Int) (g : DG) (tb : DS) (E : DEnds) : Nat → Nat → DEnv → DM → Prop
  | 0, _, ρ, M => E.nx ρ M
  | n + 1, i, ρ, M => g (.int (lo + i)) ρ M fun ρ2 M2 => tb { E with nx := goR lo g tb E n (i + 1), ct := goR lo g tb E n (i + 1), bk := E.nx } ρ2 M2
end
section
variable {e : Expr} {te : DE} {pos : Pos}
end
end Dd
namespace Dd
open PySem PySem.Spec PyProof.Rows L2
section
variable {X : Cx} {e : Expr} {te : DE} {pos p2 : Pos} {lo hi : Option Expr} {tl th : DO}
def dSlTR (x : D) (lo hi : Option Int) (M : DM) (Q : DQ) : Prop := match x with
  | .tup ds => ¬ (HT.sIx ds.length 0 lo = 0 ∧ HT.sIx ds.length ds.length hi = ds.length) ∧ Q (.tup (cutD ds lo hi)) M
  | _ => False
def dSlT (te : DE) (tl th : DO) : DE := fun ρ M Q => te ρ M fun x M1 => tl ρ M1 fun l M2 => th ρ M2 fun h M3 => dSlTR x l h M3 Q
def dInR (g : Bool → Bool) : D2 := fun x y M Q => match x, y with
  | .int k, .ref a => ∃ ns : List Int, M a = some (ns.map D.int) ∧ Q (.bl (g (ns.any (· == k)))) M
  | .str k, .ref a => ∃ ns : List Str, M a = some (ns.map D.str) ∧ Q (.bl (g (ns.any (· == k)))) M
  | _, _ => False
end
end Dd

set_option Elab.async false
set_option linter.all false
set_option maxRecDepth 100000
set_option maxHeartbeats 4000000
namespace L2
open PySem PySem.Spec PyProof.Rows
open PySem.AutoSeq1 (wpAny_loadPart')
section
variable {X : Cx} {a n : Expr} {ta : TE} {tn : TA} {pos : Pos}
end
end L2
namespace Dd
open PySem PySem.Spec PyProof.Rows L2
section
variable {X : Cx} {a n : Expr} {ta : DE} {tn : DA} {pos p pos' : Pos}
def dInRng (g : Bool → Bool) (ta : DE) (tn : DA) : DE := fun ρ M Q => ta ρ M fun x M1 => tn ρ M1 fun ds M2 => match x, ds with
  | .int k, [.int j] => Q (.bl (g (decide (0 ≤ k ∧ k < j)))) M2
  | _, _ => False
end
end Dd

set_option Elab.async false
set_option linter.all false
set_option maxRecDepth 100000
set_option maxHeartbeats 4000000
namespace Dd
open PySem PySem.Spec PyProof.Rows L2
section
variable {X : Cx} {a b c e o : Expr} {es : List Expr} {ta tb tc te to : DE} {pos : Pos}
def dChain (r r' : D2) (ta tb tc : DE) : DE := fun ρ M Q => ta ρ M fun x M1 => tb ρ M1 fun y M2 => r x y M2 fun z M3 => match z with
  | .bl k => if k = true then tc ρ M3 fun w M4 => r' y w M4 Q else Q (.bl false) M3
  | _ => False
def sTwoI (g : Int → Int → Int) : DSp := fun ds M Q => match ds with
  | [.int i, .int j] => Q (.int (g i j)) M
  | _ => False
def sMin : DSp := sTwoI fun i j => if j < i then j else i
def sMax : DSp := sTwoI fun i j => if j > i then j else i
def sList : DSp := fun ds M Q => match ds with
  | [.tup xs] => ∀ p : Addr, M p = none → Q (.ref p) (putM M p xs)
  | [.fz xs] => ∀ p : Addr, M p = none → Q (.ref p) (putM M p xs)
  | [.ref a] => ∃ xs, M a = some xs ∧ ∀ p : Addr, M p = none → Q (.ref p) (putM M p xs)
  | _ => False
def dExtend (to te : DE) : DE := fun ρ M Q => to ρ M fun x M1 => match x with
  | .ref p => (∃ ds, M1 p = some ds) ∧ dCons te dNil ρ M1 fun ys M2 => ∃ ds q es, ys = [.ref q] ∧ M2 p = some ds ∧ M2 q = some es ∧ ds.length + es.length ≤ 1000 ∧ Q .non (putM M2 p (ds ++ es))
  | _ => False
theorem de_extend {apos cpos : Pos} (ho : PDE X o to) (he : PDE X e te) (hse : starEach [e] X.env = (false, eval e X.env) :: starEach [] X.env := by rfl)
    (hbase : attributeBase o "extend" X.env (eval o X.env) = eval o X.env := by rfl)
    (hfew : ((backTo cpos (starEach [e] X.env)).all (fun x => !x.1) && (backToKw cpos (keywordEach [] X.env)).all (fun x => x.1.isSome)
      && decide ([e].length + ([] : List Keyword).length + (if ([] : List Keyword).isEmpty then 0 else 1) < 30)) = true := by rfl)
    (hline : (apos.endLine == cpos.line) = true := by rfl) (hplain : (backTo cpos (starEach [] X.env)).any (·.1) = false := by rfl) :
    PDE X (.Call (.Attribute o "extend" apos) [e] [] cpos) (dExtend to te) :=
  pe_imp (pe_bm PySem.F.plainAttrs_list PySem.F.slot_list_extend PySem.F.type_list_extend mt_extend ho (da_cons he da_nil hse) hbase hfew hline hse hplain) fun σ H Q ⟨ρ, M, Q', re, hm, q, k⟩ => ⟨ρ, M, _, re, hm, q, fun v H1 ⟨d, M1, rd, hm1, e1, q1⟩ => by
    cases d with
    | ref p =>
      obtain rfl := rep_ref_eq rd
      obtain ⟨⟨ds0, h0⟩, q1⟩ := q1
      obtain ⟨us0, hu0, _⟩ := hm1.l p ds0 h0
      refine ⟨.inl ⟨rfl, us0, .of hu0⟩, ρ, M1, _, re.ext e1, hm1, q1, fun vs H2 ⟨dvs, M2, rs, hm2, e2, ds, qa, es, ey, hp, hq, hl, q2⟩ => ?_⟩
      subst ey
      obtain ⟨w, rfl, rw'⟩ := one_of rs
      obtain rfl := rep_ref_eq rw'
      obtain ⟨us, hu, ru⟩ := hm2.l p ds hp
      obtain ⟨us2, hu2, ru2⟩ := hm2.l qa es hq
      exact ⟨p, qa, us, us2, rfl, rfl, hu, hu2, by rw [← ru.length, ← ru2.length]; exact Nat.le_of_lt (small1000 hl), k _ _ ⟨.non, _, rep_non, hm2.put hu (ru.append ru2), (e1.trans e2).trans (Ext.put hu _), q2⟩⟩
    | _ => exact q1.elim⟩
end
mutual
theorem eqD_self : ∀ (n : Nat) (d : D), pureN n d = true → eqD d d = true
  | n, .non, _ => rfl
  | n, .bl b, _ => by simp [eqD]
  | n, .int i, _ => by simp [eqD]
  | n, .str x, _ => by simp [eqD]
  | n, .ref a, h => by cases n <;> exact absurd h Bool.false_ne_true
  | n, .fz a, h => by cases n <;> exact absurd h Bool.false_ne_true
  | 0, .tup xs, h => absurd h Bool.false_ne_true
  | n + 1, .tup xs, h => eqDs_self n xs h
theorem eqDs_self : ∀ (n : Nat) (ds : List D), ds.all (pureN n) = true → eqDs ds ds = true
  | n, [], _ => rfl
  | n, d :: ds, h => by
    rw [List.all_cons, Bool.and_eq_true] at h
    show (eqD d d && eqDs ds ds) = true
    rw [eqD_self n d h.1, eqDs_self n ds h.2]
    rfl
end
theorem dEq_self {g : Bool → Bool} {d : D} {M : DM} {Q : DQ} (h : pureN 60 d = true) (q : Q (.bl (g true)) M) : dEq g d d M Q := by
  cases d with
  | ref a => exact absurd h Bool.false_ne_true
  | _ => exact ⟨h, h, by rw [eqD_self 60 _ h]; exact q⟩
theorem dEq_refs {g : Bool → Bool} {a b : Addr} {xs ys : List D} {M : DM} {Q : DQ} (h1 : M a = some xs) (h2 : M b = some ys) (n : a ≠ b) (e : xs = ys) (p : xs.all (pureN 59) = true) (q : Q (.bl (g true)) M) : dEq g (.ref a) (.ref b) M Q := by
  subst e
  exact ⟨xs, xs, h1, h2, n, p, p, by rw [eqDs_self 59 xs p]; exact q⟩
theorem sIx1 (n : Nat) : HT.sIx (n + 1) 0 (some 1) = 1 ∧ HT.sIx (n + 1) (n + 1) none = n + 1 := by
  constructor
  · unfold HT.sIx
    simp
  · rfl
def goL (a : Addr) (ds : List D) (g : DG) (tb : DS) (E : DEnds) : List D → DEnv → DM → Prop
  | [], ρ, M => M a = some ds ∧ E.nx ρ M
  | d :: r, ρ, M => M a = some ds ∧ g d ρ M fun ρ2 M2 => tb { E with nx := goL a ds g tb E r, ct := goL a ds g tb E r, bk := E.nx } ρ2 M2
theorem ifF {b : Bool} {A B : Prop} (h : b = false) (q : B) : if b = true then A else B := by subst h; exact q
theorem ifT {b : Bool} {A B : Prop} (h : b = true) (q : A) : if b = true then A else B := by subst h; exact q
end Dd

set_option Elab.async false
set_option linter.all false
set_option maxRecDepth 100000
set_option maxHeartbeats 400000
namespace L2
open PySem PySem.Spec PyProof.Rows
end L2
namespace Dd
open PySem PySem.Spec PyProof.Rows L2
section
variable {X : Cx} {e k : Expr} {te tk : DE} {pos p2 : Pos}
def dRev (te tk : DE) : DE := fun ρ M Q => te ρ M fun x M1 => tk ρ M1 fun y M2 => match x, y with
  | .ref a, .int i => i = -1 ∧ ∃ ds, M2 a = some ds ∧ ∀ p : Addr, M2 p = none → Q (.ref p) (putM M2 p ds.reverse)
  | _, _ => False
end
end Dd

set_option Elab.async false
set_option linter.all false
set_option maxRecDepth 100000
set_option maxHeartbeats 4000000
namespace Zp
open PySem PySem.Spec PyProof.Rows
section
variable {prog : Program} {w : World} {A : Around} {E : Value → Shared → Prop} {s : Shared}
theorem nextT {it t : Addr} {i : Nat} {items : Array Value} {x : Value} {Q : Value → Shared → Prop} (hit : s.heap.IsTupleIter it t i) (ht : s.heap.IsTuple t items) (hx : items[i]? = some x)
    (hQ : ∀ h', h'.IsTupleIter it t (i + 1) → Heap.SameBut it s.heap h' → Q x { s with heap := h' }) : wpAny (model prog w) A (Builtin.SmallTypes.nextOf (.ref it)) Q E s := by
  obtain ⟨o, ho, hc, hd⟩ := id hit; obtain ⟨ol, hol, _, nl, hdl⟩ := ht; unfold Builtin.SmallTypes.nextOf
  refine wpAny_bind (wpAny_callSpecial?_slot (name := Str.ofString "__next__") hit.typeIs F.slot_tuple_iterator_next (wpAny_call_entry F.slot_tuple_iterator_next hit.typeIs F.entry_tuple_iterator_next ?_ (F.args_tuple_iterator_next_1 _)))
  show wpAny _ _ (field (.ref it) 0 >>= _) _ _ s; refine wpAny_bind (wpAny_field ho hd (x := .ref t) rfl ?_)
  show wpAny _ _ (if (Value.ref t == Value.none) = true then _ else _) _ _ s; rw [if_neg (show ¬ ((Value.ref t == Value.none) = true) from Bool.false_ne_true)]
  show wpAny _ _ (field (.ref it) 1 >>= _) _ _ s; refine wpAny_bind (wpAny_field ho hd (x := .int i 0) rfl ?_)
  show wpAny _ _ (seqItems? (.ref t) >>= _) _ _ s; refine wpAny_bind (wpAny_seqItems hol hdl ?_); simp only [Int.toNat_natCast, hx]
  refine wpAny_bind (wpAny_setField ho hd (by simp) (wpAny_pure ⟨x, rfl, wpAny_pure (hQ _ ⟨_, Heap.get?_update_self _ ho (Obj.isFreed_of_fields (Obj.data_mapFields hd _)), (Obj.cls_mapFields ..).trans hc, by rw [Obj.data_mapFields hd]; simp [rawInt]⟩ (Heap.SameBut.update ..))⟩))
theorem endT {it t : Addr} {i : Nat} {items : Array Value} {Q : Value → Shared → Prop} (hh : A.handled = none) (hit : s.heap.IsTupleIter it t i) (ht : s.heap.IsTuple t items) (hx : items[i]? = none)
    (hE : ∀ h' e, Heap.ExtBut it s.heap h' → (∃ o, h'.get? e = some o ∧ o.cls = .type "StopIteration") → E (.ref e) { s with heap := h' }) : wpAny (model prog w) A (Builtin.SmallTypes.nextOf (.ref it)) Q E s := by
  obtain ⟨o, ho, hc, hd⟩ := id hit; obtain ⟨ol, hol, _, nl, hdl⟩ := ht; unfold Builtin.SmallTypes.nextOf
  refine wpAny_bind (wpAny_callSpecial?_slot (name := Str.ofString "__next__") hit.typeIs F.slot_tuple_iterator_next (wpAny_call_entry F.slot_tuple_iterator_next hit.typeIs F.entry_tuple_iterator_next ?_ (F.args_tuple_iterator_next_1 _)))
  show wpAny _ _ (field (.ref it) 0 >>= _) _ _ s; refine wpAny_bind (wpAny_field ho hd (x := .ref t) rfl ?_)
  show wpAny _ _ (if (Value.ref t == Value.none) = true then _ else _) _ _ s; rw [if_neg (show ¬ ((Value.ref t == Value.none) = true) from Bool.false_ne_true)]
  show wpAny _ _ (field (.ref it) 1 >>= _) _ _ s; refine wpAny_bind (wpAny_field ho hd (x := .int i 0) rfl ?_)
  show wpAny _ _ (seqItems? (.ref t) >>= _) _ _ s; refine wpAny_bind (wpAny_seqItems hol hdl ?_); simp only [Int.toNat_natCast, hx]
  refine wpAny_bind (wpAny_rule (wpAny_bind (wpAny_setField ho hd (by simp) ?_))); show wpAny _ _ (newExc (.type "StopIteration") [] >>= _) _ _ _
  refine wpAny_bind ?_; simp only [newExc, newTuple]; refine wpAny_bind (wpAny_newObj_type ?_ (by size_fits))
  refine wpAny_bind (m := firstArgMember _ _) (wpAny_of_eq (a := Value.none) (by first | rfl | (simp only [firstArgMember]; rfl)) ?_); refine wpAny_newObj_type ?_ (by size_fits)
  simp only [raiseNew]; refine wpAny_bind (wpAny_handled ?_); (first | rw [show A.in1.handled = none from hh] | rw [hh])
  refine wpAny_bind (wpAny_pure (wpAny_throw (hE _ _ (((Heap.SameBut.update ..).extBut.push _).push _) ⟨_, Heap.get?_push_size _ rfl, rfl⟩)))
theorem zipItemT {z TI TO i1 i2 l1 l2 : Addr} {k1 k2 : Nat} {xs ys : Array Value} {x y a b : Value} {Q : Value → Shared → Prop} (D : ZipApart z TI TO i1 i2 l1 l2) (hz : IsZip s.heap z TI TO .none) (hTI : IsPair s.heap TI (.ref i1) (.ref i2)) (hTO : IsPair s.heap TO a b)
    (h1 : s.heap.IsTupleIter i1 l1 k1) (h2 : s.heap.IsTupleIter i2 l2 k2) (hl1 : s.heap.IsTuple l1 xs) (hl2 : s.heap.IsTuple l2 ys) (hx : xs[k1]? = some x) (hy : ys[k2]? = some y)
    (hQ : ∀ h', IsZip h' z TI TO (rawInt s.heap.objs.size) → IsPair h' TO x y → h'.IsTupleIter i1 l1 (k1 + 1) → h'.IsTupleIter i2 l2 (k2 + 1) → IsPair h' s.heap.objs.size x y → h'.objs.size = s.heap.objs.size + 1 → (∀ c o, c ≠ z → c ≠ TO → c ≠ i1 → c ≠ i2 → s.heap.get? c = some o → h'.get? c = some o) → Q (.ref s.heap.objs.size) { s with heap := h' }) :
    wpAny (model prog w) A (Builtin.«zip.__next__» ⟨[.ref z], []⟩) (fun fin s' => ∃ v, fin = .done (.ret v) ∧ Q v s') E s := by
  show wpAny _ _ (field (.ref z) 2 >>= _) _ _ _; refine wpAny_bind (wpAny_field hz rfl (x := .bool false) rfl ?_)
  show wpAny _ _ (field (.ref z) 3 >>= _) _ _ _; refine wpAny_bind (wpAny_field hz rfl (x := .ref TI) rfl ?_); refine wpAny_bind (wpAny_seqItems hTI rfl ?_)
  show wpAny _ _ (Builtin.SmallTypes.ownedTupleIsFree (.ref z) >>= _) _ _ _; refine wpAny_bind ?_; unfold Builtin.SmallTypes.ownedTupleIsFree
  refine wpAny_bind (wpAny_field hz rfl (x := .none) rfl (wpAny_pure ?_)); simp only [if_true]; refine wpAny_bind (wpAny_rule ?_)
  refine wpAny_bind (wpAny_field hz rfl (x := .ref TO) rfl ?_); refine wpAny_bind (wpAny_setField_rec hz (by simp) fun h₁ hz₁ hs₁ => ?_); replace hz₁ : IsZip h₁ z TI TO .ellipsis := hz₁
  refine wpAny_bind ?_; simp only [List.zipIdx_cons, List.zipIdx_nil, List.forIn_cons, List.forIn_nil]
  refine wpAny_bind (wpAny_bind (wpAny_onRaise ?_)); show wpAny _ _ (Builtin.SmallTypes.nextOf (.ref i1) >>= _) _ _ _
  refine wpAny_bind (nextT (h1.extBut hs₁.extBut D.i1z) (hl1.extBut hs₁.extBut D.l1z) hx fun h₂ h1₂ hs₂ => wpAny_pure ?_)
  have hTO₂ : IsPair h₂ TO a b := hs₂.extBut _ _ D.TOi1 (hs₁.extBut _ _ D.TOz hTO); refine wpAny_bind (wpAny_seqItems hTO₂ rfl ?_)
  refine wpAny_bind (wpAny_updateSeq_pair hTO₂ fun h₃ hTO₃ hs₃ => ?_); replace hTO₃ : IsPair h₃ TO x b := hTO₃; refine wpAny_bind (wpAny_letGo (wpAny_pure ?_))
  refine wpAny_bind (wpAny_bind (wpAny_onRaise ?_)); show wpAny _ _ (Builtin.SmallTypes.nextOf (.ref i2) >>= _) _ _ _
  refine wpAny_bind (nextT (((h2.extBut hs₁.extBut D.i2z).extBut hs₂.extBut D.i12.symm).extBut hs₃.extBut D.TOi2.symm) (((hl2.extBut hs₁.extBut D.l2z).extBut hs₂.extBut D.l2i1).extBut hs₃.extBut D.l2TO) hy fun h₄ h2₄ hs₄ => wpAny_pure ?_)
  have hTO₄ : IsPair h₄ TO x b := hs₄.extBut _ _ D.TOi2 hTO₃; refine wpAny_bind (wpAny_seqItems hTO₄ rfl ?_)
  refine wpAny_bind (wpAny_updateSeq_pair hTO₄ fun h₅ hTO₅ hs₅ => ?_); replace hTO₅ : IsPair h₅ TO x y := hTO₅; refine wpAny_bind (wpAny_letGo (wpAny_pure (wpAny_pure ?_)))
  refine wpAny_bind (wpAny_seqItems hTO₅ rfl ?_); refine wpAny_bind (wpAny_newTuple ?_); have hsz : h₅.objs.size = s.heap.objs.size := by rw [hs₅.1, hs₄.1, hs₃.1, hs₂.1, hs₁.1]
  have hz₅ : IsZip h₅ z TI TO .ellipsis := hs₅.extBut _ _ D.TOz.symm (hs₄.extBut _ _ D.i2z.symm (hs₃.extBut _ _ D.TOz.symm (hs₂.extBut _ _ D.i1z.symm hz₁)))
  have hk₅ : ∀ c o, c ≠ z → c ≠ TO → c ≠ i1 → c ≠ i2 → s.heap.get? c = some o → h₅.get? c = some o := fun c o c1 c2 c3 c4 e => hs₅.extBut _ _ c2 (hs₄.extBut _ _ c4 (hs₃.extBut _ _ c2 (hs₂.extBut _ _ c3 (hs₁.extBut _ _ c1 e))))
  have h1₅ : h₅.IsTupleIter i1 l1 (k1 + 1) := ((h1₂.extBut hs₃.extBut D.TOi1.symm).extBut hs₄.extBut D.i12).extBut hs₅.extBut D.TOi1.symm
  have h2₅ : h₅.IsTupleIter i2 l2 (k2 + 1) := h2₄.extBut hs₅.extBut D.TOi2.symm
  have hzlt : z < h₅.objs.size := Heap.lt_size hz₅
  show wpAny _ _ (Builtin.SmallTypes.ownedTupleHandOut (.ref z) (.ref h₅.objs.size) >>= _) _ _ _; refine wpAny_bind ?_; unfold Builtin.SmallTypes.ownedTupleHandOut
  have hz₆ : IsZip (h₅.push { cls := .type "tuple", data := .seq #[x, y] }) z TI TO .ellipsis := Heap.get?_push_of_some _ hz₅
  refine wpAny_bind (wpAny_setField_rec hz₆ (by simp) fun h₇ hz₇ hs₇ => ?_); replace hz₇ : IsZip h₇ z TI TO (rawInt h₅.objs.size) := hz₇
  refine wpAny_setField_rec hz₇ (by simp) fun h₈ hz₈ hs₈ => ?_; replace hz₈ : IsZip h₈ z TI TO (rawInt h₅.objs.size) := hz₈
  have up : ∀ c o, c ≠ z → h₅.get? c = some o → h₈.get? c = some o := fun c o c1 e => hs₈.extBut _ _ c1 (hs₇.extBut _ _ c1 (Heap.get?_push_of_some _ e))
  have hT₈ : IsPair h₈ h₅.objs.size x y := hs₈.extBut _ _ (Nat.ne_of_gt hzlt) (hs₇.extBut _ _ (Nat.ne_of_gt hzlt) (Heap.get?_push_size _ rfl))
  have hz8 : h₈.objs.size = h₅.objs.size + 1 := by rw [hs₈.1, hs₇.1, Heap.size_push]
  rw [hsz] at hz₈ hT₈ hz8; refine wpAny_pure ⟨_, rfl, ?_⟩; show Q (.ref h₅.objs.size) _; rw [hsz]
  exact hQ h₈ hz₈ (up _ _ D.TOz hTO₅) (h1₅.at fun o e => up _ o D.i1z e) (h2₅.at fun o e => up _ o D.i2z e) hT₈ hz8 fun c o c1 c2 c3 c4 e => up c o c1 (hk₅ c o c1 c2 c3 c4 e)
theorem zipEndT {z TI TO i1 i2 l1 l2 : Addr} {k1 k2 : Nat} {xs ys : Array Value} {a b : Value} {Q : Fin → Shared → Prop} (hh : A.handled = none) (D : ZipApart z TI TO i1 i2 l1 l2) (hz : IsZip s.heap z TI TO .none) (hTI : IsPair s.heap TI (.ref i1) (.ref i2)) (hTO : IsPair s.heap TO a b)
    (h1 : s.heap.IsTupleIter i1 l1 k1) (h2 : s.heap.IsTupleIter i2 l2 k2) (hl1 : s.heap.IsTuple l1 xs) (hl2 : s.heap.IsTuple l2 ys) (hend : xs[k1]? = none ∨ ys[k2]? = none)
    (hE : ∀ h' e, (∀ c o, c ≠ z → c ≠ TO → c ≠ i1 → c ≠ i2 → s.heap.get? c = some o → h'.get? c = some o) → (∃ o, h'.get? e = some o ∧ o.cls = .type "StopIteration") → E (.ref e) { s with heap := h' }) :
    wpAny (model prog w) A (Builtin.«zip.__next__» ⟨[.ref z], []⟩) Q E s := by
  show wpAny _ _ (field (.ref z) 2 >>= _) _ _ _; refine wpAny_bind (wpAny_field hz rfl (x := .bool false) rfl ?_)
  show wpAny _ _ (field (.ref z) 3 >>= _) _ _ _; refine wpAny_bind (wpAny_field hz rfl (x := .ref TI) rfl ?_); refine wpAny_bind (wpAny_seqItems hTI rfl ?_)
  show wpAny _ _ (Builtin.SmallTypes.ownedTupleIsFree (.ref z) >>= _) _ _ _; refine wpAny_bind ?_; unfold Builtin.SmallTypes.ownedTupleIsFree
  refine wpAny_bind (wpAny_field hz rfl (x := .none) rfl (wpAny_pure ?_)); simp only [if_true]; refine wpAny_bind (wpAny_rule ?_)
  refine wpAny_bind (wpAny_field hz rfl (x := .ref TO) rfl ?_); refine wpAny_bind (wpAny_setField_rec hz (by simp) fun h₁ hz₁ hs₁ => ?_); replace hz₁ : IsZip h₁ z TI TO .ellipsis := hz₁
  refine wpAny_bind ?_; simp only [List.zipIdx_cons, List.zipIdx_nil, List.forIn_cons, List.forIn_nil]
  refine wpAny_bind (wpAny_bind (wpAny_onRaise ?_)); show wpAny _ _ (Builtin.SmallTypes.nextOf (.ref i1) >>= _) _ _ _
  cases hx : xs[k1]? with
  | none =>
    refine wpAny_bind (endT hh (h1.extBut hs₁.extBut D.i1z) (hl1.extBut hs₁.extBut D.l1z) hx fun h₂ e hs₂ he => ?_); obtain ⟨oe, hoe, hce⟩ := he
    have hz₂ : IsZip h₂ z TI TO .ellipsis := hs₂ _ _ D.i1z.symm hz₁
    have hez : e ≠ z := fun x => by (subst x; rw [hz₂] at hoe; cases hoe; simp at hce)
    exact wpAny_setField_rec hz₂ (by simp) fun h₃ _ hs₃ => hE h₃ e (fun c o c1 _ c3 _ x => hs₃.extBut _ _ c1 (hs₂ _ _ c3 (hs₁.extBut _ _ c1 x))) ⟨oe, hs₃.extBut _ _ hez hoe, hce⟩
  | some x =>
    have hy : ys[k2]? = none := by (rcases hend with h | h; rw [hx] at h; cases h; exact h)
    refine wpAny_bind (nextT (h1.extBut hs₁.extBut D.i1z) (hl1.extBut hs₁.extBut D.l1z) hx fun h₂ h1₂ hs₂ => wpAny_pure ?_)
    have hTO₂ : IsPair h₂ TO a b := hs₂.extBut _ _ D.TOi1 (hs₁.extBut _ _ D.TOz hTO); refine wpAny_bind (wpAny_seqItems hTO₂ rfl ?_)
    refine wpAny_bind (wpAny_updateSeq_pair hTO₂ fun h₃ hTO₃ hs₃ => ?_); refine wpAny_bind (wpAny_letGo (wpAny_pure ?_))
    refine wpAny_bind (wpAny_bind (wpAny_onRaise ?_)); show wpAny _ _ (Builtin.SmallTypes.nextOf (.ref i2) >>= _) _ _ _
    refine wpAny_bind (endT hh (((h2.extBut hs₁.extBut D.i2z).extBut hs₂.extBut D.i12.symm).extBut hs₃.extBut D.TOi2.symm) (((hl2.extBut hs₁.extBut D.l2z).extBut hs₂.extBut D.l2i1).extBut hs₃.extBut D.l2TO) hy fun h₄ e hs₄ he => ?_); obtain ⟨oe, hoe, hce⟩ := he
    have hz₄ : IsZip h₄ z TI TO .ellipsis := hs₄ _ _ D.i2z.symm (hs₃.extBut _ _ D.TOz.symm (hs₂.extBut _ _ D.i1z.symm hz₁))
    have hez : e ≠ z := fun x => by (subst x; rw [hz₄] at hoe; cases hoe; simp at hce)
    exact wpAny_setField_rec hz₄ (by simp) fun h₅ _ hs₅ => hE h₅ e (fun c o c1 c2 c3 c4 x => hs₅.extBut _ _ c1 (hs₄ _ _ c4 (hs₃.extBut _ _ c2 (hs₂.extBut _ _ c3 (hs₁.extBut _ _ c1 x))))) ⟨oe, hs₅.extBut _ _ hez hoe, hce⟩
theorem pyNextItemT {z TI TO i1 i2 l1 l2 : Addr} {k1 k2 : Nat} {xs ys : Array Value} {x y a b : Value} {Q : Option Value → Shared → Prop} (D : ZipApart z TI TO i1 i2 l1 l2) (hz : IsZip s.heap z TI TO .none) (hTI : IsPair s.heap TI (.ref i1) (.ref i2)) (hTO : IsPair s.heap TO a b)
    (h1 : s.heap.IsTupleIter i1 l1 k1) (h2 : s.heap.IsTupleIter i2 l2 k2) (hl1 : s.heap.IsTuple l1 xs) (hl2 : s.heap.IsTuple l2 ys) (hx : xs[k1]? = some x) (hy : ys[k2]? = some y)
    (hQ : ∀ h', IsZip h' z TI TO (rawInt s.heap.objs.size) → IsPair h' TO x y → h'.IsTupleIter i1 l1 (k1 + 1) → h'.IsTupleIter i2 l2 (k2 + 1) → IsPair h' s.heap.objs.size x y → h'.objs.size = s.heap.objs.size + 1 → (∀ c o, c ≠ z → c ≠ TO → c ≠ i1 → c ≠ i2 → s.heap.get? c = some o → h'.get? c = some o) → Q (some (.ref s.heap.objs.size)) { s with heap := h' }) :
    wpAny (model prog w) A (pyNext (.ref z)) Q E s := by
  have hT : s.TypeIs (.ref z) "zip" := ⟨_, hz, rfl⟩; unfold pyNext
  exact wpAny_bind (wpAny_attempt (wpAny_callSpecial?_slot (name := Str.ofString "__next__") hT F.slot_zip_next (wpAny_call_entry F.slot_zip_next hT F.entry_zip_next (zipItemT D hz hTI hTO h1 h2 hl1 hl2 hx hy fun h' a1 a2 a3 a4 a5 a6 a7 => wpAny_pure (hQ h' a1 a2 a3 a4 a5 a6 a7)) (F.args_zip_next_1 _))))
theorem pyNextEndT {z TI TO i1 i2 l1 l2 : Addr} {k1 k2 : Nat} {xs ys : Array Value} {a b : Value} {Q : Option Value → Shared → Prop} (hh : A.handled = none) (D : ZipApart z TI TO i1 i2 l1 l2) (hz : IsZip s.heap z TI TO .none) (hTI : IsPair s.heap TI (.ref i1) (.ref i2)) (hTO : IsPair s.heap TO a b)
    (h1 : s.heap.IsTupleIter i1 l1 k1) (h2 : s.heap.IsTupleIter i2 l2 k2) (hl1 : s.heap.IsTuple l1 xs) (hl2 : s.heap.IsTuple l2 ys) (hend : xs[k1]? = none ∨ ys[k2]? = none)
    (hQ : ∀ h', (∀ c o, c ≠ z → c ≠ TO → c ≠ i1 → c ≠ i2 → s.heap.get? c = some o → h'.get? c = some o) → Q none { s with heap := h' }) : wpAny (model prog w) A (pyNext (.ref z)) Q E s := by
  have hT : s.TypeIs (.ref z) "zip" := ⟨_, hz, rfl⟩; unfold pyNext
  refine wpAny_bind (wpAny_attempt (wpAny_callSpecial?_slot (name := Str.ofString "__next__") hT F.slot_zip_next (wpAny_call_entry F.slot_zip_next hT F.entry_zip_next (zipEndT hh D hz hTI hTO h1 h2 hl1 hl2 hend fun h' e hk he => ?_) (F.args_zip_next_1 _))))
  obtain ⟨o, ho, hc⟩ := he; exact wpAny_bind (wpAny_isInstance (T := "StopIteration") (b := true) ⟨o, ho, hc⟩ isSubtype_stop (wpAny_pure (hQ _ hk)))
end
abbrev zT1 (h : Heap) (l1 : Addr) : Heap := h.push { cls := .type "tuple_iterator", data := .fields #[.ref l1, .int 0 0] }
abbrev zT2 (h : Heap) (l1 l2 : Addr) : Heap := (zT1 h l1).push { cls := .type "tuple_iterator", data := .fields #[.ref l2, .int 0 0] }
abbrev zT3 (h : Heap) (l1 l2 : Addr) : Heap := (zT2 h l1 l2).push { cls := .type "tuple", data := .seq #[.ref h.objs.size, .ref (zT1 h l1).objs.size] }
abbrev zT4 (h : Heap) (l1 l2 : Addr) : Heap := (zT3 h l1 l2).push { cls := .type "tuple", data := .seq #[.none, .none] }
abbrev zT5 (h : Heap) (l1 l2 : Addr) : Heap := (zT4 h l1 l2).push { cls := .type "zip", data := .fields #[.none, .bool false, .bool false, .ref (zT2 h l1 l2).objs.size, .ref (zT3 h l1 l2).objs.size] }
theorem zipNewT (l1 l2 : Addr) (xs ys : Array Value) : Meets (Builtin.«zip.__new__» ⟨[.type "zip", .ref l1, .ref l2], []⟩) (fun _ R s => s.heap.IsTuple l1 xs ∧ s.heap.IsTuple l2 ys ∧ R (.ok (.ret (.ref (zT4 s.heap l1 l2).objs.size))) { s with heap := zT5 s.heap l1 l2 }) :=
  .of_wp fun prog w A R s h => by
    obtain ⟨hp, g, d, tk, os⟩ := s; obtain ⟨hl1, hl2, h⟩ := h; have hsub := sub_zip
    have hL1 : Heap.IsTuple (Shared.heap ⟨hp, g, d, tk, os⟩) l1 xs := hl1
    have hL2 : Heap.IsTuple (Shared.heap ⟨hp.push { cls := .type "tuple_iterator", data := .fields #[.ref l1, .int 0 0] }, g, d, tk, os⟩) l2 ys := Heap.IsTuple.push hl2 _
    wp_walk using wpAny_pyIter_tuple hL1, wpAny_pyIter_tuple hL2
    exact ⟨_, rfl, h⟩
theorem callZipT {prog : Program} {w : World} {A : Around} {E : Value → Shared → Prop} {s : Shared} {l1 l2 : Addr} {xs ys : Array Value} {Q : Value → Shared → Prop} (hl1 : s.heap.IsTuple l1 xs) (hl2 : s.heap.IsTuple l2 ys)
    (h : ∀ h', IsZip h' (s.heap.objs.size + 4) (s.heap.objs.size + 2) (s.heap.objs.size + 3) .none → IsPair h' (s.heap.objs.size + 2) (.ref s.heap.objs.size) (.ref (s.heap.objs.size + 1)) → IsPair h' (s.heap.objs.size + 3) .none .none → h'.IsTupleIter s.heap.objs.size l1 0 → h'.IsTupleIter (s.heap.objs.size + 1) l2 0 → h'.objs.size = s.heap.objs.size + 5 →
      (∀ c o, s.heap.get? c = some o → h'.get? c = some o) → Q (.ref (s.heap.objs.size + 4)) { s with heap := h' }) : wpAny (model prog w) A (call (.type "zip") [.ref l1, .ref l2]) Q E s := by
  refine callType_new F.called_zip (by decide) (F.typeCall_zip_2 _ _) (F.newCall_zip_2 _ _) (fun obj => F.args_object_init_3 obj _ _) F.entry_zip_new (zipNewT l1 l2 xs ys) ⟨hl1, hl2, ?_⟩
  have z1 : (zT1 s.heap l1).objs.size = s.heap.objs.size + 1 := Heap.size_push ..
  have z2 : (zT2 s.heap l1 l2).objs.size = s.heap.objs.size + 2 := by rw [Heap.size_push, z1]
  have z3 : (zT3 s.heap l1 l2).objs.size = s.heap.objs.size + 3 := by rw [Heap.size_push, z2]
  have z4 : (zT4 s.heap l1 l2).objs.size = s.heap.objs.size + 4 := by rw [Heap.size_push, z3]
  have z5 : (zT5 s.heap l1 l2).objs.size = s.heap.objs.size + 5 := by rw [Heap.size_push, z4]
  have g5 : (zT5 s.heap l1 l2).get? (zT4 s.heap l1 l2).objs.size = some _ := Heap.get?_push_size _ rfl
  have g4 : (zT5 s.heap l1 l2).get? (zT3 s.heap l1 l2).objs.size = some _ := Heap.get?_push_of_some _ (Heap.get?_push_size _ rfl)
  have g3 : (zT5 s.heap l1 l2).get? (zT2 s.heap l1 l2).objs.size = some _ := Heap.get?_push_of_some _ (Heap.get?_push_of_some _ (Heap.get?_push_size _ rfl))
  have g2 : (zT5 s.heap l1 l2).get? (zT1 s.heap l1).objs.size = some _ := Heap.get?_push_of_some _ (Heap.get?_push_of_some _ (Heap.get?_push_of_some _ (Heap.get?_push_size _ rfl)))
  have g1 : (zT5 s.heap l1 l2).get? s.heap.objs.size = some _ := Heap.get?_push_of_some _ (Heap.get?_push_of_some _ (Heap.get?_push_of_some _ (Heap.get?_push_of_some _ (Heap.get?_push_size _ rfl))))
  show _ ∧ _; rw [z2, z3, z4] at g5; rw [z1, z2] at g3; rw [z3] at g4; rw [z1] at g2; rw [z4]
  exact ⟨⟨_, g5, rfl⟩, h _ g5 g3 g4 ⟨_, g1, rfl, rfl⟩ ⟨_, g2, rfl, rfl⟩ z5 fun c o x => Heap.get?_push_of_some _ (Heap.get?_push_of_some _ (Heap.get?_push_of_some _ (Heap.get?_push_of_some _ (Heap.get?_push_of_some _ x))))⟩
end Zp
namespace L2
open PySem PySem.Spec PyProof.Rows
theorem Inv.turnedT {X : Cx} {pins : List (Addr × Obj)} {σ : St} {H : Hp} {s : Shared} {h' : Heap} {fp : List Addr} {p : Addr} {xs : List V} {its : List Value} (I : Inv X pins σ H s) (k : ∀ b o, b ∉ fp → s.heap.get? b = some o → h'.get? b = some o) (hf : ∀ b ∈ fp, FpOk X pins H b) (hp : s.heap.objs.size ≤ p) (hz : xs.length ≤ sizeLine) (hv : Vals xs its) (ht : IsTup h' p its.toArray) (th : ∀ b ∈ fp, ∃ o, h'.get? b = some o) :
    Inv X pins σ (upd H p (.tup xs)) { s with heap := h' } := by
  have hn : H p = none := I.hok.fresh hp
  have nf : ∀ b u, H b = some u → b ∉ fp := fun b u e hb => by rw [(hf b hb).1] at e; cases e
  have np : ∀ b o, s.heap.get? b = some o → b ≠ p := fun b o e => Nat.ne_of_lt (Nat.lt_of_lt_of_le (Heap.lt_size e) hp)
  refine I.step (g' := s.gens) (d' := s.drawn) (t' := s.toks) (ch := fp) (fun b hb => ⟨(hf b hb).2.2.2.1, (hf b hb).2.1, (hf b hb).2.2.2.2.1, (hf b hb).2.2.2.2.2⟩) (fun b o _ _ hc e _ => k b o hc e) (fun b o _ _ hc e _ => ⟨o.slots, k b o hc e⟩) (fun b o _ e n => by rw [upd_ne (np b o e)]; exact n)
    (fun b o hc e => ⟨o, k b o hc e⟩) (fun b ys e => by rw [upd_ne (ne_of_none e hn)]; exact e) (fun b o u e => by rw [upd_ne (ne_of_none e hn)]; exact e) (fun b ps e => ⟨#[], by rw [upd_ne (ne_of_none e hn), e]; simp⟩) (fun m hm => ?_) (fun b u e => ?_) I.bare
  · obtain ⟨o, es, ep, ho, r⟩ := hm
    exact ⟨o, es, ep, k _ o (fun hb => (hf _ hb).2.1 rfl) ho, r⟩
  · by_cases hb : b = p
    · subst hb
      rw [upd_same] at e
      cases e
      exact ⟨hz, its, hv, ht⟩
    · rw [upd_ne hb] at e
      refine (I.hok b u e).stay (fun c v hc q => k c v ?_ q) (fun c q => by rw [upd_ne (ne_of_none q hn)]; exact q) fun c xs q => by rw [upd_ne (ne_of_none q hn)]; exact q
      rcases hc with z | z
      · rw [z]; exact nf b u e
      · exact nf c _ z
theorem Inv.turnedL {X : Cx} {pins : List (Addr × Obj)} {σ : St} {H : Hp} {s : Shared} {h' : Heap} {fp : List Addr} (I : Inv X pins σ H s) (k : ∀ b o, b ∉ fp → s.heap.get? b = some o → h'.get? b = some o) (hf : ∀ b ∈ fp, FpOk X pins H b) :
    Inv X pins σ H { s with heap := h' } := by
  have nf : ∀ b u, H b = some u → b ∉ fp := fun b u e hb => by rw [(hf b hb).1] at e; cases e
  refine I.step (g' := s.gens) (d' := s.drawn) (t' := s.toks) (ch := fp) (fun b hb => ⟨(hf b hb).2.2.2.1, (hf b hb).2.1, (hf b hb).2.2.2.2.1, (hf b hb).2.2.2.2.2⟩) (fun b o _ _ hc e _ => k b o hc e) (fun b o _ _ hc e _ => ⟨o.slots, k b o hc e⟩) (fun b o _ e n => n)
    (fun b o hc e => ⟨o, k b o hc e⟩) (fun b ys e => e) (fun b o u e => e) (fun b ps e => ⟨#[], by rw [e]; simp⟩) (fun m hm => ?_) (fun b u e => ?_) I.bare
  · obtain ⟨o, es, ep, ho, r⟩ := hm
    exact ⟨o, es, ep, k _ o (fun hb => (hf _ hb).2.1 rfl) ho, r⟩
  · refine (I.hok b u e).stay (fun c v hc q => k c v ?_ q) (fun c q => q) fun c xs q => q
    rcases hc with z | z
    · rw [z]; exact nf b u e
    · exact nf c _ z
def Itz (K : PySem.W.Frag) (l1 l2 : Addr) : It :=
  ⟨fun i H => ∃ xs ys x y, SqT K H l1 xs ∧ SqT K H l2 ys ∧ xs[i]? = some x ∧ ys[i]? = some y,
   fun i H v H' => ∃ p x y, v = .ref p ∧ H p = none ∧ H' = upd H p (.tup [x, y]) ∧ ∀ xs ys, SqT K H l1 xs → SqT K H l2 ys → xs[i]? = some x ∧ ys[i]? = some y,
   fun i H => ∃ xs ys, SqT K H l1 xs ∧ SqT K H l2 ys ∧ (xs.length ≤ i ∨ ys.length ≤ i)⟩
theorem turn_zip {P : Program} {w : World} {K : PySem.W.Frag} {elts : List Expr} {kk : Nat} {tpos : Pos} {z TI TO i1 i2 l1 l2 : Addr} (D : ZipApart z TI TO i1 i2 l1 l2) :
    Turn P w K (.Tuple elts kk tpos) (Itz K l1 l2) [z, TI, TO, i1, i2] z (fun i h => IsZip h z TI TO .none ∧ IsPair h TI (.ref i1) (.ref i2) ∧ (∃ a b, IsPair h TO a b) ∧ h.IsTupleIter i1 l1 i ∧ h.IsTupleIter i2 l2 i) where
  mem := by simp
  obj := fun i h st b hb => by
    obtain ⟨hz, hTI, ⟨a, c, hTO⟩, ⟨o1, e1, c1, d1⟩, ⟨o2, e2, c2, d2⟩⟩ := st
    simp only [List.mem_cons, List.not_mem_nil, or_false] at hb
    rcases hb with rfl | rfl | rfl | rfl | rfl
    · exact ⟨_, hz, fun v z => by cases z⟩
    · exact ⟨_, hTI, fun v z => by cases z⟩
    · exact ⟨_, hTO, fun v z => by cases z⟩
    · exact ⟨o1, e1, fun v z => by rw [d1] at z; cases z⟩
    · exact ⟨o2, e2, fun v z => by rw [d2] at z; cases z⟩
  keep := fun i h h' st k => by
    obtain ⟨hz, hTI, ⟨a, c, hTO⟩, t1, t2⟩ := st
    exact ⟨k z (by simp) _ hz, k TI (by simp) _ hTI, ⟨a, c, k TO (by simp) _ hTO⟩, t1.at fun o e => k i1 (by simp) o e, t2.at fun o e => k i2 (by simp) o e⟩
  item := by
    intro X hP hw hK hc i pins s σ H E I hf st hg
    subst hP hw hK
    obtain ⟨xs, ys, x, y, hq1, hq2, hx, hy⟩ := hg
    obtain ⟨hz, hTI, ⟨a, c, hTO⟩, t1, t2⟩ := st
    obtain ⟨its1, rv1, p1, hz1⟩ := I.tuple hq1
    obtain ⟨its2, rv2, p2, hz2⟩ := I.tuple hq2
    obtain ⟨u1, hu1, ru1⟩ := rv1.get hx
    obtain ⟨u2, hu2, ru2⟩ := rv2.get hy
    refine Zp.pyNextItemT D hz hTI hTO t1 t2 (show s.heap.IsTuple l1 its1.toArray from p1) (show s.heap.IsTuple l2 its2.toArray from p2) (x := u1) (y := u2) (by simpa using hu1) (by simpa using hu2) fun h' a1 a2 a3 a4 a5 a6 a7 => ?_
    refine ⟨_, rfl, wpAny_letOwnedTupleGo_zip (s := { s with heap := h' }) a1 fun h2 b1 b2 => ?_⟩
    have ltz := Heap.lt_size hz
    have nz : s.heap.objs.size ≠ z := Nat.ne_of_gt ltz
    have k2 : ∀ b o, b ∉ [z, TI, TO, i1, i2] → s.heap.get? b = some o → h2.get? b = some o := fun b o hb e => b2.extBut _ _ (fun q => hb (by simp [q])) (a7 b o (fun q => hb (by simp [q])) (fun q => hb (by simp [q])) (fun q => hb (by simp [q])) (fun q => hb (by simp [q])) e)
    have hTI2 : IsPair h2 TI (.ref i1) (.ref i2) := b2.extBut _ _ D.TIz (a7 _ _ D.TIz D.TITO D.TIi1 D.TIi2 hTI)
    have hTO2 : IsPair h2 TO u1 u2 := b2.extBut _ _ D.TOz a2
    have e1 : h2.IsTupleIter i1 l1 (i + 1) := a3.extBut b2.extBut D.i1z
    have e2 : h2.IsTupleIter i2 l2 (i + 1) := a4.extBut b2.extBut D.i2z
    have I2 : Inv X pins σ (upd H s.heap.objs.size (.tup [x, y])) { s with heap := h2 } := I.turnedT (its := [u1, u2]) k2 hf (Nat.le_refl _) (by show 2 ≤ sizeLine; decide) (.cons ru1 (.cons ru2 .nil)) ⟨_, b2.extBut _ _ nz a5, rfl, _, rfl⟩ fun b hb => by
      simp only [List.mem_cons, List.not_mem_nil, or_false] at hb
      rcases hb with rfl | rfl | rfl | rfl | rfl
      · exact ⟨_, b1⟩
      · exact ⟨_, hTI2⟩
      · exact ⟨_, hTO2⟩
      · obtain ⟨o, e, _⟩ := e1; exact ⟨o, e⟩
      · obtain ⟨o, e, _⟩ := e2; exact ⟨o, e⟩
    refine ⟨.ref s.heap.objs.size, _, I2, rfl, ⟨_, x, y, rfl, I.hok.fresh (Nat.le_refl _), rfl, fun xs' ys' q1 q2 => by rw [I.tuple_inj q1 hq1, I.tuple_inj q2 hq2]; exact ⟨hx, hy⟩⟩, ⟨b1, hTI2, ⟨_, _, hTO2⟩, e1, e2⟩, fun b hb => ?_⟩
    rw [upd_ne]
    · exact (hf b hb).1
    · intro q
      subst q
      simp only [List.mem_cons, List.not_mem_nil, or_false] at hb
      obtain ⟨o1, g1, _⟩ := t1
      obtain ⟨o2, g2, _⟩ := t2
      rcases hb with q | q | q | q | q
      · exact nz q
      · exact absurd (Heap.lt_size hTI) (by rw [← q]; exact Nat.lt_irrefl _)
      · exact absurd (Heap.lt_size hTO) (by rw [← q]; exact Nat.lt_irrefl _)
      · exact absurd (Heap.lt_size g1) (by rw [← q]; exact Nat.lt_irrefl _)
      · exact absurd (Heap.lt_size g2) (by rw [← q]; exact Nat.lt_irrefl _)
  done := by
    intro X hP hw hK hc i pins s σ H E I hf st hg
    subst hP hw hK
    obtain ⟨xs, ys, hq1, hq2, hend⟩ := hg
    obtain ⟨hz, hTI, ⟨a, c, hTO⟩, t1, t2⟩ := st
    obtain ⟨its1, rv1, p1, hz1⟩ := I.tuple hq1
    obtain ⟨its2, rv2, p2, hz2⟩ := I.tuple hq2
    have w1 := rv1.length
    have w2 := rv2.length
    refine Zp.pyNextEndT (I.ok.hd hc) D hz hTI hTO t1 t2 (show s.heap.IsTuple l1 its1.toArray from p1) (show s.heap.IsTuple l2 its2.toArray from p2) ?_ fun h' k => ⟨rfl, I.turnedL (fun b o hb e => k b o (fun q => hb (by simp [q])) (fun q => hb (by simp [q])) (fun q => hb (by simp [q])) (fun q => hb (by simp [q])) e) hf⟩
    rcases hend with q | q
    · exact .inl (by simp; omega)
    · exact .inr (by simp; omega)
  self := fun _ _ _ _ _ st h => wpAny_pyIter_zip st.1 h
theorem apartN (n l1 l2 : Nat) (h1 : l1 < n) (h2 : l2 < n) : ZipApart (n + 4) (n + 2) (n + 3) n (n + 1) l1 l2 := by
  have ad : ∀ {a b : Nat}, a ≠ b → @Ne Addr a b := fun h => h
  constructor <;> exact ad (by omega)
def iZip (K : PySem.W.Frag) (ta : TA) : TI := fun σ H R => ta σ H fun vs H1 => ∃ a b, vs = [.ref a, .ref b] ∧ (∃ xs, SqT K H1 a xs) ∧ (∃ ys, SqT K H1 b ys) ∧ R (Itz K a b) H1
theorem pi_zip {X : Cx} {elts : List Expr} {kk : Nat} {tpos : Pos} {a b : Expr} {ta : TA} {p pos : Pos} (hg : Gl X "zip") (hm : X.mg "zip" = none) (ha : PA X [a, b] ta) (hs : starEach [a, b] X.env = [(false, eval a X.env), (false, eval b X.env)] := by rfl) (hs2 : starEach [b] X.env = [(false, eval b X.env)] := by rfl) :
    PI X (.Tuple elts kk tpos) (.Call (.Name "zip" p) [a, b] [] pos) (iZip X.K ta) := by
  intro pins s σ H R I h
  refine Call_ (ld_blt I hg hm (show bootBuiltins "zip" = some (.type "zip") from rfl) (PyProof.Rows.callWith_type1 (thn (ha pos pins s σ H _ I h) fun us s1 ⟨vs, H1, I1, r1, q1⟩ => ?_) (by rw [hs, hs2]) (by rw [hs2]; rfl)))
  obtain ⟨l1, l2, rfl, ⟨xs, hq1⟩, ⟨ys, hq2⟩, q⟩ := q1
  obtain ⟨u1, u2, rfl, e1, e2⟩ := r1.two
  cases e1
  cases e2
  obtain ⟨its1, rv1, p1, hz1⟩ := I1.tuple hq1
  obtain ⟨its2, rv2, p2, hz2⟩ := I1.tuple hq2
  have lt1 : l1 < s1.heap.objs.size := by obtain ⟨o, ho, _⟩ := id p1; exact Heap.lt_size ho
  have lt2 : l2 < s1.heap.objs.size := by obtain ⟨o, ho, _⟩ := id p2; exact Heap.lt_size ho
  refine Zp.callZipT (show s1.heap.IsTuple l1 its1.toArray from p1) (show s1.heap.IsTuple l2 its2.toArray from p2) fun h' b1 b2 b3 b4 b5 b6 b7 => ?_
  refine wpAny_pyIter_zip (s := { s1 with heap := h' }) b1 ?_
  have D : ZipApart (s1.heap.objs.size + 4) (s1.heap.objs.size + 2) (s1.heap.objs.size + 3) s1.heap.objs.size (s1.heap.objs.size + 1) l1 l2 := apartN _ _ _ lt1 lt2
  refine ⟨s1.heap.objs.size + 4, [s1.heap.objs.size + 4, s1.heap.objs.size + 2, s1.heap.objs.size + 3, s1.heap.objs.size, s1.heap.objs.size + 1], _, _, H1, rfl, I1.kept (t' := s1.toks) b7, turn_zip D, ⟨b1, b2, ⟨_, _, b3⟩, b4, b5⟩, fun b hb => ?_, q⟩
  have hb' : s1.heap.objs.size ≤ b := by
    simp only [List.mem_cons, List.not_mem_nil, or_false] at hb
    rcases hb with rfl | rfl | rfl | rfl | rfl <;> omega
  exact I1.fpOk hb' (I1.hok.fresh hb')
end L2
namespace Dd
open PySem PySem.Spec PyProof.Rows L2
section
variable {X : Cx} {pos : Pos} {iter tg : Expr} {body : List Stmt} {tl : DE} {g : DG} {tb : DS} {ta : DA}
theorem itz_ok {K : PySem.W.Frag} {ds : List D} {E : Ends} {Dn : DEnds} {σ : L2.St} {ρ : DEnv} {M : DM} {H0 H : Hp} {J : It} (ex0 : Ext H0 H) (re : RepE K H ρ σ) (hm : HRep K M H) (k : EndsOk K H0 Dn E) (h : dIt none ds g tb Dn ρ M)
    (seq : ∀ H', Ext H H' → (∀ i, ds.length ≤ i → J.stop i H') ∧ (∀ i, i < ds.length → J.go i H') ∧ ∀ i x H2, J.yld i H' x H2 → Ext H' H2 ∧ (∀ M', HRep K M' H' → HRep K M' H2) ∧ (i < ds.length → ∃ d, ds[i]? = some d ∧ Rep K H2 d x)) :
    ∃ W : Nat → Nat → L2.St → Hp → Prop, (∃ m, W 0 m σ H) ∧ ∀ i m σ H, W i m σ H →
      (J.stop i H ∧ E.nx σ H) ∨ (J.go i H ∧ ∃ N : L2.St → Hp → Prop, (∀ σ' H', N σ' H' → ∃ m', m' < m ∧ W (i + 1) m' σ' H') ∧ ∀ x H', J.yld i H x H' → lowG K g x σ H' fun σ2 H2 => lowS K tb { E with nx := N, ct := N, bk := E.nx } σ2 H2) := by
  obtain ⟨Pv, p0, hat, step, done⟩ := h
  refine ⟨fun i m σ' H' => ∃ ρ' M', RepE K H' ρ' σ' ∧ HRep K M' H' ∧ Ext H H' ∧ m = ds.length - i ∧ i ≤ ds.length ∧ Pv i ρ' M', ⟨ds.length, ρ, M, re, hm, .refl H, rfl, Nat.zero_le _, p0⟩, ?_⟩
  rintro i m σ1 H1 ⟨ρ1, M1, re1, hm1, e1, rfl, hi, w1⟩
  obtain ⟨hst, hgo, hy⟩ := seq H1 e1
  by_cases hlt : i < ds.length
  · refine .inr ⟨hgo i hlt, fun σ' H' => ∃ ρ' M', RepE K H' ρ' σ' ∧ HRep K M' H' ∧ Ext H H' ∧ Pv (i + 1) ρ' M', fun σ' H' ⟨ρ', M', a, b, c, d⟩ => ⟨ds.length - (i + 1), by omega, ρ', M', a, b, c, rfl, hlt, d⟩, fun x H' y => ?_⟩
    obtain ⟨ey, hmy, hd⟩ := hy i x H' y
    obtain ⟨d, hd, rd⟩ := hd hlt
    refine ⟨d, ρ1, M1, _, rd, re1.ext ey, hmy _ hm1, step i d ρ1 M1 hd w1, fun σ2 H2 ⟨ρ2, M2, re2, hm2, e2, q2⟩ => ⟨ρ2, M2, _, re2, hm2, q2, ?_⟩⟩
    have ex := (e1.trans ey).trans e2
    exact ⟨fun σ' H' ⟨ρ', M', a, b, c, d⟩ => ⟨ρ', M', a, b, ex.trans c, d⟩, fun v H' z => k.rt v H' (z.back (ex0.trans ex)), fun σ' H' z => k.nx σ' H' (z.back (ex0.trans ex)), fun σ' H' ⟨ρ', M', a, b, c, d⟩ => ⟨ρ', M', a, b, ex.trans c, d⟩⟩
  · have e : i = ds.length := by omega
    subst e
    exact .inl ⟨hst _ (Nat.le_refl _), k.nx σ1 H1 ⟨ρ1, M1, re1, hm1, ex0.trans e1, done ρ1 M1 w1⟩⟩
def zipD : List D → List D → List D
  | x :: xs, y :: ys => .tup [x, y] :: zipD xs ys
  | _, _ => []
theorem zipD_len : ∀ (xs ys : List D), (zipD xs ys).length = min xs.length ys.length
  | [], ys => by simp [zipD]
  | _ :: _, [] => by simp [zipD]
  | x :: xs, y :: ys => by
    show (zipD xs ys).length + 1 = _
    rw [zipD_len xs ys, List.length_cons, List.length_cons]
    omega
theorem zipD_get : ∀ {xs ys : List D} {i : Nat} {x y : D}, xs[i]? = some x → ys[i]? = some y → (zipD xs ys)[i]? = some (.tup [x, y])
  | [], _, _, _, _, h, _ => by simp at h
  | _ :: _, [], _, _, _, _, h => by simp at h
  | a :: xs, b :: ys, 0, x, y, h, h' => by simp at h h'; subst h h'; rfl
  | a :: xs, b :: ys, i + 1, x, y, h, h' => by
    show (zipD xs ys)[i]? = _
    exact zipD_get (by simpa using h) (by simpa using h')
def dForZ (ta : DA) (g : DG) (tb : DS) : DS := fun E ρ M => ta ρ M fun ds M1 => match ds with
  | [.tup xs, .tup ys] => dIt none (zipD xs ys) g tb E ρ M1
  | _ => False
theorem ds_forZ {elts : List Expr} {kk : Nat} {tpos : Pos} {a b : Expr} {p pos' : Pos} (hp : PassesOwn (model X.prog X.w) X.A X.env X.xe) (hc : X.calm = true) (hmg : X.mg "zip" = none) (ha : PDA X [a, b] ta) (hg : PDG X (.Tuple elts kk tpos) g) (hb : PDSs X body tb) (hgl : Gl X "zip" := by rfl) (hse : starEach [a, b] X.env = [(false, eval a X.env), (false, eval b X.env)] := by rfl) (hse2 : starEach [b] X.env = [(false, eval b X.env)] := by rfl)
    (hs : ∀ x, foldedSetIterable (.Call (.Name "zip" p) [a, b] [] pos') X.env x = pure x := by intro _; rfl) : PDS X (.For (.Tuple elts kk tpos) (.Call (.Name "zip" p) [a, b] [] pos') body [] pos) (dForZ ta g tb) :=
  ps_imp (ps_for hp hc (pi_zip hgl hmg ha hse hse2) hg hb hs) fun E σ H ⟨ρ, M, Dn, re, hm, q, k⟩ => ⟨ρ, M, _, re, hm, q, fun vs H1 ⟨ds, M1, rs, hm1, ex, q1⟩ => by
    rcases ds with _ | ⟨d, _ | ⟨d2, _ | ⟨d3, r⟩⟩⟩
    · exact q1.elim
    · cases d <;> exact q1.elim
    · cases d with
      | tup xs =>
        cases d2 with
        | tup ys =>
          obtain ⟨v1, v2, rfl, rv1, rv2⟩ := two_of rs
          obtain ⟨l1, us, rfl, sq1, r1⟩ := rep_tup rv1
          obtain ⟨l2, ws, rfl, sq2, r2⟩ := rep_tup rv2
          refine ⟨l1, l2, rfl, ⟨us, sq1⟩, ⟨ws, sq2⟩, itz_ok ex (re.ext ex) hm1 k q1 fun H' e' => ?_⟩
          have t1 := sqT_ext e' sq1
          have t2 := sqT_ext e' sq2
          have n1 := r1.length
          have n2 := r2.length
          have n3 := zipD_len xs ys
          refine ⟨fun i hi => ⟨us, ws, t1, t2, by omega⟩, fun i hi => ⟨us, ws, us[i]'(by omega), ws[i]'(by omega), t1, t2, by simp, by simp⟩, fun i x H2 ⟨pp, vx, vy, e1, hn, e2, all⟩ => ?_⟩
          subst e1 e2
          refine ⟨Ext.new hn _, fun M' h => h.new hn _, fun hi => ?_⟩
          obtain ⟨a1, a2⟩ := all us ws t1 t2
          obtain ⟨dx, hdx, rdx⟩ := (r1.ext e').getV a1
          obtain ⟨dy, hdy, rdy⟩ := (r2.ext e').getV a2
          exact ⟨_, zipD_get hdx hdy, rep_tup_mk (.of upd_same) (reps_cons (rdx.ext (Ext.new hn _)) (reps_cons (rdy.ext (Ext.new hn _)) reps_nil))⟩
        | _ => exact q1.elim
      | _ => exact q1.elim
    · cases d <;> first | exact q1.elim | (cases d2 <;> exact q1.elim)⟩
def foZ (ds : List D) (g : DG) (tb : DS) (E : DEnds) (ρ : DEnv) (M : DM) : Prop := match ds with
  | [.tup xs, .tup ys] => dIt none (zipD xs ys) g tb E ρ M
  | _ => False
theorem dForZ_eq {E : DEnds} {ρ : DEnv} {M : DM} : dForZ ta g tb E ρ M = ta ρ M fun ds M1 => foZ ds g tb E ρ M1 := rfl
end
end Dd

set_option Elab.async false
set_option linter.all false
set_option maxRecDepth 100000
set_option maxHeartbeats 1000000

namespace Dd
open PySem PySem.Spec PyProof.Rows L2

theorem ObjOk.there {P : Program} {w : World} {H : Hp} {h : Heap} {a : Addr} {o : HO} (x : ObjOk P w H h a o) : ∃ u, h.get? a = some u := by
  cases o with
  | lst xs => obtain ⟨_, _, _, _, e⟩ := x; exact ⟨_, e⟩
  | tup xs => obtain ⟨_, _, _, ob, e, _⟩ := x; exact ⟨_, e⟩
  | dK kvs => obtain ⟨_, _, _, _, o, _, _, e, _⟩ := x; exact ⟨_, e⟩
  | dT kvs => obtain ⟨_, _, _, _, o, _, _, e, _⟩ := x; exact ⟨_, e⟩
  | set S n => obtain ⟨o, _, _, _, e, _⟩ := x; exact ⟨_, e⟩
  | ins C dx fs => obtain ⟨_, _, _, e, _⟩ := x; exact ⟨_, e⟩
  | own y => obtain ⟨_, e⟩ := x; exact ⟨_, e⟩
  | xd fs => obtain ⟨_, ⟨_, _, _, e, _⟩, _⟩ := x; exact ⟨_, e⟩
  | rng lo hi => obtain ⟨_, _, _, e⟩ := x; exact ⟨_, e⟩
  | frz ob u => obtain ⟨e, _⟩ := x; exact ⟨_, e⟩
  | tbl ps => exact ⟨_, (show h.get? a = some _ from x)⟩
  | met f y => exact ⟨_, (show h.get? a = some _ from x)⟩
  | ext φ => obtain ⟨_, ⟨_, e⟩, _⟩ := x; exact ⟨_, e⟩

def FpN (X : Cx) (pins : List (Addr × Obj)) (H : Hp) (b : Addr) : Prop :=
  H b = none ∧ b ≠ X.env.locals ∧ X.s₀.heap.get? b = none ∧ (∀ x c, X.env.cells.lookup x = some c → c ≠ b) ∧ ∀ p ∈ X.pn ++ pins, p.1 ≠ b

section
variable {X : Cx} {pins : List (Addr × Obj)} {σ : L2.St} {H H' : Hp} {s : Shared} {h' : Heap}
theorem _root_.L2.Inv.fpN (I : Inv X pins σ H s) (hex : X.ex = []) {b : Addr} (h : s.heap.get? b = none) (hn : H' b = none) : FpN X pins H' b := by
  refine ⟨hn, fun z => ?_, ?_, fun x c e z => ?_, fun p hp z => ?_⟩
  · obtain ⟨m, ⟨o, _, _, ho, _⟩, _⟩ := I.loc
    rw [← z, h] at ho; cases ho
  · cases q : X.s₀.heap.get? b with
    | none => rfl
    | some o =>
      obtain ⟨o', e⟩ := I.base.there b o q (by rw [hex]; simp)
      rw [h] at e; cases e
  · obtain ⟨v, o, ho, _⟩ := I.cell x c e
    rw [z, h] at ho; cases ho
  · obtain ⟨e, _⟩ := I.pin p hp
    rw [z, h] at e; cases e
theorem _root_.L2.Inv.untr (I : Inv X pins σ H s) {b : Addr} (h : s.heap.get? b = none) : H b = none := by
  cases q : H b with
  | none => rfl
  | some o => obtain ⟨u, e⟩ := ObjOk.there (I.hok b o q); rw [h] at e; cases e
theorem _root_.L2.Inv.mark {ch : List Addr} (I : Inv X pins σ H s) (hch : ∀ b ∈ ch, FpN X pins H b) (keep : ∀ b o, b ∉ frs X.stack → b ∉ ch → s.heap.get? b = some o → h'.get? b = some o)
    (slot : ∀ b o, b ∉ ch → s.heap.get? b = some o → ∃ sl, h'.get? b = some { o with slots := sl }) : Inv X pins σ H { s with heap := h' } := by
  have neL : ∀ b o, X.s₀.heap.get? b = some o → b ≠ X.env.locals := fun b o e => Nat.ne_of_lt (Nat.lt_of_lt_of_le (Heap.lt_size e) I.ok.above)
  have neC : ∀ b o, X.s₀.heap.get? b = some o → b ∉ ch := fun b o e hb => by rw [(hch b hb).2.2.1] at e; cases e
  have stk : ∀ b, b ≠ X.env.locals → b ∉ X.fs → b ∉ frs X.stack := fun b h1 h2 hb => (List.mem_cons.mp (I.stkSub b hb)).elim h1 h2
  have cellK : ∀ x c, X.env.cells.lookup x = some c → ∀ v, s.heap.IsCell c v → h'.IsCell c v := fun x c e v ⟨o, ho, hd⟩ => by
    obtain ⟨sl, q⟩ := slot c o (fun z => (hch c z).2.2.2.1 x c e rfl) ho
    exact ⟨_, q, hd⟩
  refine ⟨I.ok, I.os, I.bare, ⟨fun b o e n hb hx => ?_, fun b o e n hb hx => ?_, I.base.free, fun b o e hx => ?_, I.base.tups, I.base.frzs, I.base.tbls⟩, ?_, fun x c e => ?_, I.free, I.freeC, fun p hp => ?_, fun a o e => ?_, I.len⟩
  · exact keep b o (stk b (neL b o e) hb) (neC b o e) (I.base.keep b o e n hb hx)
  · obtain ⟨sl, e1⟩ := I.base.slot b o e n hb hx
    obtain ⟨sl', e2⟩ := slot b _ (neC b o e) e1
    exact ⟨sl', e2⟩
  · obtain ⟨o', e1⟩ := I.base.there b o e hx
    obtain ⟨sl, e2⟩ := slot b o' (neC b o e) e1
    exact ⟨_, e2⟩
  · obtain ⟨m, ⟨o, es, ep, ho, r⟩, hl⟩ := I.loc
    obtain ⟨sl, e2⟩ := slot _ o (fun z => (hch _ z).2.1 rfl) ho
    refine ⟨m, ⟨_, es, ep, e2, r⟩, fun i x v e1 e2 e3 => ?_⟩
    obtain ⟨u, r, l⟩ := hl i x v e1 e2 e3
    refine ⟨u, r, ?_⟩
    rcases l with l | ⟨k, c, e, z⟩
    · exact .inl l
    · exact .inr ⟨k, c, e, cellK x c e _ z⟩
  · obtain ⟨v, z⟩ := I.cell x c e
    exact ⟨v, cellK x c e v z⟩
  · obtain ⟨e, n, ne, nf, d⟩ := I.pin p hp
    exact ⟨keep p.1 p.2 (stk _ ne nf) (fun z => (hch _ z).2.2.2.2 p hp rfl) e, n, ne, nf, d⟩
  · refine (I.hok a o e).stay (fun b u hb q => keep b u (fun z => ?_) (fun z => ?_) q) (fun _ q => q) fun _ _ q => q
    · have := I.stkFree b z
      rcases hb with hb | hb
      · rw [hb, e] at this; cases this
      · rw [hb] at this; cases this
    · have := (hch b z).1
      rcases hb with hb | hb
      · rw [hb, e] at this; cases this
      · rw [hb] at this; cases this
end

theorem dict_mapFields (f : Array Value → Array Value) (o : Obj) : (o.mapFields f).dict = o.dict := by unfold Obj.mapFields; split <;> rfl
def Nw (h : Heap) (e : Addr) (cls : Value) : Prop := ∃ oe vs, h.get? e = some oe ∧ (oe.cls = cls ∧ oe.dict = none) ∧ oe.data = .fields vs ∧ vs[1]? = some Value.none
def Tr (h : Heap) (e : Addr) (cls : Value) (T : Addr) (fl : Value) : Prop :=
  ∃ oe vs oT ts, h.get? e = some oe ∧ (oe.cls = cls ∧ oe.dict = none) ∧ oe.data = .fields vs ∧ vs[1]? = some (.ref T) ∧ T ≠ e ∧ h.get? T = some oT ∧ oT.data = .fields ts ∧ ts[3]? = some fl

section
variable {X : Cx} {pins : List (Addr × Obj)} {σ : L2.St} {H : Hp} {s : Shared} {M : Model} {A : Around} {E : Value → Shared → Prop} {e T : Addr} {cls : Value}

theorem entry_inv {oe : Obj} {vs : Array Value} {head : Value} {hadNext : Bool} {Q : Unit → Shared → Prop} (I : Inv X pins σ H s) (hs : X.stack = X.env :: X.outer) (hf : X.env.frame = some X.env.locals) (hex : X.ex = [])
    (hA : A.frames = some X.stack) (he : s.heap.get? e = some oe) (hdi : oe.dict = none) (hd : oe.data = .fields vs) (hsz : 1 < vs.size) (fe : FpN X pins H e)
    (h : ∀ s' T, Inv X pins σ H s' → Tr s'.heap e oe.cls T (rawInt X.env.locals) → FpN X pins H T → s.heap.get? T = none → Q () s') :
    wpAny M A (do let a ← frameOf X.env; let pl ← entryPlaceOf X.env.locals hadNext; let b ← EntryCells.newEntry head a .none (rawInt X.env.locals) .none pl; setField (.ref e) 1 b) Q E s := by
  have hfr : A.frames = some (X.env :: X.outer) := by rw [hA, hs]
  have hl : s.heap.FunFrames X.base (X.env :: X.outer) := hs ▸ I.stack
  have hene : e ∉ (X.env :: X.outer).filterMap (·.frame) := fun hm => by
    obtain ⟨_, o, ho, hnf⟩ := hl.mem hm
    rw [he] at ho; cases ho; exact hnf vs hd
  have hfs : frs X.stack = (X.env :: X.outer).filterMap (·.frame) := by rw [hs]; rfl
  refine wpAny_bind (wpAny_frameOf_fun hfr hl hf fun h₁ hs₁ => ?_)
  refine wpAny_bind (wpAny_entryPlaceOf fun pl hpl => ?_)
  unfold EntryCells.newEntry newFields
  refine wpAny_bind (wpAny_newObj_type ?_ (hpl.sizeOk5 _ _ _ _ _))
  have he₁ : h₁.get? e = some oe := (hs₁.2.1 e hene).trans he
  have he₂ := Heap.get?_push_of_some (h := h₁) { cls := .type "traceback", dict := none, data := .fields ([head, .ref X.env.locals, .none, rawInt X.env.locals, .none] ++ (if pl.isEmpty then List.replicate 6 Value.none else pl)).toArray } he₁
  refine wpAny_setField he₂ hd hsz ?_
  have hTe : h₁.objs.size ≠ e := Nat.ne_of_gt (Heap.lt_size he₁)
  have hd₃ := Obj.data_mapFields hd (·.setIfInBounds 1 (Value.ref h₁.objs.size))
  have he₃ := Heap.get?_update_self (Obj.mapFields (·.setIfInBounds 1 (Value.ref h₁.objs.size))) he₂ (Obj.isFreed_of_fields hd₃)
  have hT₃ := (Heap.get?_update_other (h₁.push { cls := .type "traceback", dict := none, data := .fields ([head, .ref X.env.locals, .none, rawInt X.env.locals, .none] ++ (if pl.isEmpty then List.replicate 6 Value.none else pl)).toArray })
    (Obj.mapFields (·.setIfInBounds 1 (Value.ref h₁.objs.size))) (Ne.symm hTe)).trans (Heap.get?_push_size h₁ rfl)
  have hTn : s.heap.get? h₁.objs.size = none := Heap.get?_none_of_le (by rw [hs₁.1]; exact Nat.le_refl _)
  refine h _ h₁.objs.size (L2.Inv.mark (s := s) (ch := [e]) I (fun b hb => by rw [List.mem_singleton.mp hb]; exact fe) (fun b o hb hc q => ?_) fun b o hc q => ?_) ?_ (L2.Inv.fpN (s := s) I hex hTn (L2.Inv.untr (s := s) I hTn)) hTn
  · have hbe : b ≠ e := fun z => hc (by simp [z])
    rw [Heap.get?_update_other _ _ (Ne.symm hbe)]
    exact Heap.get?_push_of_some _ ((hs₁.2.1 b (by rw [← hfs]; exact hb)).trans q)
  · have hbe : b ≠ e := fun z => hc (by simp [z])
    obtain ⟨sl, z⟩ := hs₁.2.2 b o q
    exact ⟨sl, by rw [Heap.get?_update_other _ _ (Ne.symm hbe)]; exact Heap.get?_push_of_some _ z⟩
  · exact ⟨_, _, _, _, he₃, ⟨Obj.cls_mapFields _ _, (dict_mapFields _ _).trans hdi⟩, hd₃, by simp [hsz], hTe, hT₃, rfl, by first | (simp; done) | (rcases hpl with rfl | ⟨_, _, _, _, _, _, _, rfl⟩ <;> simp)⟩

theorem note_new {Q : Unit → Shared → Prop} (I : Inv X pins σ H s) (hs : X.stack = X.env :: X.outer) (hf : X.env.frame = some X.env.locals) (hex : X.ex = []) (hA : A.frames = some X.stack) (n : Nw s.heap e cls) (fe : FpN X pins H e)
    (h : ∀ s' T, Inv X pins σ H s' → Tr s'.heap e cls T (rawInt X.env.locals) → FpN X pins H T → s.heap.get? T = none → Q () s') : wpAny M A (noteFrame (.ref e) X.env) Q E s := by
  obtain ⟨oe, vs, he, ⟨rfl, hdi⟩, hd, h1⟩ := n
  unfold noteFrame
  simp only [hf]
  refine wpAny_bind (wpAny_field he hd h1 ?_)
  rw [if_neg (by decide)]
  exact entry_inv I hs hf hex hA he hdi hd (Array.getElem?_eq_some_iff.mp h1).1 fe h

theorem set_rec {ts : Array Value} {oT : Obj} {f : Array Value → Array Value} (I : Inv X pins σ H s) (fT : FpN X pins H T) (hT : s.heap.get? T = some oT) :
    Inv X pins σ H { s with heap := s.heap.update T (Obj.mapFields f) } := by
  refine I.mark (ch := [T]) (fun b hb => by rw [List.mem_singleton.mp hb]; exact fT) (fun b o _ hc q => ?_) fun b o hc q => ⟨o.slots, ?_⟩ <;>
  · rw [Heap.get?_update_other _ _ (Ne.symm (fun z => hc (by simp [z])))]; exact q

theorem flight_inv {fl : Value} {Q : Unit → Shared → Prop} (I : Inv X pins σ H s) (t : Tr s.heap e cls T fl) (fT : FpN X pins H T) (h : ∀ s', Inv X pins σ H s' → Tr s'.heap e cls T .none → Q () s') : wpAny M A (setFlight (.ref e) none) Q E s := by
  obtain ⟨oe, vs, oT, ts, he, hcls, hd, h1, hTe, hT, hdT, h3⟩ := t
  have hsz3 : 3 < ts.size := (Array.getElem?_eq_some_iff.mp h3).1
  unfold setFlight
  refine wpAny_bind (wpAny_field he hd h1 ?_)
  rw [if_pos (show (Value.ref T != Value.none) = true from by simp)]
  refine wpAny_setField hT hdT hsz3 (h _ (set_rec (ts := ts) I fT hT) ?_)
  exact ⟨oe, vs, _, _, (Heap.get?_update_other _ _ hTe).trans he, hcls, hd, h1, hTe, Heap.get?_update_self _ hT (Obj.isFreed_of_fields (Obj.data_mapFields hdT _)), Obj.data_mapFields hdT _, by simp [hsz3]⟩

theorem leave_inv {Q : Unit → Shared → Prop} (I : Inv X pins σ H s) (hs : X.stack = X.env :: X.outer) (hf : X.env.frame = some X.env.locals) (hex : X.ex = []) (hA : A.frames = some X.stack) (n : Nw s.heap e cls) (fe : FpN X pins H e)
    (h : ∀ s' T, Inv X pins σ H s' → Tr s'.heap e cls T .none → FpN X pins H T → s.heap.get? T = none → Q () s') : wpAny M A (leaving X.env (.ref e)) Q E s := by
  unfold leaving
  exact wpAny_bind (note_new I hs hf hex hA n fe fun s1 T I1 t1 f1 n1 => flight_inv I1 t1 f1 fun s2 I2 t2 => h s2 T I2 t2 f1 n1)
end
end Dd

set_option Elab.async false
set_option linter.all false
set_option maxRecDepth 100000
set_option maxHeartbeats 1000000

namespace Dd
open PySem PySem.Spec PyProof.Rows L2

def CXr (P : Program) (w : World) : CXT := fun outer H s E e s' => ∃ (a : Addr) (cls : Value) (T : Addr) (H' : Hp), e = Value.ref a ∧ s'.os = s.os ∧ AllBare s'.gens ∧ Un (frs outer) [] H H' s.heap s'.heap ∧ HOk P w H' s'.heap ∧
  Tr s'.heap a cls T .none ∧ s.heap.get? a = none ∧ s.heap.get? T = none ∧ H' a = none ∧ H' T = none ∧ E cls none H'

def RaiseOk (X : Cx) (x : Str) (V : DM → Prop) : Prop := X.calm = true ∧ X.ex = [] ∧ ∃ C bmB newId B initId, X.mg x = some (.ref C) ∧ PySem.W.excIn X.K C bmB newId = true ∧ ExcBaseFacts B newId initId bmB ∧
  ∀ pins σ H s a M', Inv X pins σ H s → Nw s.heap a (.ref C) → FpN X pins H a → HRep X.K M' H → V M' → X.xe (.ref a) s
def dRaise (V : DM → Prop) (t : DA) : DS := fun _ ρ M => t ρ M fun ds M1 => ds.length ≤ 1000 ∧ V M1
section
variable {X : Cx} {x : Str} {V : DM → Prop} {e : Expr} {es : List Expr} {t : DA} {np cpos pos : Pos}
end

def spX (K : PySem.W.Frag) (C : Addr) (cond : List D → Prop) : Sp := fun vs H _ E => ∃ ds M, Reps K H ds vs ∧ HRep K M H ∧ cond ds ∧ ∀ M' H', HRep K M' H' → SubM M M' → E (.ref C) none H'
def bmV : List Value := [.type "ValueError", .type "Exception", .type "BaseException", .type "object"]
def HasC (K : PySem.W.Frag) (mg : Str → Option Value) (x : Str) (C : Addr) : Prop := mg x = some (.ref C) ∧ PySem.W.excIn K C bmV "ValueError.__new__" = true
def HasX (P : Program) (w : World) (K : PySem.W.Frag) (mg : Str → Option Value) (base : Heap) (k : Nat) (x : Str) (ps : List Str) (C : Addr) (cond : List D → Prop) : Prop :=
  ∃ f fd, FnOk P w K mg base (CXr P w) k f fd ps (spX K C cond) ∧ mg x = some (.ref f) ∧ PySem.W.keepIn K (.ref f) = true ∧ Binds K fd ps []
section
variable {P : Program} {w : World} {K : PySem.W.Frag} {mg : Str → Option Value} {base : Heap}
theorem HasX.mk {x c : Str} {C : Addr} {st : Stmt} {N ps : List Str} {k : Nat} {cond : List D → Prop} (h : HasF K mg x st ps) (hc : HasC K mg c C) (S : FnScope N ps (defScope st)) (len : ∀ ds, cond ds → ds.length = ps.length)
    (hbody : ∀ (f : Addr) (cdv : Value) (A : Around) (outer : List Env) (s : Shared) (H : Hp) (ds : List D) (M : DM) (E : XK), Room k (A.deeper (envOfC x (defScope st) s.heap.objs.size f cdv)) → cond ds →
      RaiseOk (cxOf (CXr P w) P w K mg base N x (defScope st) f cdv A outer s H E) c (SubM M) →
      ∃ t, PDSs (cxOf (CXr P w) P w K mg base N x (defScope st) f cdv A outer s H E) (defBody st) t ∧ t { nx := fun _ _ => False, rt := fun _ _ => False } (startD N ds) M) : HasX P w K mg base (k + 1) x ps C cond := by
  obtain ⟨f, fd, F, hm, hb⟩ := h
  refine ⟨f, fd, ?_, hm, F.kp, hb⟩
  obtain ⟨oc, od, kV, doc, pm, an, cdv, ct, osl, rfl, lk, hcd⟩ := F.ex
  refine fn_of lk hcd S (fun vs H Q E ⟨ds, M, rs, hm, q, _⟩ => by rw [← rs.length]; exact len ds q) fun A outer s H vs Q E hr ⟨ds, M, rs, hm, q, k'⟩ => ?_
  have RO : RaiseOk (cxOf (CXr P w) P w K mg base N x (defScope st) f cdv A outer s H E) c (SubM M) :=
    ⟨rfl, rfl, C, bmV, _, _, _, hc.1, hc.2, PySem.F.excBase_ValueError, fun pins σ H' s1 a M' I n fe hm' sub =>
      leave_inv (X := cxOf (CXr P w) P w K mg base N x (defScope st) f cdv A outer s H E) I rfl rfl rfl I.ok.frames n fe fun s' T I' t' fT _ =>
        ⟨a, .ref C, T, H', rfl, I'.os, I'.bare, I'.base, I'.hok, t', fe.2.2.1, fT.2.2.1, fe.1, fT.1, k' M' H' hm' sub⟩⟩
  obtain ⟨t, h1, h2⟩ := hbody f cdv A outer s H ds M E hr q RO
  exact ⟨_, h1, startD N ds, M, _, reps_start rs N, hm, h2, ⟨fun σ' H' ⟨_, _, _, _, _, z⟩ => z.elim, fun v H' ⟨_, _, _, _, _, z⟩ => z.elim, fun σ' H' ⟨_, _, _, _, _, z⟩ => z.elim, fun σ' H' ⟨_, _, _, _, _, z⟩ => z.elim⟩⟩
end
end Dd

set_option Elab.async false
set_option linter.all false
set_option maxRecDepth 100000
set_option maxHeartbeats 1000000

namespace Dd
open PySem PySem.Spec PyProof.Rows L2

def ExO (o : Obj) (C : Addr) : Prop := o.cls = .ref C ∧ o.dict = none ∧ ∃ vs, o.data = .fields vs
abbrev Exc (X : Cx) (a : Addr) (o : Obj) : Cx := { X with A := X.A.mark (some (.ref a)), calm := false, pn := (a, o) :: X.pn }
section
variable {X : Cx} {pins : List (Addr × Obj)} {σ : L2.St} {H : Hp} {s : Shared} {a : Addr} {o : Obj}
theorem exc_ok (I : X.Ok) : (Exc X a o).Ok :=
  ⟨I.mod, I.kind, I.glob, I.blt, I.above, I.inj, I.has, I.cab, (fun z => nomatch z), I.frames, I.stk, I.exf, I.bs, I.bsz, I.noex, I.exfs, I.funs, I.frf⟩
theorem exc_in (I : Inv X pins σ H s) (h : s.heap.get? a = some o) (n : H a = none) (nl : a ≠ X.env.locals) (nf : a ∉ X.fs) (nc : ∀ v, o.data ≠ .cell v) : Inv (Exc X a o) pins σ H s :=
  ⟨exc_ok I.ok, I.os, I.bare, I.base, I.loc, I.cell, I.free, I.freeC, fun p hp => by
    rcases List.mem_cons.mp hp with z | z
    · subst z; exact ⟨h, n, nl, nf, nc⟩
    · exact I.pin p z, I.hok, I.len⟩
end
theorem RepE.setN {K : PySem.W.Frag} {H : Hp} {ρ : DEnv} {σ : L2.St} (h : RepE K H ρ σ) (i : Nat) : RepE K H (ρ.set i none) (σ.set i none) := by
  refine ⟨by rw [List.length_set, List.length_set, h.len], fun j d' q => ?_⟩
  rw [List.getElem?_set] at q
  by_cases hij : i = j
  · subst hij
    rw [if_pos rfl] at q
    split at q <;> cases q
  · rw [if_neg hij] at q
    obtain ⟨u, a, b⟩ := h.get j d' q
    exact ⟨u, by rw [List.getElem?_set, if_neg hij]; exact a, b⟩

def DEnds.un (D : DEnds) (j : Nat) : DEnds := { nx := fun ρ M => D.nx (ρ.set j none) M, rt := D.rt, bk := fun ρ M => D.bk (ρ.set j none) M, ct := fun ρ M => D.ct (ρ.set j none) M }
def EndsUn (D : Ends) (j : Nat) : Ends := { nx := fun ρ M => D.nx (ρ.set j none) M, rt := D.rt, bk := fun ρ M => D.bk (ρ.set j none) M, ct := fun ρ M => D.ct (ρ.set j none) M }
theorem EndsOk.un {K : PySem.W.Frag} {H : Hp} {D : DEnds} {E : Ends} (k : EndsOk K H D E) (j : Nat) : EndsOk K H (D.un j) (EndsUn E j) :=
  ⟨fun σ' H' ⟨ρ', M', re, hm, ex, q⟩ => k.nx _ H' ⟨_, M', re.setN j, hm, ex, q⟩, k.rt, fun σ' H' ⟨ρ', M', re, hm, ex, q⟩ => k.bk _ H' ⟨_, M', re.setN j, hm, ex, q⟩, fun σ' H' ⟨ρ', M', re, hm, ex, q⟩ => k.ct _ H' ⟨_, M', re.setN j, hm, ex, q⟩⟩

def dTry (sp : DSp) (cond : List D → Prop) (j : Nat) (t : DA) (nx : DEnds → D → DEnv → DM → Prop) (ts : Addr → DS) : DS := fun D ρ M => t ρ M fun ds M1 =>
  (cond ds ∧ ∀ a, ts a (D.un j) (ρ.set j (some (.ref a))) M1) ∨ sp ds M1 fun d M2 => nx D d ρ M2

section
variable {X : Cx} {a : Expr} {e : Expr} {es : List Expr} {t : DA} {x f n cm : Str} {ps : List Str} {sp : DSp} {cond : List D → Prop} {C Cm : Addr} {k1 k2 k i j : Nat} {ts : Addr → DS} {b0 : Stmt} {suite : List Stmt} {px pf pc pa pcm ph pos : Pos}

end

section
open PySem.W PySem.Calls
end
def dIsX (j : Nat) (a : Addr) : DE := fun ρ M Q => ρ[j]? = some (some (.ref a)) ∧ Q (.bl true) M
section
variable {X : Cx} {n c : Str} {C Cc a : Addr} {o : Obj} {p p1 p2 pos : Pos} {j : Nat}
end
section
open PySem.W PySem.Calls
variable {prog : Program} {w : World} {A : Around} {E : Value → Shared → Prop} {s : Shared} {K : Frag} {x C D : Addr} {ox : Obj}
structure ExcK (K : Frag) (D : Addr) : Prop where
  ga : findIn K (.ref D) "__getattribute__" = some (some (.builtin "BaseException.__getattribute__"))
  gn : findIn K (.ref D) "__getattr__" = some none
  cl : findIn K (.ref D) "__class__" = some (some (.builtin "object.__class__"))
  nn : specialIn K (.builtin "object.__class__") "__get__" = some (some (.builtin "getset_descriptor.__get__"))
  tk : takesIn K (.builtin "object.__class__") = some true
  mo : mroIn K D (.type "object") = some true
  mb : mroIn K D (.type "BaseException") = some true
theorem ExcK.cd (e : ExcK K D) : ∃ cd, clsIn K D = some cd := by
  obtain ⟨cd, a, _⟩ := Option.bind_eq_some_iff.mp e.mo
  exact ⟨cd, a⟩
end
section
variable {X : Cx} {a C : Addr} {o : Obj}
def sIsXs (K : PySem.W.Frag) (C a : Addr) : DSp := fun ds M Q => ∃ (cs : List Addr) (b : Bool), ds = [.ref a, .tup (cs.map D.ref)] ∧ PySem.W.kitAny K (.ref C) (cs.map Value.ref) = some b ∧ Q (.bl b) M
end
end Dd

set_option Elab.async false
set_option linter.all false
set_option maxRecDepth 100000
set_option maxHeartbeats 1000000

namespace Dd
open PySem PySem.Spec PyProof.Rows L2

def lex2 (a b c d : Int) : Bool := if a = c then (if b = d then true else decide (b ≤ d)) else decide (a ≤ c)
section
open PySem.SeqAt
open PySem.AutoSeq1 (wpAny_loadPart')
open PySem.MeetsSeq PySem.MeetsSeq2 PySem.MeetsSeq3
end
def dLeT : D2 := fun x y M Q => match x, y with
  | .tup [.int a, .int b], .tup [.int c, .int d] => Q (.bl (lex2 a b c d)) M
  | _, _ => False
section
variable {X : Cx} {j : Nat}
end
end Dd
namespace Dd
open PySem PySem.Spec PyProof.Rows L2
def dCut (t u : DS) : DS := fun D ρ M => ∃ R : DEnv → DM → Prop, t { D with nx := R } ρ M ∧ ∀ ρ' M', R ρ' M' → u D ρ' M'
section
variable {X : Cx} {st : Stmt} {rest : List Stmt} {t u : DS}
theorem dss_cut (h1 : PDS X st t) (h2 : PDSs X rest u) : PDSs X (st :: rest) (dCut t u) :=
  pss_imp (pss_cons h1 h2) fun E σ H ⟨ρ, M, D, re, hm, ⟨R, q, k2⟩, k⟩ =>
    ⟨ρ, M, { D with nx := R }, re, hm, q, ⟨fun σ' H' ⟨ρ', M', re', hm', ex, r⟩ => ⟨ρ', M', D, re', hm', k2 ρ' M' r, k.at ex⟩, k.rt, k.bk, k.ct⟩⟩
end
end Dd

set_option Elab.async false
set_option linter.all false
set_option maxRecDepth 100000
set_option maxHeartbeats 1000000

namespace Dd
open PySem PySem.Spec PyProof.Rows L2
def dTry0 (sp : DSp) (cond : List D → Prop) (t : DA) (nx : DEnds → D → DEnv → DM → Prop) (ts : DS) : DS := fun D ρ M => t ρ M fun ds M1 => (cond ds ∧ ts D ρ M1) ∨ sp ds M1 fun d M2 => nx D d ρ M2
section
variable {X : Cx} {e : Expr} {es : List Expr} {t : DA} {x f cm : Str} {ps : List Str} {sp : DSp} {cond : List D → Prop} {C Cm : Addr} {k1 k2 k i : Nat} {ts : DS} {b0 : Stmt} {suite : List Stmt} {px pf pc pa pcm ph pos : Pos}
end
end Dd

set_option Elab.async false
set_option linter.all false
set_option maxRecDepth 100000
set_option maxHeartbeats 4000000
namespace Dd
open PySem PySem.Spec PyProof.Rows L2
@[irreducible] def ZE (X : Cx) (e : Expr) (t : DE) : Prop := PDE X e t
theorem ZE.o {X : Cx} {e : Expr} {t : DE} (h : ZE X e t) : PDE X e t := by unfold ZE at h; exact h
theorem ZE.i {X : Cx} {e : Expr} {t : DE} (h : PDE X e t) : ZE X e t := by unfold ZE; exact h
@[irreducible] def ZT (X : Cx) (e : Expr) (t : DT) : Prop := PDT X e t
theorem ZT.o {X : Cx} {e : Expr} {t : DT} (h : ZT X e t) : PDT X e t := by unfold ZT at h; exact h
theorem ZT.i {X : Cx} {e : Expr} {t : DT} (h : PDT X e t) : ZT X e t := by unfold ZT; exact h
@[irreducible] def ZW (X : Cx) (e : Expr) (t : DT) : Prop := PDW X e t
theorem ZW.o {X : Cx} {e : Expr} {t : DT} (h : ZW X e t) : PDW X e t := by unfold ZW at h; exact h
theorem ZW.i {X : Cx} {e : Expr} {t : DT} (h : PDW X e t) : ZW X e t := by unfold ZW; exact h
@[irreducible] def ZA (X : Cx) (e : List Expr) (t : DA) : Prop := PDA X e t
theorem ZA.o {X : Cx} {e : List Expr} {t : DA} (h : ZA X e t) : PDA X e t := by unfold ZA at h; exact h
theorem ZA.i {X : Cx} {e : List Expr} {t : DA} (h : PDA X e t) : ZA X e t := by unfold ZA; exact h
@[irreducible] def ZS (X : Cx) (e : Stmt) (t : DS) : Prop := PDS X e t
theorem ZS.o {X : Cx} {e : Stmt} {t : DS} (h : ZS X e t) : PDS X e t := by unfold ZS at h; exact h
theorem ZS.i {X : Cx} {e : Stmt} {t : DS} (h : PDS X e t) : ZS X e t := by unfold ZS; exact h
@[irreducible] def ZSs (X : Cx) (e : List Stmt) (t : DS) : Prop := PDSs X e t
theorem ZSs.o {X : Cx} {e : List Stmt} {t : DS} (h : ZSs X e t) : PDSs X e t := by unfold ZSs at h; exact h
theorem ZSs.i {X : Cx} {e : List Stmt} {t : DS} (h : PDSs X e t) : ZSs X e t := by unfold ZSs; exact h
@[irreducible] def ZG (X : Cx) (e : Expr) (t : DG) : Prop := PDG X e t
theorem ZG.o {X : Cx} {e : Expr} {t : DG} (h : ZG X e t) : PDG X e t := by unfold ZG at h; exact h
theorem ZG.i {X : Cx} {e : Expr} {t : DG} (h : PDG X e t) : ZG X e t := by unfold ZG; exact h
@[irreducible] def ZGs (X : Cx) (e : List Expr) (t : DGs) : Prop := PDGs X e t
theorem ZGs.o {X : Cx} {e : List Expr} {t : DGs} (h : ZGs X e t) : PDGs X e t := by unfold ZGs at h; exact h
theorem ZGs.i {X : Cx} {e : List Expr} {t : DGs} (h : PDGs X e t) : ZGs X e t := by unfold ZGs; exact h
@[irreducible] def ZO (X : Cx) (e : Option Expr) (t : DO) : Prop := PO X e (lowO X.K t)
theorem ZO.o {X : Cx} {e : Option Expr} {t : DO} (h : ZO X e t) : PO X e (lowO X.K t) := by unfold ZO at h; exact h
theorem ZO.i {X : Cx} {e : Option Expr} {t : DO} (h : PO X e (lowO X.K t)) : ZO X e t := by unfold ZO; exact h
section
variable {K : PySem.W.Frag} {H H' : Hp}
end
section
variable {K : PySem.W.Frag} {H H' : Hp} {M M' : DM}
end
section
variable {K : PySem.W.Frag} {H H' : Hp} {ρ : DEnv} {σ : L2.St}
end
section
variable {K : PySem.W.Frag} {H H1 : Hp}
end
section
variable {X : Cx} {e : Expr} {st : Stmt} {sts : List Stmt}
end
section
variable {X : Cx} {a b c e : Expr} {es : List Expr} {ta tb tc te : DE} {tA tB : DT} {t : DA} {pos : Pos}
theorem zde_var (i : Nat) {x : Str} {pos : Pos} (hN : X.N[i]? = some x := by rfl) (hv : Vis X.env.scope x := by first | exact Or.inl rfl | exact Or.inr (Or.inl rfl) | exact Or.inr (Or.inr rfl)) (hd : (x == ("__debug__" : Str)) = false := by decide) (hcd : (x == ("__classdict__" : Str)) = false := by decide) : ZE X (.Name x pos) (dVar i) := .i (de_var i hN hv hd hcd)
theorem zde_int {i j pos} : ZE X (.Constant (.int i) j pos) (dC (.int i)) := .i (de_int (i := i) (j := j) (pos := pos))
theorem zde_bl {i j pos} : ZE X (.Constant (.bool i) j pos) (dC (.bl i)) := .i (de_bl (i := i) (j := j) (pos := pos))
theorem zde_non {j pos} : ZE X (.Constant .none j pos) (dC .non) := .i (de_non (j := j) (pos := pos))
theorem zde_str {x j pos} : ZE X (.Constant (.str x) j pos) (dC (.str x)) := .i (de_str)
theorem zde_op {op : Operator} {r : D2} (ho : OpD X (binaryOp op) r) (ha : ZE X a ta) (hb : ZE X b tb) : ZE X (.BinOp a op b pos) (dOp r ta tb) := .i (de_op (op := op) ho ha.o hb.o)
theorem zde_cmp {op : CmpOp} {r : D2} (ho : OpD X (compareOp op) r) (ha : ZE X a ta) (hb : ZE X b tb) (hm : behindInMarks op b = false := by exact nomark _) : ZE X (.Compare a [op] [b] pos) (dOp r ta tb) := .i (de_cmp (op := op) ho ha.o hb.o hm)
theorem zdt_cmp {op : CmpOp} {r : D2} (ho : OpD X (compareOp op) r) (ha : ZE X a ta) (hb : ZE X b tb) (hm : behindInMarks op b = false := by exact nomark _) : ZT X (.Compare a [op] [b] pos) (dTest (dOp r ta tb)) := .i (dt_cmp (op := op) ho ha.o hb.o hm)
theorem zdt_val (h : ZE X e te) (he : ∀ whole, isTrue e X.env whole = (do let v ← whole; standAt e.pos; holding [v] (truthy v)) := by intro _; rfl) : ZT X e (dTest te) := .i (dt_val h.o he)
variable {rest : List Expr}
theorem zdw_and1 (ha : ZT X a tA) : ZW X (.BoolOp .And [a] pos) tA := .i (dw_and1 ha.o)
theorem zdw_or1 (ha : ZT X a tA) : ZW X (.BoolOp .Or [a] pos) tA := .i (dw_or1 ha.o)
theorem zdw_and (ha : ZT X a tA) (hb : ZW X (.BoolOp .And (b :: rest) pos) tB) : ZW X (.BoolOp .And (a :: b :: rest) pos) (dAnd tA tB) := .i (dw_and ha.o hb.o)
theorem zdw_or (ha : ZT X a tA) (hb : ZW X (.BoolOp .Or (b :: rest) pos) tB) : ZW X (.BoolOp .Or (a :: b :: rest) pos) (dOr tA tB) := .i (dw_or ha.o hb.o)
theorem zdt_w (h : ZW X e tA) : ZT X e tA := .i (dt_w h.o)
theorem zdt_not (ha : ZT X a tA) : ZT X (.UnaryOp .Not a pos) (dNot tA) := .i (dt_not ha.o)
theorem zde_one {op} (h : ZE X a ta) : ZE X (.BoolOp op [a] pos) ta := .i (de_one (op := op) h.o)
theorem zde_and (ha : ZE X a ta) (hb : ZE X (.BoolOp .And (b :: rest) pos) tb) : ZE X (.BoolOp .And (a :: b :: rest) pos) (dAndV ta tb) := .i (de_and ha.o hb.o)
theorem zde_not (ha : ZE X a ta) : ZE X (.UnaryOp .Not a pos) (dNotV ta) := .i (de_not ha.o)
theorem zde_ifExp (hc : ZT X c tA) (ha : ZE X a ta) (hb : ZE X b tb) : ZE X (.IfExp c a b pos) (dIfE tA ta tb) := .i (de_ifExp hc.o ha.o hb.o)
theorem zda_nil  : ZA X [] dNil := .i (da_nil)
theorem zda_cons (ha : ZE X e te) (hr : ZA X es t) (hs : starEach (e :: es) X.env = (false, eval e X.env) :: starEach es X.env := by rfl) : ZA X (e :: es) (dCons te t) := .i (da_cons ha.o hr.o hs)
theorem zde_tup {x1} (h : ZA X es t) : ZE X (.Tuple es x1 pos) (dTup t) := .i (de_tup h.o)
theorem zde_lst (h : ZA X es t) : ZE X (.List es pos) (dLst t) := .i (de_lst h.o)
end
section
variable {X : Cx} {st : Stmt} {rest : List Stmt} {t u : DS} {e : Expr} {te : DE} {pos : Pos}
theorem zdss_nil  : ZSs X [] dNext := .i (dss_nil)
theorem zdss_cons (h1 : ZS X st t) (h2 : ZSs X rest u) : ZSs X (st :: rest) (dSeq t u) := .i (dss_cons h1.o h2.o)
theorem zdss_one (h1 : ZS X st t) : ZSs X [st] t := .i (dss_one h1.o)
theorem zds_expr (he : ZE X e te) (hs : swapsWith e none pos.line X.env = pure false := by rfl) : ZS X (.Expr e pos) (dDrop te) := .i (ds_expr he.o hs)
theorem zds_ret (he : ZE X e te) : ZS X (.Return (some e) pos) (dRet te) := .i (ds_ret he.o)
theorem zds_if {c : Expr} {a b : List Stmt} {tc : DT} (hc : ZT X c tc) (ha : ZSs X a t) (hb : ZSs X b u) : ZS X (.If c a b pos) (dIfS tc t u) := .i (ds_if hc.o ha.o hb.o)
theorem zds_never  : ZS X st dNever := .i (ds_never)
end
section
variable {X : Cx} {pos : Pos} {e tg : Expr} {es : List Expr} {te : DE}
theorem zdg_name {i : Nat} {x : Str} (hN : X.N.Nodup) (hi : X.N[i]? = some x := by rfl) (hx : Loc X.env.scope x := by first | exact Or.inl rfl | exact Or.inr rfl) (hf : X.fn x = true ∨ X.env.scope.names.lookup x = some .local := by first | exact .inl rfl | exact .inr rfl | assumption) : ZG X (.Name x pos) (gN i) := .i (dg_name (i := i) hN hi hx hf)
theorem zdgs_nil  : ZGs X [] gNl := .i (dgs_nil)
theorem zdgs_cons {t : DG} {u : DGs} (h1 : ZG X e t) (h2 : ZGs X es u) (hs : (assignEach (e :: es) X.env).map (·.2) = assign e X.env :: (assignEach es X.env).map (·.2) := by rfl) : ZGs X (e :: es) (gCn t u) := .i (dgs_cons h1.o h2.o hs)
theorem zds_asg {g : DG} (he : ZE X e te) (hg : ZG X tg g) (hs : swapsWithSole [tg] e pos.line X.env = pure false := by rfl) (hw : swappedStores [tg] e X.env = pure none := by rfl) (h1 : (assignEach [tg] X.env).map (·.2) = [assign tg X.env] := by rfl) : ZS X (.Assign [tg] e pos) (dAsg te g) := .i (ds_asg he.o hg.o hs hw h1)
theorem zds_set {i : Nat} {x : Str} {pos' : Pos} (hN : X.N.Nodup) (he : ZE X e te) (hi : X.N[i]? = some x := by rfl) (hx : Loc X.env.scope x := by first | exact Or.inl rfl | exact Or.inr rfl) (hs : swapsWith e (some (.Name x pos')) pos.line X.env = pure false := by rfl) (hf : X.fn x = true ∨ X.env.scope.names.lookup x = some .local := by first | exact .inl rfl | exact .inr rfl | assumption) : ZS X (.Assign [.Name x pos'] e pos) (dAsg te (gN i)) := .i (ds_set (i := i) hN he.o hi hx hs hf)
theorem zds_par {i j : Nat} {x y : Str} {a b : Expr} {ta : DA} {px py pt : Pos} {kt k2 pt2} (hc : X.calm = true) (hN : X.N.Nodup) (ha : ZA X [a, b] ta) (hi : X.N[i]? = some x := by rfl) (hj : X.N[j]? = some y := by rfl) (hij : i ≠ j := by decide) (hx : X.env.scope.names.lookup x = some .local := by rfl) (hy : X.env.scope.names.lookup y = some .local := by rfl) (hw : swappedStores [.Tuple [.Name x px, .Name y py] kt pt] (.Tuple [a, b] k2 pt2) X.env = pure (some [x, y]) := by rfl) (hs : swapsWithSole [.Tuple [.Name x px, .Name y py] kt pt] (.Tuple [a, b] k2 pt2) pos.line X.env = pure false := by rfl) : ZS X (.Assign [.Tuple [.Name x px, .Name y py] kt pt] (.Tuple [a, b] k2 pt2) pos) (dPar i j ta) := .i (ds_par (i := i) (j := j) hc hN ha.o hi hj hij hx hy hw hs)
theorem zdg_sub {o i : Expr} {to ti : DE} (ho : ZE X o to) (hi : ZE X i ti) (ha : ∀ v, assign (.Subscript o i pos) X.env v = (do
      let ov ← holding [v] (eval o X.env)
      let iv ← holding [v, ov] (eval i X.env)
      standAt pos
      holding [v, ov, iv] (setItem ov iv v)
      release [v, ov, iv] []) := by intro _; rfl) : ZG X (.Subscript o i pos) (dSetI to ti) := .i (dg_sub ho.o hi.o ha)
end
section
variable {X : Cx} {pos : Pos}
theorem zds_while {c : Expr} {body : List Stmt} {tc : DT} {tb : DS} (hp : PassesOwn (model X.prog X.w) X.A X.env X.xe) (hc : ZT X c tc) (hb : ZSs X body tb) : ZS X (.While c body [] pos) (dWhile tc tb) := .i (ds_while hp hc.o hb.o)
variable {iter tg : Expr} {body : List Stmt} {tl : DE} {g : DG} {tb : DS}
end
section
variable {X : Cx} {pos : Pos} {iter tg : Expr} {body : List Stmt} {tl : DE} {g : DG} {tb : DS} {ta : DA}
theorem zds_forL (hp : PassesOwn (model X.prog X.w) X.A X.env X.xe) (hc : X.calm = true) (hi : ZE X iter tl) (hg : ZG X tg g) (hb : ZSs X body tb) (hs : ∀ x, foldedSetIterable iter X.env x = pure x := by intro _; rfl) : ZS X (.For tg iter body [] pos) (dForL tl g tb) := .i (ds_forL hp hc hi.o hg.o hb.o hs)
theorem zds_for1 {a : Expr} {p pos' : Pos} (hp : PassesOwn (model X.prog X.w) X.A X.env X.xe) (hc : X.calm = true) (hmg : X.mg "range" = none) (ha : ZA X [a] ta) (hg : ZG X tg g) (hb : ZSs X body tb) (hgl : Gl X "range" := by rfl) (hse : starEach [a] X.env = [(false, eval a X.env)] := by rfl) (hs : ∀ x, foldedSetIterable (.Call (.Name "range" p) [a] [] pos') X.env x = pure x := by intro _; rfl) : ZS X (.For tg (.Call (.Name "range" p) [a] [] pos') body [] pos) (dFor1 ta g tb) := .i (ds_for1 hp hc hmg ha.o hg.o hb.o hgl hse hs)
end
section
variable {X : Cx} {pins : List (Addr × Obj)} {σ : L2.St} {H : Hp} {s : Shared}
end
section
variable {X : Cx} {a b e o : Expr} {es : List Expr} {ta tb te to : DE} {t : DA} {pos : Pos}
theorem zde_neg (ha : ZE X a ta) : ZE X (.UnaryOp .USub a pos) (dNeg ta) := .i (de_neg ha.o)
theorem zde_ix (ha : ZE X a ta) (hb : ZE X b tb) (hs : PlainIx b := by exact fun _ _ => rfl) : ZE X (.Subscript a b pos) (dOp dIxR ta tb) := .i (de_ix ha.o hb.o hs)
theorem zdo_none  : ZO X none dNoP := .i (do_none)
theorem zdo_some (h : ZE X e te) : ZO X (some e) (dPt te) := .i (do_some h.o)
variable {lo hi : Option Expr} {tl th : DO} {p2 : Pos}
theorem zde_slice (he : ZE X e te) (hl : ZO X lo tl) (hu : ZO X hi th) : ZE X (.Subscript e (.Slice lo hi none p2) pos) (dSl te tl th) := .i (de_slice he.o hl.o hu.o)
variable {CX : CXT} {k : Nat} {f : Addr} {fd : FuncData} {ps : List Str} {sp : DSp} {E : XK} {x : Str} {p : Pos}
theorem zde_callB {id : String} {r : DSp} (hc : CallD X (.builtin id) r) (hm : X.mg x = none) (ha : ZA X (e :: es) t) (hv : bootBuiltins x = some (.builtin id) := by rfl) (hg : Gl X x := by rfl) (hn : x ≠ "__name__" := by decide) (hdb : (x == ("__debug__" : Str)) = false := by decide) (he : starEach (e :: es) X.env = (false, eval e X.env) :: starEach es X.env := by rfl) (hpl : (backTo pos (starEach es X.env)).any (·.1) = false := by rfl) : ZE X (.Call (.Name x p) (e :: es) [] pos) (dCall r t) := .i (de_callB (id := id) hc hm ha.o hv hg hn hdb he hpl)
theorem zde_callTy {T : String} {r : DSp} (hc : CallD X (.type T) r) (hm : X.mg x = none) (ha : ZA X (e :: es) t) (hv : bootBuiltins x = some (.type T) := by rfl) (hg : Gl X x := by rfl) (hn : x ≠ "__name__" := by decide) (hdb : (x == ("__debug__" : Str)) = false := by decide) (he : starEach (e :: es) X.env = (false, eval e X.env) :: starEach es X.env := by rfl) (hpl : (backTo pos (starEach es X.env)).any (·.1) = false := by rfl) : ZE X (.Call (.Name x p) (e :: es) [] pos) (dCall r t) := .i (de_callTy (T := T) hc hm ha.o hv hg hn hdb he hpl)
end
section
variable {X : Cx} {a b e o : Expr} {es : List Expr} {ta tb te to : DE} {t : DA} {pos : Pos}
theorem zde_append {apos cpos : Pos} (ho : ZE X o to) (he : ZE X e te) (hse : starEach [e] X.env = (false, eval e X.env) :: starEach [] X.env := by rfl) (hbase : attributeBase o "append" X.env (eval o X.env) = eval o X.env := by rfl) (hfew : ((backTo cpos (starEach [e] X.env)).all (fun x => !x.1) && (backToKw cpos (keywordEach [] X.env)).all (fun x => x.1.isSome)
      && decide ([e].length + ([] : List Keyword).length + (if ([] : List Keyword).isEmpty then 0 else 1) < 30)) = true := by rfl) (hline : (apos.endLine == cpos.line) = true := by rfl) (hplain : (backTo cpos (starEach [] X.env)).any (·.1) = false := by rfl) : ZE X (.Call (.Attribute o "append" apos) [e] [] cpos) (dAppend to te) := .i (de_append ho.o he.o hse hbase hfew hline hplain)
end
section
variable {P : Program} {w : World} {K : PySem.W.Frag} {mg : Str → Option Value} {base : Heap}
end
section
variable {P : Program} {w : World} {K : PySem.W.Frag} {mg : Str → Option Value} {base : Heap}
end
section
variable {X : Cx} {a b c e : Expr} {es : List Expr} {ta tb te : DE} {t : DA} {pos p : Pos} {x : Str} {ps : List Str} {sp : DSp} {k j : Nat}
theorem zde_callH (h : Has X.prog X.w X.K X.mg X.base k x ps sp) (hr : Room j X.A) (hkj : k ≤ j) (ha : ZA X (e :: es) t) (hg : Gl X x := by rfl) (hdb : (x == ("__debug__" : Str)) = false := by decide) (he : starEach (e :: es) X.env = (false, eval e X.env) :: starEach es X.env := by rfl) (hpl : (backTo pos (starEach es X.env)).any (·.1) = false := by rfl) : ZE X (.Call (.Name x p) (e :: es) [] pos) (dCall sp t) := .i (de_callH h hr hkj ha.o hg hdb he hpl)
end
section
variable {prog : Program} {w : World} {A : Around} {E : Value → Shared → Prop} {s : Shared}
end
section
variable {X : Cx} {pos : Pos} {e a b : Expr} {es : List Expr} {te ta tb : DE}
theorem zdg_unp {k : Nat} {t : DGs} {n : Nat} (hc : X.calm = true) (h : ZGs X es t) (hn : (assignEach es X.env).length = n := by rfl) (hst : (assignEach es X.env).findIdx? (·.1) = none := by rfl) : ZG X (.Tuple es k pos) (gU n t) := .i (dg_unp (n := n) hc h.o hn hst)
end
section
variable {M : DM} {Q : DQ} {g : Bool → Bool} {ds : List D} {i : Int} {a : Addr} {α : Type} {x0 x1 x2 x3 x4 x5 : α} {l : List α}
end
section
variable {K : PySem.W.Frag} {H : Hp} {ρ : DEnv} {σ : L2.St}
end
section
variable {X : Cx} {g : DG} {te : DE}
variable {elt iter tg : Expr} {scope : Scope} {pos : Pos} {N' : List Str} {fr : List (Option Nat)} {tl : DE} {ta : DA} {oN : List Str} {osc : Scope}
theorem zde_lcL (B : BlkS oN osc N' fr scope) (hc : X.calm = true) (hi : ZE X iter tl) (hg : ∀ C s H fp pins, ZG (X.blk N' scope C s H fp pins) tg g) (he : ∀ C s H fp pins, ZE (X.blk N' scope C s H fp pins) elt te) (hN : X.N = oN := by rfl) (ho : X.env.scope = osc := by rfl) (hs : ∀ x, foldedSetIterable iter X.env x = pure x := by intro _; rfl) : ZE X (.ListComp elt [⟨tg, iter, [], 0⟩] scope pos) (dLcL tl fr g te) := .i (de_lcL B hc hi.o (fun C s H fp pins => (hg C s H fp pins).o) (fun C s H fp pins => (he C s H fp pins).o) hN ho hs)
end
variable {X : Cx}
section
variable {g : DG} {te : DE} {tb : DS} {Q : DQ} {ρ0 : DEnv}
end
section
variable {e : Expr} {te : DE} {pos : Pos}
end
section
variable {X : Cx} {e : Expr} {te : DE} {pos p2 : Pos} {lo hi : Option Expr} {tl th : DO}
end
section
variable {X : Cx} {a n : Expr} {ta : DE} {tn : DA} {pos p pos' : Pos}
end
section
variable {X : Cx} {a b c e o : Expr} {es : List Expr} {ta tb tc te to : DE} {pos : Pos}
theorem zde_extend {apos cpos : Pos} (ho : ZE X o to) (he : ZE X e te) (hse : starEach [e] X.env = (false, eval e X.env) :: starEach [] X.env := by rfl) (hbase : attributeBase o "extend" X.env (eval o X.env) = eval o X.env := by rfl) (hfew : ((backTo cpos (starEach [e] X.env)).all (fun x => !x.1) && (backToKw cpos (keywordEach [] X.env)).all (fun x => x.1.isSome)
      && decide ([e].length + ([] : List Keyword).length + (if ([] : List Keyword).isEmpty then 0 else 1) < 30)) = true := by rfl) (hline : (apos.endLine == cpos.line) = true := by rfl) (hplain : (backTo cpos (starEach [] X.env)).any (·.1) = false := by rfl) : ZE X (.Call (.Attribute o "extend" apos) [e] [] cpos) (dExtend to te) := .i (de_extend ho.o he.o hse hbase hfew hline hplain)
end
section
variable {X : Cx} {e k : Expr} {te tk : DE} {pos p2 : Pos}
end
section
variable {X : Cx} {pos : Pos} {iter tg : Expr} {body : List Stmt} {tl : DE} {g : DG} {tb : DS} {ta : DA}
theorem zds_forZ {elts : List Expr} {kk : Nat} {tpos : Pos} {a b : Expr} {p pos' : Pos} (hp : PassesOwn (model X.prog X.w) X.A X.env X.xe) (hc : X.calm = true) (hmg : X.mg "zip" = none) (ha : ZA X [a, b] ta) (hg : ZG X (.Tuple elts kk tpos) g) (hb : ZSs X body tb) (hgl : Gl X "zip" := by rfl) (hse : starEach [a, b] X.env = [(false, eval a X.env), (false, eval b X.env)] := by rfl) (hse2 : starEach [b] X.env = [(false, eval b X.env)] := by rfl) (hs : ∀ x, foldedSetIterable (.Call (.Name "zip" p) [a, b] [] pos') X.env x = pure x := by intro _; rfl) : ZS X (.For (.Tuple elts kk tpos) (.Call (.Name "zip" p) [a, b] [] pos') body [] pos) (dForZ ta g tb) := .i (ds_forZ hp hc hmg ha.o hg.o hb.o hgl hse hse2 hs)
end
section
variable {X : Cx} {x : Str} {V : DM → Prop} {e : Expr} {es : List Expr} {t : DA} {np cpos pos : Pos}
end
section
variable {P : Program} {w : World} {K : PySem.W.Frag} {mg : Str → Option Value} {base : Heap}
end
section
variable {X : Cx} {pins : List (Addr × Obj)} {σ : L2.St} {H : Hp} {s : Shared} {a : Addr} {o : Obj}
end
section
variable {X : Cx} {a : Expr} {e : Expr} {es : List Expr} {t : DA} {x f n cm : Str} {ps : List Str} {sp : DSp} {cond : List D → Prop} {C Cm : Addr} {k1 k2 k i j : Nat} {ts : Addr → DS} {b0 : Stmt} {suite : List Stmt} {px pf pc pa pcm ph pos : Pos}
end
section
end
section
variable {X : Cx} {n c : Str} {C Cc a : Addr} {o : Obj} {p p1 p2 pos : Pos} {j : Nat}
end
section
variable {prog : Program} {w : World} {A : Around} {E : Value → Shared → Prop} {s : Shared} {K : Frag} {x C D : Addr} {ox : Obj}
end
section
variable {X : Cx} {a C : Addr} {o : Obj}
end
section
end
section
variable {X : Cx} {j : Nat}
end
section
variable {X : Cx} {st : Stmt} {rest : List Stmt} {t u : DS}
theorem zdss_cut (h1 : ZS X st t) (h2 : ZSs X rest u) : ZSs X (st :: rest) (dCut t u) := .i (dss_cut h1.o h2.o)
end
section
variable {X : Cx} {e : Expr} {es : List Expr} {t : DA} {x f cm : Str} {ps : List Str} {sp : DSp} {cond : List D → Prop} {C Cm : Addr} {k1 k2 k i : Nat} {ts : DS} {b0 : Stmt} {suite : List Stmt} {px pf pc pa pcm ph pos : Pos}
end
section
variable {P : Program} {w : World} {K : PySem.W.Frag} {mg : Str → Option Value} {base : Heap}
theorem Fun.okZ {x qual : Str} {st : Stmt} {f : Addr} {fd : FuncData} {N ps : List Str} {k : Nat} {sp : DSp} (F : L2.Fun K x qual st f fd) (S : FnScope N ps (defScope st)) (len : ∀ ds M Q, sp ds M Q → ds.length = ps.length)
    (hbody : ∀ (cdv : Value) (A : Around) (outer : List Env) (s : Shared) (H : Hp) (ds : List D) (M : DM) (Q : DQ) (E : XK), Room k (A.deeper (envOfC qual (defScope st) s.heap.objs.size f cdv)) → sp ds M Q →
      ∃ t, ZSs (cxOf CX0 P w K mg base N qual (defScope st) f cdv A outer s H E).nox (defBody st) t ∧ t { nx := fun _ M' => Dn Q .non M', rt := Dn Q } (startD N ds) M) : FnOk P w K mg base CX0 (k + 1) f fd ps (lowSp K sp) :=
  Fun.okD F S len fun cdv A outer s H ds M Q E hr h => let ⟨t, h1, h2⟩ := hbody cdv A outer s H ds M Q E hr h; ⟨t, h1.o, h2⟩
theorem Has.mkZ {x : Str} {st : Stmt} {N ps : List Str} {k : Nat} {sp : DSp} (h : HasF K mg x st ps) (S : FnScope N ps (defScope st)) (len : ∀ ds M Q, sp ds M Q → ds.length = ps.length)
    (hbody : ∀ (f : Addr) (cdv : Value) (A : Around) (outer : List Env) (s : Shared) (H : Hp) (ds : List D) (M : DM) (Q : DQ) (E : XK), Room k (A.deeper (envOfC x (defScope st) s.heap.objs.size f cdv)) → sp ds M Q →
      ∃ t, ZSs (cxOf CX0 P w K mg base N x (defScope st) f cdv A outer s H E).nox (defBody st) t ∧ t { nx := fun _ M' => Dn Q .non M', rt := Dn Q } (startD N ds) M) : Has P w K mg base (k + 1) x ps sp :=
  Has.mk h S len fun f cdv A outer s H ds M Q E hr h => let ⟨t, h1, h2⟩ := hbody f cdv A outer s H ds M Q E hr h; ⟨t, h1.o, h2⟩
end
section
variable {P : Program} {w : World} {K : PySem.W.Frag} {mg : Str → Option Value} {base : Heap}
theorem HasX.mkZ {x c : Str} {C : Addr} {st : Stmt} {N ps : List Str} {k : Nat} {cond : List D → Prop} (h : HasF K mg x st ps) (hc : HasC K mg c C) (S : FnScope N ps (defScope st)) (len : ∀ ds, cond ds → ds.length = ps.length)
    (hbody : ∀ (f : Addr) (cdv : Value) (A : Around) (outer : List Env) (s : Shared) (H : Hp) (ds : List D) (M : DM) (E : XK), Room k (A.deeper (envOfC x (defScope st) s.heap.objs.size f cdv)) → cond ds →
      RaiseOk (cxOf (CXr P w) P w K mg base N x (defScope st) f cdv A outer s H E) c (SubM M) →
      ∃ t, ZSs (cxOf (CXr P w) P w K mg base N x (defScope st) f cdv A outer s H E) (defBody st) t ∧ t { nx := fun _ _ => False, rt := fun _ _ => False } (startD N ds) M) : HasX P w K mg base (k + 1) x ps C cond :=
  HasX.mk h hc S len fun f cdv A outer s H ds M E hr h hRO => let ⟨t, h1, h2⟩ := hbody f cdv A outer s H ds M E hr h hRO; ⟨t, h1.o, h2⟩
end
end Dd

set_option linter.all false
namespace Mz
open PySem
def Bd (n : Nat) (x : Int) : Prop := x.natAbs < 2 ^ n
theorem Bd.mono {m n : Nat} {x : Int} (h : Bd m x) (l : m ≤ n) : Bd n x := Nat.lt_of_lt_of_le h (Nat.pow_le_pow_right (by decide) l)
theorem Bd.neg {n : Nat} {x : Int} (h : Bd n x) : Bd n (-x) := by unfold Bd at *; rw [Int.natAbs_neg]; exact h
theorem Bd.add {m : Nat} {x y : Int} (h : Bd m x) (h2 : Bd m y) : Bd (m + 1) (x + y) := by
  unfold Bd at *
  have := Int.natAbs_add_le x y
  rw [Nat.pow_succ]
  omega
theorem Bd.sub {m : Nat} {x y : Int} (h : Bd m x) (h2 : Bd m y) : Bd (m + 1) (x - y) := by
  rw [Int.sub_eq_add_neg]; exact h.add h2.neg
theorem Bd.mul {m n : Nat} {x y : Int} (h : Bd m x) (h2 : Bd n y) : Bd (m + n) (x * y) := by
  unfold Bd at *
  rw [Int.natAbs_mul, Nat.pow_add]
  exact Nat.mul_lt_mul'' h h2
theorem Bd.of {n : Nat} {x : Int} (h1 : -(2 ^ n : Nat) < x) (h2 : x < (2 ^ n : Nat)) : Bd n x := by unfold Bd; omega
theorem Bd.log {n : Nat} {x : Int} (h : Bd n x) (h0 : 0 < n) : x.natAbs.log2 < n := by
  rcases Nat.eq_zero_or_pos x.natAbs with e | e
  · rw [e]; simpa using h0
  · exact (Nat.log2_lt (Nat.ne_of_gt e)).mpr h
theorem Bd.bits {n : Nat} {x : Int} (h : Bd n x) : Builtin.Int.intBits x ≤ n + 1 := by
  unfold Builtin.Int.intBits
  split
  · exact Nat.zero_le _
  · rcases Nat.eq_zero_or_pos n with e | e
    · subst e
      have : x.natAbs < 1 := h
      have : x.natAbs = 0 := by omega
      rw [this]; decide
    · have := h.log e
      omega
theorem mulOk {m n : Nat} {x y : Int} (h : Bd m x) (h2 : Bd n y) (l : m + n ≤ 100000000 := by decide) : IntMulOk x y := IntMulOk.of_le h.bits h2.bits (by omega)
theorem mulOkL {x y : Int} (h : Bd 63 x) : IntMulOk x y := IntMulOk.of_left (by have := h.bits; omega)
theorem mulOkR {x y : Int} (h : Bd 63 y) : IntMulOk x y := IntMulOk.of_right (by have := h.bits; omega)

theorem fmod_lt {a b : Int} (h : b ≠ 0) : (a.fmod b).natAbs < b.natAbs := by
  rcases Int.lt_or_lt_of_ne h with hb | hb
  · have e := Int.fmod_eq_emod (a := a) (b := b)
    have h1 := Int.emod_nonneg a h
    have h2 := Int.emod_lt_of_neg a hb
    by_cases hd : b ∣ a
    · rw [if_pos (.inr hd)] at e
      have := Int.emod_eq_zero_of_dvd hd
      omega
    · rw [if_neg (by omega)] at e
      have h3 : a % b ≠ 0 := fun z => hd (Int.dvd_of_emod_eq_zero z)
      omega
  · have h1 := Int.fmod_nonneg_of_pos a hb
    have h2 := Int.fmod_lt_of_pos a hb
    omega
theorem gcd_fmod (a b : Int) : Int.gcd b (a.fmod b) = Int.gcd a b := by
  rw [Int.fmod_def, Int.mul_comm b, Int.gcd_sub_mul_right_right, Int.gcd_comm]

def sg (t b : Int) : Int := if b < 0 then -(Int.gcd t b : Int) else (Int.gcd t b : Int)
def fT (t b : Int) : Int := t.fdiv (sg t b)
def fB (t b : Int) : Int := b.fdiv (sg t b)
theorem gcd_pos {t b : Int} (h : b ≠ 0) : 0 < Int.gcd t b := Nat.pos_of_ne_zero fun z => h (Int.gcd_eq_zero_iff.mp z).2
theorem sg_ne {t b : Int} (h : b ≠ 0) : sg t b ≠ 0 := by
  have := gcd_pos (t := t) h
  unfold sg; split <;> omega
theorem sg_dvd_t (t b : Int) : sg t b ∣ t := by
  have h := Int.gcd_dvd_left t b
  unfold sg
  split
  · exact Int.neg_dvd.mpr h
  · exact h
theorem sg_dvd_b (t b : Int) : sg t b ∣ b := by
  have h := Int.gcd_dvd_right t b
  unfold sg
  split
  · exact Int.neg_dvd.mpr h
  · exact h
theorem fT_mul {t b : Int} (h : b ≠ 0) : fT t b * sg t b = t := by
  unfold fT; rw [Int.fdiv_eq_ediv_of_dvd (sg_dvd_t t b)]; exact Int.ediv_mul_cancel (sg_dvd_t t b)
theorem fB_mul {t b : Int} (h : b ≠ 0) : fB t b * sg t b = b := by
  unfold fB; rw [Int.fdiv_eq_ediv_of_dvd (sg_dvd_b t b)]; exact Int.ediv_mul_cancel (sg_dvd_b t b)
theorem fB_pos {t b : Int} (h : b ≠ 0) : 0 < fB t b := by
  have e := fB_mul (t := t) h
  have hg := gcd_pos (t := t) h
  rcases Int.lt_trichotomy (fB t b) 0 with z | z | z
  · exfalso
    unfold sg at e
    split at e
    · rename_i hb
      have := Int.mul_pos_of_neg_of_neg z (show -(Int.gcd t b : Int) < 0 by omega)
      omega
    · rename_i hb
      have := Int.mul_neg_of_neg_of_pos z (show 0 < (Int.gcd t b : Int) by omega)
      omega
  · rw [z] at e; omega
  · exact z
theorem fcross {t b : Int} (h : b ≠ 0) : fT t b * b = fB t b * t := by
  have e1 := fT_mul (t := t) h
  have e2 := fB_mul (t := t) h
  have : fT t b * (fB t b * sg t b) = fB t b * (fT t b * sg t b) := by grind
  rw [e1, e2] at this
  exact this
theorem natAbs_sg (t b : Int) : (sg t b).natAbs = Int.gcd t b := by unfold sg; split <;> simp
theorem fgcd {t b : Int} (h : b ≠ 0) : Int.gcd (fT t b) (fB t b) = 1 := by
  unfold fT fB
  rw [Int.fdiv_eq_ediv_of_dvd (sg_dvd_t t b), Int.fdiv_eq_ediv_of_dvd (sg_dvd_b t b), Int.gcd_ediv (sg_dvd_t t b) (sg_dvd_b t b), natAbs_sg]
  exact Nat.div_self (gcd_pos h)
theorem Bd.fT {n : Nat} {t b : Int} (h : Bd n t) : Bd n (fT t b) := by
  unfold Bd at *; unfold Mz.fT; rw [Int.fdiv_eq_ediv_of_dvd (sg_dvd_t t b)]
  exact Nat.lt_of_le_of_lt (Int.natAbs_ediv_le_natAbs _ _) h
theorem Bd.fB {n : Nat} {t b : Int} (h : Bd n b) : Bd n (fB t b) := by
  unfold Bd at *; unfold Mz.fB; rw [Int.fdiv_eq_ediv_of_dvd (sg_dvd_b t b)]
  exact Nat.lt_of_le_of_lt (Int.natAbs_ediv_le_natAbs _ _) h
theorem Bd.sg {n : Nat} {t b : Int} (h : Bd n b) (h0 : b ≠ 0) : Bd n (sg t b) := by
  unfold Bd at *
  rw [natAbs_sg]
  have := Nat.le_of_dvd (by omega) (Int.natAbs_dvd_natAbs.mpr (Int.gcd_dvd_right t b))
  simp at this
  omega
theorem dvd_of_cop {a b c : Int} (h : b ∣ a * c) (g : Int.gcd b a = 1) : b ∣ c := by
  have h' : b.natAbs ∣ a.natAbs * c.natAbs := by rw [← Int.natAbs_mul]; exact Int.natAbs_dvd_natAbs.mpr h
  exact Int.natAbs_dvd_natAbs.mp (Nat.Coprime.dvd_of_dvd_mul_left g h')
theorem lowest_unique {t b t' b' : Int} (h : 0 < b) (h' : 0 < b') (g : Int.gcd t b = 1) (g' : Int.gcd t' b' = 1) (e : t * b' = t' * b) : t = t' ∧ b = b' := by
  have d1 : b ∣ b' := by
    have : b ∣ t * b' := ⟨t', by rw [e]; exact Int.mul_comm _ _⟩
    exact dvd_of_cop this (by rw [Int.gcd_comm]; exact g)
  have d2 : b' ∣ b := by
    have : b' ∣ t' * b := ⟨t, by rw [← e]; exact Int.mul_comm _ _⟩
    exact dvd_of_cop this (by rw [Int.gcd_comm]; exact g')
  have e1 : b = b' := Int.le_antisymm (Int.le_of_dvd h' d1) (Int.le_of_dvd h d2)
  subst e1
  exact ⟨Int.eq_of_mul_eq_mul_right (by omega) e, rfl⟩
end Mz

set_option linter.all false
namespace Mz
open PySem
theorem den_pos (q : Rat) : (0 : Int) < (q.den : Int) := by have := q.den_pos; omega
theorem den_ne (q : Rat) : (q.den : Int) ≠ 0 := by have := q.den_pos; omega
theorem denR (q : Rat) : ((q.den : Int) : Rat) ≠ 0 := by
  intro h
  have : (q.den : Int) = 0 := by exact_mod_cast h
  exact den_ne q this
theorem num_den (q : Rat) : (q.num : Rat) / ((q.den : Int) : Rat) = q := by
  have h := Rat.num_divInt_den q
  rw [Rat.divInt_eq_div] at h
  exact h
theorem num_eq (q : Rat) : (q.num : Rat) = q * ((q.den : Int) : Rat) := by
  have h := num_den q
  have h2 := denR q
  grind
theorem lowestQ {t b : Int} (h : b ≠ 0) : fT t b = ((t : Rat) / (b : Rat)).num ∧ fB t b = ((((t : Rat) / (b : Rat)).den : Nat) : Int) := by
  have hb : (b : Rat) ≠ 0 := by exact_mod_cast h
  refine lowest_unique (fB_pos h) (den_pos _) (fgcd h) ?_ ?_
  · have := ((t : Rat) / (b : Rat)).reduced
    unfold Nat.Coprime at this
    rw [← this]
    rfl
  · have e1 := fcross (t := t) h
    have e2 := num_eq ((t : Rat) / (b : Rat))
    have e3 : ((fT t b : Int) : Rat) * b = (fB t b : Int) * (t : Rat) := by rw [← Rat.intCast_mul, ← Rat.intCast_mul, e1]
    have e4 : ((fT t b : Int) : Rat) * ((((t : Rat) / (b : Rat)).den : Int) : Rat) = ((((t : Rat) / (b : Rat)).num : Int) : Rat) * (fB t b : Int) := by
      rw [e2]
      grind
    rw [← Rat.intCast_mul, ← Rat.intCast_mul] at e4
    exact Rat.intCast_inj.mp e4
def BQ (n : Nat) (q : Rat) : Prop := Bd n q.num ∧ Bd n (q.den : Int)
theorem BQ.mono {m n : Nat} {q : Rat} (h : BQ m q) (l : m ≤ n) : BQ n q := ⟨h.1.mono l, h.2.mono l⟩
theorem BQ.make {n : Nat} {t b : Int} (h : b ≠ 0) (h1 : Bd n t) (h2 : Bd n b) : BQ n ((t : Rat) / (b : Rat)) := by
  obtain ⟨e1, e2⟩ := lowestQ (t := t) h
  exact ⟨e1 ▸ h1.fT, e2 ▸ h2.fB⟩
theorem addQ (p q : Rat) : (((p.num * q.den + q.num * p.den : Int)) : Rat) / ((p.den * q.den : Int) : Rat) = p + q := by
  have h1 := denR p
  have h2 := denR q
  have e1 := num_eq p
  have e2 := num_eq q
  rw [Rat.intCast_add, Rat.intCast_mul, Rat.intCast_mul, Rat.intCast_mul, e1, e2]
  grind
theorem subQ (p q : Rat) : (((p.num * q.den - q.num * p.den : Int)) : Rat) / ((p.den * q.den : Int) : Rat) = p - q := by
  have h1 := denR p
  have h2 := denR q
  have e1 := num_eq p
  have e2 := num_eq q
  rw [Rat.intCast_sub, Rat.intCast_mul, Rat.intCast_mul, Rat.intCast_mul, e1, e2]
  grind
theorem mulQ (p q : Rat) : (((p.num * q.num : Int)) : Rat) / ((p.den * q.den : Int) : Rat) = p * q := by
  have h1 := denR p
  have h2 := denR q
  have e1 := num_eq p
  have e2 := num_eq q
  rw [Rat.intCast_mul, Rat.intCast_mul, e1, e2]
  grind
theorem divQ (p q : Rat) (h : q ≠ 0) : (((p.num * q.den : Int)) : Rat) / ((p.den * q.num : Int) : Rat) = p / q := by
  have h1 := denR p
  have h2 := denR q
  have e1 := num_eq p
  have e2 := num_eq q
  rw [Rat.intCast_mul, Rat.intCast_mul, e1, e2]
  grind
theorem BQ.add {m n : Nat} {p q : Rat} (h : BQ m p) (h2 : BQ n q) : BQ (m + n + 1) (p + q) := by
  rw [← addQ]
  exact .make (Int.mul_ne_zero (den_ne p) (den_ne q)) ((h.1.mul h2.2).add ((h2.1.mul h.2).mono (by omega))) ((h.2.mul h2.2).mono (by omega))
theorem BQ.sub {m n : Nat} {p q : Rat} (h : BQ m p) (h2 : BQ n q) : BQ (m + n + 1) (p - q) := by
  rw [← subQ]
  exact .make (Int.mul_ne_zero (den_ne p) (den_ne q)) ((h.1.mul h2.2).sub ((h2.1.mul h.2).mono (by omega))) ((h.2.mul h2.2).mono (by omega))
theorem BQ.mul {m n : Nat} {p q : Rat} (h : BQ m p) (h2 : BQ n q) : BQ (m + n) (p * q) := by
  rw [← mulQ]
  exact .make (Int.mul_ne_zero (den_ne p) (den_ne q)) (h.1.mul h2.1) (h.2.mul h2.2)
theorem num_zero {q : Rat} : q.num = 0 ↔ q = 0 := Rat.num_eq_zero
theorem BQ.div {m n : Nat} {p q : Rat} (h : BQ m p) (h2 : BQ n q) (h0 : q ≠ 0) : BQ (m + n) (p / q) := by
  rw [← divQ p q h0]
  exact .make (Int.mul_ne_zero (den_ne p) (fun z => h0 (num_zero.mp z))) (h.1.mul h2.2) (h.2.mul h2.1)
theorem BQ.neg {m : Nat} {p : Rat} (h : BQ m p) : BQ m (-p) := ⟨by rw [Rat.neg_num]; exact h.1.neg, by rw [Rat.neg_den]; exact h.2⟩
theorem BQ.int {m : Nat} {z : Int} (h : Bd m z) (h0 : 0 < m) : BQ m (z : Rat) := ⟨by rw [Rat.num_intCast]; exact h, by rw [Rat.den_intCast]; unfold Bd; exact Nat.one_lt_two_pow (by omega)⟩
theorem ltQ (p q : Rat) : (p.num * q.den < q.num * p.den) ↔ p < q := (Rat.lt_iff p q).symm
end Mz

set_option linter.all false
namespace Mz
open PySem
theorem FQ_of {t b : Int} {q : Rat} (hb : 0 < b) (hg : Int.gcd t b = 1) (e : (t : Rat) = q * (b : Rat)) : t = q.num ∧ b = (q.den : Int) := by
  refine lowest_unique hb (den_pos q) hg ?_ ?_
  · have := q.reduced
    unfold Nat.Coprime at this
    rw [← this]
    rfl
  · have e2 := num_eq q
    have : ((t * (q.den : Int) : Int) : Rat) = ((q.num * b : Int) : Rat) := by
      rw [Rat.intCast_mul, Rat.intCast_mul, e, e2]
      grind
    exact Rat.intCast_inj.mp this
theorem cop_mul {a b c : Int} (h : Int.gcd a b = 1) (h2 : Int.gcd a c = 1) : Int.gcd a (b * c) = 1 := by
  unfold Int.gcd at *
  rw [Int.natAbs_mul]
  exact Nat.Coprime.mul_right h h2
theorem cop_comm {a b : Int} (h : Int.gcd a b = 1) : Int.gcd b a = 1 := by rw [Int.gcd_comm]; exact h
theorem cop_dvd {a a' b : Int} (h : a ∣ a') (h2 : Int.gcd a' b = 1) : Int.gcd a b = 1 := by
  unfold Int.gcd at *
  exact Nat.Coprime.coprime_dvd_left (Int.natAbs_dvd_natAbs.mpr h) h2
theorem red (q : Rat) : Int.gcd q.num (q.den : Int) = 1 := by
  have := q.reduced
  unfold Nat.Coprime at this
  rw [← this]
  rfl
theorem parts_gcd {x y : Int} (h : y ≠ 0) : ∃ a b : Int, x = (Int.gcd x y : Int) * a ∧ y = (Int.gcd x y : Int) * b ∧ Int.gcd a b = 1 ∧ x.fdiv (Int.gcd x y : Int) = a ∧ y.fdiv (Int.gcd x y : Int) = b := by
  have hp : 0 < Int.gcd x y := gcd_pos h
  obtain ⟨a, ha⟩ := Int.gcd_dvd_left x y
  obtain ⟨b, hb⟩ := Int.gcd_dvd_right x y
  have e1 : x.fdiv (Int.gcd x y : Int) = a := by
    rw [Int.fdiv_eq_ediv_of_dvd (Int.gcd_dvd_left x y)]
    exact Int.ediv_eq_of_eq_mul_right (by omega) ha
  have e2 : y.fdiv (Int.gcd x y : Int) = b := by
    rw [Int.fdiv_eq_ediv_of_dvd (Int.gcd_dvd_right x y)]
    exact Int.ediv_eq_of_eq_mul_right (by omega) hb
  refine ⟨a, b, ha, hb, ?_, e1, e2⟩
  rw [← e1, ← e2, Int.fdiv_eq_ediv_of_dvd (Int.gcd_dvd_left x y), Int.fdiv_eq_ediv_of_dvd (Int.gcd_dvd_right x y), Int.gcd_ediv (Int.gcd_dvd_left x y) (Int.gcd_dvd_right x y)]
  simp
  exact Nat.div_self hp
theorem addF (p q : Rat) : ∀ g a t l : Int, g = (Int.gcd p.den q.den : Int) → a = (p.den : Int).fdiv g → t = p.num * (q.den : Int).fdiv g + q.num * a → l = (Int.gcd t g : Int) →
    g ≠ 0 ∧ l ≠ 0 ∧ g ∣ (p.den : Int) ∧ l ∣ g ∧ t.fdiv l = (p + q).num ∧ a * (q.den : Int).fdiv l = ((p + q).den : Int) := by
  intro g a t l hg ha ht hl
  have d1 := den_pos p
  have d2 := den_pos q
  obtain ⟨a', b, e1, e2, cab, f1, f2⟩ := parts_gcd (x := p.den) (y := q.den) (den_ne q)
  rw [← hg] at e1 e2 f1 f2
  rw [f1] at ha
  subst ha
  rw [f2] at ht
  have g0 : 0 < g := by have := gcd_pos (t := (p.den : Int)) (den_ne q); omega
  have a0 : 0 < a := by
    rcases Int.lt_trichotomy a 0 with z | z | z
    · have := Int.mul_neg_of_pos_of_neg g0 z; omega
    · subst z; omega
    · exact z
  have b0 : 0 < b := by
    rcases Int.lt_trichotomy b 0 with z | z | z
    · have := Int.mul_neg_of_pos_of_neg g0 z; omega
    · subst z; omega
    · exact z
  obtain ⟨t', g', e3, e4, ctg, f3, f4⟩ := parts_gcd (x := t) (y := g) (by omega)
  rw [← hl] at e3 e4 f3 f4
  have l0 : 0 < l := by have := gcd_pos (t := t) (b := g) (by omega); omega
  have g'0 : 0 < g' := by
    rcases Int.lt_trichotomy g' 0 with z | z | z
    · have := Int.mul_neg_of_pos_of_neg l0 z; omega
    · subst z; omega
    · exact z
  have f5 : (q.den : Int).fdiv l = g' * b := by
    have e : (q.den : Int) = l * (g' * b) := by rw [e2, e4]; grind
    rw [Int.fdiv_eq_ediv_of_dvd ⟨_, e⟩]
    exact Int.ediv_eq_of_eq_mul_right (by omega) e
  refine ⟨by omega, by omega, ⟨a, e1⟩, ⟨g', e4⟩, ?_⟩
  rw [f3, f5]
  -- the bottom's parts share nothing with the top
  have ca : Int.gcd t a = 1 := by
    have c1 : Int.gcd p.num a = 1 := cop_comm (cop_dvd ⟨g, by rw [e1]; grind⟩ (cop_comm (red p)))
    have : Int.gcd a (p.num * b) = 1 := cop_mul (cop_comm c1) cab
    rw [ht, Int.gcd_comm, Int.gcd_add_mul_right_right]
    exact this
  have cb : Int.gcd t b = 1 := by
    have c1 : Int.gcd q.num b = 1 := cop_comm (cop_dvd ⟨g, by rw [e2]; grind⟩ (cop_comm (red q)))
    have : Int.gcd b (q.num * a) = 1 := cop_mul (cop_comm c1) (cop_comm cab)
    rw [ht, Int.gcd_comm, Int.add_comm, Int.gcd_add_mul_right_right]
    exact this
  have hd : t' ∣ t := ⟨l, by rw [e3]; grind⟩
  refine FQ_of (q := p + q) (Int.mul_pos a0 (Int.mul_pos g'0 b0)) (cop_mul (cop_dvd hd ca) (cop_mul ctg (cop_dvd hd cb))) ?_
  have n1 := num_eq p
  have n2 := num_eq q
  have r1 := denR p
  have r2 := denR q
  have k1 : ((p.den : Int) : Rat) = (l : Rat) * g' * a := by rw [e1, e4, Rat.intCast_mul, Rat.intCast_mul]
  have k2 : ((q.den : Int) : Rat) = (l : Rat) * g' * b := by rw [e2, e4, Rat.intCast_mul, Rat.intCast_mul]
  have k3 : (l : Rat) * t' = (p.num : Rat) * b + (q.num : Rat) * a := by rw [← Rat.intCast_mul, ← e3, ht, Rat.intCast_add, Rat.intCast_mul, Rat.intCast_mul]
  have k4 : (l : Rat) ≠ 0 := fun z => by have : l = 0 := by exact_mod_cast z
                                         omega
  rw [n1, n2, k1, k2] at k3
  rw [Rat.intCast_mul, Rat.intCast_mul]
  have : (l : Rat) * (t' : Rat) = l * ((p + q) * ((a : Rat) * (g' * b))) := by rw [k3]; grind
  grind
theorem mulF (p q : Rat) : ∀ f r : Int, f = (Int.gcd p.num q.den : Int) → r = (Int.gcd q.num p.den : Int) →
    f ≠ 0 ∧ r ≠ 0 ∧ f ∣ (q.den : Int) ∧ r ∣ (p.den : Int) ∧ p.num.fdiv f * q.num.fdiv r = (p * q).num ∧ (p.den : Int).fdiv r * (q.den : Int).fdiv f = ((p * q).den : Int) := by
  intro f r hf hr
  have d1 := den_pos p
  have d2 := den_pos q
  obtain ⟨x, v, e1, e2, c1, f1, f2⟩ := parts_gcd (x := p.num) (y := q.den) (den_ne q)
  obtain ⟨y, u, e3, e4, c2, f3, f4⟩ := parts_gcd (x := q.num) (y := p.den) (den_ne p)
  rw [← hf] at e1 e2 f1 f2
  rw [← hr] at e3 e4 f3 f4
  have f0 : 0 < f := by have := gcd_pos (t := p.num) (den_ne q); omega
  have r0 : 0 < r := by have := gcd_pos (t := q.num) (den_ne p); omega
  have v0 : 0 < v := by
    rcases Int.lt_trichotomy v 0 with z | z | z
    · have := Int.mul_neg_of_pos_of_neg f0 z; omega
    · subst z; omega
    · exact z
  have u0 : 0 < u := by
    rcases Int.lt_trichotomy u 0 with z | z | z
    · have := Int.mul_neg_of_pos_of_neg r0 z; omega
    · subst z; omega
    · exact z
  refine ⟨by omega, by omega, ⟨v, e2⟩, ⟨u, e4⟩, ?_⟩
  rw [f1, f2, f3, f4]
  have cxu : Int.gcd x u = 1 := cop_dvd ⟨f, by rw [e1]; grind⟩ (cop_comm (cop_dvd ⟨r, by rw [e4]; grind⟩ (cop_comm (red p))))
  have cyv : Int.gcd y v = 1 := cop_dvd ⟨r, by rw [e3]; grind⟩ (cop_comm (cop_dvd ⟨f, by rw [e2]; grind⟩ (cop_comm (red q))))
  refine FQ_of (q := p * q) (Int.mul_pos u0 v0) ?_ ?_
  · exact cop_comm (cop_mul (cop_comm (cop_mul cxu c1)) (cop_comm (cop_mul c2 cyv)))
  have n1 := num_eq p
  have n2 := num_eq q
  have r1 := denR p
  have r2 := denR q
  have k1 : ((p.den : Int) : Rat) = (r : Rat) * u := by rw [e4, Rat.intCast_mul]
  have k2 : ((q.den : Int) : Rat) = (f : Rat) * v := by rw [e2, Rat.intCast_mul]
  have k3 : (p.num : Rat) = (f : Rat) * x := by rw [e1, Rat.intCast_mul]
  have k4 : (q.num : Rat) = (r : Rat) * y := by rw [e3, Rat.intCast_mul]
  have k5 : (f : Rat) ≠ 0 := fun z => by have : f = 0 := by exact_mod_cast z
                                         omega
  have k6 : (r : Rat) ≠ 0 := fun z => by have : r = 0 := by exact_mod_cast z
                                         omega
  rw [Rat.intCast_mul, Rat.intCast_mul]
  have : (f : Rat) * r * ((x : Rat) * y) = f * r * ((p * q) * ((u : Rat) * v)) := by
    have z1 : (f : Rat) * x = p * (r * u) := by rw [← k3, ← k1]; exact n1
    have z2 : (r : Rat) * y = q * (f * v) := by rw [← k4, ← k2]; exact n2
    grind
  grind
theorem Bd.dvd {n : Nat} {x y : Int} (h : Bd n y) (d : x ∣ y) (h0 : y ≠ 0) : Bd n x := by
  unfold Bd at *
  have := Nat.le_of_dvd (by omega) (Int.natAbs_dvd_natAbs.mpr d)
  omega
theorem Bd.fdiv {n : Nat} {x y : Int} (h : Bd n x) (d : y ∣ x) : Bd n (x.fdiv y) := by
  unfold Bd at *
  rw [Int.fdiv_eq_ediv_of_dvd d]
  exact Nat.lt_of_le_of_lt (Int.natAbs_ediv_le_natAbs _ _) h
end Mz

set_option linter.all false
set_option maxHeartbeats 1000000
namespace Mz
open PySem
def sgn (q : Rat) : Int := if 0 < q then 1 else if q < 0 then -1 else 0
def across (ax ay bx by' px py : Rat) : Rat := (bx - ax) * (py - ay) - (by' - ay) * (px - ax)
theorem sgn_pos {z F : Rat} (hF : 0 < F) : sgn (z * F) = sgn z := by
  unfold sgn
  rcases (show z < 0 ∨ z = 0 ∨ 0 < z by grind) with c | c | c
  · have := Rat.mul_pos (show 0 < -z by grind) hF
    rw [if_neg (by grind), if_pos (by grind), if_neg (by grind), if_pos c]
  · subst c
    rw [if_neg (by grind), if_neg (by grind), if_neg (by grind), if_neg (by grind)]
  · have := Rat.mul_pos c hF
    rw [if_pos this, if_pos c]
def vv (t : Rat) : Rat := (t + t) / (1 + t * t)
theorem sq_nn (t : Rat) : 0 ≤ t * t := by
  rcases (show t < 0 ∨ t = 0 ∨ 0 < t by grind) with c | c | c
  · have := Rat.mul_pos (show 0 < -t by grind) (show 0 < -t by grind)
    grind
  · subst c; grind
  · have := Rat.mul_pos c c
    grind
end Mz

set_option linter.all false
set_option maxHeartbeats 4000000
namespace Mz
open PySem
def rq (x y : Rat) : Nat → Rat × Rat
  | 0 => (x, y)
  | n + 1 => (-(rq x y n).2, (rq x y n).1)
def ldX (px : Rat) (t h : Int) (s x y : Rat) : Rat := (rq x ((h : Rat) * y) t.toNat).1 * s + px
def ldY (py : Rat) (t h : Int) (s x y : Rat) : Rat := (rq x ((h : Rat) * y) t.toNat).2 * s + py
def tb (t h u : Int) : Int := (t + h * u).fmod 4
theorem tb_range (t h u : Int) : 0 ≤ tb t h u ∧ tb t h u < 4 := ⟨Int.fmod_nonneg_of_pos _ (by decide), Int.fmod_lt_of_pos _ (by decide)⟩
end Mz

set_option Elab.async false
set_option linter.all false
set_option maxRecDepth 100000
set_option maxHeartbeats 4000000
namespace Dd
open PySem PySem.Spec PyProof.Rows L2 Mz
def FQ (q : Rat) : D := .tup [.int q.num, .int (q.den : Int)]
theorem FQ_make {t b : Int} (h : b ≠ 0) : (D.tup [.int (fT t b), .int (fB t b)]) = FQ ((t : Rat) / (b : Rat)) := by
  obtain ⟨e1, e2⟩ := lowestQ (t := t) h
  rw [e1, e2]
  rfl
def sp_greatest_divisor : DSp := fun ds M Q => ∃ a b, ds = [.int a, .int b] ∧ Q (.int (Int.gcd a b : Int)) M
def sp_two (g : Rat → Rat → D) (C : Rat → Prop := fun _ => True) : DSp := fun ds M Q => ∃ p q m n, ds = [FQ p, FQ q] ∧ C q ∧ BQ m p ∧ BQ n q ∧ m + n ≤ 8998 ∧ Q (g p q) M
def sp_plus : DSp := sp_two fun p q => FQ (p + q)
def sp_minus : DSp := sp_two fun p q => FQ (p - q)
def sp_times : DSp := sp_two fun p q => FQ (p * q)
def sp_below : DSp := sp_two fun p q => .bl (decide (p < q))
theorem two_len {g : Rat → Rat → D} {C : Rat → Prop} (ds : List D) (M : DM) (Q : DQ) (h : sp_two g C ds M Q) : ds.length = 2 := by obtain ⟨a, b, m, n, rfl, _⟩ := h; rfl
theorem fdOk {n : Nat} {x y z : Int} (h : Bd n y) (l : n ≤ 9000) (d : z ∣ y) (h0 : y ≠ 0) (hz : z ≠ 0) : CFd x z := ⟨hz, by
  rcases Nat.eq_zero_or_pos n with e | e
  · subst e
    have : y.natAbs < 1 := h
    omega
  · exact Nat.lt_of_lt_of_le ((h.dvd d h0).log e) l⟩
theorem FQ_neg' (q : Rat) : (D.tup [.int (-q.num), .int (q.den : Int)]) = FQ (-q) := by
  unfold FQ
  rw [Rat.neg_num, Rat.neg_den]
def PQ (x y : Rat) : D := .tup [FQ x, FQ y]
theorem eqD_FQ (p q : Rat) : eqD (FQ p) (FQ q) = decide (p = q) := by
  show (p.num == q.num && ((p.den : Int) == (q.den : Int) && true)) = decide (p = q)
  by_cases h : p = q
  · subst h; simp
  · rw [decide_eq_false h]
    by_cases h1 : p.num = q.num
    · have h2 : ¬ ((p.den : Int) = (q.den : Int)) := fun z => h (Rat.ext h1 (by exact_mod_cast z))
      simp [h1, h2]
    · simp [h1]
theorem eqD_PQ (x y u v : Rat) : eqD (PQ x y) (PQ u v) = (decide (x = u) && decide (y = v)) := by
  show (eqD (FQ x) (FQ u) && (eqD (FQ y) (FQ v) && true)) = _
  rw [eqD_FQ, eqD_FQ, Bool.and_true]
def sp_on_one_bottom : DSp := fun ds M Q => ∃ x y, ds = [PQ x y] ∧ BQ 900 x ∧ BQ 900 y ∧ ∀ X Y d : Int, 0 < d → (X : Rat) = x * (d : Rat) → (Y : Rat) = y * (d : Rat) → Bd 1800 X → Bd 1800 Y → Bd 1800 d → Q (.tup [.int X, .int Y, .int d]) M
def sp_sign : DSp := fun ds M Q => ∃ z : Int, ds = [.int z] ∧ Q (.int (sgn (z : Rat))) M
theorem posR {d : Int} (h : 0 < d) : (0 : Rat) < (d : Rat) := by exact_mod_cast h
def bef (x y u v : Rat) : Bool := if x = u then decide (y < v) else decide (x < u)
def sp_before : DSp := fun ds M Q => ∃ x y u v, ds = [PQ x y, PQ u v] ∧ BQ 4400 x ∧ BQ 4400 y ∧ BQ 4400 u ∧ BQ 4400 v ∧ Q (.bl (bef x y u v)) M
def FdN (M : DM) (a : Addr) (n : Nat) : Prop := ∃ (c k f : Int), M a = some [.int c, .int k, .int f] ∧ 0 ≤ k ∧ k ≤ n
structure Adv (M M' : DM) (a : Addr) : Prop where
  l : ∀ b : Addr, b ≠ a → M' (.l b) = M (.l b)
  d : ∀ b : Addr, M' (.d b) = M (.d b)
instance {M M' : DM} {a : Addr} : CoeFun (Adv M M' a) (fun _ => ∀ b : Addr, b ≠ a → M' (.l b) = M (.l b)) := ⟨Adv.l⟩
theorem Adv.refl (M : DM) (a : Addr) : Adv M M a := ⟨fun _ _ => rfl, fun _ => rfl⟩
theorem Adv.trans {M M1 M2 : DM} {a : Addr} (h : Adv M M1 a) (h2 : Adv M1 M2 a) : Adv M M2 a := ⟨fun b n => (h2.l b n).trans (h.l b n), fun b => (h2.d b).trans (h.d b)⟩
theorem Adv.of {M M' : DM} {a : Addr} (h : ∀ b : AK, b ≠ AK.l a → M' b = M b) : Adv M M' a := ⟨fun b n => h b fun e => n (AK.l.inj e), fun b => h _ fun e => nomatch e⟩
theorem Adv.put {M : DM} {a : Addr} {ds : List D} : Adv M (putM M a ds) a := ⟨fun _ n => putM_ne n, fun _ => putM_d⟩
theorem FdN.mono {M : DM} {a : Addr} {m n : Nat} (h : FdN M a m) (l : m ≤ n) : FdN M a n := by
  obtain ⟨c, k, f, e, h0, h1⟩ := h
  exact ⟨c, k, f, e, h0, by omega⟩
def sp_law_feed : DSp := fun ds M Q => ∃ c, ds = [.int c] ∧ ∀ (p : Addr) M', M p = none → FdN M' p 0 → Adv M M' p → Q (.ref p) M'
def sp_law_draw : DSp := fun ds M Q => ∃ a many n, ds = [.ref a, .int many] ∧ FdN M a n ∧ n ≤ 100000 ∧ 0 < many ∧ Bd 8999 many ∧ ∀ r M', 0 ≤ r → r < many → FdN M' a (n + 1) → Adv M M' a → Q (.int r) M'
def sp_drawn (B c : Nat) (Pd : D → Prop) : DSp := fun ds M Q => ∃ a n, ds = [.ref a] ∧ FdN M a n ∧ n ≤ B ∧ ∀ d M', Pd d → FdN M' a (n + c) → Adv M M' a → Q d M'
theorem drawn_len {B c : Nat} {Pd : D → Prop} (ds : List D) (M : DM) (Q : DQ) (h : sp_drawn B c Pd ds M Q) : ds.length = 1 := by obtain ⟨a, n, rfl, _⟩ := h; rfl
def IsF (B : Nat) (d : D) : Prop := ∃ q, d = FQ q ∧ BQ B q
def IsP (B : Nat) (d : D) : Prop := ∃ x y, d = PQ x y ∧ BQ B x ∧ BQ B y
theorem FQ_int (z : Int) : FQ (z : Rat) = .tup [.int z, .int 1] := by unfold FQ; rw [Rat.num_intCast, Rat.den_intCast]; rfl
theorem bdk {x : Int} (h : x.natAbs < 2 ^ 220) : Bd 8999 x := Bd.mono (m := 220) h (by decide)
theorem bd210 {x : Int} (h1 : -(10 ^ 62) ≤ x) (h2 : x ≤ 10 ^ 62) : Bd 210 x := by
  unfold Bd
  have : (2 : Nat) ^ 210 = 1645504557321206042154969182557350504982735865633579863348609024 := by decide
  omega
theorem cut_mem {xs : List D} {lo hi : Option Int} {d : D} (h : d ∈ cutD xs lo hi) : d ∈ xs := List.mem_of_mem_drop (List.mem_of_mem_take h)
def sp_law_lowest : DSp := fun ds M Q => ∃ t b, ds = [.int t, .int b] ∧ b ≠ 0 ∧ Bd 8999 b ∧ Q (FQ ((t : Rat) / (b : Rat))) M
theorem IsP.mono {B C : Nat} {d : D} (h : IsP B d) (l : B ≤ C) : IsP C d := by
  obtain ⟨x, y, e, h1, h2⟩ := h
  exact ⟨x, y, e, h1.mono l, h2.mono l⟩
theorem IsF.mono {B C : Nat} {d : D} (h : IsF B d) (l : B ≤ C) : IsF C d := by
  obtain ⟨x, e, h1⟩ := h
  exact ⟨x, e, h1.mono l⟩
theorem itT_PQ {x y : Rat} {g : DG} {te : DE} {Q : DQ} {ρ0 : DEnv} {M : DM} : itT (PQ x y) ρ0 g te M Q = dItC none [FQ x, FQ y] ρ0 g te M Q := rfl
theorem itT_FQ {q : Rat} {g : DG} {te : DE} {Q : DQ} {ρ0 : DEnv} {M : DM} : itT (FQ q) ρ0 g te M Q = dItC none [.int q.num, .int (q.den : Int)] ρ0 g te M Q := rfl
theorem foT_PQ {x y : Rat} {g : DG} {tb : DS} {E : DEnds} {ρ : DEnv} {M : DM} : foT (PQ x y) g tb E ρ M = dIt none [FQ x, FQ y] g tb E ρ M := rfl
theorem ixFQ0 {q : Rat} {M : DM} {Q : DQ} : dIxR (FQ q) (.int 0) M Q = Q (.int q.num) M := rfl
theorem ixFQ1 {q : Rat} {M : DM} {Q : DQ} : dIxR (FQ q) (.int 1) M Q = Q (.int (q.den : Int)) M := rfl
theorem ixPQ0 {x y : Rat} {M : DM} {Q : DQ} : dIxR (PQ x y) (.int 0) M Q = Q (FQ x) M := rfl
theorem ixPQ1 {x y : Rat} {M : DM} {Q : DQ} : dIxR (PQ x y) (.int 1) M Q = Q (FQ y) M := rfl
theorem gU_PQ {x y : Rat} {n : Nat} {t : DGs} {ρ : DEnv} {M : DM} {R : DEnv → DM → Prop} : gU n t (PQ x y) ρ M R = (([FQ x, FQ y] : List D).length = n ∧ t [FQ x, FQ y] ρ M R) := rfl
theorem gU_FQ {q : Rat} {n : Nat} {t : DGs} {ρ : DEnv} {M : DM} {R : DEnv → DM → Prop} : gU n t (FQ q) ρ M R = (([.int q.num, .int (q.den : Int)] : List D).length = n ∧ t [.int q.num, .int (q.den : Int)] ρ M R) := rfl
theorem dEq_FQ {g : Bool → Bool} {p q : Rat} {M : DM} {Q : DQ} : dEq g (FQ p) (FQ q) M Q = Q (.bl (g (decide (p = q)))) M := by
  show (pureN 60 (FQ p) = true ∧ pureN 60 (FQ q) = true ∧ Q (.bl (g (eqD (FQ p) (FQ q)))) M) = _
  rw [eqD_FQ]
  exact propext ⟨fun h => h.2.2, fun h => ⟨rfl, rfl, h⟩⟩
theorem dEq_PQ {g : Bool → Bool} {x y u v : Rat} {M : DM} {Q : DQ} : dEq g (PQ x y) (PQ u v) M Q = Q (.bl (g (decide (x = u ∧ y = v)))) M := by
  show (pureN 60 (PQ x y) = true ∧ pureN 60 (PQ u v) = true ∧ Q (.bl (g (eqD (PQ x y) (PQ u v)))) M) = _
  have e : (decide (x = u) && decide (y = v)) = decide (x = u ∧ y = v) := by by_cases h1 : x = u <;> by_cases h2 : y = v <;> simp [h1, h2]
  rw [eqD_PQ, e]
  exact propext ⟨fun h => h.2.2, fun h => ⟨rfl, rfl, h⟩⟩
theorem foZ_PQ {x y u v : Rat} {g : DG} {tb : DS} {E : DEnds} {ρ : DEnv} {M : DM} : foZ [PQ x y, PQ u v] g tb E ρ M = dIt none [.tup [FQ x, FQ u], .tup [FQ y, FQ v]] g tb E ρ M := rfl
def FR (px py : Rat) (t h : Int) (s : Rat) : D := .tup [PQ px py, .int t, .int h, FQ s]
theorem gU_FR {px py s : Rat} {i h : Int} {n : Nat} {t : DGs} {ρ : DEnv} {M : DM} {R : DEnv → DM → Prop} : gU n t (FR px py i h s) ρ M R = (([PQ px py, .int i, .int h, FQ s] : List D).length = n ∧ t [PQ px py, .int i, .int h, FQ s] ρ M R) := rfl
theorem ixFR0 {px py s : Rat} {t h : Int} {M : DM} {Q : DQ} : dIxR (FR px py t h s) (.int 0) M Q = Q (PQ px py) M := rfl
theorem ixFR1 {px py s : Rat} {t h : Int} {M : DM} {Q : DQ} : dIxR (FR px py t h s) (.int 1) M Q = Q (.int t) M := rfl
theorem ixFR2 {px py s : Rat} {t h : Int} {M : DM} {Q : DQ} : dIxR (FR px py t h s) (.int 2) M Q = Q (.int h) M := rfl
theorem ixFR3 {px py s : Rat} {t h : Int} {M : DM} {Q : DQ} : dIxR (FR px py t h s) (.int 3) M Q = Q (FQ s) M := rfl
theorem eqD_FR (px py s px' py' s' : Rat) (t h t' h' : Int) : eqD (FR px py t h s) (FR px' py' t' h' s') = decide (px = px' ∧ py = py' ∧ t = t' ∧ h = h' ∧ s = s') := by
  show (eqD (PQ px py) (PQ px' py') && (t == t' && (h == h' && (eqD (FQ s) (FQ s') && true)))) = _
  rw [eqD_PQ, eqD_FQ]
  by_cases h1 : px = px' <;> by_cases h2 : py = py' <;> by_cases h3 : t = t' <;> by_cases h4 : h = h' <;> by_cases h5 : s = s' <;> simp [h1, h2, h3, h4, h5]
theorem dEq_FR {g : Bool → Bool} {px py s px' py' s' : Rat} {t h t' h' : Int} {M : DM} {Q : DQ} : dEq g (FR px py t h s) (FR px' py' t' h' s') M Q = Q (.bl (g (decide (px = px' ∧ py = py' ∧ t = t' ∧ h = h' ∧ s = s')))) M := by
  show (pureN 60 (FR px py t h s) = true ∧ pureN 60 (FR px' py' t' h' s') = true ∧ Q (.bl (g (eqD (FR px py t h s) (FR px' py' t' h' s')))) M) = _
  rw [eqD_FR]
  exact propext ⟨fun z => z.2.2, fun z => ⟨rfl, rfl, z⟩⟩
def IsRow (n : Nat) (L : List D) : Prop := L.length = n ∧ ∀ d ∈ L, ∃ z : Int, d = .int z ∧ 0 ≤ z ∧ z < 1000000
theorem IsRow.at {n : Nat} {L : List D} (h : IsRow n L) {i : Nat} (hi : i < n) : ∃ z : Int, atI L (i : Int) = some (.int z) ∧ 0 ≤ z ∧ z < 1000000 := by
  have hl : i < L.length := by rw [h.1]; exact hi
  obtain ⟨z, e, z0, z1⟩ := h.2 L[i] (List.getElem_mem hl)
  exact ⟨z, atI_nat (by rw [List.getElem?_eq_getElem hl, e]), z0, z1⟩
theorem sLen_PQ {x y : Rat} {M : DM} {Q : DQ} : sLen [PQ x y] M Q = Q (.int 2) M := rfl
theorem sLen_FQ {q : Rat} {M : DM} {Q : DQ} : sLen [FQ q] M Q = Q (.int 2) M := rfl
theorem sLen_FR {px py s : Rat} {t h : Int} {M : DM} {Q : DQ} : sLen [FR px py t h s] M Q = Q (.int 4) M := rfl
theorem sLen_ref {a : Addr} {M : DM} {Q : DQ} : sLen [.ref a] M Q = ∃ xs, M a = some xs ∧ Q (.int (xs.length : Int)) M := rfl
end Dd

set_option Elab.async false
set_option linter.all false
set_option maxRecDepth 100000
set_option maxHeartbeats 4000000
namespace Dd
open PySem PySem.Spec PyProof.Rows L2 Mz
section
variable {M : DM} {Q : DQ} {a b c d e f : D}
theorem sAbs_i {i : Int} : sAbs [.int i] M Q = Q (.int (if i < 0 then -i else i)) M := rfl
theorem sLen_fz {xs : List D} : sLen [.fz xs] M Q = Q (.int xs.length) M := rfl
theorem sLen_t0 : sLen [.tup []] M Q = Q (.int 0) M := rfl
theorem sLen_t1 : sLen [.tup [a]] M Q = Q (.int 1) M := rfl
theorem sLen_t2 : sLen [.tup [a, b]] M Q = Q (.int 2) M := rfl
theorem sLen_t3 : sLen [.tup [a, b, c]] M Q = Q (.int 3) M := rfl
theorem sLen_t4 : sLen [.tup [a, b, c, d]] M Q = Q (.int 4) M := rfl
theorem sLen_t5 : sLen [.tup [a, b, c, d, e]] M Q = Q (.int 5) M := rfl
end
def GoodF (px py : Rat) (t h : Int) (s : Rat) (B : Nat) : Prop := BQ B px ∧ BQ B py ∧ 0 ≤ t ∧ t < 4 ∧ (h = 1 ∨ h = -1) ∧ 0 < s ∧ BQ B s
structure Fm where
  (px py : Rat) (t h : Int) (s : Rat)
def FmD (f : Fm) : D := FR f.px f.py f.t f.h f.s
def Fm.comp (f g : Fm) : Fm := ⟨ldX f.px f.t f.h f.s g.px g.py, ldY f.py f.t f.h f.s g.px g.py, tb f.t f.h g.t, f.h * g.h, f.s * g.s⟩
def Fm.one : Fm := ⟨0, 0, 0, 1, 1⟩
def Fm.Ok (f : Fm) : Prop := 0 ≤ f.t ∧ f.t < 4 ∧ (f.h = 1 ∨ f.h = -1)
theorem Fm.Ok.comp {f g : Fm} (hf : f.Ok) (hg : g.Ok) : (f.comp g).Ok := by
  refine ⟨(tb_range _ _ _).1, (tb_range _ _ _).2, ?_⟩
  show f.h * g.h = 1 ∨ f.h * g.h = -1
  rcases hf.2.2 with e | e <;> rcases hg.2.2 with e' | e' <;> rw [e, e'] <;> simp
def pw (f : Fm) : Nat → Fm
  | 0 => Fm.one
  | n + 1 => f.comp (pw f n)
def Fm.Good (f : Fm) (B : Nat) : Prop := GoodF f.px f.py f.t f.h f.s B
theorem Fm.Good.ok {f : Fm} {B : Nat} (h : f.Good B) : f.Ok := ⟨h.2.2.1, h.2.2.2.1, h.2.2.2.2.1⟩
theorem GoodF.mono {px py s : Rat} {t h : Int} {B C : Nat} (f : GoodF px py t h s B) (l : B ≤ C) : GoodF px py t h s C := ⟨f.1.mono l, f.2.1.mono l, f.2.2.1, f.2.2.2.1, f.2.2.2.2.1, f.2.2.2.2.2.1, f.2.2.2.2.2.2.mono l⟩
theorem ixFm0 {f : Fm} {M : DM} {Q : DQ} : dIxR (FmD f) (.int 0) M Q = Q (PQ f.px f.py) M := rfl
theorem ixFm1 {f : Fm} {M : DM} {Q : DQ} : dIxR (FmD f) (.int 1) M Q = Q (.int f.t) M := rfl
theorem ixFm2 {f : Fm} {M : DM} {Q : DQ} : dIxR (FmD f) (.int 2) M Q = Q (.int f.h) M := rfl
theorem ixFm3 {f : Fm} {M : DM} {Q : DQ} : dIxR (FmD f) (.int 3) M Q = Q (FQ f.s) M := rfl
theorem gU_FmD {f : Fm} {n : Nat} {t : DGs} {ρ : DEnv} {M : DM} {R : DEnv → DM → Prop} : gU n t (FmD f) ρ M R = (([PQ f.px f.py, .int f.t, .int f.h, FQ f.s] : List D).length = n ∧ t [PQ f.px f.py, .int f.t, .int f.h, FQ f.s] ρ M R) := rfl
theorem sLen_FmD {f : Fm} {M : DM} {Q : DQ} : sLen [FmD f] M Q = Q (.int 4) M := rfl
theorem Fm.Good.mono {f : Fm} {B C : Nat} (h : f.Good B) (l : B ≤ C) : f.Good C := GoodF.mono h l
end Dd

set_option Elab.async false
set_option linter.all false
set_option maxRecDepth 100000
set_option maxHeartbeats 4000000
namespace Dd
open PySem PySem.Spec PyProof.Rows L2 Mz
def Alls (R : D → D → Prop) : List D → List D → Prop
  | [], [] => True
  | x :: xs, y :: ys => R x y ∧ Alls R xs ys
  | _, _ => False
def sameN : Nat → DM → D → D → Prop
  | 0, _, d, d' => pureN 0 d = true ∧ pureN 0 d' = true ∧ eqD d d' = true
  | n + 1, M, d, d' => (pureN (n + 1) d = true ∧ pureN (n + 1) d' = true ∧ eqD d d' = true) ∨ (∃ xs ys, d = .tup xs ∧ d' = .tup ys ∧ Alls (sameN n M) xs ys) ∨
    ∃ a b xs ys, d = .ref a ∧ d' = .ref b ∧ M a = some xs ∧ M b = some ys ∧ Alls (sameN n M) xs ys
section
variable {X : Cx} {pins : List (Addr × Obj)} {σ : L2.St} {H : Hp} {s : Shared} {M : DM}
def dSame (g : Bool → Bool) : D2 := fun x y M Q => sameN 60 M x y ∧ Q (.bl (g true)) M
end
def dInT (g : Bool → Bool) : D2 := fun x y M Q => match x, y with
  | .int k, .tup ys => ∃ ns : List Int, ys = ns.map D.int ∧ Q (.bl (g (ns.any (· == k)))) M
  | .str k, .tup ys => ∃ ns : List Str, ys = ns.map D.str ∧ Q (.bl (g (ns.any (· == k)))) M
  | _, _ => False
section
variable {X : Cx}
end
end Dd

set_option Elab.async false
set_option linter.all false
set_option maxRecDepth 100000
set_option maxHeartbeats 4000000
namespace L2
open PySem PySem.Spec PyProof.Rows
section
variable {prog : Program} {w : World} {A : Around} {R : Result → Shared → Prop} {s : Shared}
end
end L2
namespace Dd
open PySem PySem.Spec PyProof.Rows L2
def dItCI (at' : Option Addr) (ds : List D) (ρ0 : DEnv) (g : DG) (tc : DT) (te : DE) (M : DM) (Q : DQ) : Prop := ds.length ≤ 1000 ∧ ∃ Pv : Nat → List D → DM → Prop, Pv 0 [] M ∧
  (∀ i ys M, i ≤ ds.length → Pv i ys M → ∀ a, at' = some a → M a = some ds) ∧
  (∀ i d ys M, ds[i]? = some d → Pv i ys M → g d ρ0 M fun ρ2 M2 => tc ρ2 M2 fun b M2' => if b = true then te ρ2 M2' fun y M3 => Pv (i + 1) (ys ++ [y]) M3 else Pv (i + 1) ys M2') ∧
  ∀ ys M, ys.length ≤ ds.length → Pv ds.length ys M → ∀ p : Addr, M p = none → Q (.ref p) (putM M p ys)
def dRngCI (lo : Int) (n : Nat) (ρ0 : DEnv) (g : DG) (tc : DT) (te : DE) (M : DM) (Q : DQ) : Prop := n ≤ 1000 ∧ ∃ Pv : Nat → List D → DM → Prop, Pv 0 [] M ∧
  (∀ (i : Nat) ys M, i < n → Pv i ys M → g (.int (lo + i)) ρ0 M fun ρ2 M2 => tc ρ2 M2 fun b M2' => if b = true then te ρ2 M2' fun y M3 => Pv (i + 1) (ys ++ [y]) M3 else Pv (i + 1) ys M2') ∧
  ∀ ys M, ys.length ≤ n → Pv n ys M → ∀ p : Addr, M p = none → Q (.ref p) (putM M p ys)
def dLcIL (tl : DE) (fr : List (Option Nat)) (g : DG) (tc : DT) (te : DE) : DE := fun ρ M Q => tl ρ M fun d M1 => match d with
  | .fz ds => dItCI none ds (rho0 fr ρ) g tc te M1 Q
  | .ref a => ∃ ds, M1 a = some ds ∧ dItCI (some a) ds (rho0 fr ρ) g tc te M1 Q
  | _ => False
def dLcIT (tl : DE) (fr : List (Option Nat)) (g : DG) (tc : DT) (te : DE) : DE := fun ρ M Q => tl ρ M fun d M1 => match d with
  | .tup ds => dItCI none ds (rho0 fr ρ) g tc te M1 Q
  | _ => False
def dLcI1 (ta : DA) (fr : List (Option Nat)) (g : DG) (tc : DT) (te : DE) : DE := fun ρ M Q => ta ρ M fun ds M1 => match ds with
  | [.int j] => (-(2 ^ 62) ≤ j ∧ j < 2 ^ 62) ∧ dRngCI 0 j.toNat (rho0 fr ρ) g tc te M1 Q
  | _ => False
section
variable {X : Cx} {g : DG} {tc : DT} {te : DE}
variable {elt iter tg cnd : Expr} {scope : Scope} {pos : Pos} {N' : List Str} {fr : List (Option Nat)} {tl : DE} {ta : DA} {oN : List Str} {osc : Scope}
end
end Dd

set_option Elab.async false
set_option linter.all false
set_option maxRecDepth 100000
set_option maxHeartbeats 4000000
namespace Dd
open PySem PySem.Spec PyProof.Rows L2 Mz
section
variable {X : Cx} {o e f : Expr} {to te tf : DE}
def dInsert (to te tf : DE) : DE := fun ρ M Q => to ρ M fun x M1 => match x with
  | .ref p => (∃ ds, M1 p = some ds) ∧ dCons te (dCons tf dNil) ρ M1 fun ys M2 => ∃ ds i y, ys = [.int ((i : Nat) : Int), y] ∧ M2 p = some ds ∧ i ≤ ds.length ∧ ds.length < 1000 ∧ Q .non (putM M2 p (ds.take i ++ y :: ds.drop i))
  | _ => False
end
def dInP (g : Bool → Bool) : D2 := fun x y M Q => match y with
  | .ref a => ∃ (pts : List (Rat × Rat)) (u v : Rat), x = PQ u v ∧ M a = some (pts.map fun p => PQ p.1 p.2) ∧ Q (.bl (g (pts.any fun p => decide (p.1 = u ∧ p.2 = v)))) M
  | _ => False
section
variable {X : Cx} {pins : List (Addr × Obj)} {σ : L2.St} {H : Hp} {s : Shared}
end
section
variable {X : Cx} {o : Expr} {to : DE}
def dPop (to : DE) : DE := fun ρ M Q => to ρ M fun x M1 => match x with
  | .ref p => ∃ ds y, M1 p = some ds ∧ ds[ds.length - 1]? = some y ∧ Q y (putM M1 p ds.dropLast)
  | _ => False
end
end Dd

set_option Elab.async false
set_option linter.all false
set_option maxRecDepth 100000
set_option maxHeartbeats 4000000
namespace Dd
open PySem PySem.Spec PyProof.Rows L2
section
variable {X : Cx} {g : DG} {tc : DT} {te : DE}
variable {elt iter tg cnd : Expr} {scope : Scope} {pos : Pos} {N' : List Str} {fr : List (Option Nat)} {tl : DE} {ta : DA} {oN : List Str} {osc : Scope}
end
section
variable {X : Cx} {o e f : Expr} {to te tf : DE}
end
section
variable {X : Cx} {pins : List (Addr × Obj)} {σ : L2.St} {H : Hp} {s : Shared}
end
section
variable {X : Cx} {o : Expr} {to : DE}
end
end Dd

set_option Elab.async false
set_option linter.all false
set_option maxRecDepth 100000
set_option maxHeartbeats 1000000

namespace Dd
open PySem PySem.Spec PyProof.Rows L2

section
variable {P : Program} {w : World} {K : PySem.W.Frag} {mg : Str → Option Value} {base : Heap}
def HasE (P : Program) (w : World) (K : PySem.W.Frag) (mg : Str → Option Value) (base : Heap) (k : Nat) (x : Str) (C : Addr) (sp : Addr → DM → DQ → Prop) : Prop :=
  ∃ f, mg x = some (.ref f) ∧ PySem.W.keepIn K (.ref f) = true ∧
    ∀ (A : Around) (outer : List Env) (s : Shared) (H : Hp) (a : Addr) (o : Obj) (M : DM) (Q : DQ) (E : XK), Room k A → Env0 P w K mg base A outer s H → s.heap.get? a = some o → H a = none → a ∉ frs outer → (∀ v, o.data ≠ .cell v) → ExO o C →
      HRep K M H → sp a M Q → codeAny (model P w) (A.mark (some (.ref a))) (.call (.ref f) ⟨[.ref a], []⟩) (CR CX0 outer P w H s (LQ K H Q) E) s
theorem HasE.mk {x p : Str} {C : Addr} {st : Stmt} {N : List Str} {k : Nat} {sp : Addr → DM → DQ → Prop} (h : HasF K mg x st [p]) (S : FnScope N [p] (defScope st))
    (hbody : ∀ (f : Addr) (cdv : Value) (A : Around) (outer : List Env) (s : Shared) (H : Hp) (a : Addr) (o : Obj) (M : DM) (Q : DQ) (E : XK), ExO o C → sp a M Q →
      ∃ t, ZSs (Exc (cxOf CX0 P w K mg base N x (defScope st) f cdv A outer s H E).nox a o) (defBody st) t ∧ t { nx := fun _ M' => Dn Q .non M', rt := Dn Q } (startD N [.ref a]) M) : HasE P w K mg base (k + 1) x C sp := by
  obtain ⟨f, fd, F, hm, hb⟩ := h
  refine ⟨f, hm, F.kp, fun A outer s H a o M Q E hr e0 ha hHa hfr hnc ho hM hsp => ?_⟩
  obtain ⟨oc, od, kV, doc, pm, an, cdv, ct, osl, rfl, lk, hcd⟩ := F.ex
  have KX : K.In s.heap := e0.mod.kin.keeps fun b o e => (e0.bs b o e).1
  have lim : s.heap.NoLimit := e0.mod.nolimit.keeps fun b o e => (e0.bs b o e).1
  have hbb := hb s [.ref a] KX rfl
  have hkind : ∀ y ∈ [p].zip [Value.ref a], (defScope st).names.lookup y.1 = some .local ∨ ((defScope st).names.lookup y.1 = some .cell ∧ ((cellsFrom (s.heap.objs.size + 1) (defScope st).names []).lookup y.1).isSome = true) := fun ⟨n, v⟩ hy => by
    rcases S.par n (List.of_mem_zip hy).1 with q | q
    · exact .inl q
    · exact .inr ⟨q, PySem.W.cellsFrom_some _ _ _ (.inl q)⟩
  refine codeAny_call_function (A := A.mark (some (.ref a))) hr.depth (KX _ _ lk) rfl S.co S.gen rfl (PySem.W.codeRec_of KX hcd) (hbb _ _ _ _ ?_)
  refine wpAny_newFunctionEnv_cells S.kind hkind fun env he s1 x1 => ?_
  subst he
  refine ⟨lim.keeps x1.toInCall.keep, codeAny_func ?_⟩
  obtain ⟨t, ht, hq⟩ := hbody f cdv A outer s H a o M Q E ho hsp
  have rv : Vals [V.ref a] [Value.ref a] := .cons rfl .nil
  have I0 : Inv (cxOf CX0 P w K mg base N x (defScope st) f cdv A outer s H E) [] (L2.start N [.ref a]) H s1 := inv_start S hr.hd e0 rfl rv x1
  have I1 : Inv (cxOf CX0 P w K mg base N x (defScope st) f cdv A outer s H E).nox [] (L2.start N [.ref a]) H s1 := ⟨⟨I0.ok.mod, I0.ok.kind, I0.ok.glob, I0.ok.blt, I0.ok.above, I0.ok.inj, I0.ok.has, I0.ok.cab, I0.ok.hd, I0.ok.frames, I0.ok.stk, I0.ok.exf, I0.ok.bs, I0.ok.bsz, I0.ok.noex, I0.ok.exfs, I0.ok.funs, I0.ok.frf⟩, I0.os, I0.bare, I0.base, I0.loc, I0.cell, I0.free, I0.freeC, I0.pin, I0.hok, I0.len⟩
  have I2 := exc_in (a := a) (o := o) I1 (x1.toInCall.keep _ _ ha) hHa (Nat.ne_of_lt (Heap.lt_size ha)) hfr hnc
  have rs : Reps K H [D.ref a] [V.ref a] := reps_cons rep_ref reps_nil
  have fin : ∀ v H', LQ K H (Dn Q) v H' → LQ K H Q v H' := fun v H' ⟨d, M1, rd, hm1, ex, M2, sub, q2⟩ => ⟨d, M2, rd, hm1.sub sub, ex, q2⟩
  have run := ht.o [] s1 (L2.start N [.ref a]) H { nx := fun _ H' => LQ K H Q .non H', rt := LQ K H Q } I2 ⟨startD N [.ref a], M, _, reps_start rs N, hM, hq, ⟨fun σ' H' ⟨ρ', M', _, hm', ex, q'⟩ => fin _ H' ⟨.non, M', rep_non, hm', ex, q'⟩, fin, fun σ' H' ⟨_, _, _, _, _, z⟩ => z.elim, fun σ' H' ⟨_, _, _, _, _, z⟩ => z.elim⟩⟩
  refine wpAny_mono run (fun fl s' hs => ?_) fun e s' hs => hs.elim
  have done : ∀ {σ' : L2.St} {H' : Hp} {v : V} {u : Value}, Inv (Exc (cxOf CX0 P w K mg base N x (defScope st) f cdv A outer s H E).nox a o) [] σ' H' s' → RelV v u → LQ K H Q v H' → CE outer P w H s (LQ K H Q) u s' :=
    fun {σ' H' v u} J rv q => ⟨v, H', J.os, J.bare, J.base, J.hok, rv, q⟩
  cases fl with
  | ret u =>
    obtain ⟨v, σ', H', J, rv, q⟩ := hs
    exact done J rv q
  | next =>
    obtain ⟨σ', H', J, q⟩ := hs
    exact done (v := V.non) (u := Value.none) J rfl q
  | brk =>
    obtain ⟨_, _, _, q⟩ := hs
    exact False.elim q
  | cont =>
    obtain ⟨_, _, _, q⟩ := hs
    exact False.elim q
end
def dCallE (sp : Addr → DM → DQ → Prop) (j : Nat) (a : Addr) : DE := fun ρ M Q => ρ[j]? = some (some (.ref a)) ∧ sp a M Q
section
variable {X : Cx} {n x : Str} {C a : Addr} {o : Obj} {p p1 pos : Pos} {j k k' : Nat} {sp : Addr → DM → DQ → Prop}
end
end Dd

set_option Elab.async false
set_option linter.all false
set_option maxRecDepth 100000
set_option maxHeartbeats 1000000

namespace Dd
open PySem PySem.Spec PyProof.Rows L2

def lexG (a b c d : Int) : Bool := if a = c then (if b = d then false else decide (b > d)) else decide (a > c)
section
open PySem.SeqAt
open PySem.AutoSeq1 (wpAny_loadPart')
open PySem.MeetsSeq PySem.MeetsSeq2 PySem.MeetsSeq3
end
section
variable {prog : Program} {w : World} {A : Around} {E : Value → Shared → Prop} {s : Shared}
end
def dGtT : D2 := fun x y M Q => match x, y with
  | .tup [.int a, .int b], .tup [.int c, .int d] => Q (.bl (lexG a b c d)) M
  | _, _ => False
section
variable {X : Cx} {j : Nat}
end
end Dd


namespace Dd
open PySem
theorem us0 {us : List Value} (h : us.length = 0) : us = [] := List.length_eq_zero_iff.mp h
theorem us1 {us : List Value} (h : us.length = 1) : ∃ a, us = [a] := List.length_eq_one_iff.mp h
theorem us2 {us : List Value} (h : us.length = 2) : ∃ a b, us = [a, b] := by
  cases us with
  | nil => cases h
  | cons a r => obtain ⟨b, rfl⟩ := us1 (us := r) (Nat.succ.inj h); exact ⟨a, b, rfl⟩
theorem us3 {us : List Value} (h : us.length = 3) : ∃ a b c, us = [a, b, c] := by
  cases us with
  | nil => cases h
  | cons a r => obtain ⟨b, c, rfl⟩ := us2 (us := r) (Nat.succ.inj h); exact ⟨a, b, c, rfl⟩
end Dd

set_option Elab.async false
set_option linter.all false
set_option maxRecDepth 100000
set_option maxHeartbeats 4000000
namespace Dd
open PySem PySem.Spec PyProof.Rows L2

noncomputable instance decD : DecidableEq D := fun a b => Classical.propDecidable (a = b)
def keyN : Nat → D → Bool
  | _, .int _ => true
  | _, .str _ => true
  | n + 1, .tup ds => ds.all (keyN n)
  | _, _ => false
mutual
def hashK (w : World) : D → Int
  | .int i => keyH w (.inl i)
  | .str x => keyH w (.inr x)
  | .tup ds => reduceHash (Builtin.Tuple.tupleHashOf (hashKs w ds))
  | _ => 0
def hashKs (w : World) : List D → List Int
  | [] => []
  | d :: ds => hashK w d :: hashKs w ds
end
mutual
def drawsK : D → Nat
  | .tup ds => drawsKs ds + 1
  | _ => 1
def drawsKs : List D → Nat
  | [] => 0
  | d :: ds => drawsK d + drawsKs ds
end
mutual
def IsK (h : Heap) : D → Value → Prop
  | .int i, v => ∃ t, v = .int i t
  | .str x, v => ∃ t, v = .str x t
  | .tup ds, v => ∃ a its, v = .ref a ∧ IsTup h a its ∧ IsKs h ds its.toList
  | _, _ => False
def IsKs (h : Heap) : List D → List Value → Prop
  | [], vs => vs = []
  | d :: ds, vs => ∃ v r, vs = v :: r ∧ IsK h d v ∧ IsKs h ds r
end
theorem isKs_nil {h : Heap} {vs : List Value} (x : IsKs h [] vs) : vs = [] := by unfold IsKs at x; exact x
theorem isKs_cons {h : Heap} {d : D} {ds : List D} {vs : List Value} (x : IsKs h (d :: ds) vs) : ∃ v r, vs = v :: r ∧ IsK h d v ∧ IsKs h ds r := by unfold IsKs at x; exact x
theorem isK_tup {h : Heap} {ds : List D} {v : Value} (x : IsK h (.tup ds) v) : ∃ a its, v = .ref a ∧ IsTup h a its ∧ IsKs h ds its.toList := by unfold IsK at x; exact x
theorem isK_int {h : Heap} {i : Int} {v : Value} (x : IsK h (.int i) v) : ∃ t, v = .int i t := by unfold IsK at x; exact x
theorem isK_str {h : Heap} {i : Str} {v : Value} (x : IsK h (.str i) v) : ∃ t, v = .str i t := by unfold IsK at x; exact x
theorem keyN_tup {n : Nat} {ds : List D} (h : keyN n (.tup ds) = true) : ∃ m, n = m + 1 ∧ ds.all (keyN m) = true := by
  cases n with
  | zero => exact absurd h Bool.false_ne_true
  | succ m => exact ⟨m, rfl, h⟩
theorem hashKs_map (w : World) : ∀ ds : List D, hashKs w ds = ds.map (hashK w)
  | [] => by unfold hashKs; rfl
  | d :: ds => by unfold hashKs; rw [hashKs_map w ds]; rfl
theorem drawsKs_append (d : D) : ∀ ds : List D, drawsKs (ds ++ [d]) = drawsKs ds + drawsK d
  | [] => by show drawsKs [d] = _; unfold drawsKs; unfold drawsKs; omega
  | e :: ds => by show drawsKs (e :: (ds ++ [d])) = _; unfold drawsKs; rw [drawsKs_append d ds]; omega
section
variable {prog : Program} {w : World}
theorem hash_at : ∀ (n : Nat) {A : Around} {E : Value → Shared → Prop} {s : Shared} {d : D} {v : Value} {Q : Int → Shared → Prop}, keyN n d = true → A.units + n < cLine → IsK s.heap d v →
    Q (hashK w d) { s with toks := s.toks + drawsK d } → wpAny (model prog w) A (pyHash v) Q E s := by
  intro n
  induction n with
  | zero =>
    intro A E s d v Q hk hu hi q
    cases d with
    | int i => obtain ⟨t, rfl⟩ := isK_int hi; exact wpAny_pyHash_int q
    | str i => obtain ⟨t, rfl⟩ := isK_str hi; exact wpAny_pyHash_str q
    | _ => exact absurd hk Bool.false_ne_true
  | succ n ih =>
    intro A E s d v Q hk hu hi q
    cases d with
    | int i => obtain ⟨t, rfl⟩ := isK_int hi; exact wpAny_pyHash_int q
    | str i => obtain ⟨t, rfl⟩ := isK_str hi; exact wpAny_pyHash_str q
    | tup ds =>
      obtain ⟨a, its, rfl, ht, hs⟩ := isK_tup hi
      obtain ⟨o, ho, hc, m, hd⟩ := ht
      have hT : s.TypeIs (.ref a) "tuple" := ⟨o, ho, hc⟩
      unfold pyHash pyHashByItsType
      refine wpAny_bind (wpAny_cRoomFor_or (.inr (by omega)) ?_)
      refine wpAny_bind (wpAny_specialOf hT F.slot_tuple_hash.lookup ?_)
      show wpAny _ _ (if (some (Value.builtin "tuple.__hash__") == some Value.none) = true then _ else _) Q E s
      rw [if_neg (by rw [beq_builtin_none]; exact Bool.false_ne_true)]
      refine wpAny_bind (wpAny_specialOf hT F.slot_tuple_hash.lookup ?_)
      show wpAny _ _ (callSpecialIfBoundUnlessNone? (.ref a) "__hash__" _ >>= _) Q E s
      refine wpAny_bind (wpAny_callSpecialIfBoundUnlessNone?_slot hT F.slot_tuple_hash (wpAny_call_entry F.slot_tuple_hash hT F.entry_tuple_hash ?_ (F.args_tuple_hash_1 _)))
      obtain ⟨n', en, hk⟩ := keyN_tup hk
      cases en
      show wpAny _ _ (Builtin.Tuple.tupleItemsOf (.ref a) >>= _) _ _ s
      refine wpAny_bind (wpAny_tupleItemsOf ho hd ?_)
      refine wpAny_bind ?_
      rw [← Array.forIn_toList]
      refine wpAny_forIn_list _ (fun rest (b : Array Int) s' => ∃ done left, ds = done ++ left ∧ IsKs s.heap left rest ∧ b.toList = hashKs w done ∧ s' = { s with toks := s.toks + drawsKs done }) _ ?_ ?_ _ _ ⟨[], ds, rfl, hs, by unfold hashKs; rfl, by unfold drawsKs; rfl⟩
      · rintro x rest b s' ⟨done, left, e1, hl, hb, rfl⟩
        cases left with
        | nil => exact nomatch isKs_nil hl
        | cons d1 left =>
          obtain ⟨x', r', e2, h1, hl⟩ := isKs_cons hl
          cases e2
          have hk1 : keyN n d1 = true := List.all_eq_true.mp hk d1 (by rw [e1]; exact List.mem_append_right _ List.mem_cons_self)
          refine wpAny_bind (ih (s := { s with toks := s.toks + drawsKs done }) hk1 (by show A.units + 1 + n < cLine; omega) h1 ?_)
          refine wpAny_pure ⟨done ++ [d1], left, by rw [e1, List.append_assoc]; rfl, hl, ?_, ?_⟩
          · rw [hashKs_map, List.map_append, ← hashKs_map, ← hb]; simp
          · rw [drawsKs_append, Nat.add_assoc]
      · rintro b s' ⟨done, left, e1, hl, hb, rfl⟩
        have : left = [] := by
          cases left with
          | nil => rfl
          | cons d1 left => obtain ⟨_, _, z, _⟩ := isKs_cons hl; exact nomatch z
        subst this
        rw [List.append_nil] at e1
        subst e1
        show wpAny _ _ (retInt (Builtin.Tuple.tupleHashOf b.toList)) _ _ _
        rw [hb]
        refine wpAny_ret_mkInt ?_
        unfold hashK drawsK at q
        generalize Builtin.Tuple.tupleHashOf (hashKs w ds) = z at q ⊢
        show wpAny _ _ (if (decide (-(2 : Int) ^ 63 ≤ z) && decide (z < 2 ^ 63)) = true then _ else _) Q E _
        unfold reduceHash at q
        by_cases hr : (decide (-(2 : Int) ^ 63 ≤ z) && decide (z < 2 ^ 63)) = true
        · rw [if_pos hr] at q ⊢
          exact wpAny_pure (by simpa [Nat.add_assoc] using q)
        · rw [if_neg hr] at q ⊢
          exact wpAny_bind (wpAny_rule (wpAny_pure (by simpa [Nat.add_assoc] using q)))
    | _ => exact absurd hk Bool.false_ne_true
theorem quiet_at : ∀ (n m : Nat) {A : Around} {E : Value → Shared → Prop} {s : Shared} {d : D} {v : Value} {Q : Bool → Shared → Prop}, n ≤ m → keyN n d = true → IsK s.heap d v → Q true s → wpAny (model prog w) A (eqIsQuiet m v) Q E s := by
  intro n
  induction n with
  | zero =>
    intro m A E s d v Q hm hk hi q
    cases d with
    | int i => obtain ⟨t, rfl⟩ := isK_int hi; rw [eqIsQuiet_byValue m rfl]; exact wpAny_pure q
    | str i => obtain ⟨t, rfl⟩ := isK_str hi; rw [eqIsQuiet_byValue m rfl]; exact wpAny_pure q
    | _ => exact absurd hk Bool.false_ne_true
  | succ n ih =>
    intro m A E s d v Q hm hk hi q
    cases d with
    | int i => obtain ⟨t, rfl⟩ := isK_int hi; rw [eqIsQuiet_byValue m rfl]; exact wpAny_pure q
    | str i => obtain ⟨t, rfl⟩ := isK_str hi; rw [eqIsQuiet_byValue m rfl]; exact wpAny_pure q
    | tup ds =>
      obtain ⟨a, its, rfl, ht, hs⟩ := isK_tup hi
      obtain ⟨o, ho, hc, k, hd⟩ := ht
      have hT : s.TypeIs (.ref a) "tuple" := ⟨o, ho, hc⟩
      obtain ⟨n', en, hk⟩ := keyN_tup hk
      cases en
      cases m with
      | zero => omega
      | succ m =>
        unfold eqIsQuiet
        refine wpAny_bind (wpAny_specialOf hT F.slot_tuple_eq.lookup ?_)
        show wpAny _ _ (isInstance (.ref a) (.type "tuple") >>= _) _ _ s
        refine wpAny_bind (wpAny_isInstance hT isSubtype_tuple_tuple ?_)
        simp only [Bool.not_true, Bool.false_eq_true, if_false]
        refine wpAny_bind (wpAny_seqItems ho hd ?_)
        refine wpAny_bind ?_
        show wpAny _ _ (forIn its _ _) _ _ s
        rw [← Array.forIn_toList]
        refine wpAny_forIn_list _ (fun rest r s' => r.1 = none ∧ s' = s ∧ ∃ left, left.all (keyN n) = true ∧ IsKs s.heap left rest) _ ?_ ?_ _ _ ⟨rfl, rfl, ds, hk, hs⟩
        · rintro x rest r s' ⟨hr, rfl, left, hl, hx⟩
          cases left with
          | nil => exact nomatch isKs_nil hx
          | cons d1 left =>
            obtain ⟨x', r', e2, h1, hx⟩ := isKs_cons hx
            cases e2
            rw [List.all_cons, Bool.and_eq_true] at hl
            refine wpAny_bind (ih m (by omega) hl.1 h1 ?_)
            simp only [Bool.not_true, Bool.false_eq_true, if_false]
            exact wpAny_pure ⟨rfl, rfl, left, hl.2, hx⟩
        · rintro ⟨r1, r2⟩ s' ⟨hr, rfl, _⟩
          simp only at hr
          subst hr
          exact wpAny_pure q
    | _ => exact absurd hk Bool.false_ne_true
end
mutual
theorem eqD_key : ∀ {n : Nat} {x y : D}, keyN n x = true → keyN n y = true → eqD x y = decide (x = y)
  | n, .int i, y, h, h' => by
    cases y with
    | int j => simp [eqD]; exact Bool.eq_iff_iff.mpr (by rw [beq_iff_eq, decide_eq_true_eq])
    | str j => simp [eqD]
    | tup j => simp [eqD]
    | _ => cases n <;> exact absurd h' Bool.false_ne_true
  | n, .str i, y, h, h' => by
    cases y with
    | int j => simp [eqD]
    | str j => simp [eqD]; exact Bool.eq_iff_iff.mpr (by rw [beq_iff_eq, decide_eq_true_eq])
    | tup j => simp [eqD]
    | _ => cases n <;> exact absurd h' Bool.false_ne_true
  | n, .tup ds, y, h, h' => by
    obtain ⟨m, rfl, h⟩ := keyN_tup h
    cases y with
    | int j => simp [eqD]
    | str j => simp [eqD]
    | tup es =>
      have := eqDs_key h h'
      show eqDs ds es = _
      rw [this]
      simp
    | _ => exact absurd h' Bool.false_ne_true
  | n, .non, y, h, h' => by cases n <;> exact absurd h Bool.false_ne_true
  | n, .bl _, y, h, h' => by cases n <;> exact absurd h Bool.false_ne_true
  | n, .fz _, y, h, h' => by cases n <;> exact absurd h Bool.false_ne_true
  | n, .ref _, y, h, h' => by cases n <;> exact absurd h Bool.false_ne_true
theorem eqDs_key : ∀ {n : Nat} {xs ys : List D}, xs.all (keyN n) = true → ys.all (keyN n) = true → eqDs xs ys = decide (xs = ys)
  | n, [], ys, h, h' => by cases ys <;> simp [eqDs]
  | n, x :: xs, ys, h, h' => by
    cases ys with
    | nil => simp [eqDs]
    | cons y ys =>
      rw [List.all_cons, Bool.and_eq_true] at h h'
      show (eqD x y && eqDs xs ys) = _
      rw [eqD_key h.1 h'.1, eqDs_key h.2 h'.2]
      by_cases e1 : x = y <;> by_cases e2 : xs = ys <;> simp [e1, e2]
end
mutual
theorem IsK.inj {h : Heap} : ∀ {x y : D} {v : Value}, IsK h x v → IsK h y v → x = y
  | .int i, y, v, a, b => by
    obtain ⟨t, rfl⟩ := isK_int a
    cases y with
    | int j => obtain ⟨t, e⟩ := isK_int b; cases e; rfl
    | str j => obtain ⟨t, e⟩ := isK_str b; exact nomatch e
    | tup j => obtain ⟨_, _, e, _⟩ := isK_tup b; exact nomatch e
    | _ => unfold IsK at b; exact b.elim
  | .str i, y, v, a, b => by
    obtain ⟨t, rfl⟩ := isK_str a
    cases y with
    | int j => obtain ⟨t, e⟩ := isK_int b; exact nomatch e
    | str j => obtain ⟨t, e⟩ := isK_str b; cases e; rfl
    | tup j => obtain ⟨_, _, e, _⟩ := isK_tup b; exact nomatch e
    | _ => unfold IsK at b; exact b.elim
  | .tup ds, y, v, a, b => by
    obtain ⟨p, its, rfl, ht, hs⟩ := isK_tup a
    cases y with
    | int j => obtain ⟨t, e⟩ := isK_int b; exact nomatch e
    | str j => obtain ⟨t, e⟩ := isK_str b; exact nomatch e
    | tup es =>
      obtain ⟨q, its', e, ht', hs'⟩ := isK_tup b
      cases e
      obtain ⟨o, ho, _, _, hd⟩ := ht
      obtain ⟨o', ho', _, _, hd'⟩ := ht'
      rw [ho] at ho'
      cases ho'
      rw [hd] at hd'
      cases hd'
      rw [IsKs.inj hs hs']
    | _ => unfold IsK at b; exact b.elim
  | .non, y, v, a, b => by unfold IsK at a; exact a.elim
  | .bl _, y, v, a, b => by unfold IsK at a; exact a.elim
  | .fz _, y, v, a, b => by unfold IsK at a; exact a.elim
  | .ref _, y, v, a, b => by unfold IsK at a; exact a.elim
theorem IsKs.inj {h : Heap} : ∀ {xs ys : List D} {vs : List Value}, IsKs h xs vs → IsKs h ys vs → xs = ys
  | [], ys, vs, a, b => by
    cases ys with
    | nil => rfl
    | cons y ys => obtain ⟨_, _, e, _⟩ := isKs_cons b; rw [isKs_nil a] at e; exact nomatch e
  | x :: xs, ys, vs, a, b => by
    obtain ⟨v, r, rfl, a1, a2⟩ := isKs_cons a
    cases ys with
    | nil => exact nomatch isKs_nil b
    | cons y ys =>
      obtain ⟨v', r', e, b1, b2⟩ := isKs_cons b
      cases e
      rw [IsK.inj a1 b1, IsKs.inj a2 b2]
end
mutual
theorem IsK.keep {h h' : Heap} (k : ∀ a its, IsTup h a its → IsTup h' a its) : ∀ {x : D} {v : Value}, IsK h x v → IsK h' x v
  | .int _, _, a => by unfold IsK at a ⊢; exact a
  | .str _, _, a => by unfold IsK at a ⊢; exact a
  | .tup ds, _, a => by
    obtain ⟨p, its, rfl, ht, hs⟩ := isK_tup a
    unfold IsK
    exact ⟨p, its, rfl, k p its ht, IsKs.keep k hs⟩
  | .non, _, a => by unfold IsK at a; exact a.elim
  | .bl _, _, a => by unfold IsK at a; exact a.elim
  | .fz _, _, a => by unfold IsK at a; exact a.elim
  | .ref _, _, a => by unfold IsK at a; exact a.elim
theorem IsKs.keep {h h' : Heap} (k : ∀ a its, IsTup h a its → IsTup h' a its) : ∀ {xs : List D} {vs : List Value}, IsKs h xs vs → IsKs h' xs vs
  | [], _, a => by unfold IsKs at a ⊢; exact a
  | x :: xs, _, a => by
    obtain ⟨v, r, rfl, a1, a2⟩ := isKs_cons a
    unfold IsKs
    exact ⟨v, r, rfl, a1.keep k, IsKs.keep k a2⟩
end
theorem eqK_items {A : Around} {s : Shared} {n : Nat} (ih : ∀ {d d' : D} {u u' : Value}, keyN n d = true → keyN n d' = true → IsK s.heap d u → IsK s.heap d' u' → SeqAt.EqAt A s u u' (eqD d d')) :
    ∀ {xs ys : List D} {its its' : List Value}, xs.all (keyN n) = true → ys.all (keyN n) = true → IsKs s.heap xs its → IsKs s.heap ys its' → ∀ j (h1 : j < its.length) (h2 : j < its'.length), SeqAt.EqAt A s its[j] its'[j] (pairE xs ys j)
  | [], ys, its, its', _, _, r1, _, j, h1, _ => by rw [isKs_nil r1] at h1; exact absurd h1 (Nat.not_lt_zero _)
  | _ :: _, [], its, its', _, _, _, r2, j, _, h2 => by rw [isKs_nil r2] at h2; exact absurd h2 (Nat.not_lt_zero _)
  | x :: xs, y :: ys, its, its', p1, p2, r1, r2, j, h1, h2 => by
    obtain ⟨a, ra, rfl, ha, hra⟩ := isKs_cons r1
    obtain ⟨b, rb, rfl, hb, hrb⟩ := isKs_cons r2
    rw [List.all_cons, Bool.and_eq_true] at p1 p2
    cases j with
    | zero => exact ih p1.1 p2.1 ha hb
    | succ j => exact eqK_items ih p1.2 p2.2 hra hrb j (Nat.lt_of_succ_lt_succ h1) (Nat.lt_of_succ_lt_succ h2)
theorem IsKs.length {h : Heap} : ∀ {xs : List D} {vs : List Value}, IsKs h xs vs → xs.length = vs.length
  | [], _, a => by rw [isKs_nil a]; rfl
  | x :: xs, _, a => by
    obtain ⟨v, r, rfl, _, a2⟩ := isKs_cons a
    rw [List.length_cons, List.length_cons, IsKs.length a2]
theorem eqK_at : ∀ (n : Nat) {A : Around} {s : Shared} {d d' : D} {u u' : Value}, A.units + n < cLine → keyN n d = true → keyN n d' = true → IsK s.heap d u → IsK s.heap d' u' → SeqAt.EqAt A s u u' (eqD d d') := by
  intro n
  induction n with
  | zero =>
    intro A s d d' u u' hu p p' r r'
    cases d with
    | int i =>
      obtain ⟨t, rfl⟩ := isK_int r
      cases d' with
      | int j => obtain ⟨t', rfl⟩ := isK_int r'; exact SeqAt.EqAt.int_int i t j t'
      | str j => obtain ⟨t', rfl⟩ := isK_str r'; exact SeqAt.EqAt.int_str i t j t'
      | _ => exact absurd p' Bool.false_ne_true
    | str i =>
      obtain ⟨t, rfl⟩ := isK_str r
      cases d' with
      | int j => obtain ⟨t', rfl⟩ := isK_int r'; exact SeqAt.EqAt.str_int i t j t'
      | str j => obtain ⟨t', rfl⟩ := isK_str r'; exact SeqAt.EqAt.str_str i t j t'
      | _ => exact absurd p' Bool.false_ne_true
    | _ => exact absurd p Bool.false_ne_true
  | succ n ih =>
    intro A s d d' u u' hu p p' r r'
    cases d with
    | int i =>
      obtain ⟨t, rfl⟩ := isK_int r
      cases d' with
      | int j => obtain ⟨t', rfl⟩ := isK_int r'; exact SeqAt.EqAt.int_int i t j t'
      | str j => obtain ⟨t', rfl⟩ := isK_str r'; exact SeqAt.EqAt.int_str i t j t'
      | tup j => obtain ⟨b, its, rfl, ht, _⟩ := isK_tup r'; exact SeqAt.EqAt.int_tuple i t ht (by omega)
      | _ => exact absurd p' Bool.false_ne_true
    | str i =>
      obtain ⟨t, rfl⟩ := isK_str r
      cases d' with
      | int j => obtain ⟨t', rfl⟩ := isK_int r'; exact SeqAt.EqAt.str_int i t j t'
      | str j => obtain ⟨t', rfl⟩ := isK_str r'; exact SeqAt.EqAt.str_str i t j t'
      | tup j => obtain ⟨b, its, rfl, ht, _⟩ := isK_tup r'; exact SeqAt.EqAt.str_tuple i t ht (by omega)
      | _ => exact absurd p' Bool.false_ne_true
    | tup xs =>
      have r0 := r
      obtain ⟨a, its, rfl, ht, hs⟩ := isK_tup r
      cases d' with
      | int j => obtain ⟨t', rfl⟩ := isK_int r'; exact SeqAt.EqAt.tuple_int j t' ht (by omega)
      | str j => obtain ⟨t', rfl⟩ := isK_str r'; exact SeqAt.EqAt.tuple_str j t' ht (by omega)
      | tup ys =>
        have r0' := r'
        obtain ⟨a', its', rfl, ht', hs'⟩ := isK_tup r'
        by_cases hll : a = a'
        · subst hll
          rw [eqD_key p p', decide_eq_true (r0.inj r0')]
          exact SeqAt.EqAt.same _
        · have e1 := hs.length
          have e2 := hs'.length
          show SeqAt.EqAt A s (.ref a) (.ref a') (eqDs xs ys)
          rw [eqDs_pairs, show xs.length = its.size by simpa using e1, show ys.length = its'.size by simpa using e2]
          refine SeqAt.EqAt.of_refs hll (SeqAt.RcAt.tuples ht ht' (by omega) fun j j1 j2 => ?_)
          have hu' : A.in1.units + n < cLine := by show A.units + 1 + n < cLine; omega
          have := eqK_items (A := A.in1) (s := s) (fun {d d' u u'} p p' r r' => ih hu' p p' r r') p p' hs hs' j (by simpa using j1) (by simpa using j2)
          simpa using this
      | _ => exact absurd p' Bool.false_ne_true
    | _ => exact absurd p Bool.false_ne_true
noncomputable def tupK (prog : Program) (w : World) : HeapKind prog w D where
  is := fun h k a => keyN 6 k = true ∧ IsK h k (.ref a)
  hash := hashK w
  draws := drawsK
  room := fun A => A.units + 6 < cLine
  inj := fun x y => x.2.inj y.2
  keeps := fun x ho hd hs => ⟨x.1, x.2.keep fun a its ⟨o, h1, h2, n, h3⟩ => ⟨o, (hs.2 a (fun e => by subst e; rw [h1] at ho; cases ho; rw [h3] at hd; exact nomatch hd)).trans h1, h2, n, h3⟩⟩
  pyHash := fun hu hk h => hash_at 6 hk.1 hu hk.2 h
  eqBool := fun hu hx hy h => eqK_at 6 hu hx.1 hy.1 hx.2 hy.2 _ _ _ _ (by rw [eqD_key hx.1 hy.1]; exact h)
  quiet := fun hk h => quiet_at 6 8 (by decide) hk.1 hk.2 h
end Dd

set_option Elab.async false
set_option linter.all false
set_option maxRecDepth 100000
set_option maxHeartbeats 4000000
namespace Dd
open PySem PySem.Spec PyProof.Rows L2
def RawD (h : Heap) (d : Addr) (es : Array DictEntry) (ep : Nat) : Prop := h.get? d = some { cls := .type "dict", data := .dict es ep }
section
variable {prog : Program} {w : World} {A : Around} {E : Value → Shared → Prop} {s : Shared} {it d : Addr} {i ep : Nat} {es : Array DictEntry}
theorem raw_next {Q : Option Value → Shared → Prop} (hi : i < es.size) (ht : s.heap.IsKeyIter it d i es.size ep) (hm : RawD s.heap d es ep)
    (hQ : ∀ h', h'.IsKeyIter it d (i + 1) es.size ep → Heap.SameBut it s.heap h' → Q (some es[i].key) { s with heap := h' }) : wpAny (model prog w) A (pyNext (.ref it)) Q E s := by
  have hT := ht.typeIs
  obtain ⟨⟨c, di, dt, sl⟩, ho, hc, hd⟩ := id ht
  cases hc
  cases hd
  have nm : ((Manifest.find? "dict_keyiterator").elim "dict_keyiterator" fun x => x.tpName) = "dict_keyiterator" := by rw [find?_eq_fast]; kernel_rfl
  have ow : Builtin.Dict_items.ownsTuple "dict_keyiterator" = false := by decide
  unfold pyNext
  refine wpAny_bind (wpAny_attempt (wpAny_callSpecial?_slot hT F.slot_dict_keyiterator_next (wpAny_call_entry F.slot_dict_keyiterator_next hT F.entry_dict_keyiterator_next ?_ (F.args_dict_keyiterator_next_1 _))))
  wp_walk
  have ei : (if (i : Int) < 0 then none else es[(i : Int).toNat]?) = some es[i] := by rw [if_neg (by omega), Int.toNat_natCast]; exact Array.getElem?_eq_getElem hi
  rw [ei]
  dsimp only
  wp_walk
  refine ⟨_, rfl, wpAny_pure (hQ _ ?_ (Heap.SameBut.update ..))⟩
  refine ⟨_, Heap.get?_update_self _ ho rfl, rfl, ?_⟩
  rw [nm, ow, if_neg (by decide), if_neg (by decide)]
  rfl
theorem raw_end {Q : Option Value → Shared → Prop} (hh : A.handled = none) (ht : s.heap.IsKeyIter it d es.size es.size ep) (hm : RawD s.heap d es ep)
    (hQ : ∀ h', Heap.ExtBut it s.heap h' → Q none { s with heap := h' }) : wpAny (model prog w) A (pyNext (.ref it)) Q E s := by
  have hT := ht.typeIs
  obtain ⟨⟨c, di, dt, sl⟩, ho, hc, hd⟩ := id ht
  cases hc
  cases hd
  have nm : ((Manifest.find? "dict_keyiterator").elim "dict_keyiterator" fun x => x.tpName) = "dict_keyiterator" := by rw [find?_eq_fast]; kernel_rfl
  have ow : Builtin.Dict_items.ownsTuple "dict_keyiterator" = false := by decide
  unfold pyNext
  refine wpAny_bind (wpAny_attempt (wpAny_callSpecial?_slot hT F.slot_dict_keyiterator_next (wpAny_call_entry F.slot_dict_keyiterator_next hT F.entry_dict_keyiterator_next ?_ (F.args_dict_keyiterator_next_1 _))))
  wp_walk
  have ei : (if (es.size : Int) < 0 then none else es[(es.size : Int).toNat]?) = none := by rw [if_neg (by omega), Int.toNat_natCast]; exact Array.getElem?_eq_none (Nat.le_refl _)
  rw [ei]
  dsimp only
  wp_walk
  generalize hu : s.heap.update it _ = h1
  have k1 : Heap.ExtBut it s.heap h1 := by rw [← hu]; exact (Heap.SameBut.update ..).extBut
  unfold raiseNew
  refine wpAny_bind (wpAny_handled ?_)
  rw [show A.in1.handled = none from hh]
  refine wpAny_bind (wpAny_pure (wpAny_throw ?_))
  refine wpAny_bind (wpAny_isInstance (T := "StopIteration") (b := true) ⟨_, Heap.get?_push_size _ rfl, rfl⟩ isSubtype_stop (wpAny_pure ?_))
  exact hQ _ fun b o hb e => Heap.get?_push_of_some _ (Heap.get?_push_of_some _ (k1 b o hb e))
theorem raw_iter {Q : Value → Shared → Prop} (hs : (d == sysModules) = false) (hm : RawD s.heap d es ep)
    (hQ : Q (.ref s.heap.objs.size) { s with heap := s.heap.push { cls := .type "dict_keyiterator", data := .fields #[.ref d, .int 0 0, .int es.size 0, .int ep 0] } }) : wpAny (model prog w) A (pyIter (.ref d)) Q E s := by
  have hT : s.TypeIs (.ref d) "dict" := ⟨_, hm, rfl⟩
  refine wpAny_pyIter_slot hT F.slot_dict_iter (wpAny_call_entry F.slot_dict_iter hT F.entry_dict_iter ?_ (F.args_dict_iter_1 _))
  unfold Builtin.«dict.__iter__» Builtin.Dict.dictSlotNone
  refine wpAny_bind (wpAny_bind (wpAny_notOrdered_dict hT ?_))
  show wpAny _ _ (pure (Value.ref d)) _ _ s
  refine wpAny_pure ?_
  show wpAny _ _ (Builtin.Dict.showsAll d >>= _) _ _ s
  unfold Builtin.Dict.showsAll
  rw [if_neg (by rw [hs]; exact Bool.false_ne_true)]
  refine wpAny_bind (wpAny_pure (wpAny_bind (wpAny_dictEntries hm rfl (wpAny_bind (wpAny_dictEpoch hm rfl ?_)))))
  exact wpAny_bind (wpAny_newObj_type (wpAny_pure ⟨_, rfl, "dict_keyiterator", _, ⟨_, Heap.get?_push_size _ rfl, rfl⟩, F.slot_dict_keyiterator_next.lookup, hQ⟩))
theorem raw_len {Q : Value → Shared → Prop} (hs : (d == sysModules) = false) (hm : RawD s.heap d es ep) (hz : (es.size : Int) < 2 ^ 63)
    (hQ : ∀ t t', Q (.int es.size t) { s with toks := t' }) : wpAny (model prog w) A (call (.builtin "len") [.ref d]) Q E s := by
  have hT : s.TypeIs (.ref d) "dict" := ⟨_, hm, rfl⟩
  refine Calls.call_function_entry kind_len plain_len entry_len (args_len1 _) ?_
  unfold Builtin.«len»
  refine wpAny_bind (m := oneArg "len" _) (wpAny_pure ?_)
  refine wpAny_bind (m := callSpecial? (.ref d) (Str.ofString "__len__")) (wpAny_callSpecial?_slot hT F.slot_dict_len (wpAny_call_entry F.slot_dict_len hT F.entry_dict_len ?_ (F.args_dict_len_1 _)))
  show wpAny _ _ (dictSize d >>= _) _ _ s
  unfold dictSize
  refine wpAny_bind (wpAny_bind (wpAny_dictEntries hm rfl (wpAny_pure ?_)))
  show wpAny _ _ (Builtin.Dict.pendingCount d >>= _) _ _ s
  refine wpAny_bind (wpAny_pendingCount_other hs ?_)
  refine wpAny_ret_mkInt ?_
  rw [Nat.add_zero]
  refine wpAny_bind (wpAny_holding (wpAny_pure ?_))
  refine wpAny_bind (wpAny_letGo ?_)
  show wpAny _ _ (if ((es.size : Nat) : Int) < 0 then _ else _) _ _ _
  rw [if_neg (by omega)]
  show wpAny _ _ (if ((es.size : Nat) : Int) ≥ 2 ^ 63 then _ else _) _ _ _
  rw [if_neg (by omega)]
  exact wpAny_bind (wpAny_mkInt (wpAny_pure ⟨_, rfl, hQ _ _⟩))
end
end Dd

set_option Elab.async false
set_option linter.all false
set_option maxRecDepth 100000
set_option maxHeartbeats 4000000
namespace Dd
open PySem PySem.Spec PyProof.Rows L2

noncomputable def ents (w : World) (kvs : List (D × D)) : List D := kvs.map fun p => .tup [.int (hashK w p.1), p.1, p.2]
structure TK (kvs : List (D × D)) : Prop where
  key : ∀ p ∈ kvs, (∃ ds, p.1 = .tup ds) ∧ keyN 6 p.1 = true
  nd : (kvs.map (·.1)).Nodup
noncomputable def putD (kvs : List (D × D)) (k v : D) : List (D × D) := if k ∈ kvs.map (·.1) then kvs.map (fun p => if p.1 = k then (p.1, v) else p) else kvs ++ [(k, v)]
theorem TK.nil : TK [] := ⟨(fun _ h => (nomatch h)), List.nodup_nil⟩
theorem putD_keys {kvs : List (D × D)} {k v : D} : (putD kvs k v).map (·.1) = if k ∈ kvs.map (·.1) then kvs.map (·.1) else kvs.map (·.1) ++ [k] := by
  unfold putD
  split
  · rw [List.map_map]
    exact List.map_congr_left fun p _ => by
      show (if p.1 = k then (p.1, v) else p).1 = p.1
      split <;> rfl
  · rw [List.map_append]; rfl
theorem TK.put {kvs : List (D × D)} (h : TK kvs) {k v : D} (hk : (∃ ds, k = .tup ds) ∧ keyN 6 k = true) : TK (putD kvs k v) := by
  refine ⟨fun p hp => ?_, ?_⟩
  · have : p.1 ∈ (putD kvs k v).map (·.1) := List.mem_map.mpr ⟨p, hp, rfl⟩
    rw [putD_keys] at this
    have g : p.1 ∈ kvs.map (·.1) ∨ p.1 = k := by
      split at this
      · exact .inl this
      · rcases List.mem_append.mp this with z | z
        · exact .inl z
        · exact .inr (by simpa using z)
    rcases g with g | g
    · obtain ⟨q, hq, e⟩ := List.mem_map.mp g
      rw [← e]; exact h.key q hq
    · rw [g]; exact hk
  · rw [putD_keys]
    split
    · exact h.nd
    · rename_i n
      rw [List.nodup_append]
      refine ⟨h.nd, by simp, fun x hx y hy => ?_⟩
      rw [List.mem_singleton] at hy
      subst hy
      exact fun e => n (e ▸ hx)
theorem putD_len {kvs : List (D × D)} {k v : D} : (putD kvs k v).length ≤ kvs.length + 1 := by
  unfold putD
  split
  · rw [List.length_map]; omega
  · rw [List.length_append]; exact Nat.le_refl _

def KX (K : PySem.W.Frag) (H : Hp) (p : D × D) (x : D × Addr × Value) : Prop := p.1 = x.1 ∧ Rep K H p.1 (.ref x.2.1) ∧ ∃ vv, RelV vv x.2.2 ∧ Rep K H p.2 vv
theorem KX.ext {K : PySem.W.Frag} {H H' : Hp} {p : D × D} {x : D × Addr × Value} (h : KX K H p x) (e : Ext H H') : KX K H' p x := let ⟨a, b, v, c, d⟩ := h; ⟨a, b.ext e, v, c, d.ext e⟩
section
variable {X : Cx} {pins : List (Addr × Obj)} {σ : L2.St} {H : Hp} {s : Shared}
mutual
theorem isK_of (I : Inv X pins σ H s) : ∀ {n : Nat} {d : D} {v : V} {u : Value}, keyN n d = true → Rep X.K H d v → RelV v u → IsK s.heap d u
  | n, .int i, v, u, hk, r, q => by rw [rep_int_eq r] at q; unfold IsK; exact q
  | n, .str i, v, u, hk, r, q => by rw [rep_str_eq r] at q; unfold IsK; exact q
  | n, .tup ds, v, u, hk, r, q => by
    obtain ⟨m, rfl, hk⟩ := keyN_tup hk
    obtain ⟨a, us, rfl, sq, rs⟩ := rep_tup r
    obtain ⟨its, rv, ht, _⟩ := I.tuple sq
    cases q
    unfold IsK
    exact ⟨a, its.toArray, rfl, ht, by rw [List.toList_toArray]; exact isKs_of I hk rs rv⟩
  | n, .non, v, u, hk, r, q => by cases n <;> exact absurd hk Bool.false_ne_true
  | n, .bl _, v, u, hk, r, q => by cases n <;> exact absurd hk Bool.false_ne_true
  | n, .fz _, v, u, hk, r, q => by cases n <;> exact absurd hk Bool.false_ne_true
  | n, .ref _, v, u, hk, r, q => by cases n <;> exact absurd hk Bool.false_ne_true
theorem isKs_of (I : Inv X pins σ H s) : ∀ {n : Nat} {ds : List D} {vs : List V} {us : List Value}, ds.all (keyN n) = true → Reps X.K H ds vs → Vals vs us → IsKs s.heap ds us
  | n, [], vs, us, hk, r, q => by rw [reps_nil_eq r] at q; cases q; unfold IsKs; rfl
  | n, d :: ds, vs, us, hk, r, q => by
    obtain ⟨v, rr, rfl, rv, rs⟩ := reps_cons_eq r
    rw [List.all_cons, Bool.and_eq_true] at hk
    cases q with
    | cons q1 q2 =>
      unfold IsKs
      exact ⟨_, _, rfl, isK_of I hk.1 rv q1, isKs_of I hk.2 rs q2⟩
end
theorem ents_x (I : Inv X pins σ H s) : ∀ {kvs : List (D × D)} {es : List DictEntry}, (∀ p ∈ kvs, (∃ ds, p.1 = .tup ds) ∧ keyN 6 p.1 = true) → EntsR X.K H (ents X.w kvs) es →
    ∃ xs : List (D × Addr × Value), Paired (KX X.K H) kvs xs ∧ es = xs.map (entryOfKey (tupK X.prog X.w)) ∧ ∀ x ∈ xs, (tupK X.prog X.w).is s.heap x.1 x.2.1
  | [], es, hk, r => by
    cases r
    exact ⟨[], .nil, rfl, (fun _ h => (nomatch h))⟩
  | p :: kvs, es, hk, r => by
    cases r with
    | @cons _ e _ es' re rr =>
      obtain ⟨xs, h1, h2, h3⟩ := ents_x I (fun q hq => hk q (List.mem_cons_of_mem _ hq)) rr
      obtain ⟨k, v, kv, vv, e1, q1, r1, q2, r2⟩ := re
      obtain ⟨⟨ds, ek⟩, hn⟩ := hk p List.mem_cons_self
      have e0 : D.tup [.int (hashK X.w p.1), p.1, p.2] = .tup [.int e.hash, k, v] := e1
      clear e1
      injection e0 with e0
      injection e0 with e1 e2
      injection e2 with e2 e3
      injection e3 with e3 _
      injection e1 with e1
      subst e2
      subst e3
      have r1' := r1
      rw [ek] at r1'
      obtain ⟨a, us, rfl, _, _⟩ := rep_tup r1'
      have qk : e.key = .ref a := q1
      obtain ⟨eh, ekey, ev⟩ := e
      cases qk
      have e1 : hashK X.w p.1 = eh := e1
      subst e1
      refine ⟨(p.1, a, ev) :: xs, .cons ⟨rfl, r1, vv, q2, r2⟩ h1, ?_, ?_⟩
      · rw [List.map_cons, ← h2]; rfl
      · intro x hx
        rcases List.mem_cons.mp hx with z | z
        · subst z
          exact ⟨hn, isK_of I hn r1 rfl⟩
        · exact h3 x z
theorem ents_back {K : PySem.W.Frag} {H : Hp} (prog : Program) (w : World) : ∀ {kvs : List (D × D)} {xs : List (D × Addr × Value)}, Paired (KX K H) kvs xs → EntsR K H (ents w kvs) (xs.map (entryOfKey (tupK prog w)))
  | [], _, .nil => .nil
  | p :: kvs, x :: xs, .cons r rr => by
    obtain ⟨e, r1, vv, q, r2⟩ := r
    exact .cons ⟨p.1, p.2, .ref x.2.1, vv, by show D.tup [.int (hashK w p.1), p.1, p.2] = .tup [.int (hashK w x.1), p.1, p.2]; rw [e], rfl, r1, q, r2⟩ (ents_back prog w rr)
theorem kx_keys {K : PySem.W.Frag} {H : Hp} : ∀ {kvs : List (D × D)} {xs : List (D × Addr × Value)}, Paired (KX K H) kvs xs → kvs.map (·.1) = xs.map (·.1)
  | [], _, .nil => rfl
  | p :: kvs, x :: xs, .cons r rr => by rw [List.map_cons, List.map_cons, r.1, kx_keys rr]
theorem kx_at {K : PySem.W.Frag} {H : Hp} {k : D} : ∀ {kvs : List (D × D)} {xs : List (D × Addr × Value)}, Paired (KX K H) kvs xs → (atKey xs k).isSome = decide (k ∈ kvs.map (·.1))
  | [], _, .nil => by simp [atKey]
  | p :: kvs, x :: xs, .cons r rr => by
    have ih := kx_at (k := k) rr
    unfold atKey at ih ⊢
    rw [List.find?_cons]
    by_cases h : x.1 = k
    · have : decide (x.1 = k) = true := decide_eq_true h
      rw [this]
      simp [r.1, h]
    · have : decide (x.1 = k) = false := decide_eq_false h
      rw [this, ih]
      simp only [List.map_cons, List.mem_cons, r.1]
      by_cases h2 : k ∈ kvs.map (·.1)
      · simp [h2]
      · simp [h2, Ne.symm h]
theorem kx_put {K : PySem.W.Frag} {H : Hp} {k v : D} {a : Addr} {u : Value} {vv : V} (rk : Rep K H k (.ref a)) (q : RelV vv u) (rv : Rep K H v vv) {kvs : List (D × D)} {xs : List (D × Addr × Value)} (r : Paired (KX K H) kvs xs) :
    Paired (KX K H) (putD kvs k v) (storedH xs k a u) := by
  have e := kx_at (k := k) r
  unfold putD storedH
  by_cases h : k ∈ kvs.map (·.1)
  · rw [decide_eq_true h] at e
    rw [if_pos h, if_pos e]
    clear e h
    induction r with
    | nil => exact .nil
    | @cons p x ps xs r1 rr ih =>
      refine .cons ?_ ih
      unfold putAt
      obtain ⟨e1, r2, r3⟩ := r1
      show KX K H (if p.1 = k then (p.1, v) else p) (if x.1 = k then (x.1, x.2.1, u) else x)
      by_cases z : p.1 = k
      · rw [if_pos z, if_pos (by rw [← e1]; exact z)]
        exact ⟨e1, r2, vv, q, rv⟩
      · rw [if_neg z, if_neg (by rw [← e1]; exact z)]
        exact ⟨e1, r2, r3⟩
  · rw [decide_eq_false h] at e
    rw [if_neg h, if_neg (by rw [e]; exact Bool.false_ne_true)]
    clear e h
    induction r with
    | nil => exact .cons ⟨rfl, rk, vv, q, rv⟩ .nil
    | cons r1 rr ih => exact .cons r1 ih
theorem Paired.len {α β : Type} {F : α → β → Prop} : ∀ {l : List α} {l' : List β}, Paired F l l' → l.length = l'.length
  | _, _, .nil => rfl
  | _, _, .cons _ t => by rw [List.length_cons, List.length_cons, Paired.len t]
theorem exact_mk {o : Obj} {es : Array DictEntry} {ep : Nat} (h : o.ExactDict) (d : o.data = .dict es ep) : o = { cls := .type "dict", data := .dict es ep } := by
  obtain ⟨c, di, dt, sl⟩ := o
  obtain ⟨h1, h2, h3⟩ := h
  cases h1; cases h2; cases h3; cases d
  rfl
theorem dictO_ok {P : Program} {w : World} {H : Hp} {h : Heap} {a : Addr} {es : List DictEntry} (x : DictO a es h) : ObjOk P w H h a (.ext (DictO a es)) :=
  ⟨x, let ⟨_, _, _, e⟩ := x; ⟨_, e⟩, fun h1 h2 ⟨y1, y2, ep, e⟩ k => ⟨y1, y2, ep, k _ e⟩⟩
theorem dict_at (I : Inv X pins σ H s) {a : Addr} {M : DM} {kvs : List (D × D)} (hm : HRep X.K M H) (ha : M (.d a) = some (ents X.w kvs)) (tk : TK kvs) :
    ∃ xs, H a = some (.ext (DictO a (xs.map (entryOfKey (tupK X.prog X.w))))) ∧ Paired (KX X.K H) kvs xs ∧ s.heap.DictOfH (tupK X.prog X.w) a xs ∧ (a == sysModules) = false ∧ xs.length ≤ sizeLine := by
  obtain ⟨es, hH, hr⟩ := hm.d a _ ha
  obtain ⟨xs, h1, rfl, h3⟩ := ents_x I tk.key hr
  obtain ⟨⟨hs, hz, ep, e⟩, _⟩ := I.hok a _ hH
  refine ⟨xs, hH, h1, ⟨_, _, ep, e, ⟨rfl, rfl, rfl⟩, rfl, by rw [List.toList_toArray], h3, ?_⟩, hs, by simpa using hz⟩
  rw [← kx_keys h1]; exact tk.nd
theorem dict_done (I : Inv X pins σ H s) {a b : Addr} {kvs : List (D × D)} {k v : D} {u : Value} {vv : V} {xs : List (D × Addr × Value)} {h' : Heap} {tk : Nat}
    (hH : H a = some (.ext (DictO a (xs.map (entryOfKey (tupK X.prog X.w)))))) (hp : Paired (KX X.K H) kvs xs) (hs : (a == sysModules) = false) (hz : xs.length < sizeLine) (rk : Rep X.K H k (.ref b)) (q : RelV vv u) (rv : Rep X.K H v vv)
    (hd' : h'.DictOfH (tupK X.prog X.w) a (storedH xs k b u)) (hsb : Heap.SameBut a s.heap h') :
    Inv X pins σ (upd H a (.ext (DictO a ((storedH xs k b u).map (entryOfKey (tupK X.prog X.w)))))) { s with heap := h', toks := tk } ∧ EntsR X.K H (ents X.w (putD kvs k v)) ((storedH xs k b u).map (entryOfKey (tupK X.prog X.w))) := by
  obtain ⟨o, es, ep, ho, hx, hda, he, _, _⟩ := hd'
  have eo := exact_mk hx hda
  subst eo
  have hp' := kx_put rk q rv hp
  have lz : (storedH xs k b u).length ≤ sizeLine := by
    have e1 := Paired.len hp'
    have e2 := Paired.len hp
    have e3 := putD_len (kvs := kvs) (k := k) (v := v)
    omega
  refine ⟨I.write (e := a) (by rw [hH]; exact True.intro) (.inl rfl) (fun c o hc e => hsb.extBut c o hc e) ⟨_, ho⟩ (dictO_ok ⟨hs, by rw [List.length_map]; exact lz, ep, ?_⟩), ents_back X.prog X.w hp'⟩
  rw [ho, ← he]
def KeyD (k : D) : Prop := (∃ ds, k = .tup ds) ∧ keyN 6 k = true
theorem key_ref {K : PySem.W.Frag} {H : Hp} {k : D} {v : V} (h : KeyD k) (r : Rep K H k v) : ∃ b, v = .ref b := by
  obtain ⟨⟨ds, e⟩, _⟩ := h
  rw [e] at r
  obtain ⟨a, _, e, _⟩ := rep_tup r
  exact ⟨a, e⟩
theorem set_dictD (hu : X.A.units + 7 < cLine) : PSet X fun o i v H Q => ∃ p k d M kvs, o = .ref p ∧ Rep X.K H k i ∧ Rep X.K H d v ∧ HRep X.K M H ∧ M (.d p) = some (ents X.w kvs) ∧ TK kvs ∧ kvs.length < 1000 ∧ KeyD k ∧
    ∀ H', HRep X.K (putK M p (ents X.w (putD kvs k d))) H' → Ext H H' → Q H' := by
  intro pins s σ H o i v ov iv u Q I ro ri rv ⟨p, k, d, M, kvs, eo, rk, rd, hm, hp, tk, hl, hk, q⟩
  subst eo
  cases ro
  obtain ⟨b, rfl⟩ := key_ref hk rk
  cases ri
  obtain ⟨xs, hH, hx, hd, hs, hz⟩ := dict_at I hm hp tk
  have lx := Paired.len hx
  have hz' : xs.length < sizeLine := by rw [← lx]; exact small1000 (Nat.le_of_lt hl)
  refine wpAny_setItem_heap (hsz := Nat.le_of_lt hz') (knd := tupK X.prog X.w) (by show X.A.units + 1 + 6 < cLine; omega) ⟨hk.2, isK_of I hk.2 rk rfl⟩ hd fun h' hd' hsb => ?_
  obtain ⟨I', en⟩ := dict_done (tk := s.toks + (tupK X.prog X.w).draws k) I hH hx hs hz' rk rv rd hd' hsb
  exact ⟨_, I', q _ (hm.kput hH en) (Ext.putX hH _)⟩
end
section
variable {X : Cx} {pos : Pos}
def dSetK (w : World) (to ti : DE) : DG := fun d ρ M Q => to ρ M fun o M1 => ti ρ M1 fun i M2 => match o with
  | .ref p => ∃ kvs, M2 (.d p) = some (ents w kvs) ∧ TK kvs ∧ kvs.length < 1000 ∧ KeyD i ∧ Q ρ (putK M2 p (ents w (putD kvs i d)))
  | _ => False
theorem dg_subK {o i : Expr} {to ti : DE} (hu : X.A.units + 7 < cLine) (ho : PDE X o to) (hi : PDE X i ti)
    (ha : ∀ v, assign (.Subscript o i pos) X.env v = (do
      let ov ← holding [v] (eval o X.env)
      let iv ← holding [v, ov] (eval i X.env)
      standAt pos
      holding [v, ov, iv] (setItem ov iv v)
      release [v, ov, iv] []) := by intro _; rfl) : PDG X (.Subscript o i pos) (dSetK X.w to ti) :=
  pg_imp (pg_sub ho hi (set_dictD hu) ha) fun v σ H Q ⟨d, ρ, M, Q', rd, re, hm, q, k⟩ => ⟨ρ, M, _, re, hm, q, fun ov H1 ⟨dov, M1, rov, hm1, e1, q1⟩ => ⟨ρ, M1, _, re.ext e1, hm1, q1, fun iv H2 ⟨div, M2, riv, hm2, e2, q2⟩ => by
    cases dov with
    | ref p =>
      obtain ⟨kvs, hp, tk, hl, hk, q2⟩ := q2
      exact ⟨p, div, d, M2, kvs, rep_ref_eq rov, riv, (rd.ext e1).ext e2, hm2, hp, tk, hl, hk, fun H3 hm3 e3 => k _ _ ⟨ρ, _, ((re.ext e1).ext e2).ext e3, hm3, (e1.trans e2).trans e3, q2⟩⟩
    | _ => exact q2.elim⟩⟩
def sLenK : DSp := fun ds M Q => match ds with
  | [.ref a] => ∃ es, M (.d a) = some es ∧ Q (.int es.length) M
  | _ => False
theorem cd_lenK : CallD X (.builtin "len") sLenK := by
  intro pins s σ H xs us Q I r ⟨ds, M, Q', rs, hm, q, k⟩
  match ds, q with
  | [.ref a], q =>
    obtain ⟨es, ha, q⟩ := q
    obtain ⟨v, rfl, rv⟩ := one_of rs
    obtain rfl := rep_ref_eq rv
    obtain ⟨u, rfl, ru⟩ := vals1 r
    cases ru
    obtain ⟨ens, hH, he⟩ := hm.d a es ha
    obtain ⟨⟨hs, hz, ep, e⟩, _⟩ := I.hok a _ hH
    have le := Paired.len he
    have line := line63
    refine raw_len (es := ens.toArray) (ep := ep) hs e (by rw [List.size_toArray]; omega) fun t t' => ⟨.int es.length, H, I.tok _, ⟨t, by rw [le, List.size_toArray]⟩, k _ _ ⟨.int es.length, M, rep_int, hm, .refl H, q⟩⟩
def keyOf : D → D
  | .tup [_, k, _] => k
  | d => d
def sListK : DSp := fun ds M Q => match ds with
  | [.ref a] => ∃ es, M (.d a) = some es ∧ ∀ p : Addr, M p = none → Q (.ref p) (putM M p (es.map keyOf))
  | _ => False
theorem ents_keys (w : World) (kvs : List (D × D)) : (ents w kvs).map keyOf = kvs.map (·.1) := by
  unfold ents
  rw [List.map_map]
  rfl
theorem raw_src {prog : Program} {w : World} {d : Addr} {es : Array DictEntry} {ep : Nat} (hs : (d == sysModules) = false) :
    PySem.W.KdlSrc prog w "dict" d d es.size (fun i v => es[i]?.map (·.key) = some v) (fun h => RawD h d es ep) where
  type := fun _ hm => ⟨_, hm, rfl⟩
  there := fun _ hm => ⟨Heap.lt_size hm, Heap.lt_size hm⟩
  keep := fun _ _ hm hk => hk d (.inl rfl) _ hm
  notList := by decide
  notTuple := by decide
  hint := fun _ _ _ _ hm hq => PySem.W.kdl_hint_dict ⟨_, hm, rfl⟩ hq
  iter := fun A s hh hm => ⟨_, fun i h => h.IsKeyIter s.heap.objs.size d i es.size ep ∧ RawD h d es ep, (fun _ _ hq => raw_iter hs hm hq),
    { sub := fun b hb => by simp at hb; simp [hb]
      frame := fun _ _ _ st hk => ⟨let ⟨o, ho, r⟩ := st.1; ⟨o, hk s.heap.objs.size (by simp) o ho, r⟩, hk d (by simp) _ st.2⟩
      item := fun i s1 Q E hi st hQ => raw_next hi st.1 st.2 fun h' ht hb => hQ _ h' s1.toks (by rw [Array.getElem?_eq_getElem hi]; rfl) ⟨ht, hb.extBut d _ (Nat.ne_of_lt (Heap.lt_size hm)) st.2⟩ fun b o hb' e => hb.extBut b o (fun z => hb' (by simp [z])) e
      done := fun s1 Q E st hQ => raw_end hh st.1 st.2 fun h' he => hQ h' s1.toks fun b o hb e => he b o (fun z => hb (by simp [z])) e
      self := fun _ _ _ _ st hQ => wpAny_pyIter_keyiter st.1 hQ },
    ⟨_, Heap.get?_push_size _ rfl, rfl, rfl⟩, Heap.get?_push_of_some _ hm⟩
theorem keys_vals {K : PySem.W.Frag} {H : Hp} : ∀ {ds : List D} {es : List DictEntry}, EntsR K H ds es → ∃ vs, Vals vs (es.map (·.key)) ∧ Reps K H (ds.map keyOf) vs
  | [], _, .nil => ⟨[], .nil, reps_nil⟩
  | d :: ds, e :: es, .cons r rr => by
    obtain ⟨vs, h1, h2⟩ := keys_vals rr
    obtain ⟨k, v, kv, vv, rfl, q, r1, _, _⟩ := r
    exact ⟨kv :: vs, .cons q h1, reps_cons r1 h2⟩
theorem cd_listK (hc : X.calm = true) : CallD X (.type "list") sListK := by
  intro pins s σ H xs us Q I r ⟨ds, M, Q', rs, hm, q, k⟩
  match ds, q with
  | [.ref a], q =>
    obtain ⟨es, ha, q⟩ := q
    obtain ⟨v, rfl, rv⟩ := one_of rs
    obtain rfl := rep_ref_eq rv
    obtain ⟨u, rfl, ru⟩ := vals1 r
    cases ru
    obtain ⟨ens, hH, he⟩ := hm.d a es ha
    obtain ⟨⟨hs, hz, ep, e⟩, _⟩ := I.hok a _ hH
    obtain ⟨vs, hv, hr⟩ := keys_vals he
    have lv := hv.length
    rw [List.length_map] at lv
    refine PySem.W.kdl_call (raw_src (es := ens.toArray) (ep := ep) hs) (I.ok.hd hc) e (by rw [List.size_toArray]; exact hz) fun h' tk acc c kp hn ia => ?_
    have ea : acc.toList = ens.map (·.key) := by
      refine List.ext_getElem? fun i => ?_
      rw [List.getElem?_map, Array.getElem?_toList]
      obtain ⟨l1, l2⟩ := ia
      cases hq : acc[i]? with
      | some v =>
        have this : Option.map (fun x : DictEntry => x.key) ens.toArray[i]? = some v := l2 i v hq
        rw [List.getElem?_toArray] at this
        exact this.symm
      | none =>
        have hi := Array.getElem?_eq_none_iff.mp hq
        rw [l1, List.size_toArray] at hi
        rw [List.getElem?_eq_none hi]
        rfl
    exact ⟨.ref s.heap.objs.size, _, I.laid (t' := tk) kp (Nat.le_refl _) (show ObjOk X.prog X.w _ h' _ (.lst vs) from ⟨by omega, acc.toList, c, by rw [ea]; exact hv, by rw [hn, Array.toArray_toList]⟩), rfl,
      k _ _ ⟨.ref _, _, rep_ref, hm.lnew I.fresh hr, Ext.new I.fresh _, q _ (hm.fresh I.fresh)⟩⟩
def dPairs : List (DE × DE) → DEnv → DM → (List (D × D) → DM → Prop) → Prop
  | [], _, M, Q => Q [] M
  | (tk, tv) :: r, ρ, M, Q => tk ρ M fun x M1 => tv ρ M1 fun y M2 => dPairs r ρ M2 fun ps M3 => Q ((x, y) :: ps) M3
def PrR (K : PySem.W.Frag) (H : Hp) (p : D × D) (q : Value × Value) : Prop := ∃ a b, RelV a q.1 ∧ Rep K H p.1 a ∧ RelV b q.2 ∧ Rep K H p.2 b
theorem PrR.ext {K : PySem.W.Frag} {H H' : Hp} {p : D × D} {q : Value × Value} (h : PrR K H p q) (e : Ext H H') : PrR K H' p q := let ⟨a, b, c, d, f, g⟩ := h; ⟨a, b, c, d.ext e, f, g.ext e⟩
def PDPs (X : Cx) (pos : Pos) (keys : List (Option Expr)) (values : List Expr) (trs : List (DE × DE)) : Prop :=
  ∀ (pins : List (Addr × Obj)) (s : Shared) (σ : L2.St) (ρ : DEnv) (H : Hp) (M : DM) (Q : List (D × D) → DM → Prop), Inv X pins σ H s → RepE X.K H ρ σ → HRep X.K M H → dPairs trs ρ M Q →
    wpAny (model X.prog X.w) X.A (evalPairs (pairTrees keys values X.env pos)) (fun vs s' => ∃ ps H' M', Inv X pins σ H' s' ∧ Paired (PrR X.K H') ps vs ∧ HRep X.K M' H' ∧ Ext H H' ∧ Q ps M') X.xe s
theorem dps_nil : PDPs X pos [] [] [] := fun pins s σ ρ H M Q I re hm h => pairTrees_nil_walk ⟨[], H, M, I, .nil, hm, .refl H, h⟩
theorem dps_cons {k v : Expr} {ks : List (Option Expr)} {vs : List Expr} {tk tv : DE} {trs : List (DE × DE)} (hk : PDE X k tk) (hv : PDE X v tv) (hr : PDPs X pos ks vs trs) : PDPs X pos (some k :: ks) (v :: vs) ((tk, tv) :: trs) :=
  fun pins s σ ρ H M Q I re hm h =>
    pairTrees_cons_walk (thn (hk pins s σ H (LQ X.K H fun x M1 => tv ρ M1 fun y M2 => dPairs trs ρ M2 fun ps M3 => Q ((x, y) :: ps) M3) I ⟨ρ, M, _, re, hm, h, fun _ _ z => z⟩) fun u s1 ⟨x, H1, I1, rx, d1, M1, r1, hm1, e1, q1⟩ =>
      thn (hv pins s1 σ H1 (LQ X.K H1 fun y M2 => dPairs trs ρ M2 fun ps M3 => Q ((d1, y) :: ps) M3) I1 ⟨ρ, M1, _, re.ext e1, hm1, q1, fun _ _ z => z⟩) fun u2 s2 ⟨y, H2, I2, ry, d2, M2, r2, hm2, e2, q2⟩ =>
        thn (hr pins s2 σ ρ H2 M2 _ I2 ((re.ext e1).ext e2) hm2 q2) fun ws s3 ⟨ps, H3, M3, I3, rel, hm3, e3, q3⟩ =>
          ⟨(d1, d2) :: ps, H3, M3, I3, .cons ⟨x, y, rx, (r1.ext e2).ext e3, ry, r2.ext e3⟩ rel, hm3, (e1.trans e2).trans e3, q3⟩)
noncomputable def mergeD (kvs ps : List (D × D)) : List (D × D) := ps.foldl (fun acc p => putD acc p.1 p.2) kvs
theorem store_all (hu : X.A.units + 6 < cLine) {pins : List (Addr × Obj)} {σ : L2.St} {a : Addr} : ∀ {ps : List (D × D)} {vs : List (Value × Value)} {kvs : List (D × D)} {H : Hp} {M : DM} {s : Shared} {Q : PUnit → Shared → Prop},
    Inv X pins σ H s → HRep X.K M H → M (.d a) = some (ents X.w kvs) → TK kvs → kvs.length + ps.length ≤ 1000 → (∀ p ∈ ps, KeyD p.1) → Paired (PrR X.K H) ps vs →
    (∀ H' s', Inv X pins σ H' s' → HRep X.K (putK M a (ents X.w (mergeD kvs ps))) H' → Ext H H' → Q PUnit.unit s') → wpAny (model X.prog X.w) X.A (storeAll a vs) Q X.xe s
  | [], vs, kvs, H, M, s, Q, I, hm, ha, tk, hl, hk, r, q => by
    cases r
    have e : putK M a (ents X.w (mergeD kvs [])) = M := by
      funext b
      unfold putK
      split
      · rename_i z; rw [z, ha]; rfl
      · rfl
    exact wpAny_pure (q H s I (by rw [e]; exact hm) (.refl H))
  | p :: ps, vs, kvs, H, M, s, Q, I, hm, ha, tk, hl, hk, r, q => by
    cases r with
    | @cons _ y _ ys r1 rr =>
      obtain ⟨y1, y2⟩ := y
      obtain ⟨x, v, rx, rp, rv, rq⟩ := r1
      obtain ⟨xs, hH, hx, hd, hs, hz⟩ := dict_at I hm ha tk
      have hk1 := hk p List.mem_cons_self
      obtain ⟨b, rfl⟩ := key_ref hk1 rp
      have ey : y1 = .ref b := rx
      subst ey
      have lx := Paired.len hx
      rw [List.length_cons] at hl
      have hz' : xs.length < sizeLine := by rw [← lx]; exact small1000 (by omega)
      unfold storeAll
      rw [List.forIn_cons]
      refine wpAny_bind (wpAny_bind ?_)
      refine wpAny_dictSet_heap (hsz := Nat.le_of_lt hz') (knd := tupK X.prog X.w) hu ⟨hk1.2, isK_of I hk1.2 rp rfl⟩ hd fun h' hd' hsb => ?_
      obtain ⟨I', en⟩ := dict_done (tk := s.toks + (tupK X.prog X.w).draws p.1) I hH hx hs hz' rp rv rq hd' hsb
      refine wpAny_pure ?_
      have e1 := Ext.putX hH (.ext (DictO a ((storedH xs p.1 b y2).map (entryOfKey (tupK X.prog X.w)))))
      have hl' := putD_len (kvs := kvs) (k := p.1) (v := p.2)
      refine store_all hu I' (hm.kput hH en) putK_same (tk.put hk1) (by omega) (fun q hq => hk q (List.mem_cons_of_mem _ hq)) (Paired.mapP rr fun _ _ r => r.ext e1) fun H' s' I2 hm2 e2 => ?_
      rw [putK_putK] at hm2
      exact q H' s' I2 hm2 (e1.trans e2)
noncomputable def dDict (w : World) (trs : List (DE × DE)) : DE := fun ρ M Q => ∀ p : Addr, M (.d p) = none → dPairs trs ρ (putK M p []) fun ps M2 => M2 (.d p) = some [] ∧ (∀ q ∈ ps, KeyD q.1) ∧ ps.length ≤ 1000 ∧ Q (.ref p) (putK M2 p (ents w (mergeD [] ps)))
theorem de_dict {keys : List (Option Expr)} {values : List Expr} {trs : List (DE × DE)} (hu : X.A.units + 6 < cLine) (h : PDPs X pos keys values trs) (hall : keys.all (·.isSome) = true) (hl : keys.length = values.length) (h0 : keys ≠ [])
    (h15 : keys.length ≤ 15) : PDE X (.Dict keys values pos) (dDict X.w trs) := by
  intro pins s σ H Q I ⟨ρ, M, Q', re, hm, q, k⟩
  have hn := I.hok.fresh (Nat.le_refl s.heap.objs.size)
  have big : sysModules < s.heap.objs.size := Nat.lt_trans (by decide) (I.mod.glob.keeps I.bk).lt
  have I1 := I.laid (a := s.heap.objs.size) (o := .ext (DictO s.heap.objs.size [])) (h' := s.heap.push { cls := .type "dict", data := .dict #[] }) (t' := s.toks) (fun _ _ q => Heap.get?_push_of_some _ q) (Nat.le_refl _)
    (dictO_ok ⟨beq_eq_false_iff_ne.mpr (Ne.symm (Nat.ne_of_lt big)), Nat.zero_le _, 0, Heap.get?_push_size _ rfl⟩)
  have e0 := Ext.new hn (.ext (DictO s.heap.objs.size []))
  refine wpAny_Dict_any hall hl h0 h15 (thn (h pins _ σ ρ _ _ _ I1 (re.ext e0) (hm.knew hn .nil) (q _ (hm.freshD hn))) fun vs s2 ⟨ps, H2, M2, I2, rel, hm2, e2, h2, hk, hz, q2⟩ => ?_)
  refine store_all (kvs := []) hu I2 hm2 h2 TK.nil (by rw [List.length_nil]; omega) hk rel fun H3 s3 I3 hm3 e3 => ?_
  exact ⟨.ref _, H3, I3, rfl, k _ _ ⟨.ref _, _, rep_ref, hm3, (e0.trans e2).trans e3, q2⟩⟩
theorem de_dict2 {k v k' v' : Expr} {tk tv tk' tv' : DE} {kr : Nat} (hr : Room kr X.A) (hk : PDE X k tk) (hv : PDE X v tv) (hk' : PDE X k' tk') (hv' : PDE X v' tv') : PDE X (.Dict [some k, some k'] [v, v'] pos) (dDict X.w [(tk, tv), (tk', tv')]) :=
  de_dict (by have := hr.un; omega) (dps_cons hk hv (dps_cons hk' hv' dps_nil)) rfl rfl (fun e => nomatch e) (Nat.le_of_ble_eq_true rfl)
def dDict0 : DE := fun _ M Q => ∀ p : Addr, M (.d p) = none → Q (.ref p) (putK M p [])
theorem dg_subKr {o i : Expr} {to ti : DE} {kr : Nat} (hr : Room kr X.A) (ho : PDE X o to) (hi : PDE X i ti)
    (ha : ∀ v, assign (.Subscript o i pos) X.env v = (do
      let ov ← holding [v] (eval o X.env)
      let iv ← holding [v, ov] (eval i X.env)
      standAt pos
      holding [v, ov, iv] (setItem ov iv v)
      release [v, ov, iv] []) := by intro _; rfl) : PDG X (.Subscript o i pos) (dSetK X.w to ti) := dg_subK (by have := hr.un; omega) ho hi ha
end
end Dd

set_option Elab.async false
set_option linter.all false
set_option maxRecDepth 100000
set_option maxHeartbeats 4000000
namespace Dd
open PySem PySem.W PyProof.Rows

def krun (lt : Nat → Nat → Bool) {α : Type} : KasT α → α
  | .ret a => a
  | .ask i j k => krun lt (k (lt i j))
theorem krun_bind (lt : Nat → Nat → Bool) {α β : Type} {f : α → KasT β} : ∀ t : KasT α, krun lt (t.bind f) = krun lt (f (krun lt t))
  | .ret _ => rfl
  | .ask i j k => krun_bind lt (k (lt i j))
structure Lin (n : Nat) (lt : Nat → Nat → Bool) : Prop where
  tri : ∀ i j, i < n → j < n → i ≠ j → lt i j = !lt j i
  tr : ∀ i j k, i < n → j < n → k < n → lt i j = true → lt j k = true → lt i k = true
structure PmR (n : Nat) (p : Array Nat) : Prop where
  perm : p.toList.Perm (List.range n)
section
variable {n : Nat} {lt : Nat → Nat → Bool} {p : Array Nat}
theorem PmR.size (h : PmR n p) : p.size = n := by
  have := h.perm.length_eq
  simpa using this
theorem PmR.ub (h : PmR n p) {i : Nat} (hi : i < n) : p.getD i 0 < n := by
  have hs := h.size
  have : p.getD i 0 = p[i]'(by omega) := by simp [Array.getD, show i < p.size by omega]
  rw [this]
  exact List.mem_range.mp (h.perm.mem_iff.mp (by simp))
theorem PmR.ne (h : PmR n p) {i j : Nat} (hi : i < n) (hj : j < n) (e : i ≠ j) : p.getD i 0 ≠ p.getD j 0 := by
  have hs := h.size
  have nd : p.toList.Nodup := h.perm.nodup_iff.mpr List.nodup_range
  have e1 : p.getD i 0 = p.toList[i]'(by simpa using (by omega : i < p.size)) := by simp [Array.getD, show i < p.size by omega]
  have e2 : p.getD j 0 = p.toList[j]'(by simpa using (by omega : j < p.size)) := by simp [Array.getD, show j < p.size by omega]
  rw [e1, e2]
  exact fun z => e ((List.getElem_inj nd).mp z)
theorem getD_of {q : Array Nat} {i j : Nat} (h : q[i]? = p[j]?) : q.getD i 0 = p.getD j 0 := by
  rw [Array.getD_eq_getD_getElem?, Array.getD_eq_getD_getElem?, h]
def Inc (lt : Nat → Nat → Bool) (p : Array Nat) (k : Nat) : Prop := ∀ i j, i < j → j < k → lt (p.getD i 0) (p.getD j 0) = true
def Dec (lt : Nat → Nat → Bool) (p : Array Nat) (k : Nat) : Prop := ∀ i j, i < j → j < k → lt (p.getD j 0) (p.getD i 0) = true
theorem Lin.flip (L : Lin n lt) (P : PmR n p) {i j : Nat} (hi : i < n) (hj : j < n) (e : i ≠ j) (h : lt (p.getD i 0) (p.getD j 0) = false) : lt (p.getD j 0) (p.getD i 0) = true := by
  have := L.tri _ _ (P.ub hi) (P.ub hj) (P.ne hi hj e)
  rw [h] at this
  simpa using this.symm
theorem inc_next (L : Lin n lt) (P : PmR n p) {a : Nat} (h1 : 1 ≤ a) (ha : a < n) (h : Inc lt p a) (hl : lt (p.getD (a - 1) 0) (p.getD a 0) = true) : Inc lt p (a + 1) := by
  intro i j hij hj
  by_cases z : j = a
  · subst z
    by_cases y : i = j - 1
    · rw [y]; exact hl
    · exact L.tr _ _ _ (P.ub (by omega)) (P.ub (by omega)) (P.ub ha) (h i (j - 1) (by omega) (by omega)) hl
  · exact h i j hij (by omega)
theorem dec_next (L : Lin n lt) (P : PmR n p) {a : Nat} (h1 : 1 ≤ a) (ha : a < n) (h : Dec lt p a) (hl : lt (p.getD a 0) (p.getD (a - 1) 0) = true) : Dec lt p (a + 1) := by
  intro i j hij hj
  by_cases z : j = a
  · subst z
    by_cases y : i = j - 1
    · rw [y]; exact hl
    · exact L.tr _ _ _ (P.ub ha) (P.ub (by omega)) (P.ub (by omega)) hl (h i (j - 1) (by omega) (by omega))
  · exact h i j hij (by omega)
theorem asc_run (L : Lin n lt) (P : PmR n p) : ∀ (f a : Nat), 1 ≤ a → a + f = n → Inc lt p a → a ≤ krun lt (kas_asc p f a) ∧ krun lt (kas_asc p f a) ≤ n ∧ Inc lt p (krun lt (kas_asc p f a)) ∧ (krun lt (kas_asc p f a) < n → lt (p.getD (krun lt (kas_asc p f a)) 0) (p.getD (krun lt (kas_asc p f a) - 1) 0) = true)
  | 0, a, h1, h2, h => ⟨Nat.le_refl _, by show a ≤ n; omega, h, fun z => by have z : a < n := z; omega⟩
  | f + 1, a, h1, h2, h => by
    have e : krun lt (kas_asc p (f + 1) a) = if lt (p.getD a 0) (p.getD (a - 1) 0) = true then a else krun lt (kas_asc p f (a + 1)) := by
      show krun lt (if lt (p.getD a 0) (p.getD (a - 1) 0) = true then .ret a else kas_asc p f (a + 1)) = _
      split <;> rfl
    rw [e]
    by_cases c : lt (p.getD a 0) (p.getD (a - 1) 0) = true
    · rw [if_pos c]
      exact ⟨Nat.le_refl _, by omega, h, fun _ => c⟩
    · rw [if_neg c]
      have c' : lt (p.getD a 0) (p.getD (a - 1) 0) = false := by simpa using c
      obtain ⟨q1, q2, q3, q4⟩ := asc_run L P f (a + 1) (by omega) (by omega) (inc_next L P h1 (by omega) h (L.flip P (by omega) (by omega) (by omega) c'))
      exact ⟨by omega, q2, q3, q4⟩
theorem desc_run (L : Lin n lt) (P : PmR n p) : ∀ (f a : Nat), 1 ≤ a → a + f = n → Dec lt p a → ∃ m, krun lt (kas_desc f p a 0) = (p, m, 0) ∧ a ≤ m ∧ m ≤ n ∧ Dec lt p m
  | 0, a, h1, h2, h => ⟨a, rfl, Nat.le_refl _, by omega, h⟩
  | f + 1, a, h1, h2, h => by
    by_cases c : lt (p.getD a 0) (p.getD (a - 1) 0) = true
    · obtain ⟨m, e, q⟩ := desc_run L P f (a + 1) (by omega) (by omega) (dec_next L P h1 (by omega) h c)
      refine ⟨m, ?_, by omega, q.2.1, q.2.2⟩
      show krun lt (if lt (p.getD a 0) (p.getD (a - 1) 0) = true then (if (0 : Nat) > 0 then _ else kas_desc f p (a + 1) 0) else _) = _
      rw [if_pos c, if_neg (by omega)]
      exact e
    · have c' : lt (p.getD a 0) (p.getD (a - 1) 0) = false := by simpa using c
      refine ⟨a, ?_, Nat.le_refl _, by omega, h⟩
      show krun lt (if lt (p.getD a 0) (p.getD (a - 1) 0) = true then _ else .ask (p.getD (a - 1) 0) (p.getD a 0) fun d => if d = true then .ret (p, a, 0) else kas_desc f p (a + 1) (0 + 1)) = _
      rw [if_neg c]
      show krun lt (if lt (p.getD (a - 1) 0) (p.getD a 0) = true then .ret (p, a, 0) else kas_desc f p (a + 1) (0 + 1)) = _
      rw [if_pos (L.flip P (by omega) (by omega) (by omega) c')]
      rfl
theorem rev_ok (L : Lin n lt) (P : PmR n p) {k : Nat} (hk : k ≤ n) (h : Dec lt p k) : PmR n (kas_rev p 0 k) ∧ Inc lt (kas_rev p 0 k) k := by
  have hs := P.size
  refine ⟨⟨?_⟩, fun i j hij hj => ?_⟩
  · exact (Array.perm_iff_toList_perm.mp (mirror_perm p 0 k ((k - 0) / 2))).trans P.perm
  · have e : ∀ x, x < k → (kas_rev p 0 k).getD x 0 = p.getD (k - 1 - x) 0 := fun x hx => by
      have := getElem?_mirror_all (xs := p) (i := 0) (j := k) (by omega) x
      rw [if_pos ⟨Nat.zero_le _, hx⟩] at this
      rw [Nat.zero_add] at this
      exact getD_of this
    rw [e i (by omega), e j hj]
    exact h (k - 1 - j) (k - 1 - i) (by omega) (by omega)
theorem count_run (L : Lin n lt) (P : PmR n p) (hn : 1 ≤ n) : ∃ m q, krun lt (kas_count n p) = (m, q) ∧ 1 ≤ m ∧ m ≤ n ∧ PmR n q ∧ Inc lt q m := by
  obtain ⟨a1, a2, a3, a4⟩ := asc_run L P (n - 1) 1 (Nat.le_refl _) (by omega) (fun i j h1 h2 => by omega)
  unfold kas_count
  rw [krun_bind]
  generalize hm : krun lt (kas_asc p (n - 1) 1) = m at *
  by_cases c : m = n
  · rw [if_pos (by simp [c])]
    exact ⟨m, p, rfl, a1, a2, P, a3⟩
  · rw [if_neg (by simp [c])]
    by_cases c2 : m > 1
    · rw [if_pos c2]
      show ∃ m' q, krun lt (if lt (p.getD 0 0) (p.getD (m - 1) 0) = true then .ret (m, p) else _) = (m', q) ∧ _
      rw [if_pos (a3 0 (m - 1) (by omega) (by omega))]
      exact ⟨m, p, rfl, a1, a2, P, a3⟩
    · rw [if_neg c2]
      have m1 : m = 1 := by omega
      subst m1
      have d0 := a4 (by omega)
      unfold kas_descPart
      rw [krun_bind]
      obtain ⟨k, e, k1, k2, k3⟩ := desc_run L P (n - (1 + 1)) (1 + 1) (by omega) (by omega) (fun i j h1 h2 => by
        have : i = 0 := by omega
        have : j = 1 := by omega
        subst_vars
        exact d0)
      rw [e]
      dsimp only
      rw [if_neg (by omega)]
      unfold kas_tail3
      rw [krun_bind]
      obtain ⟨P', I'⟩ := rev_ok L P k2 k3
      obtain ⟨b1, b2, b3, _⟩ := asc_run L P' (n - k) k (by omega) (by omega) I'
      exact ⟨_, _, rfl, by omega, b2, P', b3⟩
theorem place_run (L : Lin n lt) (P : PmR n p) {k : Nat} (hk : k < n) (hI : Inc lt p k) : ∀ (f l r : Nat), l ≤ r → r ≤ k → r - l ≤ f → (∀ i, i < l → lt (p.getD i 0) (p.getD k 0) = true) → (∀ i, r ≤ i → i < k → lt (p.getD k 0) (p.getD i 0) = true) →
    krun lt (kas_place p k f l r) ≤ k ∧ (∀ i, i < krun lt (kas_place p k f l r) → lt (p.getD i 0) (p.getD k 0) = true) ∧ ∀ i, krun lt (kas_place p k f l r) ≤ i → i < k → lt (p.getD k 0) (p.getD i 0) = true
  | 0, l, r, h1, h2, h3, h4, h5 => ⟨by show l ≤ k; omega, h4, fun i hi hk => h5 i (by have hi : l ≤ i := hi; omega) hk⟩
  | f + 1, l, r, h1, h2, h3, h4, h5 => by
    unfold kas_place
    by_cases c : l ≥ r
    · rw [if_pos c]
      exact ⟨by show l ≤ k; omega, h4, fun i hi hk => h5 i (by have hi : l ≤ i := hi; omega) hk⟩
    · rw [if_neg c]
      show krun lt (if lt (p.getD k 0) (p.getD ((l + r) / 2) 0) = true then _ else _) ≤ k ∧ (∀ i, i < krun lt (if lt (p.getD k 0) (p.getD ((l + r) / 2) 0) = true then _ else _) → _) ∧ ∀ i, krun lt (if lt (p.getD k 0) (p.getD ((l + r) / 2) 0) = true then _ else _) ≤ i → _
      have hm1 : l ≤ (l + r) / 2 := by omega
      have hm2 : (l + r) / 2 < r := by omega
      generalize (l + r) / 2 = x at *
      by_cases d : lt (p.getD k 0) (p.getD x 0) = true
      · rw [if_pos d]
        refine place_run L P hk hI f l x hm1 (by omega) (by omega) h4 fun i hi hik => ?_
        by_cases z : i = x
        · rw [z]; exact d
        · exact L.tr _ _ _ (P.ub hk) (P.ub (by omega)) (P.ub (by omega)) d (hI x i (by omega) hik)
      · rw [if_neg d]
        have d' : lt (p.getD k 0) (p.getD x 0) = false := by simpa using d
        have d2 := L.flip P hk (by omega : x < n) (by omega) d'
        refine place_run L P hk hI f (x + 1) r (by omega) h2 (by omega) (fun i hi => ?_) h5
        by_cases z : i = x
        · rw [z]; exact d2
        · exact L.tr _ _ _ (P.ub (by omega)) (P.ub (by omega)) (P.ub hk) (hI i x (by omega) (by omega)) d2
theorem bin_run (L : Lin n lt) : ∀ (f k : Nat) (p : Array Nat), PmR n p → 1 ≤ k → k + f = n → Inc lt p k → PmR n (krun lt (kas_bin f p k)) ∧ Inc lt (krun lt (kas_bin f p k)) n
  | 0, k, p, P, h1, h2, hI => ⟨P, by have : k = n := by omega
                                     subst this; exact hI⟩
  | f + 1, k, p, P, h1, h2, hI => by
    unfold kas_bin
    rw [krun_bind]
    have hs := P.size
    obtain ⟨q1, q2, q3⟩ := place_run L P (k := k) (by omega) hI k 0 k (Nat.zero_le _) (Nat.le_refl _) (by omega) (fun i hi => by omega) (fun i h1 h2 => by omega)
    generalize krun lt (kas_place p k k 0 k) = l at *
    have e : ∀ x, (bubble p k (k - l)).getD x 0 = if x = l then p.getD k 0 else if l < x ∧ x ≤ k then p.getD (x - 1) 0 else p.getD x 0 := fun x => by
      have := getElem?_bubble (xs := p) (src := k) (by omega) (k - l) (by omega) x
      rw [show k - (k - l) = l by omega] at this
      by_cases z : x = l
      · rw [if_pos z] at this ⊢; exact getD_of this
      · rw [if_neg z] at this ⊢
        by_cases y : l < x ∧ x ≤ k
        · rw [if_pos y] at this ⊢; exact getD_of this
        · rw [if_neg y] at this ⊢; exact getD_of this
    refine bin_run L f (k + 1) _ ⟨(Array.perm_iff_toList_perm.mp (bubble_perm p k (k - l))).trans P.perm⟩ (by omega) (by omega) fun i j hij hj => ?_
    rw [e i, e j]
    by_cases i1 : i = l
    · rw [if_pos i1, if_neg (by omega), if_pos ⟨by omega, by omega⟩]
      exact q3 (j - 1) (by omega) (by omega)
    · rw [if_neg i1]
      by_cases i2 : l < i ∧ i ≤ k
      · rw [if_pos i2, if_neg (by omega), if_pos ⟨by omega, by omega⟩]
        exact hI (i - 1) (j - 1) (by omega) (by omega)
      · rw [if_neg i2]
        by_cases j1 : j = l
        · rw [if_pos j1]; exact q2 i (by omega)
        · rw [if_neg j1]
          by_cases j2 : l < j ∧ j ≤ k
          · rw [if_pos j2]
            by_cases z : i = j - 1
            · omega
            · exact hI i (j - 1) (by omega) (by omega)
          · rw [if_neg j2]; exact hI i j hij (by omega)
theorem sort_run (L : Lin n lt) (hn : 1 ≤ n) : PmR n (krun lt (kas_sort n)) ∧ Inc lt (krun lt (kas_sort n)) n := by
  unfold kas_sort
  rw [krun_bind]
  obtain ⟨m, q, e, m1, m2, P, I⟩ := count_run (p := List.toArray (List.range n)) L ⟨by simp⟩ hn
  rw [e]
  dsimp only
  by_cases c : m < n
  · rw [if_pos c]
    rw [show max m 1 = m by omega]
    exact bin_run L (n - m) m q P m1 (by omega) I
  · rw [if_neg c]
    have : m = n := by omega
    subst this
    exact ⟨P, I⟩
end
def AskI (n : Nat) {α : Type} (R : α → Prop) : KasT α → Prop
  | .ret a => R a
  | .ask i j k => i < n ∧ j < n ∧ ∀ b, AskI n R (k b)
theorem AskI.bind {n : Nat} {α β : Type} {R : α → Prop} {R' : β → Prop} {f : α → KasT β} (hf : ∀ a, R a → AskI n R' (f a)) : ∀ {t : KasT α}, AskI n R t → AskI n R' (t.bind f)
  | .ret a, h => hf a h
  | .ask i j k, h => ⟨h.1, h.2.1, fun b => AskI.bind hf (h.2.2 b)⟩
theorem AskI.ite {n : Nat} {α : Type} {R : α → Prop} {c : Prop} [Decidable c] {t u : KasT α} (h1 : AskI n R t) (h2 : AskI n R u) : AskI n R (if c then t else u) := by split <;> assumption
theorem krun_wpI {n : Nat} {lt : Nat → Nat → Bool} {cmp : Nat → Nat → (Bool → Shared → Prop) → Shared → Prop} {s : Shared} (hc : ∀ i j C, i < n → j < n → C (lt i j) s → cmp i j C s) {α : Type} {R : α → Prop} {Q : α → Shared → Prop} :
    ∀ (t : KasT α), AskI n R t → Q (krun lt t) s → t.kasWp cmp Q s
  | .ret a, _, h => h
  | .ask i j k, a, h => hc i j _ a.1 a.2.1 (krun_wpI hc (k (lt i j)) (a.2.2 _) h)
def PB (n : Nat) (p : Array Nat) : Prop := ∀ i : Nat, p.getD i 0 < n
theorem pb_perm {n : Nat} {p q : Array Nat} (hn : 0 < n) (h : q.Perm p) (P : PB n p) : PB n q := fun i => by
  rw [Array.getD_eq_getD_getElem?]
  cases e : q[i]? with
  | none => exact hn
  | some x =>
    have hx : x ∈ p := h.mem_iff.mp (Array.mem_of_getElem? e)
    obtain ⟨j, hj, rfl⟩ := Array.mem_iff_getElem.mp hx
    have := P j
    rw [Array.getD_eq_getD_getElem?, Array.getElem?_eq_getElem hj] at this
    exact this
section
variable {n : Nat} {p : Array Nat}
theorem ai_asc (P : PB n p) : ∀ f a, AskI n (fun _ => True) (kas_asc p f a)
  | 0, _ => True.intro
  | f + 1, a => ⟨P _, P _, fun c => AskI.ite True.intro (ai_asc P f (a + 1))⟩
theorem ai_desc (hn : 0 < n) : ∀ f (p : Array Nat) a q, PB n p → AskI n (fun r : Array Nat × Nat × Nat => PB n r.1) (kas_desc f p a q)
  | 0, p, a, q, P => P
  | f + 1, p, a, q, P => ⟨P _, P _, fun c => AskI.ite (AskI.ite (ai_desc hn f _ _ _ (pb_perm hn (mirror_perm ..) P)) (ai_desc hn f _ _ _ P)) ⟨P _, P _, fun d => AskI.ite P (ai_desc hn f _ _ _ P)⟩⟩
theorem ai_tail3 (hn : 0 < n) (P : PB n p) (k m : Nat) : AskI n (fun r : Nat × Array Nat => PB n r.2) (kas_tail3 k m p) :=
  by
    have P' : PB n (kas_rev p 0 k) := pb_perm hn (mirror_perm ..) P
    unfold kas_tail3
    refine AskI.bind (R := fun _ => True) (fun _ _ => ?_) (ai_asc P' _ _)
    exact P'
theorem ai_descPart (hn : 0 < n) (P : PB n p) (k m : Nat) : AskI n (fun r : Nat × Array Nat => PB n r.2) (kas_descPart k m p) :=
  by
    unfold kas_descPart
    exact AskI.bind (R := fun r : Array Nat × Nat × Nat => PB n r.1) (fun r hr => AskI.ite (ai_tail3 hn (pb_perm hn (mirror_perm ..) hr) _ _) (ai_tail3 hn hr _ _)) (ai_desc hn _ _ _ _ P)
theorem ai_count (hn : 0 < n) (P : PB n p) (m : Nat) : AskI n (fun r : Nat × Array Nat => PB n r.2) (kas_count m p) :=
  by
    unfold kas_count
    have r0 : ∀ a : Nat, AskI n (fun r : Nat × Array Nat => PB n r.2) (.ret (a, p)) := fun a => P
    refine AskI.bind (R := fun _ => True) (fun a _ => AskI.ite (r0 a) (AskI.ite ?_ (ai_descPart hn P _ _))) (ai_asc P _ _)
    exact ⟨P _, P _, fun c => AskI.ite (r0 a) (ai_descPart hn (pb_perm hn (mirror_perm ..) P) _ _)⟩
theorem ai_place (P : PB n p) : ∀ f k l r, AskI n (fun _ => True) (kas_place p k f l r)
  | 0, _, _, _ => True.intro
  | f + 1, k, l, r => by
    unfold kas_place
    exact AskI.ite True.intro ⟨P _, P _, fun c => AskI.ite (ai_place P f _ _ _) (ai_place P f _ _ _)⟩
theorem ai_bin (hn : 0 < n) : ∀ f (p : Array Nat) k, PB n p → AskI n (PB n) (kas_bin f p k)
  | 0, p, k, P => P
  | f + 1, p, k, P => AskI.bind (fun l _ => ai_bin hn f _ _ (pb_perm hn (bubble_perm ..) P)) (ai_place P _ _ _ _)
theorem ai_sort (hn : 0 < n) : AskI n (PB n) (kas_sort n) := by
  have P : PB n (List.toArray (List.range n)) := fun i => by
    rw [Array.getD_eq_getD_getElem?, List.getElem?_toArray]
    by_cases h : i < n
    · rw [List.getElem?_range h]; exact h
    · rw [List.getElem?_eq_none (by simpa using h)]; exact hn
  unfold kas_sort
  refine AskI.bind (R := fun r : Nat × Array Nat => PB n r.2) (fun r hr => ?_) (ai_count hn P _)
  have r0 : AskI n (PB n) (.ret r.2) := hr
  exact AskI.ite (ai_bin hn _ _ _ hr) r0
end
end Dd

set_option Elab.async false
set_option linter.all false
set_option maxRecDepth 100000
set_option maxHeartbeats 4000000
namespace Dd
open PySem PySem.Spec PyProof.Rows L2

abbrev Pt4 := Int × Int × Int × Int
def ptD (p : Pt4) : D := .tup [.tup [.int p.1, .int p.2.1], .tup [.int p.2.2.1, .int p.2.2.2]]
def lt4 (p q : Pt4) : Bool := if p.1 = q.1 ∧ p.2.1 = q.2.1 then HT.lexLt [p.2.2.1, p.2.2.2] [q.2.2.1, q.2.2.2] else HT.lexLt [p.1, p.2.1] [q.1, q.2.1]
theorem lexI2 (a b c d : Int) : HT.lexLt [a, b] [c, d] = true ↔ a < c ∨ (a = c ∧ b < d) := by
  rw [HT.lexLt_cons, HT.lexLt_cons, HT.lexLt_nil_nil]
  by_cases h : a = c
  · rw [if_pos h]
    by_cases h2 : b = d
    · rw [if_pos h2]; simp; omega
    · rw [if_neg h2]; simp; omega
  · rw [if_neg h]; simp; omega
theorem lt4_iff (p q : Pt4) : lt4 p q = true ↔ p.1 < q.1 ∨ (p.1 = q.1 ∧ (p.2.1 < q.2.1 ∨ (p.2.1 = q.2.1 ∧ (p.2.2.1 < q.2.2.1 ∨ (p.2.2.1 = q.2.2.1 ∧ p.2.2.2 < q.2.2.2))))) := by
  unfold lt4
  by_cases h : p.1 = q.1 ∧ p.2.1 = q.2.1
  · rw [if_pos h, lexI2]; omega
  · rw [if_neg h, lexI2]; omega
theorem lt4_tri {p q : Pt4} (h : p ≠ q) : lt4 p q = !lt4 q p := by
  have h' : ¬ (p.1 = q.1 ∧ p.2.1 = q.2.1 ∧ p.2.2.1 = q.2.2.1 ∧ p.2.2.2 = q.2.2.2) := fun z => h (Prod.ext z.1 (Prod.ext z.2.1 (Prod.ext z.2.2.1 z.2.2.2)))
  cases e : lt4 q p with
  | true =>
    have := (lt4_iff q p).mp e
    cases e2 : lt4 p q with
    | true => have := (lt4_iff p q).mp e2; omega
    | false => rfl
  | false =>
    have n : ¬ lt4 q p = true := by rw [e]; exact Bool.false_ne_true
    rw [lt4_iff] at n
    exact (lt4_iff p q).mpr (by omega)
theorem lt4_tr {p q r : Pt4} (h : lt4 p q = true) (h2 : lt4 q r = true) : lt4 p r = true := by
  rw [lt4_iff] at *; omega
theorem lt4_irr (p : Pt4) : lt4 p p = false := by
  cases e : lt4 p p with
  | false => rfl
  | true => have := (lt4_iff p p).mp e; omega
section
variable {prog : Program} {w : World} {A : Around} {E : Value → Shared → Prop} {s : Shared}
theorem key_pt (p : Pt4) : keyN 6 (ptD p) = true := rfl
theorem isK_two {h : Heap} {a b : Int} {u : Value} (x : IsK h (.tup [.int a, .int b]) u) : ∃ (l : Addr) (t t' : Tok), u = .ref l ∧ IsTup h l #[.int a t, .int b t'] := by
  obtain ⟨l, its, rfl, ht, hs⟩ := isK_tup x
  obtain ⟨v1, r1, e1, k1, hs⟩ := isKs_cons hs
  obtain ⟨v2, r2, e2, k2, hs⟩ := isKs_cons hs
  obtain ⟨t, rfl⟩ := isK_int k1
  obtain ⟨t', rfl⟩ := isK_int k2
  have e3 := isKs_nil hs
  subst e3 e2
  refine ⟨l, t, t', rfl, ?_⟩
  have : its = #[.int a t, .int b t'] := Array.toList_inj.mp e1
  rw [← this]; exact ht
theorem lt_two {a b c d : Int} {u v : Value} {Q : Bool → Shared → Prop} (hu : A.units < cLine) (hx : IsK s.heap (.tup [.int a, .int b]) u) (hy : IsK s.heap (.tup [.int c, .int d]) v) (h : Q (HT.lexLt [a, b] [c, d]) s) :
    wpAny (model prog w) A (oneLt' false u v) Q E s := by
  obtain ⟨l, t, t', rfl, h1⟩ := isK_two hx
  obtain ⟨l2, t2, t2', rfl, h2⟩ := isK_two hy
  exact PySem.W.kat_one _ _ (HT.lt_tupInts h1 h2 (.cons a t (.cons b t' .nil)) (.cons c t2 (.cons d t2' .nil)) hu h)
theorem isK_pt {h : Heap} {p : Pt4} {u : Value} (x : IsK h (ptD p) u) : ∃ (l : Addr) (u1 u2 : Value), u = .ref l ∧ IsTup h l #[u1, u2] ∧ IsK h (.tup [.int p.1, .int p.2.1]) u1 ∧ IsK h (.tup [.int p.2.2.1, .int p.2.2.2]) u2 := by
  obtain ⟨l, its, rfl, ht, hs⟩ := isK_tup x
  obtain ⟨v1, r1, e1, k1, hs⟩ := isKs_cons hs
  obtain ⟨v2, r2, e2, k2, hs⟩ := isKs_cons hs
  have e3 := isKs_nil hs
  subst e3 e2
  refine ⟨l, v1, v2, rfl, ?_, k1, k2⟩
  have : its = #[v1, v2] := Array.toList_inj.mp e1
  rw [← this]; exact ht
theorem two_eq (a b c d : Int) : eqD (.tup [.int a, .int b]) (.tup [.int c, .int d]) = decide (a = c ∧ b = d) := by
  rw [eqD_key (n := 1) rfl rfl]
  by_cases h : a = c ∧ b = d
  · rw [decide_eq_true h, h.1, h.2]; simp
  · rw [decide_eq_false h]; simp; omega
theorem cmp_pt {p q : Pt4} {u v : Value} {Q : Bool → Shared → Prop} (hu : A.units + 3 < cLine) (hx : IsK s.heap (ptD p) u) (hy : IsK s.heap (ptD q) v) (h : Q (lt4 p q) s) :
    wpAny (model prog w) A (keyLt' (tuples' false) u v) Q E s := by
  obtain ⟨l, u1, u2, rfl, ⟨o, ho, _, n, hd⟩, x1, x2⟩ := isK_pt hx
  obtain ⟨l', v1, v2, rfl, ⟨o', ho', _, n', hd'⟩, y1, y2⟩ := isK_pt hy
  refine PySem.W.kat_lt ho hd ho' hd' (PySem.W.kat_cons (eqK_at 1 (by omega) rfl rfl x1 y1 _ _ _ _ ?_))
  rw [two_eq]
  unfold lt4 at h
  by_cases e1 : p.1 = q.1 ∧ p.2.1 = q.2.1
  · rw [if_pos e1] at h
    rw [decide_eq_true e1]
    refine PySem.W.kat_yes (PySem.W.kat_cons (eqK_at 1 (by omega) rfl rfl x2 y2 _ _ _ _ ?_))
    rw [two_eq]
    by_cases e2 : p.2.2.1 = q.2.2.1 ∧ p.2.2.2 = q.2.2.2
    · rw [decide_eq_true e2]
      refine PySem.W.kat_yes (PySem.W.kat_nil ?_)
      have : HT.lexLt [p.2.2.1, p.2.2.2] [q.2.2.1, q.2.2.2] = false := by rw [e2.1, e2.2, HT.lexLt_cons, if_pos rfl, HT.lexLt_cons, if_pos rfl, HT.lexLt_nil_nil]
      rw [this] at h
      exact h
    · rw [decide_eq_false e2]
      exact PySem.W.kat_no (lt_two (by omega) x2 y2 h)
  · rw [if_neg e1] at h
    rw [decide_eq_false e1]
    exact PySem.W.kat_no (lt_two (by omega) x1 y1 h)
end
theorem pick_reps {K : PySem.W.Frag} {H : Hp} {ds : List D} {us : List V} {its : List Value} (r : Reps K H ds us) (v : Vals us its) (d0 : D) :
    ∀ idx : List Nat, (∀ i ∈ idx, i < ds.length) → Reps K H (idx.map fun i => ds.getD i d0) (idx.map fun i => us.getD i .non) ∧ Vals (idx.map fun i => us.getD i .non) (idx.map fun i => its.getD i Value.none)
  | [], _ => ⟨reps_nil, .nil⟩
  | i :: idx, h => by
    obtain ⟨h1, h2⟩ := pick_reps r v d0 idx fun j hj => h j (List.mem_cons_of_mem _ hj)
    have hi := h i List.mem_cons_self
    obtain ⟨u, e1, ru⟩ := r.get (i := i) (d := ds[i]) (by simp [hi])
    obtain ⟨x, e2, rx⟩ := v.get e1
    refine ⟨reps_cons ?_ h1, .cons ?_ h2⟩
    · show Rep K H (ds.getD i d0) (us.getD i .non)
      rw [List.getD_eq_getElem?_getD, List.getD_eq_getElem?_getD, e1, List.getElem?_eq_getElem hi]
      exact ru
    · show L2.RelV (us.getD i .non) (its.getD i Value.none)
      rw [List.getD_eq_getElem?_getD, List.getD_eq_getElem?_getD, e1, e2]
      exact rx
section
variable {X : Cx} {pins : List (Addr × Obj)} {σ : L2.St} {H : Hp} {s : Shared}
theorem obj_has {P : Program} {w : World} {h : Heap} {a : Addr} {o : HO} (x : ObjOk P w H h a o) : ∃ u, h.get? a = some u := by
  cases o with
  | lst xs => obtain ⟨_, _, _, _, e⟩ := x; exact ⟨_, e⟩
  | tup xs => obtain ⟨_, _, _, o, e, _⟩ := x; exact ⟨_, e⟩
  | dK kvs => obtain ⟨_, _, _, _, o, _, _, e, _⟩ := x; exact ⟨_, e⟩
  | dT kvs => obtain ⟨_, _, _, _, o, _, _, e, _⟩ := x; exact ⟨_, e⟩
  | set S n => obtain ⟨o, _, _, _, e, _⟩ := x; exact ⟨_, e⟩
  | ins C dx fs => obtain ⟨_, _, _, e, _⟩ := x; exact ⟨_, e⟩
  | own y => exact x
  | xd fs => obtain ⟨_, ⟨_, _, _, e, _⟩, _⟩ := x; exact ⟨_, e⟩
  | rng lo hi => obtain ⟨_, _, _, e⟩ := x; exact ⟨_, e⟩
  | frz ob u => obtain ⟨e, _⟩ := x; exact ⟨_, e⟩
  | tbl ps => exact ⟨_, (show h.get? a = some _ from x)⟩
  | met f y => exact ⟨_, (show h.get? a = some _ from x)⟩
  | ext φ => obtain ⟨_, e, _⟩ := x; exact e
theorem inv_madeL (I : Inv X pins σ H s) {m : Str → Option Value} (F0 : Fr X.base X.env.locals s.heap m) {q : Addr} {out : List Value} {c t' : Nat} {h' : Heap} {zs : List V} (hlt : ∀ p ∈ allNews X.base s.heap X.env.locals, p.1 < q)
    (F : Fr X.base X.env.locals h' m) (N : News X.base X.env.locals h' ((q, { cls := .type "list", data := .seq out.toArray c }) :: allNews X.base s.heap X.env.locals)) (hv : Vals zs out) (hz : zs.length ≤ sizeLine) :
    H q = none ∧ Inv X pins σ (upd H q (.lst zs)) { s with heap := h', toks := t' } := by
  obtain ⟨gD, nL, nB⟩ := N _ List.mem_cons_self
  have g0 : s.heap.get? q = none := by
    cases e : s.heap.get? q with
    | none => rfl
    | some o => exact absurd (hlt _ (mem_allNews nL nB e)) (Nat.lt_irrefl _)
  have hn : H q = none := by
    cases e : H q with
    | none => rfl
    | some o =>
      obtain ⟨u, e⟩ := obj_has (I.hok q o e)
      rw [g0] at e; cases e
  have kp : ∀ b o, b ≠ X.env.locals → s.heap.get? b = some o → h'.get? b = some o := fun b o hb e => by
    cases z : X.base.get? b with
    | some u =>
      have := I.bk b u z
      rw [e] at this; cases this
      exact F.keep b _ z
    | none => exact (N (b, o) (List.mem_cons_of_mem _ (mem_allNews hb z e))).1
  have ne : ∀ b o, s.heap.get? b = some o → b ≠ q := fun b o e z => by rw [z, g0] at e; cases e
  have nH : ∀ b o, H b = some o → b ≠ q := fun b o e z => by rw [z, hn] at e; cases e
  have nL' : ∀ b o, H b = some o → b ≠ X.env.locals := fun b o e z => by rw [z, I.free] at e; cases e
  refine ⟨hn, I.step (g' := s.gens) (d' := s.drawn) (ch := []) (fun _ z => nomatch z) (fun b o hb _ _ e _ => kp b o hb e) (fun b o hb _ _ e _ => ⟨o.slots, kp b o hb e⟩) (fun b o _ e n => by rw [upd_ne (ne b o e)]; exact n) (fun b o _ e => ?_)
    (fun b xs e => by rw [upd_ne (nH b _ e)]; exact e) (fun b o u e => by rw [upd_ne (nH b _ e)]; exact e) (fun b ps e => ⟨#[], by rw [upd_ne (nH b _ e), e]; simp⟩) (fun m' hm' => ?_) (fun b o e => ?_) I.bare⟩
  · by_cases hb : b = X.env.locals
    · obtain ⟨o', _, _, e', _⟩ := F.ns
      rw [hb]; exact ⟨o', e'⟩
    · exact ⟨o, kp b o hb e⟩
  · rw [hm'.eq_nsMap, ← F0.ns.eq_nsMap]; exact F.ns
  · by_cases hb : b = q
    · subst hb
      rw [upd_same] at e
      cases e
      exact ⟨hz, out, c, hv, gD⟩
    · rw [upd_ne hb] at e
      refine (I.hok b o e).stay (fun b' u hb' e' => kp b' u ?_ e') (fun b' e' => by rw [upd_ne (nH b' _ e')]; exact e') fun b' xs e' => by rw [upd_ne (nH b' _ e')]; exact e'
      rcases hb' with z | z
      · rw [z]; exact nL' b o e
      · exact nL' b' _ z
def sSortP : DSp := fun ds M Q => match ds with
  | [.ref a] => ∃ ps : List Pt4, M a = some (ps.map ptD) ∧ ps.Nodup ∧ 2 ≤ ps.length ∧ ps.length < 64 ∧ ∀ (p : Addr) (zs : List Pt4), M p = none → zs.Perm ps → zs.Pairwise (fun a b => lt4 a b = true) → Q (.ref p) (putM M p (zs.map ptD))
  | _ => False
theorem lin_pts {ps : List Pt4} (nd : ps.Nodup) : Lin ps.length fun i j => lt4 (ps.getD i (0, 0, 0, 0)) (ps.getD j (0, 0, 0, 0)) where
  tri := fun i j hi hj e => lt4_tri fun z => e (by
    rw [List.getD_eq_getElem?_getD, List.getD_eq_getElem?_getD, List.getElem?_eq_getElem hi, List.getElem?_eq_getElem hj] at z
    exact (List.getElem_inj nd).mp z)
  tr := fun i j k _ _ _ h1 h2 => lt4_tr h1 h2
theorem map_getD_range {α : Type} (l : List α) (d : α) : (List.range l.length).map (fun i => l.getD i d) = l := by
  refine List.ext_getElem (by simp) fun i h1 h2 => ?_
  simp [h2]
theorem getD_map {α β : Type} (f : α → β) (l : List α) (i : Nat) (d : α) (hi : i < l.length) (d' : β) : (l.map f).getD i d' = f (l.getD i d) := by
  rw [List.getD_eq_getElem?_getD, List.getD_eq_getElem?_getD, List.getElem?_map, List.getElem?_eq_getElem hi]
  rfl
theorem tups_of {M : Model} {h : Heap} : ∀ {ps : List Pt4} {its : List Value}, IsKs h (ps.map ptD) its → ∃ fs, PySem.W.KatTups h its fs ∧ fs.length = ps.length ∧ ∀ v ∈ fs, PySem.W.Looks M h (typeOf v) (.type "tuple")
  | [], its, x => by
    rw [isKs_nil x]
    exact ⟨[], True.intro, rfl, fun _ z => nomatch z⟩
  | p :: ps, its, x => by
    obtain ⟨v, r, rfl, x1, x2⟩ := isKs_cons x
    obtain ⟨fs, t, l, hf⟩ := tups_of (M := M) x2
    obtain ⟨a, u1, u2, rfl, ⟨o, ho, hc, n, hd⟩, k1, _⟩ := isK_pt x1
    obtain ⟨b, t1, t2, rfl, ⟨o2, ho2, hc2, _⟩⟩ := isK_two k1
    refine ⟨.ref b :: fs, PySem.W.KatTups.cons ho hc hd rfl t, by rw [List.length_cons, List.length_cons, l], fun v hv => ?_⟩
    rcases List.mem_cons.mp hv with z | z
    · subst z
      have this : PySem.W.Looks M h (typeOf (.ref b)) o2.cls := (PySem.W.Looks.ld ho2).andThen .now
      rw [hc2] at this
      exact this
    · exact hf v z
theorem cd_sortP (hu : X.A.units + 10 < cLine) : CallD X (.builtin "sorted") sSortP := by
  intro pins s σ H xs us Q I r ⟨ds, M, Q', rs, hm, q, k⟩
  match ds, q with
  | [.ref a], q =>
    obtain ⟨ps, ha, nd, l2, l64, q⟩ := q
    obtain ⟨v, rfl, rv⟩ := one_of rs
    obtain rfl := rep_ref_eq rv
    obtain ⟨u, rfl, ru⟩ := vals1 r
    cases ru
    obtain ⟨vs, hH, hr⟩ := hm.l a _ ha
    obtain ⟨hz, its, n, hv, hl, e⟩ := I.lstM hH
    obtain ⟨m, F0⟩ := I.fr
    have lp : ps.length = its.length := by have := hr.length; rw [List.length_map] at this; omega
    have isk : ∀ (h : Heap), (∀ b its, IsTup s.heap b its → IsTup h b its) → ∀ i, i < ps.length → IsK h (ptD (ps.getD i (0, 0, 0, 0))) (its.getD i Value.none) := fun h kp i hi => by
      obtain ⟨v, e1, rv⟩ := hr.get (i := i) (d := ptD (ps.getD i (0, 0, 0, 0))) (by rw [List.getElem?_map, List.getElem?_eq_getElem hi, List.getD_eq_getElem?_getD, List.getElem?_eq_getElem hi]; rfl)
      obtain ⟨x, e2, rx⟩ := hv.get e1
      have e3 : its.getD i Value.none = x := by rw [List.getD_eq_getElem?_getD, e2]; rfl
      rw [e3]
      exact (isK_of I (key_pt _) rv rx).keep kp
    refine PySem.W.kat_sorted F0 news_all (vs := its) ⟨_, e, rfl, _, rfl⟩ (by omega) (by omega) fun q1 e1 h1 F1 N1 lt1 => ?_
    have kp1 : ∀ b its, IsTup s.heap b its → IsTup h1 b its := fun b its ⟨o, ho, hc, n, hd⟩ => by
      refine ⟨o, ?_, hc, n, hd⟩
      have hb : b ≠ X.env.locals := fun z => by
        obtain ⟨o', es, ep, ho', hd', _⟩ := F0.ns
        rw [← z, ho] at ho'
        cases ho'
        rw [hd] at hd'; cases hd'
      cases z : X.base.get? b with
      | some u =>
        have := I.bk b u z
        rw [ho] at this; cases this
        exact F1.keep b _ z
      | none => exact (N1 (b, o) (List.mem_cons_of_mem _ (mem_allNews hb z ho))).1
    have isk1 := isk h1 kp1
    have all6 : (ps.map ptD).all (keyN 6) = true := List.all_eq_true.mpr fun d hd => by obtain ⟨p, _, rfl⟩ := List.mem_map.mp hd; exact key_pt p
    have hK : IsKs h1 (ps.map ptD) its := (isKs_of I all6 hr hv).keep kp1
    obtain ⟨fs, tf, lf, hf⟩ := tups_of (M := model X.prog X.w) hK
    refine PySem.W.kat_kind (s := { s with heap := h1 }) tf (by omega) hf rfl ?_
    have L := lin_pts nd
    have hn : 0 < ps.length := by omega
    have S := sort_run L hn
    generalize hlt : (fun i j => lt4 (ps.getD i (0, 0, 0, 0)) (ps.getD j (0, 0, 0, 0))) = lt at L S
    rw [← lp]
    refine krun_wpI (n := ps.length) (lt := lt) (s := { s with heap := h1 }) (fun i j C hi hj hC => ?_) _ (ai_sort hn) ?_
    · unfold PySem.W.kas_ask
      refine cmp_pt (s := { s with heap := h1 }) (by show X.A.units + 1 + 1 + 3 < cLine; omega) (isk1 i hi) (isk1 j hj) ?_
      rw [← hlt] at hC
      exact hC
    · generalize krun lt (PySem.W.kas_sort ps.length) = p at S
      obtain ⟨P, inc⟩ := S
      have hp : ∀ i ∈ p.toList, i < (ps.map ptD).length := fun i hi => by rw [List.length_map]; exact List.mem_range.mp (P.perm.mem_iff.mp hi)
      obtain ⟨r1, v1⟩ := pick_reps hr hv .non p.toList hp
      refine PySem.W.KasFin.intro F1 N1 (.head fun q' hq' => Nat.ne_of_lt (lt1 q' hq')) fun h2 c F2 N2 => ?_
      obtain ⟨hq, I2⟩ := inv_madeL (t' := s.toks) I F0 (zs := p.toList.map fun i => vs.getD i .non) lt1 F2 N2 v1 (by rw [List.length_map, P.perm.length_eq, List.length_range]; omega)
      have ez : (p.toList.map fun i => (ps.map ptD).getD i .non) = (p.toList.map fun i => ps.getD i (0, 0, 0, 0)).map ptD := by
        rw [List.map_map]
        exact List.map_congr_left fun i hi => getD_map ptD ps i _ (by simpa using hp i hi) _
      rw [ez] at r1
      refine ⟨.ref q1, _, I2, rfl, k _ _ ⟨.ref q1, _, rep_ref, hm.lnew hq r1, Ext.new hq _, q q1 _ (hm.fresh hq) ?_ ?_⟩⟩
      · have := P.perm.map fun i => ps.getD i (0, 0, 0, 0)
        rwa [map_getD_range] at this
      · rw [List.pairwise_map, List.pairwise_iff_getElem]
        intro i j hi hj hij
        have hs := P.size
        have := inc i j hij (by simpa [hs] using hj)
        rw [← hlt] at this
        have gi : ∀ x (hx : x < p.toList.length), p.getD x 0 = p.toList[x] := fun x hx => by
          rw [Array.getD_eq_getD_getElem?, Array.getElem?_eq_getElem (by simpa using hx)]
          simp
        rw [gi i hi, gi j hj] at this
        exact this
theorem cd_sortPr {kr : Nat} (hr : Room kr X.A) : CallD X (.builtin "sorted") sSortP := cd_sortP (by have := hr.un; omega)
end
end Dd

set_option Elab.async false
set_option linter.all false
set_option maxRecDepth 100000
set_option maxHeartbeats 4000000
namespace L2
open PySem PySem.Spec PyProof.Rows
def ItzL (K : PySem.W.Frag) (l1 l2 : Addr) : It :=
  ⟨fun i H => ∃ xs ys x y, SqL K H l1 xs ∧ SqL K H l2 ys ∧ xs[i]? = some x ∧ ys[i]? = some y,
   fun i H v H' => ∃ p x y, v = .ref p ∧ H p = none ∧ H' = upd H p (.tup [x, y]) ∧ ∀ xs ys, SqL K H l1 xs → SqL K H l2 ys → xs[i]? = some x ∧ ys[i]? = some y,
   fun i H => ∃ xs ys, SqL K H l1 xs ∧ SqL K H l2 ys ∧ (xs.length ≤ i ∨ ys.length ≤ i)⟩
theorem turn_zipL {P : Program} {w : World} {K : PySem.W.Frag} {elts : List Expr} {kk : Nat} {tpos : Pos} {z TI TO i1 i2 l1 l2 : Addr} (D : ZipApart z TI TO i1 i2 l1 l2) :
    Turn P w K (.Tuple elts kk tpos) (ItzL K l1 l2) [z, TI, TO, i1, i2] z (fun i h => IsZip h z TI TO .none ∧ IsPair h TI (.ref i1) (.ref i2) ∧ (∃ a b, IsPair h TO a b) ∧ h.IsListIter i1 l1 i ∧ h.IsListIter i2 l2 i) where
  mem := by simp
  obj := fun i h st b hb => by
    obtain ⟨hz, hTI, ⟨a, c, hTO⟩, ⟨o1, e1, c1, d1⟩, ⟨o2, e2, c2, d2⟩⟩ := st
    simp only [List.mem_cons, List.not_mem_nil, or_false] at hb
    rcases hb with rfl | rfl | rfl | rfl | rfl
    · exact ⟨_, hz, fun v z => by cases z⟩
    · exact ⟨_, hTI, fun v z => by cases z⟩
    · exact ⟨_, hTO, fun v z => by cases z⟩
    · exact ⟨o1, e1, fun v z => by rw [d1] at z; cases z⟩
    · exact ⟨o2, e2, fun v z => by rw [d2] at z; cases z⟩
  keep := fun i h h' st k => by
    obtain ⟨hz, hTI, ⟨a, c, hTO⟩, t1, t2⟩ := st
    exact ⟨k z (by simp) _ hz, k TI (by simp) _ hTI, ⟨a, c, k TO (by simp) _ hTO⟩, t1.at fun o e => k i1 (by simp) o e, t2.at fun o e => k i2 (by simp) o e⟩
  item := by
    intro X hP hw hK hc i pins s σ H E I hf st hg
    subst hP hw hK
    obtain ⟨xs, ys, x, y, hq1, hq2, hx, hy⟩ := hg
    obtain ⟨hz, hTI, ⟨a, c, hTO⟩, t1, t2⟩ := st
    obtain ⟨its1, rv1, p1, hz1⟩ := I.list hq1
    obtain ⟨its2, rv2, p2, hz2⟩ := I.list hq2
    obtain ⟨u1, hu1, ru1⟩ := rv1.get hx
    obtain ⟨u2, hu2, ru2⟩ := rv2.get hy
    refine wpAny_pyNext_zip_item D hz hTI hTO t1 t2 p1.isList p2.isList (x := u1) (y := u2) (by simpa using hu1) (by simpa using hu2) fun h' a1 a2 a3 a4 a5 a6 a7 => ?_
    refine ⟨_, rfl, wpAny_letOwnedTupleGo_zip (s := { s with heap := h' }) a1 fun h2 b1 b2 => ?_⟩
    have ltz := Heap.lt_size hz
    have nz : s.heap.objs.size ≠ z := Nat.ne_of_gt ltz
    have k2 : ∀ b o, b ∉ [z, TI, TO, i1, i2] → s.heap.get? b = some o → h2.get? b = some o := fun b o hb e => b2.extBut _ _ (fun q => hb (by simp [q])) (a7 b o (fun q => hb (by simp [q])) (fun q => hb (by simp [q])) (fun q => hb (by simp [q])) (fun q => hb (by simp [q])) e)
    have hTI2 : IsPair h2 TI (.ref i1) (.ref i2) := b2.extBut _ _ D.TIz (a7 _ _ D.TIz D.TITO D.TIi1 D.TIi2 hTI)
    have hTO2 : IsPair h2 TO u1 u2 := b2.extBut _ _ D.TOz a2
    have e1 : h2.IsListIter i1 l1 (i + 1) := a3.extBut b2.extBut D.i1z
    have e2 : h2.IsListIter i2 l2 (i + 1) := a4.extBut b2.extBut D.i2z
    have I2 : Inv X pins σ (upd H s.heap.objs.size (.tup [x, y])) { s with heap := h2 } := I.turnedT (its := [u1, u2]) k2 hf (Nat.le_refl _) (by show 2 ≤ sizeLine; decide) (.cons ru1 (.cons ru2 .nil)) ⟨_, b2.extBut _ _ nz a5, rfl, _, rfl⟩ fun b hb => by
      simp only [List.mem_cons, List.not_mem_nil, or_false] at hb
      rcases hb with rfl | rfl | rfl | rfl | rfl
      · exact ⟨_, b1⟩
      · exact ⟨_, hTI2⟩
      · exact ⟨_, hTO2⟩
      · obtain ⟨o, e, _⟩ := e1; exact ⟨o, e⟩
      · obtain ⟨o, e, _⟩ := e2; exact ⟨o, e⟩
    refine ⟨.ref s.heap.objs.size, _, I2, rfl, ⟨_, x, y, rfl, I.hok.fresh (Nat.le_refl _), rfl, fun xs' ys' q1 q2 => by rw [I.list_inj q1 hq1, I.list_inj q2 hq2]; exact ⟨hx, hy⟩⟩, ⟨b1, hTI2, ⟨_, _, hTO2⟩, e1, e2⟩, fun b hb => ?_⟩
    rw [upd_ne]
    · exact (hf b hb).1
    · intro q
      subst q
      simp only [List.mem_cons, List.not_mem_nil, or_false] at hb
      obtain ⟨o1, g1, _⟩ := t1
      obtain ⟨o2, g2, _⟩ := t2
      rcases hb with q | q | q | q | q
      · exact nz q
      · exact absurd (Heap.lt_size hTI) (by rw [← q]; exact Nat.lt_irrefl _)
      · exact absurd (Heap.lt_size hTO) (by rw [← q]; exact Nat.lt_irrefl _)
      · exact absurd (Heap.lt_size g1) (by rw [← q]; exact Nat.lt_irrefl _)
      · exact absurd (Heap.lt_size g2) (by rw [← q]; exact Nat.lt_irrefl _)
  done := by
    intro X hP hw hK hc i pins s σ H E I hf st hg
    subst hP hw hK
    obtain ⟨xs, ys, hq1, hq2, hend⟩ := hg
    obtain ⟨hz, hTI, ⟨a, c, hTO⟩, t1, t2⟩ := st
    obtain ⟨its1, rv1, p1, hz1⟩ := I.list hq1
    obtain ⟨its2, rv2, p2, hz2⟩ := I.list hq2
    have w1 := rv1.length
    have w2 := rv2.length
    refine wpAny_pyNext_zip_end (I.ok.hd hc) D hz hTI hTO t1 t2 p1.isList p2.isList ?_ fun h' k => ⟨rfl, I.turnedL (fun b o hb e => k b o (fun q => hb (by simp [q])) (fun q => hb (by simp [q])) (fun q => hb (by simp [q])) (fun q => hb (by simp [q])) e) hf⟩
    rcases hend with q | q
    · exact .inl (by simp; omega)
    · exact .inr (by simp; omega)
  self := fun _ _ _ _ _ st h => wpAny_pyIter_zip st.1 h
def iZipL (K : PySem.W.Frag) (ta : TA) : TI := fun σ H R => ta σ H fun vs H1 => ∃ a b, vs = [.ref a, .ref b] ∧ (∃ xs, SqL K H1 a xs) ∧ (∃ ys, SqL K H1 b ys) ∧ R (ItzL K a b) H1
theorem pi_zipL {X : Cx} {elts : List Expr} {kk : Nat} {tpos : Pos} {a b : Expr} {ta : TA} {p pos : Pos} (hg : Gl X "zip") (hm : X.mg "zip" = none) (ha : PA X [a, b] ta) (hs : starEach [a, b] X.env = [(false, eval a X.env), (false, eval b X.env)] := by rfl) (hs2 : starEach [b] X.env = [(false, eval b X.env)] := by rfl) :
    PI X (.Tuple elts kk tpos) (.Call (.Name "zip" p) [a, b] [] pos) (iZipL X.K ta) := by
  intro pins s σ H R I h
  refine Call_ (ld_blt I hg hm (show bootBuiltins "zip" = some (.type "zip") from rfl) (PyProof.Rows.callWith_type1 (thn (ha pos pins s σ H _ I h) fun us s1 ⟨vs, H1, I1, r1, q1⟩ => ?_) (by rw [hs, hs2]) (by rw [hs2]; rfl)))
  obtain ⟨l1, l2, rfl, ⟨xs, hq1⟩, ⟨ys, hq2⟩, q⟩ := q1
  obtain ⟨u1, u2, rfl, e1, e2⟩ := r1.two
  cases e1
  cases e2
  obtain ⟨its1, rv1, p1, hz1⟩ := I1.list hq1
  obtain ⟨its2, rv2, p2, hz2⟩ := I1.list hq2
  have lt1 : l1 < s1.heap.objs.size := by obtain ⟨o, ho, _⟩ := p1.isList; exact Heap.lt_size ho
  have lt2 : l2 < s1.heap.objs.size := by obtain ⟨o, ho, _⟩ := p2.isList; exact Heap.lt_size ho
  refine call_zip_2 p1.isList p2.isList fun h' b1 b2 b3 b4 b5 b6 b7 => ?_
  refine wpAny_pyIter_zip (s := { s1 with heap := h' }) b1 ?_
  have D : ZipApart (s1.heap.objs.size + 4) (s1.heap.objs.size + 2) (s1.heap.objs.size + 3) s1.heap.objs.size (s1.heap.objs.size + 1) l1 l2 := apartN _ _ _ lt1 lt2
  refine ⟨s1.heap.objs.size + 4, [s1.heap.objs.size + 4, s1.heap.objs.size + 2, s1.heap.objs.size + 3, s1.heap.objs.size, s1.heap.objs.size + 1], _, _, H1, rfl, I1.kept (t' := s1.toks) b7, turn_zipL D, ⟨b1, b2, ⟨_, _, b3⟩, b4, b5⟩, fun b hb => ?_, q⟩
  have hb' : s1.heap.objs.size ≤ b := by
    simp only [List.mem_cons, List.not_mem_nil, or_false] at hb
    rcases hb with rfl | rfl | rfl | rfl | rfl <;> omega
  exact I1.fpOk hb' (I1.hok.fresh hb')
end L2
namespace Dd
open PySem PySem.Spec PyProof.Rows L2
section
variable {X : Cx} {pos : Pos} {iter tg : Expr} {body : List Stmt} {tl : DE} {g : DG} {tb : DS} {ta : DA}
def dItZ (a b : Addr) (xs ys : List D) (g : DG) (tb : DS) : DS := fun E ρ M => ∃ Pv : Nat → DEnv → DM → Prop, Pv 0 ρ M ∧
  (∀ i ρ M, i ≤ (zipD xs ys).length → Pv i ρ M → M a = some xs ∧ M b = some ys) ∧
  (∀ i d ρ M, (zipD xs ys)[i]? = some d → Pv i ρ M → g d ρ M fun ρ2 M2 => tb { E with nx := Pv (i + 1), ct := Pv (i + 1), bk := E.nx } ρ2 M2) ∧ ∀ ρ M, Pv (zipD xs ys).length ρ M → E.nx ρ M
theorem itzL_ok {K : PySem.W.Frag} {l1 l2 : Addr} {xs ys : List D} {E : Ends} {Dn : DEnds} {σ : L2.St} {ρ : DEnv} {M : DM} {H0 H : Hp} {J : It} (ex0 : Ext H0 H) (re : RepE K H ρ σ) (hm : HRep K M H) (k : EndsOk K H0 Dn E) (h : dItZ l1 l2 xs ys g tb Dn ρ M)
    (seq : ∀ H' M', Ext H H' → HRep K M' H' → M' l1 = some xs → M' l2 = some ys → (∀ i, (zipD xs ys).length ≤ i → J.stop i H') ∧ (∀ i, i < (zipD xs ys).length → J.go i H') ∧ ∀ i x H2, J.yld i H' x H2 → Ext H' H2 ∧ (∀ M', HRep K M' H' → HRep K M' H2) ∧ (i < (zipD xs ys).length → ∃ d, (zipD xs ys)[i]? = some d ∧ Rep K H2 d x)) :
    ∃ W : Nat → Nat → L2.St → Hp → Prop, (∃ m, W 0 m σ H) ∧ ∀ i m σ H, W i m σ H →
      (J.stop i H ∧ E.nx σ H) ∨ (J.go i H ∧ ∃ N : L2.St → Hp → Prop, (∀ σ' H', N σ' H' → ∃ m', m' < m ∧ W (i + 1) m' σ' H') ∧ ∀ x H', J.yld i H x H' → lowG K g x σ H' fun σ2 H2 => lowS K tb { E with nx := N, ct := N, bk := E.nx } σ2 H2) := by
  obtain ⟨Pv, p0, hat, step, done⟩ := h
  generalize hds : zipD xs ys = ds at *
  refine ⟨fun i m σ' H' => ∃ ρ' M', RepE K H' ρ' σ' ∧ HRep K M' H' ∧ Ext H H' ∧ m = ds.length - i ∧ i ≤ ds.length ∧ Pv i ρ' M', ⟨ds.length, ρ, M, re, hm, .refl H, rfl, Nat.zero_le _, p0⟩, ?_⟩
  rintro i m σ1 H1 ⟨ρ1, M1, re1, hm1, e1, rfl, hi, w1⟩
  obtain ⟨m1, m2⟩ := hat i ρ1 M1 hi w1
  obtain ⟨hst, hgo, hy⟩ := seq H1 M1 e1 hm1 m1 m2
  by_cases hlt : i < ds.length
  · refine .inr ⟨hgo i hlt, fun σ' H' => ∃ ρ' M', RepE K H' ρ' σ' ∧ HRep K M' H' ∧ Ext H H' ∧ Pv (i + 1) ρ' M', fun σ' H' ⟨ρ', M', a, b, c, d⟩ => ⟨ds.length - (i + 1), by omega, ρ', M', a, b, c, rfl, hlt, d⟩, fun x H' y => ?_⟩
    obtain ⟨ey, hmy, hd⟩ := hy i x H' y
    obtain ⟨d, hd, rd⟩ := hd hlt
    refine ⟨d, ρ1, M1, _, rd, re1.ext ey, hmy _ hm1, step i d ρ1 M1 hd w1, fun σ2 H2 ⟨ρ2, M2, re2, hm2, e2, q2⟩ => ⟨ρ2, M2, _, re2, hm2, q2, ?_⟩⟩
    have ex := (e1.trans ey).trans e2
    exact ⟨fun σ' H' ⟨ρ', M', a, b, c, d⟩ => ⟨ρ', M', a, b, ex.trans c, d⟩, fun v H' z => k.rt v H' (z.back (ex0.trans ex)), fun σ' H' z => k.nx σ' H' (z.back (ex0.trans ex)), fun σ' H' ⟨ρ', M', a, b, c, d⟩ => ⟨ρ', M', a, b, ex.trans c, d⟩⟩
  · have e : i = ds.length := by omega
    subst e
    exact .inl ⟨hst _ (Nat.le_refl _), k.nx σ1 H1 ⟨ρ1, M1, re1, hm1, ex0.trans e1, done ρ1 M1 w1⟩⟩
def dForZL (ta : DA) (g : DG) (tb : DS) : DS := fun E ρ M => ta ρ M fun ds M1 => match ds with
  | [.ref a, .ref b] => ∃ xs ys, M1 a = some xs ∧ M1 b = some ys ∧ dItZ a b xs ys g tb E ρ M1
  | _ => False
theorem ds_forZL {elts : List Expr} {kk : Nat} {tpos : Pos} {a b : Expr} {p pos' : Pos} (hp : PassesOwn (model X.prog X.w) X.A X.env X.xe) (hc : X.calm = true) (hmg : X.mg "zip" = none) (ha : PDA X [a, b] ta) (hg : PDG X (.Tuple elts kk tpos) g) (hb : PDSs X body tb) (hgl : Gl X "zip" := by rfl) (hse : starEach [a, b] X.env = [(false, eval a X.env), (false, eval b X.env)] := by rfl) (hse2 : starEach [b] X.env = [(false, eval b X.env)] := by rfl)
    (hs : ∀ x, foldedSetIterable (.Call (.Name "zip" p) [a, b] [] pos') X.env x = pure x := by intro _; rfl) : PDS X (.For (.Tuple elts kk tpos) (.Call (.Name "zip" p) [a, b] [] pos') body [] pos) (dForZL ta g tb) :=
  ps_imp (ps_for hp hc (pi_zipL hgl hmg ha hse hse2) hg hb hs) fun E σ H ⟨ρ, M, Dn, re, hm, q, k⟩ => ⟨ρ, M, _, re, hm, q, fun vs H1 ⟨ds, M1, rs, hm1, ex, q1⟩ => by
    match ds, q1 with
    | [.ref l1, .ref l2], q1 =>
      obtain ⟨xs, ys, a1, a2, q1⟩ := q1
      obtain ⟨v1, v2, rfl, rv1, rv2⟩ := two_of rs
      obtain rfl := rep_ref_eq rv1
      obtain rfl := rep_ref_eq rv2
      obtain ⟨us, hu, r1⟩ := hm1.l l1 xs a1
      obtain ⟨ws, hw, r2⟩ := hm1.l l2 ys a2
      refine ⟨l1, l2, rfl, ⟨us, .of hu⟩, ⟨ws, .of hw⟩, itzL_ok ex (re.ext ex) hm1 k q1 fun H' M' e' hm' b1 b2 => ?_⟩
      obtain ⟨us, hu, r1⟩ := hm'.l l1 xs b1
      obtain ⟨ws, hw, r2⟩ := hm'.l l2 ys b2
      have n1 := r1.length
      have n2 := r2.length
      have n3 := zipD_len xs ys
      refine ⟨fun i hi => ⟨us, ws, .of hu, .of hw, by omega⟩, fun i hi => ⟨us, ws, us[i]'(by omega), ws[i]'(by omega), .of hu, .of hw, by simp, by simp⟩, fun i x H2 ⟨pp, vx, vy, e1, hn, e2, all⟩ => ?_⟩
      subst e1 e2
      refine ⟨Ext.new hn _, fun M' h => h.new hn _, fun hi => ?_⟩
      obtain ⟨a1, a2⟩ := all us ws (.of hu) (.of hw)
      obtain ⟨dx, hdx, rdx⟩ := r1.getV a1
      obtain ⟨dy, hdy, rdy⟩ := r2.getV a2
      exact ⟨_, zipD_get hdx hdy, rep_tup_mk (.of upd_same) (reps_cons (rdx.ext (Ext.new hn _)) (reps_cons (rdy.ext (Ext.new hn _)) reps_nil))⟩⟩
theorem cx_w {CX : CXT} {P : Program} {w : World} {K : PySem.W.Frag} {mg : Str → Option Value} {base : Heap} {N : List Str} {qual : Str} {scope : Scope} {f : Addr} {cd : Value} {A : Around} {outer : List Env} {s : Shared} {H : Hp} {E : XK} : (cxOf CX P w K mg base N qual scope f cd A outer s H E).w = w := rfl
end
end Dd

set_option Elab.async false
set_option linter.all false
set_option maxRecDepth 100000
set_option maxHeartbeats 4000000
namespace Dd
open PySem PySem.Spec PyProof.Rows L2
section
variable {X : Cx} {pins : List (Addr × Obj)} {σ : L2.St} {H : Hp} {s : Shared}
end
section
variable {X : Cx} {pos : Pos}
theorem zde_dict2 {k v k' v' : Expr} {tk tv tk' tv' : DE} {kr : Nat} (hr : Room kr X.A) (hk : ZE X k tk) (hv : ZE X v tv) (hk' : ZE X k' tk') (hv' : ZE X v' tv') : ZE X (.Dict [some k, some k'] [v, v'] pos) (dDict X.w [(tk, tv), (tk', tv')]) := .i (de_dict2 hr hk.o hv.o hk'.o hv'.o)
theorem zdg_subKr {o i : Expr} {to ti : DE} {kr : Nat} (hr : Room kr X.A) (ho : ZE X o to) (hi : ZE X i ti) (ha : ∀ v, assign (.Subscript o i pos) X.env v = (do
      let ov ← holding [v] (eval o X.env)
      let iv ← holding [v, ov] (eval i X.env)
      standAt pos
      holding [v, ov, iv] (setItem ov iv v)
      release [v, ov, iv] []) := by intro _; rfl) : ZG X (.Subscript o i pos) (dSetK X.w to ti) := .i (dg_subKr hr ho.o hi.o ha)
end
section
variable {X : Cx} {pos : Pos} {iter tg : Expr} {body : List Stmt} {tl : DE} {g : DG} {tb : DS} {ta : DA}
theorem zds_forZL {elts : List Expr} {kk : Nat} {tpos : Pos} {a b : Expr} {p pos' : Pos} (hp : PassesOwn (model X.prog X.w) X.A X.env X.xe) (hc : X.calm = true) (hmg : X.mg "zip" = none) (ha : ZA X [a, b] ta) (hg : ZG X (.Tuple elts kk tpos) g) (hb : ZSs X body tb) (hgl : Gl X "zip" := by rfl) (hse : starEach [a, b] X.env = [(false, eval a X.env), (false, eval b X.env)] := by rfl) (hse2 : starEach [b] X.env = [(false, eval b X.env)] := by rfl) (hs : ∀ x, foldedSetIterable (.Call (.Name "zip" p) [a, b] [] pos') X.env x = pure x := by intro _; rfl) : ZS X (.For (.Tuple elts kk tpos) (.Call (.Name "zip" p) [a, b] [] pos') body [] pos) (dForZL ta g tb) := .i (ds_forZL hp hc hmg ha.o hg.o hb.o hgl hse hse2 hs)
end
end Dd

set_option Elab.async false
set_option linter.all false
set_option maxRecDepth 100000
set_option maxHeartbeats 4000000
namespace Lw
open PySem PySem.Spec PyProof.Rows L2 Dd Mz
local macro_rules | `(tactic| decreasing_tactic) => `(tactic| try dsimp only [startD, dGtT, dCallE, dRaise, dTry, dTry0, DEnds.un, dIsX, sIsXs, dLeT, dCut, List.map, List.length_cons, List.length_nil, Nat.reduceAdd, Nat.reduceSub, List.reduceReplicate, List.cons_append, List.nil_append, List.set_cons_zero, List.set_cons_succ, List.getElem?_cons_zero, List.getElem?_cons_succ, gCn, gN, gNl, gU_tup, gU_ref, gU_PQ, gU_FQ, gU_FR, ixFR0, ixFR1, ixFR2, ixFR3, sLen_PQ, sLen_FQ, sLen_FR, sLen_ref, sAbs_i, sLen_fz, sLen_t0, sLen_t1, sLen_t2, sLen_t3, sLen_t4, sLen_t5, sLen_FmD, gU_FmD, ixFm0, ixFm1, ixFm2, ixFm3, ixT, ixF, ixRf, ixFQ0, ixFQ1, ixPQ0, ixPQ1, dRet, dRetN, dCall, dCons, dNil, dOp, dVar, dC, d2I, d2J, dAdd, dTest, dAnd, dOr, dNot, dAndV, dOrV, dNotV, dIfE, dTup, dLst, dNext, dSeq, dBreak, dCont, dDrop, dIfS, dNever, dAsg, dPar, dSetI, dForT_eq, foT_tup, foT_PQ, dForZ_eq, foZ_PQ, dForL, dFor1, dFor2, dSetLc, dLcL, dLcIL, dLcIT, dLcI1, dLcT_eq, itT_tup, itT_PQ, itT_FQ, dLc1, goC, goA, goF, goR, goL, dSame, dInT, dInP, dInsert, dPop, rho0, Option.join_some, sAll, dNeg, dNoP, dPt, dSlR, dSl, dSlT, dInR, dInRng, dAppend, dExtend, dChain, dRev, sInt, sTwoI, sMin, sMax, sList, dDict, dDict0, dPairs, dSetK, sLenK, sListK, sSortP, dForZL, cx_w, dIs_eq, dAug, dIsR, isV, at_1_0, at_1_m, at_2_0, at_2_1, at_2_m, at_3_0, at_3_1, at_3_2, at_3_m, at_4_0, at_4_1, at_4_2, at_4_3, at_4_m, at_5_0, at_5_1, at_5_2, at_5_3, at_5_4, at_5_m, at_6_0, at_6_1, at_6_2, at_6_3, at_6_4, at_6_5, at_6_m])
local macro_rules | `(tactic| simp_arith) => `(tactic| try simp only [dEq_FQ, dEq_PQ, dEq_FR, dEq_int, dEq_str, id, decide_eq_true_eq, Bool.not_eq_true', decide_eq_false_iff_not])
def top (i : Nat) : Stmt := PySem.Challenge.pw_arcmill_k13_whole_stretches_cut_to_piece.main.body.getD i (.Pass ⟨0, 0, 0, 0⟩)
section
variable {P : Program} {w : World} {K : PySem.W.Frag} {mg : Str → Option Value} {base : Heap}
abbrev s_greatest_divisor : Stmt := top 5
theorem sc_greatest_divisor : FnScope ["one", "other"] ["one", "other"] (defScope s_greatest_divisor) := ⟨rfl, rfl, rfl, by decide +kernel, rfl, by decide +kernel, by decide +kernel⟩
theorem has_greatest_divisor (hF : HasF K mg "greatest_divisor" s_greatest_divisor ["one", "other"]) (n_abs : mg "abs" = none) : Has P w K mg base 101 "greatest_divisor" ["one", "other"] sp_greatest_divisor := by
  refine Has.mkZ hF sc_greatest_divisor (fun ds M Q ⟨a, b, e, _⟩ => by rw [e]; rfl) fun f cdv A outer s H ds M Q E hr h => ?_
  obtain ⟨a, b, rfl, q⟩ := h
  refine ⟨_, (zdss_cons (zds_while PassesOwn.never (zdt_cmp (od_ne hr) (zde_var 1) zde_int) (zdss_one (zds_par (i := 0) (j := 1) rfl sc_greatest_divisor.nd (zda_cons (zde_var 1) (zda_cons (zde_op od_mod (zde_var 0) (zde_var 1)) zda_nil)))))
    (zdss_one (zds_ret (zde_callB cd_abs n_abs (zda_cons (zde_var 0) zda_nil))))), ?_⟩
  refine dwhile_by (fun m ρ M' => M' = M ∧ ∃ x y : Int, ρ = [some (.int x), some (.int y)] ∧ m = y.natAbs ∧ Int.gcd x y = Int.gcd a b) _ ⟨rfl, a, b, rfl, rfl, rfl⟩ ?_
  rintro m ρ M' ⟨rfl, x, y, rfl, rfl, g⟩
  refine ⟨rfl, rfl, bcase (fun c => ?_) (fun c => ?_)⟩
  · have c : y ≠ 0 := by simpa [eqD] using c
    exact ⟨c, _, fmod_lt c, rfl, y, x.fmod y, rfl, rfl, (gcd_fmod x y).trans g⟩
  · have c : y = 0 := by simpa [eqD] using c
    subst c
    refine ⟨M', .refl _, ?_⟩
    have e : (if x < 0 then -x else x) = (Int.gcd a b : Int) := by rw [← g, Int.gcd_zero_right]; split <;> omega
    rw [e]
    exact q

def sp_ratio : DSp := fun ds M Q => ∃ t b, ds = [.int t, .int b] ∧ b ≠ 0 ∧ Bd 8999 b ∧ Q (FQ ((t : Rat) / (b : Rat))) M
abbrev s_ratio : Stmt := top 6
theorem sc_ratio : FnScope ["top", "bottom", "shared"] ["top", "bottom"] (defScope s_ratio) := ⟨rfl, rfl, rfl, by decide +kernel, rfl, by decide +kernel, by decide +kernel⟩
theorem has_ratio (hF : HasF K mg "ratio" s_ratio ["top", "bottom"]) (h_greatest_divisor : Has P w K mg base 101 "greatest_divisor" ["one", "other"] sp_greatest_divisor) : Has P w K mg base 102 "ratio" ["top", "bottom"] sp_ratio := by
  refine Has.mkZ hF sc_ratio (fun ds M Q ⟨a, b, e, _⟩ => by rw [e]; rfl) fun f cdv A outer s H ds M Q E hr h => ?_
  obtain ⟨t, b, rfl, hb, hB, q⟩ := h
  refine ⟨_, (zdss_cons (zds_if (zdt_cmp (od_eq hr) (zde_var 1) zde_int) (zdss_one zds_never) zdss_nil)
    (zdss_cons (zds_set (i := 2) sc_ratio.nd (zde_callH h_greatest_divisor hr (by decide) (zda_cons (zde_var 0) (zda_cons (zde_var 1) zda_nil))))
    (zdss_cons (zds_if (zdt_cmp od_lt (zde_var 1) zde_int) (zdss_one (zds_set (i := 2) sc_ratio.nd (zde_neg (zde_var 2)))) zdss_nil)
    (zdss_one (zds_ret (zde_tup (zda_cons (zde_op od_fdiv (zde_var 0) (zde_var 2)) (zda_cons (zde_op od_fdiv (zde_var 1) (zde_var 2)) zda_nil)))))))), ?_⟩
  refine ⟨rfl, rfl, bcase (fun c => absurd (by simpa [eqD] using c) hb) (fun _ => ?_)⟩
  refine ⟨t, b, rfl, ?_⟩
  have fin : Q (.tup [.int (fT t b), .int (fB t b)]) M := by rw [FQ_make hb]; exact q
  unfold fT fB at fin
  have s1 := sg_ne (t := t) hb
  have s2 := (hB.sg (t := t) hb).log (by decide)
  unfold sg at fin s1 s2
  refine dif (fun c => ?_) (fun c => ?_)
  · rw [if_pos c] at fin s1 s2
    exact ⟨⟨s1, Nat.lt_succ_of_lt s2⟩, ⟨s1, Nat.lt_succ_of_lt s2⟩, by show (2 : Nat) ≤ 1000; decide, M, .refl _, fin⟩
  · rw [if_neg c] at fin s1 s2
    exact ⟨⟨s1, Nat.lt_succ_of_lt s2⟩, ⟨s1, Nat.lt_succ_of_lt s2⟩, by show (2 : Nat) ≤ 1000; decide, M, .refl _, fin⟩

abbrev s_plus : Stmt := top 7
theorem sc_plus : FnScope ["one", "other", "shared", "part", "top", "left"] ["one", "other"] (defScope s_plus) := ⟨rfl, rfl, rfl, by decide +kernel, rfl, by decide +kernel, by decide +kernel⟩
theorem has_plus (hF : HasF K mg "plus" s_plus ["one", "other"]) (h_greatest_divisor : Has P w K mg base 101 "greatest_divisor" ["one", "other"] sp_greatest_divisor) : Has P w K mg base 102 "plus" ["one", "other"] sp_plus := by
  refine Has.mkZ hF sc_plus two_len fun f cdv A outer s H ds M Q E hr h => ?_
  obtain ⟨p, r, m, n, rfl, _, h1, h2, l, q⟩ := h
  refine ⟨_, (zdss_cons (zds_set (i := 2) sc_plus.nd (zde_callH h_greatest_divisor hr (by decide) (zda_cons (zde_ix (zde_var 0) zde_int) (zda_cons (zde_ix (zde_var 1) zde_int) zda_nil))))
    (zdss_cons (zds_set (i := 3) sc_plus.nd (zde_op od_fdiv (zde_ix (zde_var 0) zde_int) (zde_var 2)))
    (zdss_cons (zds_set (i := 4) sc_plus.nd (zde_op od_add (zde_op od_mul (zde_ix (zde_var 0) zde_int) (zde_op od_fdiv (zde_ix (zde_var 1) zde_int) (zde_var 2))) (zde_op od_mul (zde_ix (zde_var 1) zde_int) (zde_var 3))))
    (zdss_cons (zds_set (i := 5) sc_plus.nd (zde_callH h_greatest_divisor hr (by decide) (zda_cons (zde_var 4) (zda_cons (zde_var 2) zda_nil))))
    (zdss_one (zds_ret (zde_tup (zda_cons (zde_op od_fdiv (zde_var 4) (zde_var 5)) (zda_cons (zde_op od_mul (zde_var 3) (zde_op od_fdiv (zde_ix (zde_var 1) zde_int) (zde_var 5))) zda_nil))))))))), ?_⟩
  obtain ⟨g0, l0, gd, ld, e1, e2⟩ := addF p r _ _ _ _ rfl rfl rfl rfl
  have gr : (Int.gcd p.den r.den : Int) ∣ (r.den : Int) := Int.gcd_dvd_right _ _
  have bg : Bd m (Int.gcd p.den r.den : Int) := h1.2.dvd gd (den_ne p)
  refine ⟨_, _, rfl, fdOk h1.2 (by omega) gd (den_ne p) g0, fdOk h1.2 (by omega) gd (den_ne p) g0, mulOk h1.1 (h2.2.fdiv gr) (by omega), mulOk h2.1 (h1.2.fdiv gd) (by omega), _, _, rfl, ?_⟩
  refine ⟨fdOk bg (by omega) ld g0 l0, fdOk bg (by omega) ld g0 l0, mulOk (h1.2.fdiv gd) (h2.2.fdiv (Int.dvd_trans ld gr)) (by omega), by show (2 : Nat) ≤ 1000; decide, M, .refl _, ?_⟩
  have q' : Q (.tup [.int (p + r).num, .int ((p + r).den : Int)]) M := q
  rw [← e1, ← e2] at q'
  exact q'

abbrev s_minus : Stmt := top 8
theorem sc_minus : FnScope ["one", "other"] ["one", "other"] (defScope s_minus) := ⟨rfl, rfl, rfl, by decide +kernel, rfl, by decide +kernel, by decide +kernel⟩
theorem has_minus (hF : HasF K mg "minus" s_minus ["one", "other"]) (h_plus : Has P w K mg base 102 "plus" ["one", "other"] sp_plus) : Has P w K mg base 103 "minus" ["one", "other"] sp_minus := by
  refine Has.mkZ hF sc_minus two_len fun f cdv A outer s H ds M Q E hr h => ?_
  obtain ⟨p, r, m, n, rfl, _, h1, h2, l, q⟩ := h
  refine ⟨_, (zdss_one (zds_ret (zde_callH h_plus hr (by decide) (zda_cons (zde_var 0) (zda_cons (zde_tup (zda_cons (zde_neg (zde_ix (zde_var 1) zde_int)) (zda_cons (zde_ix (zde_var 1) zde_int) zda_nil))) zda_nil))))), ?_⟩
  refine ⟨by show (2 : Nat) ≤ 1000; decide, p, -r, m, n, by rw [FQ_neg'], trivial, h1, h2.neg, l, M, .refl _, ?_⟩
  show Q (FQ (p + -r)) M
  rw [← Rat.sub_eq_add_neg]
  exact q

abbrev s_times : Stmt := top 9
theorem sc_times : FnScope ["one", "other", "falling", "rising"] ["one", "other"] (defScope s_times) := ⟨rfl, rfl, rfl, by decide +kernel, rfl, by decide +kernel, by decide +kernel⟩
theorem has_times (hF : HasF K mg "times" s_times ["one", "other"]) (h_greatest_divisor : Has P w K mg base 101 "greatest_divisor" ["one", "other"] sp_greatest_divisor) : Has P w K mg base 102 "times" ["one", "other"] sp_times := by
  refine Has.mkZ hF sc_times two_len fun f cdv A outer s H ds M Q E hr h => ?_
  obtain ⟨p, r, m, n, rfl, _, h1, h2, l, q⟩ := h
  refine ⟨_, (zdss_cons (zds_set (i := 2) sc_times.nd (zde_callH h_greatest_divisor hr (by decide) (zda_cons (zde_ix (zde_var 0) zde_int) (zda_cons (zde_ix (zde_var 1) zde_int) zda_nil))))
    (zdss_cons (zds_set (i := 3) sc_times.nd (zde_callH h_greatest_divisor hr (by decide) (zda_cons (zde_ix (zde_var 1) zde_int) (zda_cons (zde_ix (zde_var 0) zde_int) zda_nil))))
    (zdss_one (zds_ret (zde_tup (zda_cons (zde_op od_mul (zde_op od_fdiv (zde_ix (zde_var 0) zde_int) (zde_var 2)) (zde_op od_fdiv (zde_ix (zde_var 1) zde_int) (zde_var 3))) (zda_cons (zde_op od_mul (zde_op od_fdiv (zde_ix (zde_var 0) zde_int) (zde_var 3)) (zde_op od_fdiv (zde_ix (zde_var 1) zde_int) (zde_var 2))) zda_nil))))))), ?_⟩
  obtain ⟨f0, r0, fd, rd, e1, e2⟩ := mulF p r _ _ rfl rfl
  have fl : (Int.gcd p.num r.den : Int) ∣ p.num := Int.gcd_dvd_left _ _
  have rl : (Int.gcd r.num p.den : Int) ∣ r.num := Int.gcd_dvd_left _ _
  refine ⟨_, _, rfl, _, _, rfl, fdOk h2.2 (by omega) fd (den_ne r) f0, fdOk h1.2 (by omega) rd (den_ne p) r0, mulOk (h1.1.fdiv fl) (h2.1.fdiv rl) (by omega), fdOk h1.2 (by omega) rd (den_ne p) r0, fdOk h2.2 (by omega) fd (den_ne r) f0, mulOk (h1.2.fdiv rd) (h2.2.fdiv fd) (by omega), by show (2 : Nat) ≤ 1000; decide, M, .refl _, ?_⟩
  have q' : Q (.tup [.int (p * r).num, .int ((p * r).den : Int)]) M := q
  rw [← e1, ← e2] at q'
  exact q'

abbrev s_below : Stmt := top 10
theorem sc_below : FnScope ["one", "other"] ["one", "other"] (defScope s_below) := ⟨rfl, rfl, rfl, by decide +kernel, rfl, by decide +kernel, by decide +kernel⟩
theorem has_below (hF : HasF K mg "below" s_below ["one", "other"]) : Has P w K mg base 101 "below" ["one", "other"] sp_below := by
  refine Has.mkZ hF sc_below two_len fun f cdv A outer s H ds M Q E hr h => ?_
  obtain ⟨p, r, m, n, rfl, _, h1, h2, l, q⟩ := h
  refine ⟨_, (zdss_one (zds_ret (zde_cmp od_lt (zde_op od_mul (zde_ix (zde_var 0) zde_int) (zde_ix (zde_var 1) zde_int)) (zde_op od_mul (zde_ix (zde_var 1) zde_int) (zde_ix (zde_var 0) zde_int))))), ?_⟩
  refine ⟨mulOk h1.1 h2.2 (by omega), mulOk h2.1 h1.2 (by omega), M, .refl _, ?_⟩
  have e : decide (p.num * (r.den : Int) < r.num * (p.den : Int)) = decide (p < r) := decide_eq_decide.mpr (ltQ p r)
  show Q (.bl (decide (p.num * (r.den : Int) < r.num * (p.den : Int)))) M
  rw [e]
  exact q

abbrev s_before : Stmt := top 15
theorem sc_before : FnScope ["p", "q"] ["p", "q"] (defScope s_before) := ⟨rfl, rfl, rfl, by decide +kernel, rfl, by decide +kernel, by decide +kernel⟩
theorem has_before (hF : HasF K mg "before" s_before ["p", "q"]) (h_below : Has P w K mg base 101 "below" ["one", "other"] sp_below) : Has P w K mg base 102 "before" ["p", "q"] sp_before := by
  refine Has.mkZ hF sc_before (fun ds M Q ⟨x, y, u, v, e, _⟩ => by rw [e]; rfl) fun f cdv A outer s H ds M Q E hr h => ?_
  obtain ⟨x, y, u, v, rfl, h1, h2, h3, h4, q⟩ := h
  refine ⟨_, (zdss_cons (zds_if (zdt_cmp (od_eq hr) (zde_ix (zde_var 0) zde_int) (zde_ix (zde_var 1) zde_int)) (zdss_one (zds_ret (zde_callH h_below hr (by decide) (zda_cons (zde_ix (zde_var 0) zde_int) (zda_cons (zde_ix (zde_var 1) zde_int) zda_nil))))) zdss_nil)
    (zdss_one (zds_ret (zde_callH h_below hr (by decide) (zda_cons (zde_ix (zde_var 0) zde_int) (zda_cons (zde_ix (zde_var 1) zde_int) zda_nil)))))), ?_⟩
  unfold bef at q
  refine ⟨rfl, rfl, ?_⟩
  rw [show (id (eqD (FQ x) (FQ u))) = decide (x = u) from eqD_FQ x u]
  refine dif (fun c => ?_) (fun c => ?_)
  · rw [if_pos c] at q
    exact ⟨y, v, _, _, rfl, trivial, h2, h4, by decide, M, .refl _, q⟩
  · rw [if_neg c] at q
    exact ⟨x, u, _, _, rfl, trivial, h1, h3, by decide, M, .refl _, q⟩

inductive Pc where
  | dot (x y : Rat) | str (x y u v : Rat) | arc (cx cy ax ay bx by' : Rat) | ring (cx cy ax ay : Rat)
def pcD : Pc → D
  | .dot x y => .tup [.str "dot", PQ x y]
  | .str x y u v => .tup [.str "stretch", PQ x y, PQ u v]
  | .arc a b c d e f => .tup [.str "arc", PQ a b, PQ c d, PQ e f]
  | .ring a b c d => .tup [.str "ring", PQ a b, PQ c d]
def pcB (B : Nat) : Pc → Prop
  | .dot x y => BQ B x ∧ BQ B y
  | .str x y u v => BQ B x ∧ BQ B y ∧ BQ B u ∧ BQ B v
  | .arc a b c d e f => BQ B a ∧ BQ B b ∧ BQ B c ∧ BQ B d ∧ BQ B e ∧ BQ B f
  | .ring a b c d => BQ B a ∧ BQ B b ∧ BQ B c ∧ BQ B d
theorem pure_pc (p : Pc) : pureN 60 (pcD p) = true := by cases p <;> rfl
def mkS (x y u v : Rat) : Pc := if x = u ∧ y = v then .dot x y else if bef x y u v = true then .str x y u v else .str u v x y
theorem bef_flip {x y u v : Rat} (h : ¬ (x = u ∧ y = v)) : bef u v x y = !bef x y u v := by
  unfold bef
  by_cases c : x = u
  · subst c
    rw [if_pos rfl, if_pos rfl]
    have hy : y ≠ v := fun e => h ⟨rfl, e⟩
    by_cases d : y < v
    · rw [decide_eq_true d, decide_eq_false (by grind)]; rfl
    · rw [decide_eq_false d, decide_eq_true (by grind)]; rfl
  · rw [if_neg (fun e => c e.symm), if_neg c]
    by_cases d : x < u
    · rw [decide_eq_true d, decide_eq_false (by grind)]; rfl
    · rw [decide_eq_false d, decide_eq_true (by grind)]; rfl
theorem bef_self (x y : Rat) : bef x y x y = false := by
  unfold bef
  rw [if_pos rfl, decide_eq_false (by grind)]

def sp_stretch : DSp := fun ds M Q => ∃ x y u v, ds = [PQ x y, PQ u v] ∧ BQ 4400 x ∧ BQ 4400 y ∧ BQ 4400 u ∧ BQ 4400 v ∧ Q (pcD (mkS x y u v)) M
abbrev s_stretch : Stmt := top 17
theorem sc_stretch : FnScope ["p", "q"] ["p", "q"] (defScope s_stretch) := ⟨rfl, rfl, rfl, by decide +kernel, rfl, by decide +kernel, by decide +kernel⟩
theorem has_stretch (hF : HasF K mg "stretch" s_stretch ["p", "q"]) (h_before : Has P w K mg base 102 "before" ["p", "q"] sp_before) : Has P w K mg base 103 "stretch" ["p", "q"] sp_stretch := by
  refine Has.mkZ hF sc_stretch (fun ds M Q ⟨x, y, u, v, e, _⟩ => by rw [e]; rfl) fun f cdv A outer s H ds M Q E hr h => ?_
  obtain ⟨x, y, u, v, rfl, h1, h2, h3, h4, q⟩ := h
  refine ⟨_, (zdss_cons (zds_if (zdt_cmp (od_eq hr) (zde_var 0) (zde_var 1)) (zdss_one (zds_ret (zde_tup (zda_cons zde_str (zda_cons (zde_var 0) zda_nil))))) zdss_nil)
    (zdss_cons (zds_if (zdt_val (zde_callH h_before hr (by decide) (zda_cons (zde_var 0) (zda_cons (zde_var 1) zda_nil)))) (zdss_one (zds_ret (zde_tup (zda_cons zde_str (zda_cons (zde_var 0) (zda_cons (zde_var 1) zda_nil)))))) zdss_nil)
    (zdss_one (zds_ret (zde_tup (zda_cons zde_str (zda_cons (zde_var 1) (zda_cons (zde_var 0) zda_nil)))))))), ?_⟩
  decreasing_tactic
  rw [dEq_PQ]
  unfold mkS at q
  refine dif (fun c => ?_) (fun c => ?_)
  · rw [if_pos c] at q
    exact ⟨by decide, M, .refl _, q⟩
  rw [if_neg c] at q
  refine ⟨_, _, _, _, rfl, h1, h2, h3, h4, bcase (fun d => ?_) (fun d => ?_)⟩
  · rw [if_pos d] at q
    exact ⟨by decide, M, .refl _, q⟩
  · rw [if_neg (by rw [d]; decide)] at q
    exact ⟨by decide, M, .refl _, q⟩

def g3 (a b d : Int) : Int := (Int.gcd (Int.gcd a b : Int) d : Int)
def sg3 (a b d : Int) : Int := if a < 0 ∨ (a = 0 ∧ b < 0) then -g3 a b d else g3 a b d
def nlD (a b d : Int) : D := .tup [.str "line", .int (a.fdiv (sg3 a b d)), .int (b.fdiv (sg3 a b d)), .int (d.fdiv (sg3 a b d))]
def lnD (A B C : Rat) : D := nlD (A.num * (B.den : Int) * (C.den : Int)) (B.num * (A.den : Int) * (C.den : Int)) (C.num * (A.den : Int) * (B.den : Int))
theorem g3_dvd (a b d : Int) : g3 a b d ∣ a ∧ g3 a b d ∣ b ∧ g3 a b d ∣ d := by
  unfold g3
  have h1 := Int.gcd_dvd_left (Int.gcd a b : Int) d
  exact ⟨Int.dvd_trans h1 (Int.gcd_dvd_left a b), Int.dvd_trans h1 (Int.gcd_dvd_right a b), Int.gcd_dvd_right _ d⟩
theorem g3_pos {a b d : Int} (h : ¬ (a = 0 ∧ b = 0)) : 0 < g3 a b d := by
  unfold g3
  have : Int.gcd (Int.gcd a b : Int) d ≠ 0 := fun z => h (Int.gcd_eq_zero_iff.mp (by have := (Int.gcd_eq_zero_iff.mp z).1; omega))
  omega
theorem sg3_ne {a b d : Int} (h : ¬ (a = 0 ∧ b = 0)) : sg3 a b d ≠ 0 := by
  have := g3_pos (d := d) h
  unfold sg3; split <;> omega
theorem sg3_dvd (a b d : Int) : sg3 a b d ∣ a ∧ sg3 a b d ∣ b ∧ sg3 a b d ∣ d := by
  obtain ⟨h1, h2, h3⟩ := g3_dvd a b d
  unfold sg3
  split
  · exact ⟨Int.neg_dvd.mpr h1, Int.neg_dvd.mpr h2, Int.neg_dvd.mpr h3⟩
  · exact ⟨h1, h2, h3⟩
theorem sg3_bd {a b d : Int} {n : Nat} (h : ¬ (a = 0 ∧ b = 0)) (ha : Bd n a) (hb : Bd n b) : Bd n (sg3 a b d) := by
  obtain ⟨h1, h2, _⟩ := sg3_dvd a b d
  by_cases z : a = 0
  · exact Bd.dvd hb h2 (fun y => h ⟨z, y⟩)
  · exact Bd.dvd ha h1 z
theorem g3_mul (k a b d : Int) : g3 (k * a) (k * b) (k * d) = k.natAbs * g3 a b d := by
  unfold g3
  rw [Int.gcd_mul_left]
  have e : ((k.natAbs * Int.gcd a b : Nat) : Int) = (k.natAbs : Int) * (Int.gcd a b : Int) := by simp
  rw [e]
  have e2 : Int.gcd ((k.natAbs : Int) * (Int.gcd a b : Int)) (k * d) = Int.gcd ((k.natAbs : Int) * (Int.gcd a b : Int)) ((k.natAbs : Int) * d) := by
    rcases Int.natAbs_eq k with z | z
    · rw [← z]
    · have : k * d = -((k.natAbs : Int) * d) := by rw [← Int.neg_mul, ← z]
      rw [this, Int.gcd_neg]
  rw [e2, Int.gcd_mul_left]
  simp
theorem sg3_mul {k a b d : Int} (hk : k ≠ 0) (h : ¬ (a = 0 ∧ b = 0)) : sg3 (k * a) (k * b) (k * d) = k * sg3 a b d := by
  unfold sg3
  rw [g3_mul]
  have za : k * a = 0 ↔ a = 0 := by
    constructor
    · intro z; exact (Int.mul_eq_zero.mp z).resolve_left hk
    · rintro rfl; simp
  rcases Int.lt_or_lt_of_ne hk with neg | pos
  · have e : (k.natAbs : Int) = -k := by omega
    have na : ∀ z : Int, k * z < 0 ↔ 0 < z := fun z => by
      constructor
      · intro q
        rcases Int.lt_trichotomy z 0 with c | c | c
        · have := Int.mul_pos_of_neg_of_neg neg c; omega
        · subst c; omega
        · exact c
      · intro q; exact Int.mul_neg_of_neg_of_pos neg q
    rw [e]
    by_cases c : a < 0 ∨ (a = 0 ∧ b < 0)
    · rw [if_pos c, if_neg]
      · grind
      · rw [na, na, za]; omega
    · rw [if_neg c, if_pos]
      · grind
      · rw [na, na, za]; omega
  · have e : (k.natAbs : Int) = k := by omega
    have na : ∀ z : Int, k * z < 0 ↔ z < 0 := fun z => by
      constructor
      · intro q
        rcases Int.lt_trichotomy z 0 with c | c | c
        · exact c
        · subst c; omega
        · have := Int.mul_pos pos c; omega
      · intro q; exact Int.mul_neg_of_pos_of_neg pos q
    rw [e]
    by_cases c : a < 0 ∨ (a = 0 ∧ b < 0)
    · rw [if_pos c, if_pos]
      · grind
      · rw [na, na, za]; exact c
    · rw [if_neg c, if_neg]
      rw [na, na, za]; exact c
theorem nlD_mul {k a b d : Int} (hk : k ≠ 0) (h : ¬ (a = 0 ∧ b = 0)) : nlD (k * a) (k * b) (k * d) = nlD a b d := by
  have c : ∀ {z : Int}, sg3 a b d ∣ z → (k * z).fdiv (k * sg3 a b d) = z.fdiv (sg3 a b d) := fun {z} hz => by
    rw [Int.fdiv_eq_ediv_of_dvd (Int.mul_dvd_mul_left k hz), Int.fdiv_eq_ediv_of_dvd hz]
    obtain ⟨q, rfl⟩ := hz
    have s0 := sg3_ne (d := d) h
    rw [← Int.mul_assoc, Int.mul_ediv_cancel_left _ (Int.mul_ne_zero hk s0), Int.mul_ediv_cancel_left _ s0]
  obtain ⟨h1, h2, h3⟩ := sg3_dvd a b d
  unfold nlD
  rw [sg3_mul hk h, c h1, c h2, c h3]
theorem lnD_scale {A B C l : Rat} (hl : l ≠ 0) (h : ¬ (A = 0 ∧ B = 0)) : lnD (l * A) (l * B) (l * C) = lnD A B C := by
  unfold lnD
  generalize ha : A.num * (B.den : Int) * (C.den : Int) = a
  generalize hb : B.num * (A.den : Int) * (C.den : Int) = b
  generalize hd : C.num * (A.den : Int) * (B.den : Int) = d
  generalize ha' : (l * A).num * ((l * B).den : Int) * ((l * C).den : Int) = a'
  generalize hb' : (l * B).num * ((l * A).den : Int) * ((l * C).den : Int) = b'
  generalize hd' : (l * C).num * ((l * A).den : Int) * ((l * B).den : Int) = d'
  have dA := denR A
  have dB := denR B
  have dC := denR C
  have eA : ∀ X Y Z : Rat, ((X.num * (Y.den : Int) * (Z.den : Int) : Int) : Rat) = X * (((X.den : Int) : Rat) * ((Y.den : Int) : Rat) * ((Z.den : Int) : Rat)) := fun X Y Z => by
    rw [Rat.intCast_mul, Rat.intCast_mul, num_eq X]; grind
  have a1 : (a : Rat) = A * (((A.den : Int) : Rat) * ((B.den : Int) : Rat) * ((C.den : Int) : Rat)) := by rw [← ha]; exact eA A B C
  have b1 : (b : Rat) = B * (((A.den : Int) : Rat) * ((B.den : Int) : Rat) * ((C.den : Int) : Rat)) := by rw [← hb, eA B A C]; grind
  have d1 : (d : Rat) = C * (((A.den : Int) : Rat) * ((B.den : Int) : Rat) * ((C.den : Int) : Rat)) := by rw [← hd, eA C A B]; grind
  have a2 : (a' : Rat) = l * A * ((((l * A).den : Int) : Rat) * (((l * B).den : Int) : Rat) * (((l * C).den : Int) : Rat)) := by rw [← ha']; exact eA _ _ _
  have b2 : (b' : Rat) = l * B * ((((l * A).den : Int) : Rat) * (((l * B).den : Int) : Rat) * (((l * C).den : Int) : Rat)) := by rw [← hb', eA]; grind
  have d2 : (d' : Rat) = l * C * ((((l * A).den : Int) : Rat) * (((l * B).den : Int) : Rat) * (((l * C).den : Int) : Rat)) := by rw [← hd', eA]; grind
  have q0 : ((A.den : Int) * (B.den : Int) * (C.den : Int)) ≠ 0 := Int.mul_ne_zero (Int.mul_ne_zero (den_ne A) (den_ne B)) (den_ne C)
  have q1 : (((l * A).den : Int) * ((l * B).den : Int) * ((l * C).den : Int)) ≠ 0 := Int.mul_ne_zero (Int.mul_ne_zero (den_ne _) (den_ne _)) (den_ne _)
  have ln : l.num ≠ 0 := fun z => hl (num_zero.mp z)
  -- k1 * a' = k2 * a
  have cross : ∀ {p p' : Int} {X : Rat}, (p : Rat) = X * (((A.den : Int) : Rat) * ((B.den : Int) : Rat) * ((C.den : Int) : Rat)) → (p' : Rat) = l * X * ((((l * A).den : Int) : Rat) * (((l * B).den : Int) : Rat) * (((l * C).den : Int) : Rat)) →
      ((l.den : Int) * ((A.den : Int) * (B.den : Int) * (C.den : Int))) * p' = (l.num * (((l * A).den : Int) * ((l * B).den : Int) * ((l * C).den : Int))) * p := fun {p p' X} e1 e2 => by
    rw [← Rat.intCast_inj]
    simp only [Rat.intCast_mul]
    rw [e1, e2, num_eq l]
    grind
  have nz : ¬ (a = 0 ∧ b = 0) := by
    rintro ⟨z1, z2⟩
    have zz : (((A.den : Int) : Rat) * ((B.den : Int) : Rat) * ((C.den : Int) : Rat)) ≠ 0 := by
      have m : ∀ {p q : Rat}, p ≠ 0 → q ≠ 0 → p * q ≠ 0 := fun hp hq z => (Rat.mul_eq_zero.mp z).elim hp hq
      exact m (m dA dB) dC
    rw [z1] at a1
    rw [z2] at b1
    exact h ⟨(Rat.mul_eq_zero.mp a1.symm).resolve_right zz, (Rat.mul_eq_zero.mp b1.symm).resolve_right zz⟩
  have k1 : ((l.den : Int) * ((A.den : Int) * (B.den : Int) * (C.den : Int))) ≠ 0 := Int.mul_ne_zero (den_ne l) q0
  have k2 : (l.num * (((l * A).den : Int) * ((l * B).den : Int) * ((l * C).den : Int))) ≠ 0 := Int.mul_ne_zero ln q1
  have nz' : ¬ (a' = 0 ∧ b' = 0) := by
    rintro ⟨z1, z2⟩
    have e1 := cross a1 a2
    have e2 := cross b1 b2
    rw [z1, Int.mul_zero] at e1
    rw [z2, Int.mul_zero] at e2
    exact nz ⟨(Int.mul_eq_zero.mp e1.symm).resolve_left k2, (Int.mul_eq_zero.mp e2.symm).resolve_left k2⟩
  rw [← nlD_mul k1 nz', cross a1 a2, cross b1 b2, cross d1 d2, nlD_mul k2 nz]
def sp_plain_line : DSp := fun ds M Q => ∃ a b d, ds = [.int a, .int b, .int d] ∧ ¬ (a = 0 ∧ b = 0) ∧ Bd 8999 a ∧ Bd 8999 b ∧ Q (nlD a b d) M
abbrev s_plain_line : Stmt := top 19
theorem sc_plain_line : FnScope ["a", "b", "d", "shared"] ["a", "b", "d"] (defScope s_plain_line) := ⟨rfl, rfl, rfl, by decide +kernel, rfl, by decide +kernel, by decide +kernel⟩
theorem has_plain_line (hF : HasF K mg "plain_line" s_plain_line ["a", "b", "d"]) (h_greatest_divisor : Has P w K mg base 101 "greatest_divisor" ["one", "other"] sp_greatest_divisor) : Has P w K mg base 102 "plain_line" ["a", "b", "d"] sp_plain_line := by
  refine Has.mkZ hF sc_plain_line (fun ds M Q ⟨a, b, d, e, _⟩ => by rw [e]; rfl) fun f cdv A outer s H ds M Q E hr h => ?_
  obtain ⟨a, b, d, rfl, nz, ba, bb, q⟩ := h
  refine ⟨_, (zdss_cons (zds_set (i := 3) sc_plain_line.nd (zde_callH h_greatest_divisor hr (by decide) (zda_cons (zde_callH h_greatest_divisor hr (by decide) (zda_cons (zde_var 0) (zda_cons (zde_var 1) zda_nil))) (zda_cons (zde_var 2) zda_nil))))
    (zdss_cons (zds_if (zdt_w (zdw_or (zdt_cmp od_lt (zde_var 0) zde_int) (zdw_or1 (zdt_w (zdw_and (zdt_cmp (od_eq hr) (zde_var 0) zde_int) (zdw_and1 (zdt_cmp od_lt (zde_var 1) zde_int))))))) (zdss_one (zds_set (i := 3) sc_plain_line.nd (zde_neg (zde_var 3)))) zdss_nil)
    (zdss_one (zds_ret (zde_tup (zda_cons zde_str (zda_cons (zde_op od_fdiv (zde_var 0) (zde_var 3)) (zda_cons (zde_op od_fdiv (zde_var 1) (zde_var 3)) (zda_cons (zde_op od_fdiv (zde_var 2) (zde_var 3)) zda_nil))))))))), ?_⟩
  have s0 := sg3_ne (d := d) nz
  have sb := (sg3_bd (d := d) nz ba bb).log (by decide)
  have ok : ∀ z : Int, CFd z (sg3 a b d) := fun z => ⟨s0, Nat.lt_succ_of_lt sb⟩
  unfold nlD at q
  decreasing_tactic
  refine ⟨_, _, rfl, _, _, rfl, ?_⟩
  unfold sg3 g3 at q ok
  decreasing_tactic
  refine dif (fun c => ?_) (fun c => ?_)
  · refine ifT rfl ?_
    rw [if_pos (.inl c)] at q ok
    exact ⟨ok _, ok _, ok _, by decide, M, .refl _, q⟩
  · rw [dEq_int]
    by_cases e : a = 0
    · refine ifT (decide_eq_true e) ?_
      decreasing_tactic
      refine dif (fun c2 => ?_) (fun c2 => ?_)
      · rw [if_pos (.inr ⟨e, c2⟩)] at q ok
        exact ⟨ok _, ok _, ok _, by decide, M, .refl _, q⟩
      · rw [if_neg (fun z => z.elim c fun z => c2 z.2)] at q ok
        exact ⟨ok _, ok _, ok _, by decide, M, .refl _, q⟩
    · refine ifF (decide_eq_false e) ?_
      refine ifF rfl ?_
      rw [if_neg (fun z => z.elim c fun z => e z.1)] at q ok
      exact ⟨ok _, ok _, ok _, by decide, M, .refl _, q⟩
def lineD (x y u v : Rat) : D := lnD (v - y) (x - u) ((v - y) * x + (x - u) * y)
def sp_line : DSp := fun ds M Q => ∃ x y u v, ds = [PQ x y, PQ u v] ∧ ¬ (x = u ∧ y = v) ∧ BQ 400 x ∧ BQ 400 y ∧ BQ 400 u ∧ BQ 400 v ∧ Q (lineD x y u v) M
theorem minC {p r : Rat} {m n : Nat} {M : DM} {Q : DQ} (h1 : BQ m p) (h2 : BQ n r) (l : m + n ≤ 8998) (q : Q (FQ (p - r)) M) : sp_minus [FQ p, FQ r] M Q := ⟨_, _, _, _, rfl, trivial, h1, h2, l, q⟩
theorem timC {p r : Rat} {m n : Nat} {M : DM} {Q : DQ} (h1 : BQ m p) (h2 : BQ n r) (l : m + n ≤ 8998) (q : Q (FQ (p * r)) M) : sp_times [FQ p, FQ r] M Q := ⟨_, _, _, _, rfl, trivial, h1, h2, l, q⟩
theorem plsC {p r : Rat} {m n : Nat} {M : DM} {Q : DQ} (h1 : BQ m p) (h2 : BQ n r) (l : m + n ≤ 8998) (q : Q (FQ (p + r)) M) : sp_plus [FQ p, FQ r] M Q := ⟨_, _, _, _, rfl, trivial, h1, h2, l, q⟩
theorem plnC {a b d : Int} {M : DM} {Q : DQ} (nz : ¬ (a = 0 ∧ b = 0)) (ba : Bd 8999 a) (bb : Bd 8999 b) (q : Q (nlD a b d) M) : sp_plain_line [.int a, .int b, .int d] M Q := ⟨_, _, _, rfl, nz, ba, bb, q⟩
abbrev s_line : Stmt := top 18
theorem sc_line : FnScope ["p", "q", "a", "b", "d"] ["p", "q"] (defScope s_line) := ⟨rfl, rfl, rfl, by decide +kernel, rfl, by decide +kernel, by decide +kernel⟩
theorem has_line (hF : HasF K mg "line" s_line ["p", "q"]) (h_minus : Has P w K mg base 103 "minus" ["one", "other"] sp_minus) (h_plus : Has P w K mg base 102 "plus" ["one", "other"] sp_plus) (h_times : Has P w K mg base 102 "times" ["one", "other"] sp_times) (h_plain_line : Has P w K mg base 102 "plain_line" ["a", "b", "d"] sp_plain_line) : Has P w K mg base 104 "line" ["p", "q"] sp_line := by
  refine Has.mkZ hF sc_line (fun ds M Q ⟨x, y, u, v, e, _⟩ => by rw [e]; rfl) fun f cdv A outer s H ds M Q E hr h => ?_
  obtain ⟨x, y, u, v, rfl, ne, h1, h2, h3, h4, q⟩ := h
  refine ⟨_, (zdss_cons (zds_if (zdt_cmp (od_eq hr) (zde_var 0) (zde_var 1)) (zdss_one zds_never) zdss_nil)
    (zdss_cons (zds_set (i := 2) sc_line.nd (zde_callH h_minus hr (by decide) (zda_cons (zde_ix (zde_var 1) zde_int) (zda_cons (zde_ix (zde_var 0) zde_int) zda_nil))))
    (zdss_cons (zds_set (i := 3) sc_line.nd (zde_callH h_minus hr (by decide) (zda_cons (zde_ix (zde_var 0) zde_int) (zda_cons (zde_ix (zde_var 1) zde_int) zda_nil))))
    (zdss_cons (zds_set (i := 4) sc_line.nd (zde_callH h_plus hr (by decide) (zda_cons (zde_callH h_times hr (by decide) (zda_cons (zde_var 2) (zda_cons (zde_ix (zde_var 0) zde_int) zda_nil))) (zda_cons (zde_callH h_times hr (by decide) (zda_cons (zde_var 3) (zda_cons (zde_ix (zde_var 0) zde_int) zda_nil))) zda_nil))))
    (zdss_one (zds_ret (zde_callH h_plain_line hr (by decide) (zda_cons (zde_op od_mul (zde_op od_mul (zde_ix (zde_var 2) zde_int) (zde_ix (zde_var 3) zde_int)) (zde_ix (zde_var 4) zde_int)) (zda_cons (zde_op od_mul (zde_op od_mul (zde_ix (zde_var 3) zde_int) (zde_ix (zde_var 2) zde_int)) (zde_ix (zde_var 4) zde_int)) (zda_cons (zde_op od_mul (zde_op od_mul (zde_ix (zde_var 4) zde_int) (zde_ix (zde_var 2) zde_int)) (zde_ix (zde_var 3) zde_int)) zda_nil)))))))))), ?_⟩
  decreasing_tactic
  rw [dEq_PQ]
  refine ifF (decide_eq_false ne) ?_
  have bA := h4.sub h2
  have bB := h1.sub h3
  have bC := (bA.mul h1).add (bB.mul h2)
  refine minC h4 h2 (by decide) ?_
  decreasing_tactic
  refine minC h1 h3 (by decide) ?_
  decreasing_tactic
  refine timC bA h1 (by decide) (timC bB h2 (by decide) (plsC (bA.mul h1) (bB.mul h2) (by decide) ?_))
  decreasing_tactic
  have nz : ¬ ((v - y).num * ((x - u).den : Int) * (((v - y) * x + (x - u) * y).den : Int) = 0 ∧ (x - u).num * ((v - y).den : Int) * (((v - y) * x + (x - u) * y).den : Int) = 0) := by
    rintro ⟨z1, z2⟩
    have e1 := num_zero.mp (((Int.mul_eq_zero.mp ((Int.mul_eq_zero.mp z1).resolve_right (den_ne _))).resolve_right (den_ne _)))
    have e2 := num_zero.mp (((Int.mul_eq_zero.mp ((Int.mul_eq_zero.mp z2).resolve_right (den_ne _))).resolve_right (den_ne _)))
    exact ne ⟨by grind, by grind⟩
  refine ⟨mulOk bA.1 bB.2, mulOk (bA.1.mul bB.2) bC.2, mulOk bB.1 bA.2, mulOk (bB.1.mul bA.2) bC.2, mulOk bC.1 bA.2, mulOk (bC.1.mul bA.2) bB.2, plnC nz (((bA.1.mul bB.2).mul bC.2).mono (by decide)) (((bB.1.mul bA.2).mul bC.2).mono (by decide)) ⟨M, .refl _, q⟩⟩

def sp_sideL : DSp := fun ds M Q => ∃ ax ay bx by' px py, ds = [PQ ax ay, PQ bx by', PQ px py] ∧ BQ 1460 ax ∧ BQ 1460 ay ∧ BQ 1460 bx ∧ BQ 1460 by' ∧ BQ 1460 px ∧ BQ 1460 py ∧ Q (.int (sgn (across ax ay bx by' px py))) M
def oD (x y : Rat) : Int := if (x.den : Int) = (y.den : Int) then (x.den : Int) else (x.den : Int) * (y.den : Int)
def oX (x y : Rat) : Int := if (x.den : Int) = (y.den : Int) then x.num else x.num * (y.den : Int)
def oY (x y : Rat) : Int := if (x.den : Int) = (y.den : Int) then y.num else y.num * (x.den : Int)
theorem oD_pos (x y : Rat) : 0 < oD x y := by
  have h1 : (0 : Int) < x.den := by have := x.den_pos; omega
  have h2 : (0 : Int) < y.den := by have := y.den_pos; omega
  unfold oD; split
  · exact h1
  · exact Int.mul_pos h1 h2
theorem oX_eq (x y : Rat) : ((oX x y : Int) : Rat) = x * (oD x y : Int) := by
  have e := num_eq x
  unfold oX oD; split
  · rw [e]
  · rw [Rat.intCast_mul, Rat.intCast_mul, e]; grind
theorem oY_eq (x y : Rat) : ((oY x y : Int) : Rat) = y * (oD x y : Int) := by
  have e := num_eq y
  unfold oY oD; split
  · rename_i h; rw [e, h]
  · rw [Rat.intCast_mul, Rat.intCast_mul, e]; grind
theorem o_bd {x y : Rat} {n : Nat} (hx : BQ n x) (hy : BQ n y) : Bd (n + n) (oX x y) ∧ Bd (n + n) (oY x y) ∧ Bd (n + n) (oD x y) := by
  unfold oX oY oD
  refine ⟨?_, ?_, ?_⟩
  · split
    · exact hx.1.mono (by omega)
    · exact hx.1.mul hy.2
  · split
    · exact hy.1.mono (by omega)
    · exact hy.1.mul hx.2
  · split
    · exact hx.2.mono (by omega)
    · exact hx.2.mul hy.2
def sp_on_one_bottom : DSp := fun ds M Q => ∃ x y n, ds = [PQ x y] ∧ BQ n x ∧ BQ n y ∧ n ≤ 8998 ∧ Q (.tup [.int (oX x y), .int (oY x y), .int (oD x y)]) M
abbrev s_on_one_bottom : Stmt := top 12
theorem sc_on_one_bottom : FnScope ["p", "x", "y"] ["p"] (defScope s_on_one_bottom) := ⟨rfl, rfl, rfl, by decide +kernel, rfl, by decide +kernel, by decide +kernel⟩
theorem has_on_one_bottom (hF : HasF K mg "on_one_bottom" s_on_one_bottom ["p"]) : Has P w K mg base 101 "on_one_bottom" ["p"] sp_on_one_bottom := by
  refine Has.mkZ hF sc_on_one_bottom (fun ds M Q ⟨x, y, n, e, _⟩ => by rw [e]; rfl) fun f cdv A outer s H ds M Q E hr h => ?_
  obtain ⟨x, y, n, rfl, hx, hy, hn, q⟩ := h
  refine ⟨_, (zdss_cons (zds_asg (zde_var 0) (zdg_unp (n := 2) rfl (zdgs_cons (zdg_name (i := 1) sc_on_one_bottom.nd) (zdgs_cons (zdg_name (i := 2) sc_on_one_bottom.nd) zdgs_nil))))
    (zdss_cons (zds_if (zdt_cmp (od_eq hr) (zde_ix (zde_var 1) zde_int) (zde_ix (zde_var 2) zde_int)) (zdss_one (zds_ret (zde_tup (zda_cons (zde_ix (zde_var 1) zde_int) (zda_cons (zde_ix (zde_var 2) zde_int) (zda_cons (zde_ix (zde_var 1) zde_int) zda_nil)))))) zdss_nil)
    (zdss_one (zds_ret (zde_tup (zda_cons (zde_op od_mul (zde_ix (zde_var 1) zde_int) (zde_ix (zde_var 2) zde_int)) (zda_cons (zde_op od_mul (zde_ix (zde_var 2) zde_int) (zde_ix (zde_var 1) zde_int)) (zda_cons (zde_op od_mul (zde_ix (zde_var 1) zde_int) (zde_ix (zde_var 2) zde_int)) zda_nil)))))))), ?_⟩
  unfold oX oY oD at q
  decreasing_tactic
  rw [dEq_int]
  refine ⟨rfl, dif (fun c => ?_) (fun c => ?_)⟩
  · rw [if_pos c, if_pos c, if_pos c] at q
    exact ⟨by decide, M, .refl _, q⟩
  · rw [if_neg c, if_neg c, if_neg c] at q
    exact ⟨mulOk hx.1 hy.2 (by omega), mulOk hy.1 hx.2 (by omega), mulOk hx.2 hy.2 (by omega), by decide, M, .refl _, q⟩
def sp_sign : DSp := fun ds M Q => ∃ i, ds = [.int i] ∧ Q (.int (if 0 < i then 1 else if i = 0 then 0 else -1)) M
abbrev s_sign : Stmt := top 14
theorem sc_sign : FnScope ["number"] ["number"] (defScope s_sign) := ⟨rfl, rfl, rfl, by decide +kernel, rfl, by decide +kernel, by decide +kernel⟩
theorem has_sign (hF : HasF K mg "sign" s_sign ["number"]) : Has P w K mg base 101 "sign" ["number"] sp_sign := by
  refine Has.mkZ hF sc_sign (fun ds M Q ⟨x, e, _⟩ => by rw [e]; rfl) fun f cdv A outer s H ds M Q E hr h => ?_
  obtain ⟨i, rfl, q⟩ := h
  refine ⟨_, (zdss_cons (zds_if (zdt_cmp od_gt (zde_var 0) zde_int) (zdss_one (zds_ret zde_int)) zdss_nil)
    (zdss_one (zds_ret (zde_ifExp (zdt_cmp (od_eq hr) (zde_var 0) zde_int) zde_int (zde_neg zde_int))))), ?_⟩
  decreasing_tactic
  refine dif (fun c => ?_) (fun c => ?_)
  · rw [if_pos c] at q
    exact ⟨M, .refl _, q⟩
  · rw [if_neg c] at q
    rw [dEq_int]
    refine dif (fun d => ?_) (fun d => ?_)
    · rw [if_pos d] at q
      exact ⟨M, .refl _, q⟩
    · rw [if_neg d] at q
      exact ⟨M, .refl _, q⟩

theorem sgn_int (z : Int) : (if 0 < z then 1 else if z = 0 then 0 else -1 : Int) = sgn (z : Rat) := by
  unfold sgn
  by_cases c : 0 < z
  · rw [if_pos c, if_pos (show (0 : Rat) < (z : Rat) by exact_mod_cast c)]
  · rw [if_neg c, if_neg (show ¬ (0 : Rat) < (z : Rat) from fun h => c (by exact_mod_cast h))]
    by_cases d : z = 0
    · rw [if_pos d, if_neg (show ¬ (z : Rat) < 0 by rw [d]; decide)]
    · have h1 : z < 0 := by omega
      rw [if_neg d, if_pos (show (z : Rat) < 0 by exact_mod_cast h1)]
abbrev s_side : Stmt := top 13
theorem sc_side : FnScope ["a", "b", "p", "ax", "ay", "ad", "bx", "by", "bd", "px", "py", "pd"] ["a", "b", "p"] (defScope s_side) := ⟨rfl, rfl, rfl, by decide +kernel, rfl, by decide +kernel, by decide +kernel⟩
theorem has_side (hF : HasF K mg "side" s_side ["a", "b", "p"]) (h_on_one_bottom : Has P w K mg base 101 "on_one_bottom" ["p"] sp_on_one_bottom) (h_sign : Has P w K mg base 101 "sign" ["number"] sp_sign) : Has P w K mg base 102 "side" ["a", "b", "p"] sp_sideL := by
  refine Has.mkZ hF sc_side (fun ds M Q ⟨x, y, u, v, x2, y2, e, _⟩ => by rw [e]; rfl) fun f cdv A outer s H ds M Q E hr h => ?_
  obtain ⟨ax, ay, bx, by', px, py, rfl, h1, h2, h3, h4, h5, h6, q⟩ := h
  refine ⟨_, (zdss_cons (zds_asg (zde_callH h_on_one_bottom hr (by decide) (zda_cons (zde_var 0) zda_nil)) (zdg_unp (n := 3) rfl (zdgs_cons (zdg_name (i := 3) sc_side.nd) (zdgs_cons (zdg_name (i := 4) sc_side.nd) (zdgs_cons (zdg_name (i := 5) sc_side.nd) zdgs_nil)))))
    (zdss_cons (zds_asg (zde_callH h_on_one_bottom hr (by decide) (zda_cons (zde_var 1) zda_nil)) (zdg_unp (n := 3) rfl (zdgs_cons (zdg_name (i := 6) sc_side.nd) (zdgs_cons (zdg_name (i := 7) sc_side.nd) (zdgs_cons (zdg_name (i := 8) sc_side.nd) zdgs_nil)))))
    (zdss_cons (zds_asg (zde_callH h_on_one_bottom hr (by decide) (zda_cons (zde_var 2) zda_nil)) (zdg_unp (n := 3) rfl (zdgs_cons (zdg_name (i := 9) sc_side.nd) (zdgs_cons (zdg_name (i := 10) sc_side.nd) (zdgs_cons (zdg_name (i := 11) sc_side.nd) zdgs_nil)))))
    (zdss_one (zds_ret (zde_callH h_sign hr (by decide) (zda_cons (zde_op od_add (zde_op od_sub (zde_op od_mul (zde_var 9) (zde_op od_sub (zde_op od_mul (zde_var 4) (zde_var 8)) (zde_op od_mul (zde_var 7) (zde_var 5)))) (zde_op od_mul (zde_var 10) (zde_op od_sub (zde_op od_mul (zde_var 3) (zde_var 8)) (zde_op od_mul (zde_var 6) (zde_var 5))))) (zde_op od_mul (zde_var 11) (zde_op od_sub (zde_op od_mul (zde_var 3) (zde_var 7)) (zde_op od_mul (zde_var 6) (zde_var 4))))) zda_nil))))))), ?_⟩
  decreasing_tactic
  obtain ⟨bX1, bY1, bd1⟩ := o_bd h1 h2
  obtain ⟨bX2, bY2, bd2⟩ := o_bd h3 h4
  obtain ⟨bX3, bY3, bd3⟩ := o_bd h5 h6
  have ex1 := oX_eq ax ay
  have ey1 := oY_eq ax ay
  have ex2 := oX_eq bx by'
  have ey2 := oY_eq bx by'
  have ex3 := oX_eq px py
  have ey3 := oY_eq px py
  have p1 := oD_pos ax ay
  have p2 := oD_pos bx by'
  have p3 := oD_pos px py
  refine ⟨ax, ay, 1460, rfl, h1, h2, by decide, ?_⟩
  decreasing_tactic
  refine ⟨rfl, bx, by', 1460, rfl, h3, h4, by decide, ?_⟩
  decreasing_tactic
  refine ⟨rfl, px, py, 1460, rfl, h5, h6, by decide, ?_⟩
  decreasing_tactic
  generalize oX ax ay = X1 at *
  generalize oY ax ay = Y1 at *
  generalize oD ax ay = d1 at *
  generalize oX bx by' = X2 at *
  generalize oY bx by' = Y2 at *
  generalize oD bx by' = d2 at *
  generalize oX px py = X3 at *
  generalize oY px py = Y3 at *
  generalize oD px py = d3 at *
  have k1 : IntMulOk Y1 d2 := mulOk bY1 bd2
  have k2 : IntMulOk Y2 d1 := mulOk bY2 bd1
  have k3 : IntMulOk X3 (Y1 * d2 - Y2 * d1) := mulOk bX3 ((bY1.mul bd2).sub (bY2.mul bd1))
  have k4 : IntMulOk X1 d2 := mulOk bX1 bd2
  have k5 : IntMulOk X2 d1 := mulOk bX2 bd1
  have k6 : IntMulOk Y3 (X1 * d2 - X2 * d1) := mulOk bY3 ((bX1.mul bd2).sub (bX2.mul bd1))
  have k7 : IntMulOk X1 Y2 := mulOk bX1 bY2
  have k8 : IntMulOk X2 Y1 := mulOk bX2 bY1
  have k9 : IntMulOk d3 (X1 * Y2 - X2 * Y1) := mulOk bd3 ((bX1.mul bY2).sub (bX2.mul bY1))
  refine ⟨rfl, k1, k2, k3, k4, k5, k6, k7, k8, k9, _, rfl, M, .refl _, ?_⟩
  have e : ((X3 * (Y1 * d2 - Y2 * d1) - Y3 * (X1 * d2 - X2 * d1) + d3 * (X1 * Y2 - X2 * Y1) : Int) : Rat) = across ax ay bx by' px py * ((d1 : Rat) * d2 * d3) := by
    simp only [Rat.intCast_add, Rat.intCast_sub, Rat.intCast_mul]
    rw [ex1, ey1, ex2, ey2, ex3, ey3]
    unfold across
    grind
  rw [sgn_int, e, sgn_pos (Rat.mul_pos (Rat.mul_pos (posR p1) (posR p2)) (posR p3))]
  exact q

def onS (x y u v a b : Rat) : Bool := decide (across x y u v a b = 0) && (!bef a b x y && !bef u v a b)
theorem sgn_zero {z : Rat} : sgn z = 0 ↔ z = 0 := by
  unfold sgn
  by_cases h : 0 < z
  · rw [if_pos h]
    constructor
    · intro e; exact absurd e (by decide)
    · rintro rfl; exact absurd h (by decide)
  rw [if_neg h]
  by_cases h2 : z < 0
  · rw [if_pos h2]
    constructor
    · intro e; exact absurd e (by decide)
    · rintro rfl; exact absurd h2 (by decide)
  rw [if_neg h2]
  exact ⟨fun _ => by grind, fun _ => rfl⟩
def sp_on_straight : DSp := fun ds M Q => (∃ x y u v a b, ds = [pcD (.str x y u v), PQ a b] ∧ BQ 1460 x ∧ BQ 1460 y ∧ BQ 1460 u ∧ BQ 1460 v ∧ BQ 1460 a ∧ BQ 1460 b ∧ Q (.bl (onS x y u v a b)) M) ∨
  (∃ x y a b, ds = [pcD (.dot x y), PQ a b] ∧ Q (.bl (decide (a = x ∧ b = y))) M)
abbrev s_on_straight : Stmt := top 20
theorem sc_on_straight : FnScope ["piece", "p"] ["piece", "p"] (defScope s_on_straight) := ⟨rfl, rfl, rfl, by decide +kernel, rfl, by decide +kernel, by decide +kernel⟩
theorem has_on_straight (hF : HasF K mg "on_straight" s_on_straight ["piece", "p"]) (h_side : Has P w K mg base 102 "side" ["a", "b", "p"] sp_sideL) (h_before : Has P w K mg base 102 "before" ["p", "q"] sp_before) : Has P w K mg base 103 "on_straight" ["piece", "p"] sp_on_straight := by
  refine Has.mkZ hF sc_on_straight (fun ds M Q h => by rcases h with ⟨x, y, u, v, a, b, e, _⟩ | ⟨x, y, a, b, e, _⟩ <;> (rw [e]; rfl)) fun f cdv A outer s H ds M Q E hr h => ?_
  refine ⟨_, (zdss_cons (zds_if (zdt_cmp (od_eq hr) (zde_ix (zde_var 0) zde_int) zde_str) (zdss_one (zds_ret (zde_cmp (od_eq hr) (zde_var 1) (zde_ix (zde_var 0) zde_int)))) zdss_nil)
    (zdss_one (zds_ret (zde_and (zde_cmp (od_eq hr) (zde_callH h_side hr (by decide) (zda_cons (zde_ix (zde_var 0) zde_int) (zda_cons (zde_ix (zde_var 0) zde_int) (zda_cons (zde_var 1) zda_nil)))) zde_int) (zde_and (zde_not (zde_callH h_before hr (by decide) (zda_cons (zde_var 1) (zda_cons (zde_ix (zde_var 0) zde_int) zda_nil)))) (zde_one (zde_not (zde_callH h_before hr (by decide) (zda_cons (zde_ix (zde_var 0) zde_int) (zda_cons (zde_var 1) zda_nil)))))))))), ?_⟩
  rcases h with ⟨x, y, u, v, a, b, rfl, h1, h2, h3, h4, h5, h6, q⟩ | ⟨x, y, a, b, rfl, q⟩
  · dsimp only [pcD]
    decreasing_tactic
    simp_arith
    have m : ∀ {z : Rat}, BQ 1460 z → BQ 4400 z := fun h => h.mono (by decide)
    rw [if_neg (by decide)]
    refine ⟨_, _, _, _, _, _, rfl, h1, h2, h3, h4, h5, h6, ?_⟩
    simp_arith
    unfold onS at q
    by_cases c : across x y u v a b = 0
    · rw [if_pos (sgn_zero.mpr c)]
      rw [decide_eq_true c, Bool.true_and] at q
      refine ⟨_, _, _, _, rfl, m h5, m h6, m h1, m h2, ?_⟩
      cases d : bef a b x y with
      | true =>
        rw [d] at q
        exact ⟨M, .refl _, q⟩
      | false =>
        rw [d] at q
        exact ⟨_, _, _, _, rfl, m h3, m h4, m h5, m h6, M, .refl _, q⟩
    · rw [if_neg (fun z => c (sgn_zero.mp z))]
      rw [decide_eq_false c, Bool.false_and] at q
      exact ⟨M, .refl _, q⟩
  · dsimp only [pcD]
    decreasing_tactic
    simp_arith
    rw [if_pos trivial]
    exact ⟨M, .refl _, q⟩

theorem fdiv_mul {s z : Int} (h : s ∣ z) : s * z.fdiv s = z := by
  rw [Int.fdiv_eq_ediv_of_dvd h]; exact Int.mul_ediv_cancel' h
theorem bd_fdiv {n : Nat} {s z : Int} (h : Bd n z) (d : s ∣ z) (hs : s ≠ 0) : Bd n (z.fdiv s) := by
  have e := congrArg Int.natAbs (fdiv_mul d)
  rw [Int.natAbs_mul] at e
  have : 0 < s.natAbs := Int.natAbs_pos.mpr hs
  have : (z.fdiv s).natAbs ≤ z.natAbs := by rw [← e]; exact Nat.le_mul_of_pos_left _ this
  exact Nat.lt_of_le_of_lt this h
theorem line_k {A B C : Rat} (nz : ¬ (A = 0 ∧ B = 0)) : ∃ (a b d : Int) (k : Rat), lnD A B C = .tup [.str "line", .int a, .int b, .int d] ∧ k ≠ 0 ∧ (a : Rat) = k * A ∧ (b : Rat) = k * B ∧ (d : Rat) = k * C ∧
    (∀ n, Bd n (A.num * (B.den : Int) * (C.den : Int)) → Bd n (B.num * (A.den : Int) * (C.den : Int)) → Bd n (C.num * (A.den : Int) * (B.den : Int)) → Bd n a ∧ Bd n b ∧ Bd n d) := by
  have dA := denR A
  have dB := denR B
  have dC := denR C
  have nA := num_eq A
  have nB := num_eq B
  have nC := num_eq C
  have h0 : ¬ (A.num * (B.den : Int) * (C.den : Int) = 0 ∧ B.num * (A.den : Int) * (C.den : Int) = 0) := fun ⟨z1, z2⟩ => by
    have y1 : (A.num : Rat) * ((B.den : Int) : Rat) * ((C.den : Int) : Rat) = 0 := by have := congrArg (fun z : Int => (z : Rat)) z1; simpa only [Rat.intCast_mul, Rat.intCast_zero] using this
    have y2 : (B.num : Rat) * ((A.den : Int) : Rat) * ((C.den : Int) : Rat) = 0 := by have := congrArg (fun z : Int => (z : Rat)) z2; simpa only [Rat.intCast_mul, Rat.intCast_zero] using this
    exact nz ⟨by grind, by grind⟩
  have s0 := sg3_ne (d := C.num * (A.den : Int) * (B.den : Int)) h0
  obtain ⟨d1, d2, d3⟩ := sg3_dvd (A.num * (B.den : Int) * (C.den : Int)) (B.num * (A.den : Int) * (C.den : Int)) (C.num * (A.den : Int) * (B.den : Int))
  have m1 := fdiv_mul d1
  have m2 := fdiv_mul d2
  have m3 := fdiv_mul d3
  have bd : ∀ n, Bd n (A.num * (B.den : Int) * (C.den : Int)) → Bd n (B.num * (A.den : Int) * (C.den : Int)) → Bd n (C.num * (A.den : Int) * (B.den : Int)) → Bd n ((A.num * (B.den : Int) * (C.den : Int)).fdiv (sg3 (A.num * (B.den : Int) * (C.den : Int)) (B.num * (A.den : Int) * (C.den : Int)) (C.num * (A.den : Int) * (B.den : Int)))) ∧ Bd n ((B.num * (A.den : Int) * (C.den : Int)).fdiv (sg3 (A.num * (B.den : Int) * (C.den : Int)) (B.num * (A.den : Int) * (C.den : Int)) (C.num * (A.den : Int) * (B.den : Int)))) ∧ Bd n ((C.num * (A.den : Int) * (B.den : Int)).fdiv (sg3 (A.num * (B.den : Int) * (C.den : Int)) (B.num * (A.den : Int) * (C.den : Int)) (C.num * (A.den : Int) * (B.den : Int)))) := fun n b1 b2 b3 => ⟨bd_fdiv b1 d1 s0, bd_fdiv b2 d2 s0, bd_fdiv b3 d3 s0⟩
  have e : lnD A B C = .tup [.str "line", .int ((A.num * (B.den : Int) * (C.den : Int)).fdiv (sg3 (A.num * (B.den : Int) * (C.den : Int)) (B.num * (A.den : Int) * (C.den : Int)) (C.num * (A.den : Int) * (B.den : Int)))), .int ((B.num * (A.den : Int) * (C.den : Int)).fdiv (sg3 (A.num * (B.den : Int) * (C.den : Int)) (B.num * (A.den : Int) * (C.den : Int)) (C.num * (A.den : Int) * (B.den : Int)))), .int ((C.num * (A.den : Int) * (B.den : Int)).fdiv (sg3 (A.num * (B.den : Int) * (C.den : Int)) (B.num * (A.den : Int) * (C.den : Int)) (C.num * (A.den : Int) * (B.den : Int))))] := rfl
  generalize sg3 (A.num * (B.den : Int) * (C.den : Int)) (B.num * (A.den : Int) * (C.den : Int)) (C.num * (A.den : Int) * (B.den : Int)) = s at s0 m1 m2 m3 bd e
  generalize (A.num * (B.den : Int) * (C.den : Int)).fdiv s = a at m1 bd e
  generalize (B.num * (A.den : Int) * (C.den : Int)).fdiv s = b at m2 bd e
  generalize (C.num * (A.den : Int) * (B.den : Int)).fdiv s = d at m3 bd e
  have sr : (s : Rat) ≠ 0 := fun z => s0 (Rat.intCast_inj.mp (by rw [z]; rfl))
  have r1 : (s : Rat) * (a : Rat) = (A.num : Rat) * ((B.den : Int) : Rat) * ((C.den : Int) : Rat) := by have := congrArg (fun z : Int => (z : Rat)) m1; simpa only [Rat.intCast_mul] using this
  have r2 : (s : Rat) * (b : Rat) = (B.num : Rat) * ((A.den : Int) : Rat) * ((C.den : Int) : Rat) := by have := congrArg (fun z : Int => (z : Rat)) m2; simpa only [Rat.intCast_mul] using this
  have r3 : (s : Rat) * (d : Rat) = (C.num : Rat) * ((A.den : Int) : Rat) * ((B.den : Int) : Rat) := by have := congrArg (fun z : Int => (z : Rat)) m3; simpa only [Rat.intCast_mul] using this
  refine ⟨a, b, d, ((A.den : Int) : Rat) * ((B.den : Int) : Rat) * ((C.den : Int) : Rat) / s, e, ?_, ?_, ?_, ?_, bd⟩
  · intro z
    have : ((A.den : Int) : Rat) * ((B.den : Int) : Rat) * ((C.den : Int) : Rat) = 0 := by grind
    grind
  · grind
  · grind
  · grind
def turnQ (ax ay bx by' cx cy dx dy : Rat) : Rat := (bx - ax) * (dy - cy) - (by' - ay) * (dx - cx)
theorem line_eq {ax ay bx by' cx cy dx dy : Rat} (h1 : ¬ (ax = bx ∧ ay = by')) (h2 : ¬ (cx = dx ∧ cy = dy)) : lineD ax ay bx by' = lineD cx cy dx dy ↔ across ax ay bx by' cx cy = 0 ∧ across ax ay bx by' dx dy = 0 := by
  constructor
  · intro e
    unfold lineD at e
    obtain ⟨a, b, d, k, e1, hk, ea, eb, ed, _⟩ := line_k (A := by' - ay) (B := ax - bx) (C := (by' - ay) * ax + (ax - bx) * ay) (fun z => h1 ⟨by grind, by grind⟩)
    obtain ⟨a2, b2, d2, k2, e2, hk2, ea2, eb2, ed2, _⟩ := line_k (A := dy - cy) (B := cx - dx) (C := (dy - cy) * cx + (cx - dx) * cy) (fun z => h2 ⟨by grind, by grind⟩)
    rw [e1, e2] at e
    injection e with e
    injection e with _ e
    injection e with y1 e
    injection e with y2 e
    injection e with y3 _
    injection y1 with y1
    injection y2 with y2
    injection y3 with y3
    subst y1 y2 y3
    unfold across
    have f1 : k * ((bx - ax) * (cy - ay) - (by' - ay) * (cx - ax)) = 0 := by grind
    have f2 : k * ((bx - ax) * (dy - ay) - (by' - ay) * (dx - ax)) = 0 := by grind
    exact ⟨(Rat.mul_eq_zero.mp f1).resolve_left hk, (Rat.mul_eq_zero.mp f2).resolve_left hk⟩
  · rintro ⟨z1, z2⟩
    unfold across at z1 z2
    unfold lineD
    by_cases c : bx = ax
    · have hb : by' - ay ≠ 0 := fun z => h1 ⟨c.symm, by grind⟩
      have ec : cx = ax := by
        have : (by' - ay) * (cx - ax) = 0 := by grind
        have := (Rat.mul_eq_zero.mp this).resolve_left hb
        grind
      have ed : dx = ax := by
        have : (by' - ay) * (dx - ax) = 0 := by grind
        have := (Rat.mul_eq_zero.mp this).resolve_left hb
        grind
      have hl : (dy - cy) / (by' - ay) ≠ 0 := fun z => h2 ⟨by grind, by grind⟩
      have := lnD_scale (A := by' - ay) (B := ax - bx) (C := (by' - ay) * ax + (ax - bx) * ay) hl (fun z => h1 ⟨by grind, by grind⟩)
      rw [← this]
      congr 1 <;> grind
    · have hb : bx - ax ≠ 0 := fun z => c (by grind)
      have hl : (dx - cx) / (bx - ax) ≠ 0 := fun z => by
        have e1 : dx = cx := by grind
        subst e1
        have : (bx - ax) * (dy - cy) = 0 := by grind
        have := (Rat.mul_eq_zero.mp this).resolve_left hb
        exact h2 ⟨rfl, by grind⟩
      have := lnD_scale (A := by' - ay) (B := ax - bx) (C := (by' - ay) * ax + (ax - bx) * ay) hl (fun z => h1 ⟨by grind, by grind⟩)
      rw [← this]
      have g1 : dy - cy = (dx - cx) / (bx - ax) * (by' - ay) := by grind
      have g2 : cx - dx = (dx - cx) / (bx - ax) * (ax - bx) := by grind
      have g3 : (dy - cy) * cx + (cx - dx) * cy = (dx - cx) / (bx - ax) * ((by' - ay) * ax + (ax - bx) * ay) := by grind
      rw [g3, g1, g2]
theorem seg {x y u v t : Rat} (h : bef x y u v = true) : (!bef (x + t * (u - x)) (y + t * (v - y)) x y && !bef u v (x + t * (u - x)) (y + t * (v - y))) = decide (0 ≤ t ∧ t ≤ 1) := by
  have pm : ∀ {a b : Rat}, 0 < b → (a * b < 0 ↔ a < 0) := fun {a b} hb => by
    constructor
    · intro z
      by_cases c : a < 0
      · exact c
      · have := Rat.mul_nonneg (Rat.not_lt.mp c) (Rat.le_of_lt hb); grind
    · intro z
      have := Rat.mul_pos (by grind : 0 < -a) hb
      grind
  have key : ∀ {p d : Rat}, 0 < d → ((p + t * d < p ↔ t < 0) ∧ (p + d < p + t * d ↔ 1 < t)) := fun {p d} hd => by
    have a1 := pm (a := t) hd
    have a2 := pm (a := 1 - t) hd
    constructor
    · rw [← a1]; grind
    · have : (1 - t) * d < 0 ↔ 1 < t := by rw [a2]; grind
      rw [← this]; grind
  have both : (bef (x + t * (u - x)) (y + t * (v - y)) x y = true ↔ t < 0) ∧ (bef u v (x + t * (u - x)) (y + t * (v - y)) = true ↔ 1 < t) := by
    unfold bef at h ⊢
    by_cases c : x = u
    · subst c
      rw [if_pos rfl] at h
      have hv : 0 < v - y := by have := of_decide_eq_true h; grind
      have e : x + t * (x - x) = x := by grind
      have k := key (p := y) hv
      rw [show y + (v - y) = v by grind] at k
      rw [e, if_pos rfl, if_pos rfl, decide_eq_true_eq, decide_eq_true_eq]
      exact k
    · rw [if_neg c] at h
      have hu : 0 < u - x := by have := of_decide_eq_true h; grind
      have k := key (p := x) hu
      rw [show x + (u - x) = u by grind] at k
      constructor
      · by_cases z : x + t * (u - x) = x
        · have t0 : t = 0 := by
            have : t * (u - x) = 0 := by grind
            exact (Rat.mul_eq_zero.mp this).resolve_right (by grind)
          subst t0
          rw [if_pos z, decide_eq_true_eq]
          grind
        · rw [if_neg z, decide_eq_true_eq]; exact k.1
      · by_cases z : u = x + t * (u - x)
        · have t0 : t = 1 := by
            have : (1 - t) * (u - x) = 0 := by grind
            have := (Rat.mul_eq_zero.mp this).resolve_right (by grind)
            grind
          subst t0
          rw [if_pos z, decide_eq_true_eq]
          grind
        · rw [if_neg z, decide_eq_true_eq]; exact k.2
  cases e1 : bef (x + t * (u - x)) (y + t * (v - y)) x y with
  | true =>
    have := both.1.mp e1
    rw [decide_eq_false (by grind)]; rfl
  | false =>
    cases e2 : bef u v (x + t * (u - x)) (y + t * (v - y)) with
    | true =>
      have := both.2.mp e2
      rw [decide_eq_false (by grind)]; rfl
    | false =>
      have n1 : ¬ t < 0 := fun z => by rw [both.1.mpr z] at e1; cases e1
      have n2 : ¬ 1 < t := fun z => by rw [both.2.mpr z] at e2; cases e2
      rw [decide_eq_true ⟨by grind, by grind⟩]; rfl

abbrev P2 := Rat × Rat
def ac (a b c : P2) : Rat := across a.1 a.2 b.1 b.2 c.1 c.2
def tr (a b c d : P2) : Rat := turnQ a.1 a.2 b.1 b.2 c.1 c.2 d.1 d.2
def bf (a b : P2) : Bool := bef a.1 a.2 b.1 b.2
def mxP (a c : P2) : P2 := if bf a c = true then c else a
def mnP (b d : P2) : P2 := if bf d b = true then d else b
def mk2 (a b : P2) : D := pcD (mkS a.1 a.2 b.1 b.2)
def crP (a b c d : P2) : P2 := (c.1 + -(ac a b c) / tr a b c d * (d.1 - c.1), c.2 + -(ac a b c) / tr a b c d * (d.2 - c.2))
def dueD (a b c d : P2) : D := if tr a b c d = 0 then (if ac a b c ≠ 0 ∨ ac c d a ≠ 0 then .non else if bf (mnP b d) (mxP a c) = true then .non else mk2 (mxP a c) (mnP b d))
  else if (0 ≤ -(ac a b c) * tr a b c d ∧ -(ac a b c) * tr a b c d ≤ tr a b c d * tr a b c d) ∧ ¬ (0 < ac c d a * ac c d b) then pcD (.dot (crP a b c d).1 (crP a b c d).2) else .non
theorem bf_flip {a b : P2} (h : a ≠ b) : bf b a = !bf a b := bef_flip fun z => h (Prod.ext z.1 z.2)
theorem bf_self (a : P2) : bf a a = false := bef_self a.1 a.2
theorem mx_comm (a c : P2) : mxP a c = mxP c a := by
  unfold mxP
  by_cases h : a = c
  · rw [h]
  · rw [bf_flip h]
    cases bf a c <;> rfl
theorem mn_comm (b d : P2) : mnP b d = mnP d b := by
  unfold mnP
  by_cases h : b = d
  · rw [h]
  · rw [bf_flip h]
    cases bf b d <;> rfl
theorem tr_flip (a b c d : P2) : tr c d a b = -tr a b c d := by unfold tr turnQ; grind
theorem ac_d (a b c d : P2) : ac a b d = ac a b c + tr a b c d := by unfold ac across tr turnQ; grind
theorem ac_b (a b c d : P2) : ac c d b = ac c d a - tr a b c d := by unfold ac across tr turnQ; grind
theorem sq_pos {z : Rat} (h : z ≠ 0) : 0 < z * z := by
  have h1 := sq_nn z
  have h2 : z * z ≠ 0 := fun e => h ((Rat.mul_eq_zero.mp e).elim id id)
  grind
theorem pos_iff {x z : Rat} (h : 0 < z) : 0 ≤ x * z ↔ 0 ≤ x := by
  constructor
  · intro q
    by_cases c : x < 0
    · have := Rat.mul_pos (by grind : 0 < -x) h
      grind
    · exact Rat.not_lt.mp c
  · intro q
    exact Rat.mul_nonneg q (Rat.le_of_lt h)
theorem t_iff {a b c d : P2} (h : tr a b c d ≠ 0) : (0 ≤ -(ac a b c) * tr a b c d ∧ -(ac a b c) * tr a b c d ≤ tr a b c d * tr a b c d) ↔ (0 ≤ -(ac a b c) / tr a b c d ∧ -(ac a b c) / tr a b c d ≤ 1) := by
  generalize tr a b c d = T at *
  generalize -(ac a b c) = u
  have e1 : u / T * (T * T) = u * T := by grind
  have e2 : (1 - u / T) * (T * T) = T * T - u * T := by grind
  have p := sq_pos h
  have i1 := pos_iff (x := u / T) p
  have i2 := pos_iff (x := 1 - u / T) p
  rw [e1] at i1
  rw [e2] at i2
  constructor
  · rintro ⟨x1, x2⟩
    have := i1.mp x1
    have := i2.mp (by grind)
    constructor <;> grind
  · rintro ⟨x1, x2⟩
    have := i1.mpr x1
    have := i2.mpr (by grind)
    constructor <;> grind
theorem s_iff {a b c d : P2} (h : tr a b c d ≠ 0) : ¬ (0 < ac c d a * ac c d b) ↔ (0 ≤ ac c d a / tr a b c d ∧ ac c d a / tr a b c d ≤ 1) := by
  rw [ac_b a b c d]
  generalize tr a b c d = T at *
  generalize ac c d a = u
  have e1 : u / T * (1 - u / T) * (T * T) = -(u * (u - T)) := by grind
  have p := sq_pos h
  have i1 := pos_iff (x := u / T * (1 - u / T)) p
  rw [e1] at i1
  have i2 : ¬ (0 < u * (u - T)) ↔ 0 ≤ -(u * (u - T)) := by
    constructor
    · intro z; have := Rat.not_lt.mp z; grind
    · intro z; grind
  rw [i2, i1]
  generalize u / T = s
  constructor
  · intro z
    constructor
    · by_cases c : s < 0
      · have := Rat.mul_pos (by grind : 0 < -s) (by grind : 0 < 1 - s)
        grind
      · exact Rat.not_lt.mp c
    · by_cases c : 1 < s
      · have := Rat.mul_pos (by grind : 0 < s) (by grind : 0 < s - 1)
        grind
      · exact Rat.not_lt.mp c
  · rintro ⟨z1, z2⟩
    exact Rat.mul_nonneg z1 (by grind)
theorem cr_other {a b c d : P2} (h : tr a b c d ≠ 0) : crP a b c d = (a.1 + ac c d a / tr a b c d * (b.1 - a.1), a.2 + ac c d a / tr a b c d * (b.2 - a.2)) := by
  unfold crP
  have e1 : -(ac a b c) * (d.1 - c.1) + c.1 * tr a b c d = a.1 * tr a b c d + ac c d a * (b.1 - a.1) := by unfold ac across tr turnQ; grind
  have e2 : -(ac a b c) * (d.2 - c.2) + c.2 * tr a b c d = a.2 * tr a b c d + ac c d a * (b.2 - a.2) := by unfold ac across tr turnQ; grind
  generalize tr a b c d = T at *
  generalize ac a b c = u at *
  generalize ac c d a = w at *
  refine Prod.ext ?_ ?_
  · show c.1 + -u / T * (d.1 - c.1) = a.1 + w / T * (b.1 - a.1)
    grind
  · show c.2 + -u / T * (d.2 - c.2) = a.2 + w / T * (b.2 - a.2)
    grind
theorem due_sym (a b c d : P2) : dueD c d a b = dueD a b c d := by
  unfold dueD
  rw [mx_comm c a, mn_comm d b]
  by_cases h : tr a b c d = 0
  · have h' : tr c d a b = 0 := by rw [tr_flip a b c d, h]; rfl
    rw [if_pos h, if_pos h']
    by_cases z : ac a b c ≠ 0 ∨ ac c d a ≠ 0
    · rw [if_pos z, if_pos z.symm]
    · rw [if_neg z, if_neg (fun y => z y.symm)]
  · have h' : tr c d a b ≠ 0 := by rw [tr_flip a b c d]; grind
    rw [if_neg h, if_neg h']
    have i1 := t_iff h
    have i2 := s_iff h
    have j1 := t_iff h'
    have j2 := s_iff h'
    have f1 : -(ac c d a) / tr c d a b = ac c d a / tr a b c d := by rw [tr_flip a b c d]; grind
    have f2 : ac a b c / tr c d a b = -(ac a b c) / tr a b c d := by rw [tr_flip a b c d]; grind
    rw [f1, ← i2] at j1
    rw [f2, ← i1] at j2
    have e : crP c d a b = crP a b c d := by
      rw [cr_other h, crP, f1]
    rw [e]
    by_cases z : (0 ≤ -(ac a b c) * tr a b c d ∧ -(ac a b c) * tr a b c d ≤ tr a b c d * tr a b c d) ∧ ¬ (0 < ac c d a * ac c d b)
    · rw [if_pos z, if_pos ⟨j1.mpr z.2, j2.mpr z.1⟩]
    · rw [if_neg z, if_neg (fun y => z ⟨j2.mp y.2, j1.mp y.1⟩)]
def e1 : Pc → P2 | .dot x y => (x, y) | .str x y _ _ => (x, y) | .arc .. => (0, 0) | .ring .. => (0, 0)
def e2 : Pc → P2 | .dot x y => (x, y) | .str _ _ u v => (u, v) | .arc .. => (0, 0) | .ring .. => (0, 0)
def StO : Pc → Prop | .dot .. => True | .str x y u v => bef x y u v = true | .arc .. => False | .ring .. => False
def ovD (a b c d : P2) : D := if bf (if bf b d = true then b else d) (mxP a c) = true then .non else mk2 (mxP a c) (if bf b d = true then b else d)
def lnP (a b c d : P2) : P2 := ((((b.2 - a.2) * a.1 + (a.1 - b.1) * a.2) * (c.1 - d.1) - ((d.2 - c.2) * c.1 + (c.1 - d.1) * c.2) * (a.1 - b.1)) / tr a b c d,
  ((b.2 - a.2) * ((d.2 - c.2) * c.1 + (c.1 - d.1) * c.2) - (d.2 - c.2) * ((b.2 - a.2) * a.1 + (a.1 - b.1) * a.2)) / tr a b c d)
def onB (a b p : P2) : Bool := onS a.1 a.2 b.1 b.2 p.1 p.2
def crD (a b c d : P2) : D := if tr a b c d = 0 then .non else if onB a b (lnP a b c d) = true ∧ onB c d (lnP a b c d) = true then pcD (.dot (lnP a b c d).1 (lnP a b c d).2) else .non
def comD : Pc → Pc → D
  | .dot x y, .dot u v => if x = u ∧ y = v then pcD (.dot x y) else .non
  | .dot x y, .str a b c d => if onS a b c d x y = true then pcD (.dot x y) else .non
  | .str a b c d, .dot x y => if onS a b c d x y = true then pcD (.dot x y) else .non
  | .str a b c d, .str a' b' c' d' => if ac (a, b) (c, d) (a', b') = 0 ∧ ac (a, b) (c, d) (c', d') = 0 then ovD (a, b) (c, d) (a', b') (c', d') else crD (a, b) (c, d) (a', b') (c', d')
  | _, _ => .non
theorem ln_cr {a b c d : P2} (h : tr a b c d ≠ 0) : lnP a b c d = crP a b c d := by
  unfold lnP crP
  have e1 : ((b.2 - a.2) * a.1 + (a.1 - b.1) * a.2) * (c.1 - d.1) - ((d.2 - c.2) * c.1 + (c.1 - d.1) * c.2) * (a.1 - b.1) = c.1 * tr a b c d + -(ac a b c) * (d.1 - c.1) := by unfold ac across tr turnQ; grind
  have e2 : (b.2 - a.2) * ((d.2 - c.2) * c.1 + (c.1 - d.1) * c.2) - (d.2 - c.2) * ((b.2 - a.2) * a.1 + (a.1 - b.1) * a.2) = c.2 * tr a b c d + -(ac a b c) * (d.2 - c.2) := by unfold ac across tr turnQ; grind
  rw [e1, e2]
  generalize tr a b c d = T at *
  generalize ac a b c = u at *
  refine Prod.ext ?_ ?_
  · show (c.1 * T + -u * (d.1 - c.1)) / T = c.1 + -u / T * (d.1 - c.1)
    grind
  · show (c.2 * T + -u * (d.2 - c.2)) / T = c.2 + -u / T * (d.2 - c.2)
    grind
theorem on_seg {a b : P2} {t : Rat} (h : bf a b = true) : onB a b (a.1 + t * (b.1 - a.1), a.2 + t * (b.2 - a.2)) = decide (0 ≤ t ∧ t ≤ 1) := by
  unfold onB onS
  have z : across a.1 a.2 b.1 b.2 (a.1 + t * (b.1 - a.1)) (a.2 + t * (b.2 - a.2)) = 0 := by unfold across; grind
  show (decide (across a.1 a.2 b.1 b.2 (a.1 + t * (b.1 - a.1)) (a.2 + t * (b.2 - a.2)) = 0) && (!bef (a.1 + t * (b.1 - a.1)) (a.2 + t * (b.2 - a.2)) a.1 a.2 && !bef b.1 b.2 (a.1 + t * (b.1 - a.1)) (a.2 + t * (b.2 - a.2)))) = _
  rw [decide_eq_true z, Bool.true_and]
  exact seg h
theorem ne_of_bf {a b : P2} (h : bf a b = true) : a ≠ b := fun z => by rw [z, bf_self] at h; cases h
theorem col {a b c d : P2} (h : a ≠ b) (t0 : tr a b c d = 0) (a0 : ac a b c = 0) : ac c d a = 0 := by
  unfold tr turnQ at t0
  unfold ac across at *
  by_cases z : b.1 = a.1
  · have hb : b.2 - a.2 ≠ 0 := fun y => h (Prod.ext z.symm (by grind))
    have y1 : d.1 - c.1 = 0 := (Rat.mul_eq_zero.mp (show (b.2 - a.2) * (d.1 - c.1) = 0 by grind)).resolve_left hb
    have y2 : c.1 - a.1 = 0 := (Rat.mul_eq_zero.mp (show (b.2 - a.2) * (c.1 - a.1) = 0 by grind)).resolve_left hb
    grind
  · have hb : b.1 - a.1 ≠ 0 := fun y => z (by grind)
    refine (Rat.mul_eq_zero.mp (show (b.1 - a.1) * ((d.1 - c.1) * (a.2 - c.2) - (d.2 - c.2) * (a.1 - c.1)) = 0 from ?_)).resolve_left hb
    grind
theorem mn_alt (b d : P2) : (if bf b d = true then b else d) = mnP b d := by
  unfold mnP
  by_cases h : b = d
  · rw [h, bf_self]
  · rw [bf_flip h]
    cases bf b d <;> rfl
theorem com_str {a b c d : P2} (h1 : bf a b = true) (h2 : bf c d = true) : (if ac a b c = 0 ∧ ac a b d = 0 then ovD a b c d else crD a b c d) = dueD a b c d := by
  have n1 := ne_of_bf h1
  unfold dueD
  by_cases t0 : tr a b c d = 0
  · rw [if_pos t0]
    by_cases a0 : ac a b c = 0
    · have c0 := col n1 t0 a0
      rw [if_pos ⟨a0, by rw [ac_d a b c d, a0, t0]; grind⟩, if_neg (fun z => z.elim (fun y => y a0) (fun y => y c0))]
      unfold ovD
      rw [mn_alt]
    · rw [if_neg (fun z => a0 z.1), if_pos (.inl a0)]
      unfold crD
      rw [if_pos t0]
  · have nl : ¬ (ac a b c = 0 ∧ ac a b d = 0) := fun ⟨y1, y2⟩ => by
      rw [ac_d a b c d, y1] at y2
      exact t0 (by grind)
    rw [if_neg t0, if_neg nl]
    unfold crD
    rw [if_neg t0, ln_cr t0]
    have o1 : onB c d (crP a b c d) = decide (0 ≤ -(ac a b c) / tr a b c d ∧ -(ac a b c) / tr a b c d ≤ 1) := on_seg h2
    have o2 : onB a b (crP a b c d) = decide (0 ≤ ac c d a / tr a b c d ∧ ac c d a / tr a b c d ≤ 1) := by rw [cr_other t0]; exact on_seg h1
    have i1 := t_iff t0
    have i2 := s_iff t0
    by_cases z : (0 ≤ -(ac a b c) * tr a b c d ∧ -(ac a b c) * tr a b c d ≤ tr a b c d * tr a b c d) ∧ ¬ (0 < ac c d a * ac c d b)
    · rw [if_pos z, if_pos ⟨by rw [o2]; exact decide_eq_true (i2.mp z.2), by rw [o1]; exact decide_eq_true (i1.mp z.1)⟩]
    · rw [if_neg z, if_neg (fun y => z ⟨i1.mpr (of_decide_eq_true (o1 ▸ y.2)), i2.mpr (of_decide_eq_true (o2 ▸ y.1))⟩)]
theorem bf_trans {a b c : P2} (h1 : bf a b = true) (h2 : bf b c = true) : bf a c = true := by
  unfold bf bef at *
  by_cases x : a.1 = b.1
  · rw [if_pos x, decide_eq_true_eq] at h1
    by_cases y : b.1 = c.1
    · rw [if_pos y, decide_eq_true_eq] at h2
      rw [if_pos (x.trans y), decide_eq_true_eq]; grind
    · rw [if_neg y, decide_eq_true_eq] at h2
      rw [if_neg (fun z => y (x.symm.trans z)), decide_eq_true_eq]; grind
  · rw [if_neg x, decide_eq_true_eq] at h1
    by_cases y : b.1 = c.1
    · rw [if_neg (fun z => x (z.trans y.symm)), decide_eq_true_eq]; grind
    · rw [if_neg y, decide_eq_true_eq] at h2
      have : a.1 < c.1 := by grind
      rw [if_neg (fun z => by rw [z] at this; exact absurd this Rat.lt_irrefl), decide_eq_true_eq]; exact this
theorem mk2_self (p : P2) : mk2 p p = pcD (.dot p.1 p.2) := by unfold mk2 mkS; rw [if_pos ⟨rfl, rfl⟩]
theorem due_dot {p c d : P2} (h : c = d ∨ bf c d = true) : dueD p p c d = if ac c d p = 0 ∧ bf p c = false ∧ bf d p = false then pcD (.dot p.1 p.2) else .non := by
  unfold dueD
  have t0 : tr p p c d = 0 := by unfold tr turnQ; grind
  have a0 : ac p p c = 0 := by unfold ac across; grind
  rw [if_pos t0]
  by_cases w : ac c d p = 0 ∧ bf p c = false ∧ bf d p = false
  · rw [if_pos w]
    have m : mxP p c = p := by unfold mxP; rw [w.2.1]; rfl
    have n : mnP p d = p := by unfold mnP; rw [w.2.2]; rfl
    have y : ¬ (ac p p c ≠ 0 ∨ ac c d p ≠ 0) := fun y => y.elim (fun y => y a0) (fun y => y w.1)
    have b0 : ¬ bf p p = true := by rw [bf_self]; decide
    rw [if_neg y, m, n, if_neg b0, mk2_self]
  · rw [if_neg w]
    by_cases z : ac c d p = 0
    · have y : ¬ (ac p p c ≠ 0 ∨ ac c d p ≠ 0) := fun y => y.elim (fun y => y a0) (fun y => y z)
      rw [if_neg y]
      by_cases x : bf p c = true
      · have m : mxP p c = c := by unfold mxP; rw [if_pos x]
        have b1 : bf d p = false := by
          rcases h with h | h
          · rw [← h, bf_flip (ne_of_bf x), x]; rfl
          · have := bf_trans x h
            rw [bf_flip (ne_of_bf this), this]; rfl
        have n : mnP p d = p := by unfold mnP; rw [b1]; rfl
        rw [m, n, if_pos x]
      · have x' : bf p c = false := by cases e : bf p c with
          | true => exact absurd e x
          | false => rfl
        have m : mxP p c = p := by unfold mxP; rw [if_neg x]
        have y' : bf d p = true := by cases e : bf d p with
          | true => rfl
          | false => exact absurd ⟨z, x', e⟩ w
        have n : mnP p d = d := by unfold mnP; rw [if_pos y']
        rw [m, n, if_pos y']
    · rw [if_pos (.inr z)]
theorem onS_iff (a b c d x y : Rat) : onS a b c d x y = true ↔ ac (a, b) (c, d) (x, y) = 0 ∧ bf (x, y) (a, b) = false ∧ bf (c, d) (x, y) = false := by
  unfold onS
  rw [Bool.and_eq_true, decide_eq_true_eq, Bool.and_eq_true, Bool.not_eq_true', Bool.not_eq_true']
  exact Iff.rfl
theorem bf_eq {p q : P2} : (bf p q = false ∧ bf q p = false) ↔ p = q := by
  constructor
  · rintro ⟨x, y⟩
    by_cases h : p = q
    · exact h
    · rw [bf_flip h, x] at y; cases y
  · intro h; rw [h]; exact ⟨bf_self q, bf_self q⟩
theorem com_due {o q : Pc} (h1 : StO o) (h2 : StO q) : comD o q = dueD (e1 o) (e2 o) (e1 q) (e2 q) := by
  cases o with
  | dot x y =>
    cases q with
    | dot u v =>
      show (if x = u ∧ y = v then pcD (.dot x y) else D.non) = dueD (x, y) (x, y) (u, v) (u, v)
      rw [due_dot (.inl rfl)]
      have z : ac (u, v) (u, v) (x, y) = 0 := by unfold ac across; grind
      by_cases c : x = u ∧ y = v
      · rw [if_pos c, if_pos ⟨z, bf_eq.mpr (Prod.ext c.1 c.2)⟩]
      · rw [if_neg c, if_neg (fun y => c ⟨congrArg Prod.fst (bf_eq.mp y.2), congrArg Prod.snd (bf_eq.mp y.2)⟩)]
    | str a b c d =>
      show (if onS a b c d x y = true then pcD (.dot x y) else D.non) = dueD (x, y) (x, y) (a, b) (c, d)
      rw [due_dot (.inr (show bf (a, b) (c, d) = true from h2))]
      by_cases z : onS a b c d x y = true
      · rw [if_pos z, if_pos ((onS_iff ..).mp z)]
      · rw [if_neg z, if_neg (fun y => z ((onS_iff ..).mpr y))]
    | _ => exact h2.elim
  | str a b c d =>
    cases q with
    | dot x y =>
      show (if onS a b c d x y = true then pcD (.dot x y) else D.non) = dueD (a, b) (c, d) (x, y) (x, y)
      rw [← due_sym, due_dot (.inr (show bf (a, b) (c, d) = true from h1))]
      by_cases z : onS a b c d x y = true
      · rw [if_pos z, if_pos ((onS_iff ..).mp z)]
      · rw [if_neg z, if_neg (fun y => z ((onS_iff ..).mpr y))]
    | str a' b' c' d' => exact com_str h1 h2
    | _ => exact h2.elim
  | _ => exact h1.elim

def sp_overlap : DSp := fun ds M Q => ∃ ax ay bx by' cx cy dx dy, ds = [pcD (.str ax ay bx by'), pcD (.str cx cy dx dy)] ∧ BQ 400 ax ∧ BQ 400 ay ∧ BQ 400 bx ∧ BQ 400 by' ∧ BQ 400 cx ∧ BQ 400 cy ∧ BQ 400 dx ∧ BQ 400 dy ∧ Q (ovD (ax, ay) (bx, by') (cx, cy) (dx, dy)) M
theorem befC {x y u v : Rat} {M : DM} {Q : DQ} (h1 : BQ 400 x) (h2 : BQ 400 y) (h3 : BQ 400 u) (h4 : BQ 400 v) (q : Q (.bl (bef x y u v)) M) : sp_before [PQ x y, PQ u v] M Q := ⟨_, _, _, _, rfl, h1.mono (by decide), h2.mono (by decide), h3.mono (by decide), h4.mono (by decide), q⟩
theorem strC {x y u v : Rat} {M : DM} {Q : DQ} (h1 : BQ 400 x) (h2 : BQ 400 y) (h3 : BQ 400 u) (h4 : BQ 400 v) (q : Q (pcD (mkS x y u v)) M) : sp_stretch [PQ x y, PQ u v] M Q := ⟨_, _, _, _, rfl, h1.mono (by decide), h2.mono (by decide), h3.mono (by decide), h4.mono (by decide), q⟩
abbrev s_overlap : Stmt := top 22
theorem sc_overlap : FnScope ["one", "other", "start", "stop"] ["one", "other"] (defScope s_overlap) := ⟨rfl, rfl, rfl, by decide +kernel, rfl, by decide +kernel, by decide +kernel⟩
theorem has_overlap (hF : HasF K mg "overlap" s_overlap ["one", "other"]) (h_before : Has P w K mg base 102 "before" ["p", "q"] sp_before) (h_stretch : Has P w K mg base 103 "stretch" ["p", "q"] sp_stretch) : Has P w K mg base 104 "overlap" ["one", "other"] sp_overlap := by
  refine Has.mkZ hF sc_overlap (fun ds M Q h => by obtain ⟨a, b, c, d, e, f, g, i, z, _⟩ := h; rw [z]; rfl) fun f cdv A outer s H ds M Q E hr h => ?_
  obtain ⟨ax, ay, bx, by', cx, cy, dx, dy, rfl, h1, h2, h3, h4, h5, h6, h7, h8, q⟩ := h
  refine ⟨_, (zdss_cons (zds_set (i := 2) sc_overlap.nd (zde_ifExp (zdt_val (zde_callH h_before hr (by decide) (zda_cons (zde_ix (zde_var 0) zde_int) (zda_cons (zde_ix (zde_var 1) zde_int) zda_nil)))) (zde_ix (zde_var 1) zde_int) (zde_ix (zde_var 0) zde_int)))
    (zdss_cons (zds_set (i := 3) sc_overlap.nd (zde_ifExp (zdt_val (zde_callH h_before hr (by decide) (zda_cons (zde_ix (zde_var 0) zde_int) (zda_cons (zde_ix (zde_var 1) zde_int) zda_nil)))) (zde_ix (zde_var 0) zde_int) (zde_ix (zde_var 1) zde_int)))
    (zdss_cons (zds_if (zdt_val (zde_callH h_before hr (by decide) (zda_cons (zde_var 3) (zda_cons (zde_var 2) zda_nil)))) (zdss_one (zds_ret zde_non)) zdss_nil)
    (zdss_one (zds_ret (zde_callH h_stretch hr (by decide) (zda_cons (zde_var 2) (zda_cons (zde_var 3) zda_nil)))))))), ?_⟩
  dsimp only [pcD]
  decreasing_tactic
  unfold ovD mxP mk2 at q
  have go : ∀ (x y u v : Rat), BQ 400 x → BQ 400 y → BQ 400 u → BQ 400 v → (∀ d, (d = if bef u v x y = true then D.non else pcD (mkS x y u v)) → Q d M) → sp_before [PQ u v, PQ x y] M fun d M' => match d with | D.bl k => if k = true then Dn Q D.non M' else sp_stretch [PQ x y, PQ u v] M' (Dn Q) | x => False := fun x y u v b1 b2 b3 b4 k => by
    refine befC b3 b4 b1 b2 ?_
    by_cases c : bef u v x y = true
    · rw [c]; exact ifT rfl ⟨M, .refl _, k _ (by rw [if_pos c])⟩
    · have c' : bef u v x y = false := by cases e : bef u v x y with
        | true => exact absurd e c
        | false => rfl
      rw [c']
      exact ifF rfl (strC b1 b2 b3 b4 ⟨M, .refl _, k _ (by rw [if_neg c])⟩)
  refine befC h1 h2 h5 h6 (bcase (fun c1 => ?_) (fun c1 => ?_)) <;> refine befC h3 h4 h7 h8 (bcase (fun c2 => ?_) (fun c2 => ?_))
  · refine go _ _ _ _ h5 h6 h3 h4 fun d e => ?_
    have f1 : bf (ax, ay) (cx, cy) = true := c1
    have f2 : bf (bx, by') (dx, dy) = true := c2
    rw [f1, f2] at q; rw [e]; exact q
  · refine go _ _ _ _ h5 h6 h7 h8 fun d e => ?_
    have f1 : bf (ax, ay) (cx, cy) = true := c1
    have f2 : bf (bx, by') (dx, dy) = false := c2
    rw [f1, f2] at q; rw [e]; exact q
  · refine go _ _ _ _ h1 h2 h3 h4 fun d e => ?_
    have f1 : bf (ax, ay) (cx, cy) = false := c1
    have f2 : bf (bx, by') (dx, dy) = true := c2
    rw [f1, f2] at q; rw [e]; exact q
  · refine go _ _ _ _ h1 h2 h7 h8 fun d e => ?_
    have f1 : bf (ax, ay) (cx, cy) = false := c1
    have f2 : bf (bx, by') (dx, dy) = false := c2
    rw [f1, f2] at q; rw [e]; exact q
def sp_crossing : DSp := fun ds M Q => ∃ a b d a' b' d' : Int, ds = [.tup [.str "line", .int a, .int b, .int d], .tup [.str "line", .int a', .int b', .int d']] ∧ Bd 2000 a ∧ Bd 2000 b ∧ Bd 2000 d ∧ Bd 2000 a' ∧ Bd 2000 b' ∧ Bd 2000 d' ∧
  Q (if a * b' - a' * b = 0 then .non else PQ (((d * b' - d' * b : Int) : Rat) / ((a * b' - a' * b : Int) : Rat)) (((a * d' - a' * d : Int) : Rat) / ((a * b' - a' * b : Int) : Rat))) M
theorem ratC {t b : Int} {M : DM} {Q : DQ} (h : b ≠ 0) (hb : Bd 8999 b) (q : Q (FQ ((t : Rat) / (b : Rat))) M) : sp_ratio [.int t, .int b] M Q := ⟨_, _, rfl, h, hb, q⟩
abbrev s_crossing : Stmt := top 23
theorem sc_crossing : FnScope ["one", "other", "bottom", "x", "y"] ["one", "other"] (defScope s_crossing) := ⟨rfl, rfl, rfl, by decide +kernel, rfl, by decide +kernel, by decide +kernel⟩
theorem has_crossing (hF : HasF K mg "crossing" s_crossing ["one", "other"]) (h_ratio : Has P w K mg base 102 "ratio" ["top", "bottom"] sp_ratio) : Has P w K mg base 103 "crossing" ["one", "other"] sp_crossing := by
  refine Has.mkZ hF sc_crossing (fun ds M Q h => by obtain ⟨a, b, c, d, e, f, z, _⟩ := h; rw [z]; rfl) fun f cdv A outer s H ds M Q E hr h => ?_
  obtain ⟨a, b, d, a', b', d', rfl, h1, h2, h3, h4, h5, h6, q⟩ := h
  refine ⟨_, (zdss_cons (zds_set (i := 2) sc_crossing.nd (zde_op od_sub (zde_op od_mul (zde_ix (zde_var 0) zde_int) (zde_ix (zde_var 1) zde_int)) (zde_op od_mul (zde_ix (zde_var 1) zde_int) (zde_ix (zde_var 0) zde_int))))
    (zdss_cons (zds_if (zdt_cmp (od_eq hr) (zde_var 2) zde_int) (zdss_one (zds_ret zde_non)) zdss_nil)
    (zdss_cons (zds_set (i := 3) sc_crossing.nd (zde_callH h_ratio hr (by decide) (zda_cons (zde_op od_sub (zde_op od_mul (zde_ix (zde_var 0) zde_int) (zde_ix (zde_var 1) zde_int)) (zde_op od_mul (zde_ix (zde_var 1) zde_int) (zde_ix (zde_var 0) zde_int))) (zda_cons (zde_var 2) zda_nil))))
    (zdss_cons (zds_set (i := 4) sc_crossing.nd (zde_callH h_ratio hr (by decide) (zda_cons (zde_op od_sub (zde_op od_mul (zde_ix (zde_var 0) zde_int) (zde_ix (zde_var 1) zde_int)) (zde_op od_mul (zde_ix (zde_var 1) zde_int) (zde_ix (zde_var 0) zde_int))) (zda_cons (zde_var 2) zda_nil))))
    (zdss_one (zds_ret (zde_tup (zda_cons (zde_var 3) (zda_cons (zde_var 4) zda_nil))))))))), ?_⟩
  decreasing_tactic
  refine ⟨mulOk h1 h5, mulOk h4 h2, ?_⟩
  rw [dEq_int]
  by_cases c : a * b' - a' * b = 0
  · rw [decide_eq_true c]
    rw [if_pos c] at q
    exact ifT rfl ⟨M, .refl _, q⟩
  · rw [decide_eq_false c]
    rw [if_neg c] at q
    have bb : Bd 8999 (a * b' - a' * b) := ((h1.mul h5).sub (h4.mul h2)).mono (by decide)
    exact ifF rfl ⟨mulOk h3 h5, mulOk h6 h2, ratC c bb ⟨mulOk h1 h6, mulOk h4 h3, ratC c bb ⟨by decide, M, .refl _, q⟩⟩⟩

theorem dEq_ln {g : Bool → Bool} {M : DM} {Q : DQ} {a b d a' b' d' : Int} : dEq g (.tup [.str "line", .int a, .int b, .int d]) (.tup [.str "line", .int a', .int b', .int d']) M Q = Q (.bl (g (decide (a = a' ∧ b = b' ∧ d = d')))) M := by
  show (pureN 60 (.tup [.str "line", .int a, .int b, .int d]) = true ∧ pureN 60 (.tup [.str "line", .int a', .int b', .int d']) = true ∧ Q (.bl (g (eqD (.tup [.str "line", .int a, .int b, .int d]) (.tup [.str "line", .int a', .int b', .int d'])))) M) = _
  have e : eqD (.tup [.str "line", .int a, .int b, .int d]) (.tup [.str "line", .int a', .int b', .int d']) = decide (a = a' ∧ b = b' ∧ d = d') := by
    by_cases h1 : a = a' <;> by_cases h2 : b = b' <;> by_cases h3 : d = d' <;> simp [eqD, eqDs, h1, h2, h3]
  rw [e]
  exact propext ⟨fun h => h.2.2, fun h => ⟨rfl, rfl, h⟩⟩
theorem linC {x y u v : Rat} {M : DM} {Q : DQ} (ne : ¬ (x = u ∧ y = v)) (h1 : BQ 72 x) (h2 : BQ 72 y) (h3 : BQ 72 u) (h4 : BQ 72 v) (q : Q (lineD x y u v) M) : sp_line [PQ x y, PQ u v] M Q := ⟨_, _, _, _, rfl, ne, h1.mono (by decide), h2.mono (by decide), h3.mono (by decide), h4.mono (by decide), q⟩
theorem onC {x y u v a b : Rat} {M : DM} {Q : DQ} (h1 : BQ 72 x) (h2 : BQ 72 y) (h3 : BQ 72 u) (h4 : BQ 72 v) (h5 : BQ 1460 a) (h6 : BQ 1460 b) (q : Q (.bl (onS x y u v a b)) M) : sp_on_straight [pcD (.str x y u v), PQ a b] M Q := .inl ⟨_, _, _, _, _, _, rfl, h1.mono (by decide), h2.mono (by decide), h3.mono (by decide), h4.mono (by decide), h5, h6, q⟩
theorem crosC {a b d a' b' d' : Int} {M : DM} {Q : DQ} (h1 : Bd 2000 a) (h2 : Bd 2000 b) (h3 : Bd 2000 d) (h4 : Bd 2000 a') (h5 : Bd 2000 b') (h6 : Bd 2000 d') (q : Q (if a * b' - a' * b = 0 then .non else PQ (((d * b' - d' * b : Int) : Rat) / ((a * b' - a' * b : Int) : Rat)) (((a * d' - a' * d : Int) : Rat) / ((a * b' - a' * b : Int) : Rat))) M) :
    sp_crossing [.tup [.str "line", .int a, .int b, .int d], .tup [.str "line", .int a', .int b', .int d']] M Q := ⟨_, _, _, _, _, _, rfl, h1, h2, h3, h4, h5, h6, q⟩
theorem ovC {ax ay bx by' cx cy dx dy : Rat} {M : DM} {Q : DQ} (h1 : BQ 72 ax) (h2 : BQ 72 ay) (h3 : BQ 72 bx) (h4 : BQ 72 by') (h5 : BQ 72 cx) (h6 : BQ 72 cy) (h7 : BQ 72 dx) (h8 : BQ 72 dy) (q : Q (ovD (ax, ay) (bx, by') (cx, cy) (dx, dy)) M) : sp_overlap [pcD (.str ax ay bx by'), pcD (.str cx cy dx dy)] M Q :=
  ⟨_, _, _, _, _, _, _, _, rfl, h1.mono (by decide), h2.mono (by decide), h3.mono (by decide), h4.mono (by decide), h5.mono (by decide), h6.mono (by decide), h7.mono (by decide), h8.mono (by decide), q⟩
theorem line_n {x y u v : Rat} (ne : ¬ (x = u ∧ y = v)) (h1 : BQ 72 x) (h2 : BQ 72 y) (h3 : BQ 72 u) (h4 : BQ 72 v) : ∃ (a b d : Int) (k : Rat), lineD x y u v = .tup [.str "line", .int a, .int b, .int d] ∧ k ≠ 0 ∧ (a : Rat) = k * (v - y) ∧ (b : Rat) = k * (x - u) ∧ (d : Rat) = k * ((v - y) * x + (x - u) * y) ∧ Bd 725 a ∧ Bd 725 b ∧ Bd 725 d := by
  have b1 : BQ 145 (v - y) := h4.sub h2
  have b2 : BQ 145 (x - u) := h1.sub h3
  have b3 : BQ 435 ((v - y) * x + (x - u) * y) := (b1.mul h1).add (b2.mul h2)
  obtain ⟨a, b, d, k, e, hk, ea, eb, ed, bd⟩ := line_k (A := v - y) (B := x - u) (C := (v - y) * x + (x - u) * y) (fun z => ne ⟨by grind, by grind⟩)
  obtain ⟨r1, r2, r3⟩ := bd 725 ((b1.1.mul b2.2).mul b3.2) ((b2.1.mul b1.2).mul b3.2) (((b3.1.mul b1.2).mul b2.2).mono (by decide))
  exact ⟨a, b, d, k, e, hk, ea, eb, ed, r1, r2, r3⟩
theorem frac_k {k u T n : Rat} (hk : k ≠ 0) (hT : T ≠ 0) (h : n = k * u) : n / (k * T) = u / T := by
  subst h
  grind
def sp_common : DSp := fun ds M Q => ∃ o q, ds = [pcD o, pcD q] ∧ StO o ∧ StO q ∧ pcB 72 o ∧ pcB 72 q ∧ Q (comD o q) M
abbrev s_common : Stmt := top 21
theorem sc_common : FnScope ["one", "other", "one_line", "other_line", "p"] ["one", "other"] (defScope s_common) := ⟨rfl, rfl, rfl, by decide +kernel, rfl, by decide +kernel, by decide +kernel⟩
theorem has_common (hF : HasF K mg "common" s_common ["one", "other"]) (h_on_straight : Has P w K mg base 103 "on_straight" ["piece", "p"] sp_on_straight) (h_line : Has P w K mg base 104 "line" ["p", "q"] sp_line) (h_overlap : Has P w K mg base 104 "overlap" ["one", "other"] sp_overlap) (h_crossing : Has P w K mg base 103 "crossing" ["one", "other"] sp_crossing) : Has P w K mg base 105 "common" ["one", "other"] sp_common := by
  refine Has.mkZ hF sc_common (fun ds M Q h => by obtain ⟨a, b, z, _⟩ := h; rw [z]; rfl) fun f cdv A outer s H ds M Q E hr h => ?_
  obtain ⟨o, q, rfl, s1, s2, p1, p2, k⟩ := h
  refine ⟨_, (zdss_cons (zds_if (zdt_cmp (od_eq hr) (zde_ix (zde_var 0) zde_int) zde_str) (zdss_one (zds_ret (zde_ifExp (zdt_val (zde_callH h_on_straight hr (by decide) (zda_cons (zde_var 1) (zda_cons (zde_ix (zde_var 0) zde_int) zda_nil)))) (zde_var 0) zde_non))) zdss_nil)
    (zdss_cons (zds_if (zdt_cmp (od_eq hr) (zde_ix (zde_var 1) zde_int) zde_str) (zdss_one (zds_ret (zde_ifExp (zdt_val (zde_callH h_on_straight hr (by decide) (zda_cons (zde_var 0) (zda_cons (zde_ix (zde_var 1) zde_int) zda_nil)))) (zde_var 1) zde_non))) zdss_nil)
    (zdss_cons (zds_set (i := 2) sc_common.nd (zde_callH h_line hr (by decide) (zda_cons (zde_ix (zde_var 0) zde_int) (zda_cons (zde_ix (zde_var 0) zde_int) zda_nil))))
    (zdss_cons (zds_set (i := 3) sc_common.nd (zde_callH h_line hr (by decide) (zda_cons (zde_ix (zde_var 1) zde_int) (zda_cons (zde_ix (zde_var 1) zde_int) zda_nil))))
    (zdss_cons (zds_if (zdt_cmp (od_eq hr) (zde_var 2) (zde_var 3)) (zdss_one (zds_ret (zde_callH h_overlap hr (by decide) (zda_cons (zde_var 0) (zda_cons (zde_var 1) zda_nil))))) zdss_nil)
    (zdss_cons (zds_set (i := 4) sc_common.nd (zde_callH h_crossing hr (by decide) (zda_cons (zde_var 2) (zda_cons (zde_var 3) zda_nil))))
    (zdss_cons (zds_if (zdt_w (zdw_or (zdt_cmp od_is (zde_var 4) zde_non) (zdw_or (zdt_not (zdt_val (zde_callH h_on_straight hr (by decide) (zda_cons (zde_var 0) (zda_cons (zde_var 4) zda_nil))))) (zdw_or1 (zdt_not (zdt_val (zde_callH h_on_straight hr (by decide) (zda_cons (zde_var 1) (zda_cons (zde_var 4) zda_nil))))))))) (zdss_one (zds_ret zde_non)) zdss_nil)
    (zdss_one (zds_ret (zde_tup (zda_cons zde_str (zda_cons (zde_var 4) zda_nil)))))))))))), ?_⟩
  cases o with
  | arc => exact s1.elim
  | ring => exact s1.elim
  | dot x y =>
    cases q with
    | arc => exact s2.elim
    | ring => exact s2.elim
    | dot u v =>
      dsimp only [pcD]
      decreasing_tactic
      rw [dEq_str]
      refine ifT (by decide) (.inr ⟨u, v, x, y, rfl, ?_⟩)
      dsimp only [comD, pcD] at k
      refine dif (fun c => ?_) (fun c => ?_)
      · rw [if_pos c] at k; exact ⟨M, .refl _, k⟩
      · rw [if_neg c] at k; exact ⟨M, .refl _, k⟩
    | str a b c d =>
      obtain ⟨b1, b2⟩ := p1
      obtain ⟨c1, c2, c3, c4⟩ := p2
      dsimp only [pcD]
      decreasing_tactic
      rw [dEq_str]
      refine ifT (by decide) (onC c1 c2 c3 c4 (b1.mono (by decide)) (b2.mono (by decide)) ?_)
      dsimp only [comD, pcD] at k
      refine bcase (fun c => ?_) (fun c => ?_)
      · rw [if_pos c] at k; exact ⟨M, .refl _, k⟩
      · rw [if_neg (by rw [c]; decide)] at k; exact ⟨M, .refl _, k⟩
  | str a b c d =>
    cases q with
    | arc => exact s2.elim
    | ring => exact s2.elim
    | dot u v =>
      obtain ⟨b1, b2⟩ := p2
      obtain ⟨c1, c2, c3, c4⟩ := p1
      dsimp only [pcD]
      decreasing_tactic
      rw [dEq_str]
      refine ifF (by decide) ?_
      rw [dEq_str]
      refine ifT (by decide) (onC c1 c2 c3 c4 (b1.mono (by decide)) (b2.mono (by decide)) ?_)
      dsimp only [comD, pcD] at k
      refine bcase (fun c => ?_) (fun c => ?_)
      · rw [if_pos c] at k; exact ⟨M, .refl _, k⟩
      · rw [if_neg (by rw [c]; decide)] at k; exact ⟨M, .refl _, k⟩
    | str a' b' c' d' =>
      obtain ⟨b1, b2, b3, b4⟩ := p1
      obtain ⟨c1, c2, c3, c4⟩ := p2
      have f1 : bf (a, b) (c, d) = true := s1
      have f2 : bf (a', b') (c', d') = true := s2
      have n1 : ¬ (a = c ∧ b = d) := fun z => ne_of_bf f1 (Prod.ext z.1 z.2)
      have n2 : ¬ (a' = c' ∧ b' = d') := fun z => ne_of_bf f2 (Prod.ext z.1 z.2)
      have le : lineD a b c d = lineD a' b' c' d' ↔ ac (a, b) (c, d) (a', b') = 0 ∧ ac (a, b) (c, d) (c', d') = 0 := line_eq n1 n2
      obtain ⟨A, B, C, k1, l1, hk1, ea, eb, ed, bA, bB, bC⟩ := line_n n1 b1 b2 b3 b4
      obtain ⟨A', B', C', k2, l2, hk2, ea2, eb2, ed2, bA2, bB2, bC2⟩ := line_n n2 c1 c2 c3 c4
      rw [l1, l2] at le
      dsimp only [pcD]
      decreasing_tactic
      rw [dEq_str]
      refine ifF (by decide) ?_
      rw [dEq_str]
      refine ifF (by decide) ?_
      refine linC n1 b1 b2 b3 b4 (linC n2 c1 c2 c3 c4 ?_)
      rw [l1, l2]
      decreasing_tactic
      rw [dEq_ln]
      dsimp only [comD] at k
      by_cases hc : A = A' ∧ B = B' ∧ C = C'
      · obtain ⟨z1, z2, z3⟩ := hc
        rw [if_pos (le.mp (by rw [z1, z2, z3]))] at k
        rw [decide_eq_true ⟨z1, z2, z3⟩]
        exact ifT rfl (ovC b1 b2 b3 b4 c1 c2 c3 c4 ⟨M, .refl _, k⟩)
      · have nl : ¬ (ac (a, b) (c, d) (a', b') = 0 ∧ ac (a, b) (c, d) (c', d') = 0) := fun z => by
          have y := le.mpr z
          injection y with y
          injection y with _ y
          injection y with y1 y
          injection y with y2 y
          injection y with y3 _
          injection y1 with y1
          injection y2 with y2
          injection y3 with y3
          exact hc ⟨y1, y2, y3⟩
        rw [if_neg nl] at k
        rw [decide_eq_false hc]
        refine ifF rfl (crosC (bA.mono (by decide)) (bB.mono (by decide)) (bC.mono (by decide)) (bA2.mono (by decide)) (bB2.mono (by decide)) (bC2.mono (by decide)) ?_)
        have et : ((A * B' - A' * B : Int) : Rat) = k1 * k2 * tr (a, b) (c, d) (a', b') (c', d') := by
          rw [Rat.intCast_sub, Rat.intCast_mul, Rat.intCast_mul, ea, eb, ea2, eb2]
          unfold tr turnQ
          grind
        have kk : k1 * k2 ≠ 0 := fun z => (Rat.mul_eq_zero.mp z).elim hk1 hk2
        unfold crD at k
        by_cases t0 : tr (a, b) (c, d) (a', b') (c', d') = 0
        · have i0 : A * B' - A' * B = 0 := Rat.intCast_inj.mp (by rw [et, t0]; grind)
          rw [if_pos t0] at k
          rw [if_pos i0]
          decreasing_tactic
          exact ifT rfl ⟨M, .refl _, k⟩
        · have i0 : ¬ A * B' - A' * B = 0 := fun z => by
            rw [z] at et
            have : k1 * k2 * tr (a, b) (c, d) (a', b') (c', d') = 0 := et.symm.trans rfl
            exact (Rat.mul_eq_zero.mp this).elim kk t0
          rw [if_neg t0] at k
          rw [if_neg i0]
          have ex : ((C * B' - C' * B : Int) : Rat) / ((A * B' - A' * B : Int) : Rat) = (lnP (a, b) (c, d) (a', b') (c', d')).1 := by
            rw [et, Rat.intCast_sub, Rat.intCast_mul, Rat.intCast_mul, ed, eb, ed2, eb2]
            show _ = (((d - b) * a + (a - c) * b) * (a' - c') - ((d' - b') * a' + (a' - c') * b') * (a - c)) / tr (a, b) (c, d) (a', b') (c', d')
            exact frac_k kk t0 (by grind)
          have ey : ((A * C' - A' * C : Int) : Rat) / ((A * B' - A' * B : Int) : Rat) = (lnP (a, b) (c, d) (a', b') (c', d')).2 := by
            rw [et, Rat.intCast_sub, Rat.intCast_mul, Rat.intCast_mul, ed, ea, ed2, ea2]
            show _ = ((d - b) * ((d' - b') * a' + (a' - c') * b') - (d' - b') * ((d - b) * a + (a - c) * b)) / tr (a, b) (c, d) (a', b') (c', d')
            exact frac_k kk t0 (by grind)
          have bx : BQ 1460 (((C * B' - C' * B : Int) : Rat) / ((A * B' - A' * B : Int) : Rat)) := (BQ.make i0 ((bC.mul bB2).sub (bC2.mul bB)) ((bA.mul bB2).sub (bA2.mul bB))).mono (by decide)
          have by' : BQ 1460 (((A * C' - A' * C : Int) : Rat) / ((A * B' - A' * B : Int) : Rat)) := (BQ.make i0 ((bA.mul bC2).sub (bA2.mul bC)) ((bA.mul bB2).sub (bA2.mul bB))).mono (by decide)
          rw [ex] at bx ⊢
          rw [ey] at by' ⊢
          generalize lnP (a, b) (c, d) (a', b') (c', d') = pt at *
          decreasing_tactic
          refine ifF rfl (onC b1 b2 b3 b4 bx by' ?_)
          have o1 : onB (a, b) (c, d) pt = onS a b c d pt.1 pt.2 := rfl
          have o2 : onB (a', b') (c', d') pt = onS a' b' c' d' pt.1 pt.2 := rfl
          rw [o1, o2] at k
          cases z1 : onS a b c d pt.1 pt.2 with
          | false =>
            rw [z1] at k
            rw [if_neg (fun z => nomatch z.1)] at k
            exact ifT rfl (ifT rfl ⟨M, .refl _, k⟩)
          | true =>
            refine ifF rfl (onC c1 c2 c3 c4 bx by' ?_)
            rw [z1] at k
            cases z2 : onS a' b' c' d' pt.1 pt.2 with
            | false =>
              rw [z2] at k
              rw [if_neg (fun z => nomatch z.2)] at k
              exact ifT rfl ⟨M, .refl _, k⟩
            | true =>
              rw [z2] at k
              rw [if_pos ⟨rfl, rfl⟩] at k
              exact ifF rfl ⟨by decide, M, .refl _, k⟩

def rowP : List P2 → List Pc
  | a :: b :: r => .str a.1 a.2 b.1 b.2 :: rowP (b :: r)
  | _ => []
theorem rowP_get : ∀ {l : List P2} {k : Nat} {a b : P2}, l[k]? = some a → l[k + 1]? = some b → (rowP l)[k]? = some (.str a.1 a.2 b.1 b.2)
  | [], k, a, b, h, _ => by cases h
  | [x], k, a, b, h, h2 => by cases h2
  | x :: y :: r, 0, a, b, h, h2 => by cases h; cases h2; rfl
  | x :: y :: r, k + 1, a, b, h, h2 => rowP_get (l := y :: r) h h2
theorem rowP_len : ∀ l : List P2, (rowP l).length = l.length - 1
  | [] => rfl
  | [_] => rfl
  | a :: b :: r => by
    show (rowP (b :: r)).length + 1 = _
    rw [rowP_len (b :: r)]
    rfl
structure InRow (l : List P2) : Prop where
  up : l.Pairwise fun a b => bf a b = true
  col : ∀ a ∈ l, ∀ b ∈ l, ∀ c ∈ l, ac a b c = 0
theorem tr_col {l : List P2} (h : InRow l) {a b c d : P2} (ha : a ∈ l) (hb : b ∈ l) (hc : c ∈ l) (hd : d ∈ l) : tr a b c d = 0 := by
  have e := ac_d a b c d
  rw [h.col a ha b hb c hc, h.col a ha b hb d hd] at e
  grind
theorem due_row {l : List P2} (h : InRow l) {a b c d : P2} (ha : a ∈ l) (hb : b ∈ l) (hc : c ∈ l) (hd : d ∈ l) : dueD a b c d = if bf (mnP b d) (mxP a c) = true then .non else mk2 (mxP a c) (mnP b d) := by
  unfold dueD
  rw [if_pos (tr_col h ha hb hc hd), if_neg (fun z => z.elim (fun y => y (h.col a ha b hb c hc)) (fun y => y (h.col c hc d hd a ha)))]
theorem bf_asym {a b : P2} (h : bf a b = true) : bf b a = false := by rw [bf_flip (ne_of_bf h), h]; rfl
theorem due_part {l : List P2} (h : InRow l) {a b c d : P2} (ha : a ∈ l) (hb : b ∈ l) (hc : c ∈ l) (hd : d ∈ l) (h1 : bf a c = true) (h2 : bf b d = true) (h3 : b = c ∨ bf b c = true) : dueD a b c d = if b = c then pcD (.dot c.1 c.2) else .non := by
  rw [due_row h ha hb hc hd]
  have m : mxP a c = c := by unfold mxP; rw [if_pos h1]
  have n : mnP b d = b := by unfold mnP; rw [bf_asym h2]; rfl
  rw [m, n]
  rcases h3 with z | z
  · rw [z, bf_self, if_pos rfl, mk2_self]; rfl
  · rw [if_pos z, if_neg (ne_of_bf z)]
theorem due_whole {l : List P2} (h : InRow l) {a b c d : P2} (ha : a ∈ l) (hb : b ∈ l) (hc : c ∈ l) (hd : d ∈ l) (h1 : a = c ∨ bf a c = true) (h2 : d = b ∨ bf d b = true) (h3 : bf c d = true) : dueD a b c d = pcD (.str c.1 c.2 d.1 d.2) := by
  rw [due_row h ha hb hc hd]
  have m : mxP a c = c := by
    unfold mxP
    rcases h1 with z | z
    · rw [z]; split <;> rfl
    · rw [if_pos z]
  have n : mnP b d = d := by
    unfold mnP
    rcases h2 with z | z
    · rw [z]; split <;> rfl
    · rw [if_pos z]
  rw [m, n, bf_asym h3]
  show mk2 c d = _
  unfold mk2 mkS
  rw [if_neg (fun z => ne_of_bf h3 (Prod.ext z.1 z.2)), if_pos (show bef c.1 c.2 d.1 d.2 = true from h3)]
theorem row_lt {l : List P2} (h : InRow l) {i j : Nat} {a b : P2} (ha : l[i]? = some a) (hb : l[j]? = some b) (hij : i < j) : bf a b = true := by
  obtain ⟨h1, e1⟩ := List.getElem?_eq_some_iff.mp ha
  obtain ⟨h2, e2⟩ := List.getElem?_eq_some_iff.mp hb
  have := List.pairwise_iff_getElem.mp h.up i j h1 h2 hij
  rw [e1, e2] at this
  exact this
def sp_law_apart : DSp := fun ds M Q => ∃ r l p q, ds = [.ref r, pcD (.str p.1 p.2 q.1 q.2)] ∧ M r = some (List.map pcD (rowP l)) ∧ InRow l ∧ l.length ≤ 100 ∧ l[0]? = some p ∧ l[l.length - 1]? = some q ∧ 2 ≤ l.length ∧ (∀ a ∈ l, BQ 72 a.1 ∧ BQ 72 a.2) ∧ Q (.bl true) M
abbrev s_law_apart : Stmt := top 33
theorem sc_law_apart : FnScope ["_law_pieces", "_law_whole", "_law_k", "_law_j", "_law_due"] ["_law_pieces", "_law_whole"] (defScope s_law_apart) := ⟨rfl, rfl, rfl, by decide +kernel, rfl, by decide +kernel, by decide +kernel⟩
theorem has_law_apart (hF : HasF K mg "_law_apart" s_law_apart ["_law_pieces", "_law_whole"]) (h_common : Has P w K mg base 105 "common" ["one", "other"] sp_common) (n_range : mg "range" = none) (n_len : mg "len" = none) : Has P w K mg base 106 "_law_apart" ["_law_pieces", "_law_whole"] sp_law_apart := by
  refine Has.mkZ hF sc_law_apart (fun ds M Q h => by obtain ⟨a, b, c, d, z, _⟩ := h; rw [z]; rfl) fun f cdv A outer s H ds M Q E hr h => ?_
  obtain ⟨r, l, p, q, rfl, hM, hrow, hlen, hp, hq, h2, hB, fin⟩ := h
  refine ⟨_, (zdss_cons (zds_for1 PassesOwn.never rfl n_range (zda_cons (zde_callB cd_len n_len (zda_cons (zde_var 0) zda_nil)) zda_nil) (zdg_name (i := 2) sc_law_apart.nd) (zdss_cons (zds_if (zdt_cmp (od_ne hr) (zde_callH h_common hr (by decide) (zda_cons (zde_var 1) (zda_cons (zde_ix (zde_var 0) (zde_var 2)) zda_nil))) (zde_ix (zde_var 0) (zde_var 2))) (zdss_one (zds_ret zde_bl)) zdss_nil)
    (zdss_one (zds_for1 PassesOwn.never rfl n_range (zda_cons (zde_var 2) zda_nil) (zdg_name (i := 3) sc_law_apart.nd) (zdss_cons (zds_set (i := 4) sc_law_apart.nd zde_non)
    (zdss_cons (zds_if (zdt_cmp (od_eq hr) (zde_var 3) (zde_op od_sub (zde_var 2) zde_int)) (zdss_one (zds_set (i := 4) sc_law_apart.nd (zde_tup (zda_cons zde_str (zda_cons (zde_ix (zde_ix (zde_var 0) (zde_var 2)) zde_int) zda_nil))))) zdss_nil)
    (zdss_one (zds_if (zdt_cmp (od_ne hr) (zde_callH h_common hr (by decide) (zda_cons (zde_ix (zde_var 0) (zde_var 3)) (zda_cons (zde_ix (zde_var 0) (zde_var 2)) zda_nil))) (zde_var 4)) (zdss_one (zds_ret zde_bl)) zdss_nil))))))))
    (zdss_one (zds_ret zde_bl))), ?_⟩
  decreasing_tactic
  have hN : (List.map pcD (rowP l)).length = l.length - 1 := by rw [List.length_map, rowP_len]
  -- the k-th piece
  have piece : ∀ k : Nat, k < l.length - 1 → ∃ a b, l[k]? = some a ∧ l[k + 1]? = some b ∧ (List.map pcD (rowP l))[k]? = some (pcD (.str a.1 a.2 b.1 b.2)) := fun k hk => by
    have e1 : l[k]? = some l[k] := List.getElem?_eq_getElem (by omega)
    have e2 : l[k + 1]? = some l[k + 1] := List.getElem?_eq_getElem (by omega)
    exact ⟨_, _, e1, e2, by rw [List.getElem?_map, rowP_get e1 e2]; rfl⟩
  have com : ∀ {a b c d : P2} {M : DM} {Q : DQ}, a ∈ l → b ∈ l → c ∈ l → d ∈ l → bf a b = true → bf c d = true → Q (dueD a b c d) M → sp_common [pcD (.str a.1 a.2 b.1 b.2), pcD (.str c.1 c.2 d.1 d.2)] M Q := fun {a b c d M Q} ha hb hc hd h1 h2 q => by
    refine ⟨.str a.1 a.2 b.1 b.2, .str c.1 c.2 d.1 d.2, rfl, h1, h2, ⟨(hB a ha).1, (hB a ha).2, (hB b hb).1, (hB b hb).2⟩, ⟨(hB c hc).1, (hB c hc).2, (hB d hd).1, (hB d hd).2⟩, ?_⟩
    rw [com_due (o := .str a.1 a.2 b.1 b.2) (q := .str c.1 c.2 d.1 d.2) h1 h2]
    exact q
  have pm := List.mem_of_getElem? hp
  have qm := List.mem_of_getElem? hq
  have pq : bf p q = true := row_lt hrow hp hq (by omega)
  refine ⟨_, hM, by rw [hN]; omega, fun i ρ M' => M' = M ∧ ∃ o2 o3 o4, ρ = [some (.ref r), some (pcD (.str p.1 p.2 q.1 q.2)), o2, o3, o4], ⟨rfl, _, _, _, rfl⟩, ?_, ?_⟩
  · rintro i ρ M' hi ⟨rfl, o2, o3, o4, rfl⟩
    have hi' : i < l.length - 1 := by
      have : i < ((List.map pcD (rowP l)).length : Int).toNat := hi
      rw [hN] at this; omega
    obtain ⟨a, b, ha, hb, hpi⟩ := piece i hi'
    have am := List.mem_of_getElem? ha
    have bm := List.mem_of_getElem? hb
    have ab : bf a b = true := row_lt hrow ha hb (by omega)
    have at1 : atI (List.map pcD (rowP l)) (0 + (i : Int)) = some (pcD (.str a.1 a.2 b.1 b.2)) := by rw [Int.zero_add]; exact atI_nat hpi
    decreasing_tactic
    refine ⟨_, _, hM, at1, com pm qm am bm pq ab ?_⟩
    have h1 : p = a ∨ bf p a = true := by
      by_cases z : i = 0
      · subst z; rw [hp] at ha; exact .inl (Option.some.inj ha)
      · exact .inr (row_lt hrow hp ha (by omega))
    have h3 : b = q ∨ bf b q = true := by
      by_cases z : i + 1 = l.length - 1
      · rw [z, hq] at hb; exact .inl (Option.some.inj hb).symm
      · exact .inr (row_lt hrow hb hq (by omega))
    rw [due_whole hrow pm qm am bm h1 h3 ab]
    refine ⟨_, _, hM, at1, dEq_self (pure_pc _) (ifF rfl ?_)⟩
    decreasing_tactic
    refine ⟨by omega, fun j ρ M2 => M2 = M' ∧ ∃ o3 o4, ρ = [some (.ref r), some (pcD (.str p.1 p.2 q.1 q.2)), some (.int (0 + (i : Int))), o3, o4], ⟨rfl, _, _, rfl⟩, ?_, ?_⟩
    · rintro j ρ M2 hj ⟨rfl, o3, o4, rfl⟩
      have hj' : j < i := by omega
      obtain ⟨c, d, hc, hd, hpj⟩ := piece j (by omega)
      have cm := List.mem_of_getElem? hc
      have dm := List.mem_of_getElem? hd
      have cd : bf c d = true := row_lt hrow hc hd (by omega)
      have at2 : atI (List.map pcD (rowP l)) (0 + (j : Int)) = some (pcD (.str c.1 c.2 d.1 d.2)) := by rw [Int.zero_add]; exact atI_nat hpj
      have e1 : bf c a = true := row_lt hrow hc ha (by omega)
      have e2 : bf d b = true := row_lt hrow hd hb (by omega)
      decreasing_tactic
      rw [dEq_int]
      by_cases z : (0 + (j : Int)) = 0 + (i : Int) - 1
      · have ji : j + 1 = i := by omega
        have da : d = a := by rw [ji] at hd; rw [hd] at ha; exact Option.some.inj ha
        rw [decide_eq_true z]
        refine ifT rfl ⟨_, _, hM, at1, ?_⟩
        dsimp only [pcD]
        decreasing_tactic
        refine ⟨by decide, _, _, hM, at2, _, _, hM, at1, com cm dm am bm cd ab ?_⟩
        rw [due_part hrow cm dm am bm e1 e2 (.inl da), if_pos da]
        exact dEq_self (pure_pc _) (ifF rfl ⟨rfl, _, _, rfl⟩)
      · have lt : bf d a = true := row_lt hrow hd ha (by omega)
        rw [decide_eq_false z]
        refine ifF rfl ⟨_, _, hM, at2, _, _, hM, at1, com cm dm am bm cd ab ?_⟩
        rw [due_part hrow cm dm am bm e1 e2 (.inr lt), if_neg (ne_of_bf lt)]
        exact dEq_self (by rfl) (ifF rfl ⟨rfl, _, _, rfl⟩)
    · rintro ρ M2 ⟨rfl, o3, o4, rfl⟩
      exact ⟨rfl, _, _, _, rfl⟩
  · rintro ρ M' ⟨rfl, o2, o3, o4, rfl⟩
    decreasing_tactic
    exact ⟨_, .refl _, fin⟩

abbrev s_law_feed : Stmt := top 27
theorem sc_law_feed : FnScope ["_law_cell"] ["_law_cell"] (defScope s_law_feed) := ⟨rfl, rfl, rfl, by decide +kernel, rfl, by decide +kernel, by decide +kernel⟩
theorem has_law_feed (hF : HasF K mg "_law_feed" s_law_feed ["_law_cell"]) (n_int : mg "int" = none) : Has P w K mg base 101 "_law_feed" ["_law_cell"] sp_law_feed := by
  refine Has.mkZ hF sc_law_feed (fun ds M Q ⟨c, e, _⟩ => by rw [e]; rfl) fun f cdv A outer s H ds M Q E hr h => ?_
  obtain ⟨c, rfl, q⟩ := h
  refine ⟨_, (zdss_one (zds_ret (zde_lst (zda_cons (zde_var 0) (zda_cons zde_int (zda_cons (zde_callTy cd_int n_int (zda_cons (zde_cmp od_ge (zde_var 0) (zde_op od_pow zde_int zde_int)) zda_nil)) zda_nil)))))), ?_⟩
  refine ⟨⟨by decide, by decide, by decide⟩, by show (3 : Nat) ≤ 1000; decide, fun p hp => ⟨_, .refl _, ?_⟩⟩
  exact q p _ hp ⟨c, 0, _, putM_same, by decide, by decide⟩ Adv.put
abbrev s_law_draw : Stmt := top 28
theorem sc_law_draw : FnScope ["_law_from", "_law_many", "_law_k", "_law_found", "_law_number"] ["_law_from", "_law_many"] (defScope s_law_draw) := ⟨rfl, rfl, rfl, by decide +kernel, rfl, by decide +kernel, by decide +kernel⟩
theorem has_law_draw (hF : HasF K mg "_law_draw" s_law_draw ["_law_from", "_law_many"]) : Has P w K mg base 101 "_law_draw" ["_law_from", "_law_many"] sp_law_draw := by
  refine Has.mkZ hF sc_law_draw (fun ds M Q ⟨a, m, n, e, _⟩ => by rw [e]; rfl) fun f cdv A outer s H ds M Q E hr h => ?_
  obtain ⟨a, many, n, rfl, ⟨c, k, fl, ha, k0, k1⟩, hn, hm, hB, q⟩ := h
  refine ⟨_, (zdss_cons (zds_set (i := 2) sc_law_draw.nd (zde_ix (zde_var 0) zde_int))
    (zdss_cons (zds_asg (zde_op od_add (zde_var 2) zde_int) (zdg_sub (zde_var 0) zde_int))
    (zdss_cons (zds_if (zdt_w (zdw_and (zdt_cmp (od_eq hr) (zde_ix (zde_var 0) zde_int) zde_int) (zdw_and1 (zdt_cmp od_gt (zde_ix (zde_var 0) zde_int) zde_int)))) (zdss_cons (zds_set (i := 3) sc_law_draw.nd (zde_op od_mod (zde_ix (zde_var 0) zde_int) (zde_var 1)))
    (zdss_cons (zds_asg (zde_op od_fdiv (zde_ix (zde_var 0) zde_int) (zde_var 1)) (zdg_sub (zde_var 0) zde_int))
    (zdss_one (zds_ret (zde_var 3))))) zdss_nil)
    (zdss_cons (zds_set (i := 4) sc_law_draw.nd (zde_op od_mod (zde_op od_mul (zde_op od_add (zde_op od_add (zde_op od_mod (zde_ix (zde_var 0) zde_int) (zde_op od_pow zde_int zde_int)) (zde_op od_mul (zde_op od_mul zde_int (zde_var 2)) (zde_var 2))) (zde_var 2)) zde_int) zde_int))
    (zdss_cons (zds_set (i := 4) sc_law_draw.nd (zde_op od_mod (zde_op od_add (zde_op od_mul (zde_var 4) zde_int) zde_int) zde_int))
    (zdss_one (zds_ret (zde_op od_mod (zde_op od_fdiv (zde_var 4) zde_int) (zde_var 1))))))))), ?_⟩
  have hm0 : many ≠ 0 := by omega
  have hk : Bd 63 k := Bd.of (by omega) (by omega)
  refine ⟨_, _, ha, rfl, _, 1, ha, rfl, ?_⟩
  have h1 : putM M a [.int c, .int (k + 1), .int fl] a = some [.int c, .int (k + 1), .int fl] := putM_same
  have av : Adv M (putM M a [.int c, .int (k + 1), .int fl]) a := Adv.put
  have fd1 : FdN (putM M a [.int c, .int (k + 1), .int fl]) a (n + 1) := ⟨c, k + 1, fl, h1, by omega, by omega⟩
  have slow : ∀ x : Int, Q (.int ((x.fdiv 16).fmod many)) (putM M a [.int c, .int (k + 1), .int fl]) := fun x => q _ _ (Int.fmod_nonneg_of_pos _ hm) (Int.fmod_lt_of_pos _ hm) fd1 av
  refine ⟨_, _, h1, rfl, rfl, rfl, ?_⟩
  have rest : ∀ (u v : Int), ∃ ds d, putM M a [.int c, .int (k + 1), .int fl] a = some ds ∧ atI ds 0 = some d ∧ True := fun _ _ => ⟨_, _, h1, rfl, trivial⟩
  refine bcase (fun _ => ?_) (fun _ => ?_)
  · refine ⟨_, _, h1, rfl, ?_⟩
    refine dif (fun _ => ?_) (fun _ => ?_)
    · refine ⟨_, _, h1, rfl, hm0, _, _, h1, rfl, ⟨hm0, Nat.lt_succ_of_lt (hB.log (by decide))⟩, _, 0, h1, rfl, _, .refl _, ?_⟩
      refine q _ _ (Int.fmod_nonneg_of_pos _ hm) (Int.fmod_lt_of_pos _ hm) ⟨_, k + 1, fl, putM_same, by omega, by omega⟩ (Adv.put.trans Adv.put)
    · refine ⟨_, _, h1, rfl, ⟨by decide, by decide, by decide⟩, (by dsimp only; decide), mulOkL (by unfold Bd; decide), mulOkR hk, mulOkR (by unfold Bd; decide), (by dsimp only; decide), mulOkR (by unfold Bd; decide), (by dsimp only; decide), ⟨by decide, by decide +kernel⟩, hm0, _, .refl _, ?_⟩
      exact slow _
  · refine ⟨_, _, h1, rfl, ⟨by decide, by decide, by decide⟩, (by dsimp only; decide), mulOkL (by unfold Bd; decide), mulOkR hk, mulOkR (by unfold Bd; decide), (by dsimp only; decide), mulOkR (by unfold Bd; decide), (by dsimp only; decide), ⟨by decide, by decide +kernel⟩, hm0, _, .refl _, ?_⟩
    exact slow _

abbrev s_law_lowest : Stmt := top 29
theorem sc_law_lowest : FnScope ["_law_top", "_law_bottom", "_law_one", "_law_other"] ["_law_top", "_law_bottom"] (defScope s_law_lowest) := ⟨rfl, rfl, rfl, by decide +kernel, rfl, by decide +kernel, by decide +kernel⟩
theorem has_law_lowest (hF : HasF K mg "_law_lowest" s_law_lowest ["_law_top", "_law_bottom"]) (n_abs : mg "abs" = none) : Has P w K mg base 101 "_law_lowest" ["_law_top", "_law_bottom"] sp_law_lowest := by
  refine Has.mkZ hF sc_law_lowest (fun ds M Q ⟨a, b, e, _⟩ => by rw [e]; rfl) fun f cdv A outer s H ds M Q E hr h => ?_
  obtain ⟨t, b, rfl, hb, hB, q⟩ := h
  refine ⟨_, (zdss_cons (zds_set (i := 2) sc_law_lowest.nd (zde_callB cd_abs n_abs (zda_cons (zde_var 0) zda_nil)))
    (zdss_cons (zds_set (i := 3) sc_law_lowest.nd (zde_callB cd_abs n_abs (zda_cons (zde_var 1) zda_nil)))
    (zdss_cons (zds_while PassesOwn.never (zdt_cmp od_gt (zde_var 3) zde_int) (zdss_one (zds_par (i := 2) (j := 3) rfl sc_law_lowest.nd (zda_cons (zde_var 3) (zda_cons (zde_op od_mod (zde_var 2) (zde_var 3)) zda_nil)))))
    (zdss_cons (zds_if (zdt_cmp od_lt (zde_var 1) zde_int) (zdss_one (zds_set (i := 2) sc_law_lowest.nd (zde_op od_sub zde_int (zde_var 2)))) zdss_nil)
    (zdss_one (zds_ret (zde_tup (zda_cons (zde_op od_fdiv (zde_var 0) (zde_var 2)) (zda_cons (zde_op od_fdiv (zde_var 1) (zde_var 2)) zda_nil))))))))), ?_⟩
  refine dwhile_by (fun m ρ M' => M' = M ∧ ∃ x y : Int, ρ = [some (.int t), some (.int b), some (.int x), some (.int y)] ∧ m = y.natAbs ∧ 0 ≤ x ∧ 0 ≤ y ∧ Int.gcd x y = Int.gcd t b) _ ⟨rfl, _, _, rfl, rfl, by split <;> omega, by split <;> omega, by
    split <;> split <;> simp [Int.gcd_neg, Int.neg_gcd]⟩ ?_
  rintro m ρ M' ⟨rfl, x, y, rfl, rfl, hx, hy, g⟩
  refine dif (fun c => ?_) (fun c => ?_)
  · have hy' : y ≠ 0 := by omega
    exact ⟨hy', _, fmod_lt hy', rfl, y, x.fmod y, rfl, rfl, hy, Int.fmod_nonneg_of_pos _ (by omega), (gcd_fmod x y).trans g⟩
  · have hy' : y = 0 := by omega
    subst hy'
    have e : x = (Int.gcd t b : Int) := by rw [← g, Int.gcd_zero_right]; omega
    have fin : Q (.tup [.int (fT t b), .int (fB t b)]) M' := by rw [FQ_make hb]; exact q
    unfold fT fB at fin
    have s1 := sg_ne (t := t) hb
    have s2 := (hB.sg (t := t) hb).log (by decide)
    unfold sg at fin s1 s2
    refine dif (fun c => ?_) (fun c => ?_)
    · rw [if_pos c, ← e, ← Int.zero_sub] at fin s1 s2
      exact ⟨⟨s1, Nat.lt_succ_of_lt s2⟩, ⟨s1, Nat.lt_succ_of_lt s2⟩, by show (2 : Nat) ≤ 1000; decide, M', .refl _, fin⟩
    · rw [if_neg c, ← e] at fin s1 s2
      exact ⟨⟨s1, Nat.lt_succ_of_lt s2⟩, ⟨s1, Nat.lt_succ_of_lt s2⟩, by show (2 : Nat) ≤ 1000; decide, M', .refl _, fin⟩

def sp_law_small : DSp := sp_drawn 40000 3 (IsF 24)
theorem bd24 {x : Int} (h1 : -10000000 ≤ x) (h2 : x ≤ 10000000) : Bd 24 x := by unfold Bd; omega
theorem isF24_int {z : Int} (h1 : -10000000 ≤ z) (h2 : z ≤ 10000000) : IsF 24 (.tup [.int z, .int 1]) := ⟨z, (FQ_int z).symm, .int (bd24 h1 h2) (by decide)⟩
theorem isF24_div {t b : Int} (h0 : 0 < b) (h1 : -10000000 ≤ t) (h2 : t ≤ 10000000) (h3 : b ≤ 10000000) : IsF 24 (FQ ((t : Rat) / (b : Rat))) := ⟨_, rfl, .make (by omega) (bd24 h1 h2) (bd24 (by omega) h3)⟩
abbrev s_law_small : Stmt := top 30
theorem sc_law_small : FnScope ["_law_from", "_law_way"] ["_law_from"] (defScope s_law_small) := ⟨rfl, rfl, rfl, by decide +kernel, rfl, by decide +kernel, by decide +kernel⟩
theorem has_law_small (hF : HasF K mg "_law_small" s_law_small ["_law_from"]) (h_law_draw : Has P w K mg base 101 "_law_draw" ["_law_from", "_law_many"] sp_law_draw) (h_law_lowest : Has P w K mg base 101 "_law_lowest" ["_law_top", "_law_bottom"] sp_law_lowest) : Has P w K mg base 102 "_law_small" ["_law_from"] sp_law_small := by
  refine Has.mkZ hF sc_law_small drawn_len fun f cdv A outer s H ds M Q E hr h => ?_
  obtain ⟨a, n, rfl, fd, hn, q⟩ := h
  refine ⟨_, (zdss_cons (zds_set (i := 1) sc_law_small.nd (zde_callH h_law_draw hr (by decide) (zda_cons (zde_var 0) (zda_cons zde_int zda_nil))))
    (zdss_cons (zds_if (zdt_cmp (od_eq hr) (zde_var 1) zde_int) (zdss_one (zds_ret (zde_tup (zda_cons (zde_op od_sub (zde_callH h_law_draw hr (by decide) (zda_cons (zde_var 0) (zda_cons zde_int zda_nil))) zde_int) (zda_cons zde_int zda_nil))))) zdss_nil)
    (zdss_cons (zds_if (zdt_cmp (od_eq hr) (zde_var 1) zde_int) (zdss_one (zds_ret (zde_callH h_law_lowest hr (by decide) (zda_cons (zde_op od_sub (zde_callH h_law_draw hr (by decide) (zda_cons (zde_var 0) (zda_cons zde_int zda_nil))) zde_int) (zda_cons (zde_op od_add zde_int (zde_callH h_law_draw hr (by decide) (zda_cons (zde_var 0) (zda_cons zde_int zda_nil)))) zda_nil))))) zdss_nil)
    (zdss_one (zds_ret (zde_callH h_law_lowest hr (by decide) (zda_cons (zde_op od_sub (zde_callH h_law_draw hr (by decide) (zda_cons (zde_var 0) (zda_cons (zde_op od_mul zde_int (zde_op od_pow zde_int zde_int)) zda_nil))) (zde_op od_pow zde_int zde_int)) (zda_cons (zde_op od_add zde_int (zde_callH h_law_draw hr (by decide) (zda_cons (zde_var 0) (zda_cons (zde_op od_pow zde_int zde_int) zda_nil)))) zda_nil)))))))), ?_⟩
  refine ⟨a, 3, n, rfl, fd, by omega, by decide, bdk (by decide), fun way M1 w0 w1 fd1 av1 => ?_⟩
  decreasing_tactic
  rw [dEq_int]
  refine dif (fun _ => ?_) (fun _ => ?_)
  · refine ⟨a, 9, _, rfl, fd1, by omega, by decide, bdk (by decide), fun r M2 r0 r1 fd2 av2 => ?_⟩
    exact ⟨by show (2 : Nat) ≤ 1000; decide, M2, .refl _, q _ M2 (isF24_int (by omega) (by omega)) (fd2.mono (by omega)) (av1.trans av2)⟩
  rw [dEq_int]
  refine dif (fun _ => ?_) (fun _ => ?_)
  · refine ⟨a, 41, _, rfl, fd1, by omega, by decide, bdk (by decide), fun r M2 r0 r1 fd2 av2 => ?_⟩
    refine ⟨a, 12, _, rfl, fd2, by omega, by decide, bdk (by decide), fun r' M3 s0 s1 fd3 av3 => ?_⟩
    exact ⟨_, _, rfl, by omega, (bd210 (by omega) (by omega)).mono (by decide), M3, .refl _, q _ M3 (isF24_div (by omega) (by omega) (by omega) (by omega)) (fd3.mono (by omega)) ((av1.trans av2).trans av3)⟩
  refine ⟨⟨by decide, by decide, by decide⟩, mulOkL (by unfold Bd; decide), a, _, _, rfl, fd1, by omega, by decide, bdk (by decide), fun r M2 r0 r1 fd2 av2 => ?_⟩
  have r1 : r < 2000000 := r1
  refine ⟨⟨by decide, by decide, by decide⟩, ⟨by decide, by decide, by decide⟩, a, _, _, rfl, fd2, by omega, by decide, bdk (by decide), fun r' M3 s0 s1 fd3 av3 => ?_⟩
  have s1 : r' < 10000 := s1
  have e : ((10 : Int) ^ Int.toNat 6) = 1000000 := by decide
  exact ⟨_, _, rfl, by omega, (bd210 (by omega) (by omega)).mono (by decide), M3, .refl _, q _ M3 (isF24_div (by omega) (by rw [e]; omega) (by rw [e]; omega) (by omega)) (fd3.mono (by omega)) ((av1.trans av2).trans av3)⟩
def sp_law_spot : DSp := sp_drawn 30000 6 (IsP 24)
abbrev s_law_spot : Stmt := top 31
theorem sc_law_spot : FnScope ["_law_from", "_law_x"] ["_law_from"] (defScope s_law_spot) := ⟨rfl, rfl, rfl, by decide +kernel, rfl, by decide +kernel, by decide +kernel⟩
theorem has_law_spot (hF : HasF K mg "_law_spot" s_law_spot ["_law_from"]) (h_law_small : Has P w K mg base 102 "_law_small" ["_law_from"] sp_law_small) : Has P w K mg base 103 "_law_spot" ["_law_from"] sp_law_spot := by
  refine Has.mkZ hF sc_law_spot drawn_len fun f cdv A outer s H ds M Q E hr h => ?_
  obtain ⟨a, n, rfl, fd, hn, q⟩ := h
  refine ⟨_, (zdss_cons (zds_set (i := 1) sc_law_spot.nd (zde_callH h_law_small hr (by decide) (zda_cons (zde_var 0) zda_nil)))
    (zdss_one (zds_ret (zde_tup (zda_cons (zde_var 1) (zda_cons (zde_callH h_law_small hr (by decide) (zda_cons (zde_var 0) zda_nil)) zda_nil)))))), ?_⟩
  refine ⟨a, _, rfl, fd, by omega, fun d M2 ⟨x, ex, hx⟩ fd2 av2 => ⟨a, _, rfl, fd2, by omega, fun d' M3 ⟨y, ey, hy⟩ fd3 av3 => ?_⟩⟩
  subst ex ey
  exact ⟨by show (2 : Nat) ≤ 1000; decide, M3, .refl _, q _ M3 ⟨x, y, rfl, hx, hy⟩ (fd3.mono (by omega)) (av2.trans av3)⟩

def sp_law_cell_at : DSp := fun ds M Q => ∃ (ns : List Int) (k : Nat), ds = [.fz (ns.map D.int), .int (k : Int)] ∧ ∀ c : Int, Q (.int c) M
abbrev s_law_cell_at : Stmt := top 26
theorem sc_law_cell_at : FnScope ["_law_script", "_law_k"] ["_law_script", "_law_k"] (defScope s_law_cell_at) := ⟨rfl, rfl, rfl, by decide +kernel, rfl, by decide +kernel, by decide +kernel⟩
theorem has_law_cell_at (hF : HasF K mg "_law_cell_at" s_law_cell_at ["_law_script", "_law_k"]) (n_len : mg "len" = none) : Has P w K mg base 101 "_law_cell_at" ["_law_script", "_law_k"] sp_law_cell_at := by
  refine Has.mkZ hF sc_law_cell_at (fun ds M Q ⟨a, n, z, _⟩ => by rw [z]; rfl) fun f cdv A outer s H ds M Q E hr h => ?_
  obtain ⟨ns, k, rfl, q⟩ := h
  refine ⟨_, (zdss_cons (zds_if (zdt_cmp od_lt (zde_var 1) (zde_callB cd_len n_len (zda_cons (zde_var 0) zda_nil))) (zdss_one (zds_ret (zde_ix (zde_var 0) (zde_var 1)))) zdss_nil)
    (zdss_one (zds_ret zde_int))), ?_⟩
  decreasing_tactic
  show (fun x M1 => _) _ _
  refine dif (fun c => ?_) (fun c => ⟨M, .refl _, q 0⟩)
  have hk : k < (ns.map D.int).length := by
    have : (k : Int) < ((ns.map D.int).length : Int) := c
    omega
  have hat : atI (ns.map D.int) (k : Int) = some (.int (ns[k]'(by simpa using hk))) := atI_nat (by rw [List.getElem?_eq_getElem hk]; simp)
  try dsimp only [dIxR]
  rw [hat]
  exact ⟨M, .refl _, q _⟩

def mx (k x u : Rat) : Rat := x + k * (u - x)
theorem mixQ {x u : Rat} {p q : Int} (h : q ≠ 0) : (((x.num * (u.den : Int) * (q - p) + u.num * (x.den : Int) * p : Int)) : Rat) / (((x.den : Int) * (u.den : Int) * q : Int) : Rat) = mx ((p : Rat) / (q : Rat)) x u := by
  have h1 := denR x
  have h2 := denR u
  have e1 := num_eq x
  have e2 := num_eq u
  have hq : (q : Rat) ≠ 0 := fun z => h (Rat.intCast_eq_zero_iff.mp z)
  unfold mx
  simp only [Rat.intCast_add, Rat.intCast_mul, Rat.intCast_sub]
  rw [e1, e2]
  grind
def sp_law_mixed : DSp := fun ds M Q => ∃ x y u v p q, ds = [PQ x y, PQ u v, .tup [.int p, .int q]] ∧ BQ 25 x ∧ BQ 25 y ∧ BQ 25 u ∧ BQ 25 v ∧ Bd 21 p ∧ Bd 21 q ∧ q ≠ 0 ∧ Q (PQ (mx ((p : Rat) / (q : Rat)) x u) (mx ((p : Rat) / (q : Rat)) y v)) M
abbrev s_law_mixed : Stmt := top 32
theorem sc_law_mixed : FnScope ["_law_p", "_law_q", "_law_by", "_law_found", "_law_one", "_law_other", "_law_top"] ["_law_p", "_law_q", "_law_by"] (defScope s_law_mixed) := ⟨rfl, rfl, rfl, by decide +kernel, rfl, by decide +kernel, by decide +kernel⟩
theorem has_law_mixed (hF : HasF K mg "_law_mixed" s_law_mixed ["_law_p", "_law_q", "_law_by"]) (h_law_lowest : Has P w K mg base 101 "_law_lowest" ["_law_top", "_law_bottom"] sp_law_lowest) (n_zip : mg "zip" = none) : Has P w K mg base 102 "_law_mixed" ["_law_p", "_law_q", "_law_by"] sp_law_mixed := by
  refine Has.mkZ hF sc_law_mixed (fun ds M Q ⟨x, y, u, v, p, q, e, _⟩ => by rw [e]; rfl) fun f cdv A outer s H ds M Q E hr h => ?_
  obtain ⟨x, y, u, v, p, q, rfl, hx, hy, hu, hv, bp, bq, q0, fin⟩ := h
  refine ⟨_, (zdss_cons (zds_set (i := 3) sc_law_mixed.nd (zde_lst zda_nil))
    (zdss_cons (zds_forZ PassesOwn.never rfl n_zip (zda_cons (zde_var 0) (zda_cons (zde_var 1) zda_nil)) (zdg_unp (n := 2) rfl (zdgs_cons (zdg_name (i := 4) sc_law_mixed.nd) (zdgs_cons (zdg_name (i := 5) sc_law_mixed.nd) zdgs_nil))) (zdss_cons (zds_set (i := 6) sc_law_mixed.nd (zde_op od_add (zde_op od_mul (zde_op od_mul (zde_ix (zde_var 4) zde_int) (zde_ix (zde_var 5) zde_int)) (zde_op od_sub (zde_ix (zde_var 2) zde_int) (zde_ix (zde_var 2) zde_int))) (zde_op od_mul (zde_op od_mul (zde_ix (zde_var 5) zde_int) (zde_ix (zde_var 4) zde_int)) (zde_ix (zde_var 2) zde_int))))
    (zdss_one (zds_expr (zde_append (zde_var 3) (zde_callH h_law_lowest hr (by decide) (zda_cons (zde_var 6) (zda_cons (zde_op od_mul (zde_op od_mul (zde_ix (zde_var 4) zde_int) (zde_ix (zde_var 5) zde_int)) (zde_ix (zde_var 2) zde_int)) zda_nil))))))))
    (zdss_one (zds_ret (zde_tup (zda_cons (zde_ix (zde_var 3) zde_int) (zda_cons (zde_ix (zde_var 3) zde_int) zda_nil))))))), ?_⟩
  decreasing_tactic
  have bd : Bd 22 (q - p) := by unfold Bd at *; omega
  refine ⟨by decide, fun pl hpl => it_go ?_⟩
  decreasing_tactic
  refine ⟨rfl, mulOk hx.1 hu.2, mulOk (hx.1.mul hu.2) bd, mulOk hu.1 hx.2, mulOk (hu.1.mul hx.2) bp, ⟨_, putM_same⟩, mulOk hx.2 hu.2, mulOk (hx.2.mul hu.2) bq, _, _, rfl, Int.mul_ne_zero (Int.mul_ne_zero (den_ne x) (den_ne u)) q0, (((hx.2.mul hu.2).mul bq)).mono (by decide), ?_⟩
  rw [mixQ q0]
  decreasing_tactic
  refine ⟨_, _, rfl, putM_same, by decide, rfl, mulOk hy.1 hv.2, mulOk (hy.1.mul hv.2) bd, mulOk hv.1 hy.2, mulOk (hv.1.mul hy.2) bp, ⟨_, putM_same⟩, mulOk hy.2 hv.2, mulOk (hy.2.mul hv.2) bq, _, _, rfl, Int.mul_ne_zero (Int.mul_ne_zero (den_ne y) (den_ne v)) q0, (((hy.2.mul hv.2).mul bq)).mono (by decide), ?_⟩
  rw [mixQ q0]
  decreasing_tactic
  refine ⟨_, _, rfl, putM_same, by show (1 : Nat) < 1000; decide, _, _, putM_same, rfl, _, _, putM_same, rfl, by decide, M, ?_, fin⟩
  rw [putM_putM, putM_putM]
  exact SubM.new hpl _

def cutS (x y u v a b : Rat) : List D := if (a = x ∧ b = y) ∨ (a = u ∧ b = v) ∨ onS x y u v a b = false then [pcD (.str x y u v)] else [pcD (.str x y a b), pcD (.str a b u v)]
def sp_cut : DSp := fun ds M Q => ∃ x y u v a b, ds = [pcD (.str x y u v), PQ a b] ∧ BQ 1460 x ∧ BQ 1460 y ∧ BQ 1460 u ∧ BQ 1460 v ∧ BQ 1460 a ∧ BQ 1460 b ∧ ∀ p : Addr, M p = none → Q (.ref p) (putM M p (cutS x y u v a b))
abbrev s_cut : Stmt := top 24
theorem sc_cut : FnScope ["piece", "p"] ["piece", "p"] (defScope s_cut) := ⟨rfl, rfl, rfl, by decide +kernel, rfl, by decide +kernel, by decide +kernel⟩
theorem has_cut (hF : HasF K mg "cut" s_cut ["piece", "p"]) (h_on_straight : Has P w K mg base 103 "on_straight" ["piece", "p"] sp_on_straight) : Has P w K mg base 104 "cut" ["piece", "p"] sp_cut := by
  refine Has.mkZ hF sc_cut (fun ds M Q ⟨x, y, u, v, a, b, e, _⟩ => by rw [e]; rfl) fun f cdv A outer s H ds M Q E hr h => ?_
  refine ⟨_, (zdss_cons (zds_if (zdt_w (zdw_or (zdt_cmp (od_eq hr) (zde_var 1) (zde_ix (zde_var 0) zde_int)) (zdw_or (zdt_cmp (od_eq hr) (zde_var 1) (zde_ix (zde_var 0) zde_int)) (zdw_or1 (zdt_not (zdt_val (zde_callH h_on_straight hr (by decide) (zda_cons (zde_var 0) (zda_cons (zde_var 1) zda_nil))))))))) (zdss_one (zds_ret (zde_lst (zda_cons (zde_var 0) zda_nil)))) zdss_nil)
    (zdss_one (zds_ret (zde_lst (zda_cons (zde_tup (zda_cons zde_str (zda_cons (zde_ix (zde_var 0) zde_int) (zda_cons (zde_var 1) zda_nil)))) (zda_cons (zde_tup (zda_cons zde_str (zda_cons (zde_var 1) (zda_cons (zde_ix (zde_var 0) zde_int) zda_nil)))) zda_nil)))))), ?_⟩
  obtain ⟨x, y, u, v, a, b, rfl, h1, h2, h3, h4, h5, h6, q⟩ := h
  unfold cutS at q
  dsimp only [pcD] at q ⊢
  decreasing_tactic
  simp_arith
  by_cases c1 : a = x ∧ b = y
  · rw [if_pos c1]
    rw [if_pos (.inl c1)] at q
    exact ⟨by decide, fun p hp => ⟨_, .refl _, q p hp⟩⟩
  rw [if_neg c1]
  by_cases c2 : a = u ∧ b = v
  · rw [if_pos c2]
    rw [if_pos (.inr (.inl c2))] at q
    exact ⟨by decide, fun p hp => ⟨_, .refl _, q p hp⟩⟩
  rw [if_neg c2]
  refine .inl ⟨_, _, _, _, _, _, rfl, h1, h2, h3, h4, h5, h6, ?_⟩
  decreasing_tactic
  cases d : onS x y u v a b with
  | false =>
    rw [if_pos (.inr (.inr d))] at q
    exact ⟨by decide, fun p hp => ⟨_, .refl _, q p hp⟩⟩
  | true =>
    have nn : ¬ ((a = x ∧ b = y) ∨ (a = u ∧ b = v) ∨ onS x y u v a b = false) := fun z => z.elim c1 fun z => z.elim c2 fun z => Bool.false_ne_true (z.symm.trans d)
    rw [if_neg nn] at q
    exact ⟨by decide, by decide, by decide, fun p hp => ⟨_, .refl _, q p hp⟩⟩

def insP (x : P2) : List P2 → List P2
  | a :: b :: r => if bf a x = true ∧ bf x b = true then a :: x :: b :: r else a :: insP x (b :: r)
  | l => l
def cutP (x : P2) : Pc → List D
  | .str a b c d => cutS a b c d x.1 x.2
  | _ => []
theorem cut_left {a b x : P2} (h : ¬ (bf a x = true ∧ bf x b = true)) : cutP x (.str a.1 a.2 b.1 b.2) = [pcD (.str a.1 a.2 b.1 b.2)] := by
  show cutS a.1 a.2 b.1 b.2 x.1 x.2 = _
  unfold cutS
  by_cases e1 : x = a
  · rw [if_pos (.inl ⟨congrArg Prod.fst e1, congrArg Prod.snd e1⟩)]
  · by_cases e2 : x = b
    · rw [if_pos (.inr (.inl ⟨congrArg Prod.fst e2, congrArg Prod.snd e2⟩))]
    · have n : onS a.1 a.2 b.1 b.2 x.1 x.2 = false := by
        cases z : onS a.1 a.2 b.1 b.2 x.1 x.2 with
        | false => rfl
        | true =>
          obtain ⟨_, y1, y2⟩ := (onS_iff ..).mp z
          have y1 : bf x a = false := y1
          have y2 : bf b x = false := y2
          exact absurd ⟨by rw [bf_flip e1, y1]; rfl, by rw [bf_flip (Ne.symm e2), y2]; rfl⟩ h
      rw [if_pos (.inr (.inr n))]
theorem cut_part {a b x : P2} (c : ac a b x = 0) (h1 : bf a x = true) (h2 : bf x b = true) : cutP x (.str a.1 a.2 b.1 b.2) = [pcD (.str a.1 a.2 x.1 x.2), pcD (.str x.1 x.2 b.1 b.2)] := by
  show cutS a.1 a.2 b.1 b.2 x.1 x.2 = _
  unfold cutS
  have on : onS a.1 a.2 b.1 b.2 x.1 x.2 = true := (onS_iff ..).mpr ⟨c, bf_asym h1, bf_asym h2⟩
  rw [if_neg (fun z => by
    rcases z with z | z | z
    · exact ne_of_bf h1 (Prod.ext z.1.symm z.2.symm)
    · exact ne_of_bf h2 (Prod.ext z.1 z.2)
    · rw [on] at z; cases z)]
theorem cut_behind {x : P2} : ∀ {l : List P2}, l.Pairwise (fun a b => bf a b = true) → (∀ a ∈ l, bf x a = true) → (rowP l).flatMap (cutP x) = List.map pcD (rowP l)
  | [], _, _ => rfl
  | [_], _, _ => rfl
  | a :: b :: r, hp, hx => by
    show cutP x (.str a.1 a.2 b.1 b.2) ++ (rowP (b :: r)).flatMap (cutP x) = pcD (.str a.1 a.2 b.1 b.2) :: List.map pcD (rowP (b :: r))
    rw [cut_behind (List.pairwise_cons.mp hp).2 (fun c hc => hx c (List.mem_cons_of_mem _ hc)), cut_left (fun z => by
      have := bf_asym (hx a List.mem_cons_self)
      rw [z.1] at this; cases this)]
    rfl
theorem cut_row {x : P2} : ∀ {l : List P2}, l.Pairwise (fun a b => bf a b = true) → (∀ a ∈ l, ∀ b ∈ l, ac a b x = 0) → (rowP l).flatMap (cutP x) = List.map pcD (rowP (insP x l))
  | [], _, _ => rfl
  | [_], _, _ => rfl
  | a :: b :: r, hp, hc => by
    have hp2 := (List.pairwise_cons.mp hp).2
    show cutP x (.str a.1 a.2 b.1 b.2) ++ (rowP (b :: r)).flatMap (cutP x) = List.map pcD (rowP (if bf a x = true ∧ bf x b = true then a :: x :: b :: r else a :: insP x (b :: r)))
    by_cases h : bf a x = true ∧ bf x b = true
    · rw [if_pos h, cut_part (hc a List.mem_cons_self b (List.mem_cons_of_mem _ List.mem_cons_self)) h.1 h.2, cut_behind hp2 (fun c hcm => by
        rcases List.mem_cons.mp hcm with z | z
        · rw [z]; exact h.2
        · exact bf_trans h.2 ((List.pairwise_cons.mp hp2).1 c z))]
      rfl
    · rw [if_neg h, cut_left h, cut_row hp2 (fun c hcm d hdm => hc c (List.mem_cons_of_mem _ hcm) d (List.mem_cons_of_mem _ hdm))]
      -- the row behind begins with b still
      have : ∃ t, insP x (b :: r) = b :: t := by
        cases r with
        | nil => exact ⟨[], rfl⟩
        | cons c r =>
          show ∃ t, (if bf b x = true ∧ bf x c = true then b :: x :: c :: r else b :: insP x (c :: r)) = b :: t
          split
          · exact ⟨_, rfl⟩
          · exact ⟨_, rfl⟩
      obtain ⟨t, e⟩ := this
      rw [e]
      rfl
theorem ins_sub {x y : P2} : ∀ {l : List P2}, y ∈ insP x l → y = x ∨ y ∈ l
  | [], h => .inr h
  | [_], h => .inr h
  | a :: b :: r, h => by
    have h : y ∈ (if bf a x = true ∧ bf x b = true then a :: x :: b :: r else a :: insP x (b :: r)) := h
    split at h
    · rcases List.mem_cons.mp h with z | z
      · exact .inr (z ▸ List.mem_cons_self)
      · rcases List.mem_cons.mp z with z | z
        · exact .inl z
        · exact .inr (List.mem_cons_of_mem _ z)
    · rcases List.mem_cons.mp h with z | z
      · exact .inr (z ▸ List.mem_cons_self)
      · exact (ins_sub z).imp id (List.mem_cons_of_mem _)
theorem ins_in {x y : P2} : ∀ {l : List P2}, y ∈ insP x l → y ∈ l ∨ (y = x ∧ ∃ c ∈ l, bf c x = true)
  | [], h => .inl h
  | [_], h => .inl h
  | a :: b :: r, h => by
    have h : y ∈ (if bf a x = true ∧ bf x b = true then a :: x :: b :: r else a :: insP x (b :: r)) := h
    split at h
    · rename_i c
      rcases List.mem_cons.mp h with z | z
      · exact .inl (z ▸ List.mem_cons_self)
      · rcases List.mem_cons.mp z with z | z
        · exact .inr ⟨z, a, List.mem_cons_self, c.1⟩
        · exact .inl (List.mem_cons_of_mem _ z)
    · rcases List.mem_cons.mp h with z | z
      · exact .inl (z ▸ List.mem_cons_self)
      · rcases ins_in z with z | ⟨e, c, hc, hb⟩
        · exact .inl (List.mem_cons_of_mem _ z)
        · exact .inr ⟨e, c, List.mem_cons_of_mem _ hc, hb⟩
theorem ins_sup {x y : P2} : ∀ {l : List P2}, y ∈ l → y ∈ insP x l
  | [], h => h
  | [_], h => h
  | a :: b :: r, h => by
    show y ∈ (if bf a x = true ∧ bf x b = true then a :: x :: b :: r else a :: insP x (b :: r))
    rcases List.mem_cons.mp h with z | z
    · rw [z]; split <;> exact List.mem_cons_self
    · split
      · exact List.mem_cons_of_mem _ (List.mem_cons_of_mem _ z)
      · exact List.mem_cons_of_mem _ (ins_sup z)
theorem ins_has {x : P2} : ∀ {l : List P2} {a : P2}, (a = x ∨ bf a x = true) → (∃ q ∈ a :: l, q = x ∨ bf x q = true) → x ∈ insP x (a :: l)
  | [], a, h, ⟨q, hq, hx⟩ => by
    have e := List.mem_singleton.mp hq
    subst e
    rcases h with z | z
    · rw [z]; exact List.mem_cons_self
    · rcases hx with y | y
      · rw [y]; exact List.mem_cons_self
      · have := bf_asym z; rw [y] at this; cases this
  | b :: r, a, h, ⟨q, hq, hx⟩ => by
    show x ∈ (if bf a x = true ∧ bf x b = true then a :: x :: b :: r else a :: insP x (b :: r))
    split
    · exact List.mem_cons_of_mem _ List.mem_cons_self
    · rename_i n
      rcases h with z | z
      · rw [z]; exact List.mem_cons_self
      · refine List.mem_cons_of_mem _ (ins_has ?_ ⟨q, ?_, hx⟩)
        · by_cases e : b = x
          · exact .inl e
          · refine .inr ?_
            have : bf x b = false := by cases w : bf x b with
              | true => exact absurd ⟨z, w⟩ n
              | false => rfl
            rw [bf_flip (Ne.symm e), this]; rfl
        · rcases List.mem_cons.mp hq with e | e
          · subst e
            rcases hx with y | y
            · rw [y, bf_self] at z; cases z
            · have := bf_asym z; rw [y] at this; cases this
          · exact e
theorem ins_pw {x : P2} : ∀ {l : List P2}, l.Pairwise (fun a b => bf a b = true) → (insP x l).Pairwise (fun a b => bf a b = true)
  | [], h => h
  | [_], h => h
  | a :: b :: r, h => by
    obtain ⟨h1, h2⟩ := List.pairwise_cons.mp h
    show (if bf a x = true ∧ bf x b = true then a :: x :: b :: r else a :: insP x (b :: r)).Pairwise (fun a b => bf a b = true)
    split
    · rename_i c
      refine List.pairwise_cons.mpr ⟨fun y hy => ?_, List.pairwise_cons.mpr ⟨fun y hy => ?_, h2⟩⟩
      · rcases List.mem_cons.mp hy with e | e
        · rw [e]; exact c.1
        · exact h1 y e
      · rcases List.mem_cons.mp hy with e | e
        · rw [e]; exact c.2
        · exact bf_trans c.2 ((List.pairwise_cons.mp h2).1 y e)
    · rename_i c
      refine List.pairwise_cons.mpr ⟨fun y hy => ?_, ins_pw h2⟩
      rcases ins_in hy with e | ⟨e, c, hc, hb⟩
      · exact h1 y e
      · rw [e]; exact bf_trans (h1 c hc) hb

def mp (k : Rat) (A B : P2) : P2 := (mx k A.1 B.1, mx k A.2 B.2)
theorem mp_0 (A B : P2) : mp 0 A B = A := by unfold mp mx; exact Prod.ext (by grind) (by grind)
theorem mp_1 (A B : P2) : mp 1 A B = B := by unfold mp mx; exact Prod.ext (by grind) (by grind)
theorem mp_back (k : Rat) (A B : P2) : mp k B A = mp (1 - k) A B := by unfold mp mx; exact Prod.ext (by grind) (by grind)
theorem mp_col (k1 k2 k3 : Rat) (A B : P2) : ac (mp k1 A B) (mp k2 A B) (mp k3 A B) = 0 := by unfold ac across mp mx; grind
theorem mx_lt {k k' x u : Rat} (h : k < k') (hx : x < u) : mx k x u < mx k' x u := by
  have := Rat.mul_pos (show 0 < k' - k by grind) (show 0 < u - x by grind)
  unfold mx; grind
theorem mx_same (k x : Rat) : mx k x x = x := by unfold mx; grind
theorem mp_up {k k' : Rat} {A B : P2} (h : bf A B = true) (hk : k < k') : bf (mp k A B) (mp k' A B) = true := by
  unfold bf bef at h ⊢
  unfold mp
  by_cases e : A.1 = B.1
  · rw [if_pos e] at h
    have h := of_decide_eq_true h
    dsimp only
    rw [e, mx_same, mx_same, if_pos rfl]
    exact decide_eq_true (mx_lt hk h)
  · rw [if_neg e] at h
    have h := of_decide_eq_true h
    have := mx_lt hk h
    dsimp only
    rw [if_neg (fun z => by rw [z] at this; grind)]
    exact decide_eq_true this
def OnW (A B x : P2) : Prop := ∃ k : Rat, 0 ≤ k ∧ k ≤ 1 ∧ x = mp k A B
theorem onW_lo {A B x : P2} (h : bf A B = true) (hx : OnW A B x) : A = x ∨ bf A x = true := by
  obtain ⟨k, k0, k1, rfl⟩ := hx
  by_cases e : k = 0
  · rw [e, mp_0]; exact .inl rfl
  · refine .inr ?_
    have := mp_up h (show 0 < k by grind)
    rwa [mp_0] at this
theorem onW_hi {A B x : P2} (h : bf A B = true) (hx : OnW A B x) : B = x ∨ bf x B = true := by
  obtain ⟨k, k0, k1, rfl⟩ := hx
  by_cases e : k = 1
  · rw [e, mp_1]; exact .inl rfl
  · refine .inr ?_
    have := mp_up h (show k < 1 by grind)
    rwa [mp_1] at this
theorem onW_col {A B x y z : P2} (hx : OnW A B x) (hy : OnW A B y) (hz : OnW A B z) : ac x y z = 0 := by
  obtain ⟨k1, _, _, rfl⟩ := hx
  obtain ⟨k2, _, _, rfl⟩ := hy
  obtain ⟨k3, _, _, rfl⟩ := hz
  exact mp_col ..
theorem onW_A (A B : P2) : OnW A B A := ⟨0, by decide, by decide, (mp_0 A B).symm⟩
theorem onW_B (A B : P2) : OnW A B B := ⟨1, by decide, by decide, (mp_1 A B).symm⟩
structure RowW (A B : P2) (l : List P2) (n : Nat) : Prop where
  ab : bf A B = true
  up : l.Pairwise fun a b => bf a b = true
  on : ∀ x ∈ l, OnW A B x
  hd : l.head? = some A
  la : l.getLast? = some B
  len : l.length ≤ n
  bq : ∀ x ∈ l, BQ 72 x.1 ∧ BQ 72 x.2
theorem RowW.inrow {A B : P2} {l : List P2} {n : Nat} (h : RowW A B l n) : InRow l := ⟨h.up, fun a ha b hb c hc => onW_col (h.on a ha) (h.on b hb) (h.on c hc)⟩
theorem RowW.two {A B : P2} {l : List P2} {n : Nat} (h : RowW A B l n) : ∃ a b r, l = a :: b :: r := by
  cases l with
  | nil => exact nomatch h.hd
  | cons a r =>
    cases r with
    | nil =>
      have h1 := h.hd
      have h2 := h.la
      simp at h1 h2
      have := h.ab
      rw [← h1, ← h2, bf_self] at this
      cases this
    | cons b r => exact ⟨a, b, r, rfl⟩
theorem ins_head (x : P2) : ∀ l : List P2, (insP x l).head? = l.head?
  | [] => rfl
  | [_] => rfl
  | a :: b :: r => by
    show (if bf a x = true ∧ bf x b = true then a :: x :: b :: r else a :: insP x (b :: r)).head? = _
    split <;> rfl
theorem ins_ne (x : P2) (a : P2) (l : List P2) : insP x (a :: l) ≠ [] := fun e => by
  have := ins_head x (a :: l)
  rw [e] at this
  cases this
theorem ins_last (x : P2) : ∀ l : List P2, (insP x l).getLast? = l.getLast?
  | [] => rfl
  | [_] => rfl
  | a :: b :: r => by
    show (if bf a x = true ∧ bf x b = true then a :: x :: b :: r else a :: insP x (b :: r)).getLast? = _
    split
    · rfl
    · have e := ins_last x (b :: r)
      obtain ⟨c, t, ec⟩ := List.exists_cons_of_ne_nil (ins_ne x b r)
      rw [ec] at e ⊢
      rw [List.getLast?_cons_cons, List.getLast?_cons_cons]
      exact e
theorem ins_len (x : P2) : ∀ l : List P2, (insP x l).length ≤ l.length + 1
  | [] => Nat.le_succ _
  | [_] => Nat.le_succ _
  | a :: b :: r => by
    show (if bf a x = true ∧ bf x b = true then a :: x :: b :: r else a :: insP x (b :: r)).length ≤ _
    split
    · exact Nat.le_refl _
    · have := ins_len x (b :: r)
      rw [List.length_cons, List.length_cons]
      omega
theorem RowW.ins {A B : P2} {l : List P2} {n : Nat} (h : RowW A B l n) {x : P2} (hx : OnW A B x) (bx : BQ 72 x.1 ∧ BQ 72 x.2) : RowW A B (insP x l) (n + 1) where
  ab := h.ab
  up := ins_pw h.up
  on := fun y hy => by
    rcases ins_sub hy with z | z
    · rw [z]; exact hx
    · exact h.on y z
  hd := by rw [ins_head]; exact h.hd
  la := by rw [ins_last]; exact h.la
  len := by have := ins_len x l; have := h.len; omega
  bq := fun y hy => by
    rcases ins_sub hy with z | z
    · rw [z]; exact bx
    · exact h.bq y z
theorem RowW.mem {A B : P2} {l : List P2} {n : Nat} (h : RowW A B l n) {x : P2} (hx : OnW A B x) (y : P2) : y ∈ insP x l ↔ y ∈ l ∨ y = x := by
  constructor
  · intro hy
    rcases ins_sub hy with z | z
    · exact .inr z
    · exact .inl z
  · rintro (z | z)
    · exact ins_sup z
    · subst z
      obtain ⟨a, b, r, rfl⟩ := h.two
      have ea : a = A := by have := h.hd; simpa using this
      have hB : B ∈ a :: b :: r := List.mem_of_getLast? h.la
      refine ins_has (by rw [ea]; exact onW_lo h.ab hx) ⟨B, hB, ?_⟩
      rcases onW_hi h.ab hx with z | z
      · exact .inl z
      · exact .inr z
theorem RowW.cut {A B : P2} {l : List P2} {n : Nat} (h : RowW A B l n) {x : P2} (hx : OnW A B x) : (rowP l).flatMap (cutP x) = List.map pcD (rowP (insP x l)) :=
  cut_row h.up fun a ha b hb => onW_col (h.on a ha) (h.on b hb) hx
theorem bq_mx13 {x u : Rat} {p q : Int} (p0 : 0 ≤ p) (pq : p ≤ q) (q0 : 0 < q) (hx : BQ 25 x) (hu : BQ 25 u) (bq : q < 2000000) : BQ 72 (mx ((p : Rat) / (q : Rat)) x u) := by
  have h : q ≠ 0 := by omega
  have b1 : Bd 21 q := by unfold Bd; omega
  have b2 : Bd 21 p := by unfold Bd; omega
  have b3 : Bd 21 (q - p) := by unfold Bd; omega
  rw [← mixQ h]
  refine BQ.make (n := 72) (Int.mul_ne_zero (Int.mul_ne_zero (den_ne x) (den_ne u)) h) ?_ (((hx.2.mul hu.2).mul b1).mono (by decide))
  exact ((hx.1.mul hu.2).mul b3).add ((hu.1.mul hx.2).mul b2)
theorem onW_mx {A B : P2} {p q : Int} (p0 : 0 ≤ p) (pq : p ≤ q) (q0 : 0 < q) : OnW A B (mx ((p : Rat) / (q : Rat)) A.1 B.1, mx ((p : Rat) / (q : Rat)) A.2 B.2) := by
  have hq : (0 : Rat) < (q : Rat) := posR q0
  refine ⟨(p : Rat) / (q : Rat), ?_, ?_, rfl⟩
  · refine Rat.le_of_mul_le_mul_right ?_ hq
    rw [Rat.div_mul_cancel (by grind), Rat.zero_mul]
    exact_mod_cast p0
  · refine Rat.le_of_mul_le_mul_right ?_ hq
    rw [Rat.div_mul_cancel (by grind), Rat.one_mul]
    exact_mod_cast pq
theorem onW_flip {A B x : P2} (h : OnW B A x) : OnW A B x := by
  obtain ⟨k, k0, k1, rfl⟩ := h
  exact ⟨1 - k, by grind, by grind, mp_back k A B⟩
def q4 (a : P2) : Pt4 := (a.1.num, (a.1.den : Int), a.2.num, (a.2.den : Int))
def pD (a : P2) : D := PQ a.1 a.2
theorem q4_inj {a b : P2} (h : q4 a = q4 b) : a = b := by
  unfold q4 at h
  injection h with h1 h
  injection h with h2 h
  injection h with h3 h4
  exact Prod.ext (Rat.ext h1 (by exact_mod_cast h2)) (Rat.ext h3 (by exact_mod_cast h4))
theorem pD_inj {a b : P2} (h : pD a = pD b) : a = b := by
  obtain ⟨a1, a2⟩ := a
  obtain ⟨b1, b2⟩ := b
  unfold pD PQ FQ at h
  injection h with h
  injection h with h1 h
  injection h with h2 _
  injection h1 with h1
  injection h1 with h1 h3
  injection h3 with h3 _
  injection h1 with h1
  injection h3 with h3
  injection h2 with h2
  injection h2 with h2 h4
  injection h4 with h4 _
  injection h2 with h2
  injection h4 with h4
  exact Prod.ext (Rat.ext h1 (by exact_mod_cast h3)) (Rat.ext h2 (by exact_mod_cast h4))
theorem key_pD (a : P2) : KeyD (pD a) := ⟨⟨_, rfl⟩, rfl⟩
def fstP : Pc → D
  | .str x y _ _ => PQ x y
  | _ => .non
theorem row_told : ∀ {l : List P2} {B : P2}, l.getLast? = some B → (rowP l).map fstP ++ [pD B] = l.map pD
  | [], _, h => nomatch h
  | [a], B, h => by
    have : a = B := by simpa using h
    rw [this]; rfl
  | a :: b :: r, B, h => by
    rw [List.getLast?_cons_cons] at h
    have := row_told h
    show PQ a.1 a.2 :: ((rowP (b :: r)).map fstP ++ [pD B]) = pD a :: (b :: r).map pD
    rw [this]
    rfl
theorem zip_row : ∀ {l : List P2} {i : Nat} {d : D}, (zipD (List.map pcD (rowP l)) ((List.map pcD (rowP l)).drop 1))[i]? = some d → ∃ a b c : P2, d = .tup [pcD (.str a.1 a.2 b.1 b.2), pcD (.str b.1 b.2 c.1 c.2)]
  | [], i, d, h => by simp [rowP, zipD] at h
  | [_], i, d, h => by simp [rowP, zipD] at h
  | [_, _], i, d, h => by simp [rowP, zipD] at h
  | a :: b :: c :: r, 0, d, h => by
    have : some (D.tup [pcD (.str a.1 a.2 b.1 b.2), pcD (.str b.1 b.2 c.1 c.2)]) = some d := h
    exact ⟨a, b, c, (Option.some.inj this).symm⟩
  | a :: b :: c :: r, i + 1, d, h => zip_row (l := b :: c :: r) (i := i) h
theorem perm_keys {l : List P2} {kvs : List (D × D)} (tk : TK kvs) (up : l.Pairwise fun a b => bf a b = true) (hm : ∀ d, d ∈ kvs.map (·.1) ↔ ∃ y ∈ l, d = pD y) : (kvs.map (·.1)).Perm (l.map pD) := by
  have nd : l.Nodup := up.imp fun h => ne_of_bf h
  refine (List.perm_ext_iff_of_nodup tk.nd ?_).mpr fun d => ?_
  · exact nd.map (S := fun a b => a ≠ b) pD fun a b h e => h (pD_inj e)
  · rw [hm d, List.mem_map]
    constructor
    · rintro ⟨y, hy, e⟩; exact ⟨y, hy, e.symm⟩
    · rintro ⟨y, hy, e⟩; exact ⟨y, hy, e.symm⟩
theorem sorted_one {zs ws ps : List Pt4} (h1 : zs.Perm ps) (h2 : ws.Perm ps) (s1 : zs.Pairwise fun a b => lt4 a b = true) (s2 : ws.Pairwise fun a b => lt4 a b = true) : zs = ws :=
  (h1.trans h2.symm).eq_of_pairwise (fun a b _ _ x y => by
    have := lt4_tr x y
    rw [lt4_irr] at this; cases this) s1 s2
theorem add_one (x : Rat) : (((x.num + (x.den : Int) : Int) : Rat)) / (((x.den : Int)) : Rat) = x + 1 := by
  have h1 := denR x
  have e1 := num_eq x
  rw [Rat.intCast_add, e1]
  grind
theorem bq_one {x : Rat} (h : BQ 24 x) : BQ 25 (x + 1) := by
  rw [← add_one]
  exact BQ.make (n := 25) (den_ne x) (h.1.add h.2) (h.2.mono (by decide))
theorem merge2 {a b : P2} (h : a ≠ b) (v : D) : mergeD [] [(pD a, v), (pD b, v)] = [(pD a, v), (pD b, v)] := by
  unfold mergeD
  rw [List.foldl_cons, List.foldl_cons, List.foldl_nil]
  have e1 : putD [] (pD a) v = [(pD a, v)] := by unfold putD; rw [if_neg (by simp)]; rfl
  dsimp only
  rw [e1]
  unfold putD
  rw [if_neg (by simp; exact fun z => h (pD_inj z).symm)]
  rfl
theorem order2 {p q : P2} (ne : p ≠ q) (bp : BQ 25 p.1 ∧ BQ 25 p.2) (bq : BQ 25 q.1 ∧ BQ 25 q.2) : ∃ A B : P2, bf A B = true ∧ mkS p.1 p.2 q.1 q.2 = .str A.1 A.2 B.1 B.2 ∧ (∀ d, (d = pD p ∨ d = pD q) ↔ (d = pD A ∨ d = pD B)) ∧ (∀ x, OnW p q x → OnW A B x) ∧ (BQ 72 A.1 ∧ BQ 72 A.2) ∧ BQ 72 B.1 ∧ BQ 72 B.2 := by
  have m : ∀ {z : Rat}, BQ 25 z → BQ 72 z := fun h => h.mono (by decide)
  have n0 : ¬ (p.1 = q.1 ∧ p.2 = q.2) := fun z => ne (Prod.ext z.1 z.2)
  unfold mkS
  rw [if_neg n0]
  cases h : bf p q with
  | true =>
    refine ⟨p, q, h, ?_, fun d => Iff.rfl, fun x hx => hx, ⟨m bp.1, m bp.2⟩, m bq.1, m bq.2⟩
    rw [if_pos (show bef p.1 p.2 q.1 q.2 = true from h)]
  | false =>
    refine ⟨q, p, by rw [bf_flip ne, h]; rfl, ?_, fun d => or_comm, fun x hx => onW_flip hx, ⟨m bq.1, m bq.2⟩, m bp.1, m bp.2⟩
    rw [if_neg (show ¬ bef p.1 p.2 q.1 q.2 = true from fun z => by rw [show bef p.1 p.2 q.1 q.2 = bf p q from rfl, h] at z; cases z)]
theorem row0 {A B : P2} (h : bf A B = true) (a : BQ 72 A.1 ∧ BQ 72 A.2) (b : BQ 72 B.1 ∧ BQ 72 B.2) : RowW A B [A, B] 2 where
  ab := h
  up := by simp [h]
  on := fun x hx => by
    rcases List.mem_cons.mp hx with z | z
    · rw [z]; exact onW_A A B
    · rw [List.mem_singleton.mp z]; exact onW_B A B
  hd := rfl
  la := rfl
  len := Nat.le_refl _
  bq := fun x hx => by
    rcases List.mem_cons.mp hx with z | z
    · rw [z]; exact a
    · rw [List.mem_singleton.mp z]; exact b
theorem take_flat {α β : Type} (f : α → List β) (l : List α) (j : Nat) (x : α) (h : l[j]? = some x) : (l.take (j + 1)).flatMap f = (l.take j).flatMap f ++ f x := by
  rw [List.take_add_one, h]
  simp
theorem row_piece {l : List P2} {j : Nat} {d : D} (h : (List.map pcD (rowP l))[j]? = some d) : ∃ a b : P2, a ∈ l ∧ b ∈ l ∧ (rowP l)[j]? = some (.str a.1 a.2 b.1 b.2) ∧ d = pcD (.str a.1 a.2 b.1 b.2) := by
  have hj : j < (rowP l).length := by
    have := (List.getElem?_eq_some_iff.mp h).1
    simpa using this
  rw [rowP_len] at hj
  have e1 : l[j]? = some l[j] := List.getElem?_eq_getElem (by omega)
  have e2 : l[j + 1]? = some l[j + 1] := List.getElem?_eq_getElem (by omega)
  have e3 := rowP_get e1 e2
  rw [List.getElem?_map, e3] at h
  exact ⟨_, _, List.getElem_mem _, List.getElem_mem _, e3, (Option.some.inj h).symm⟩
theorem cutP_len (x : P2) (a b c d : Rat) : (cutP x (.str a b c d)).length ≤ 2 := by
  show (cutS a b c d x.1 x.2).length ≤ 2
  unfold cutS
  split
  · exact Nat.le_of_ble_eq_true rfl
  · exact Nat.le_of_ble_eq_true rfl
theorem flat_len (x : P2) : ∀ (l : List P2), ((rowP l).flatMap (cutP x)).length ≤ 2 * l.length
  | [] => Nat.zero_le _
  | [_] => Nat.zero_le _
  | a :: b :: r => by
    have h1 := flat_len x (b :: r)
    have h2 := cutP_len x a.1 a.2 b.1 b.2
    show ((cutP x (.str a.1 a.2 b.1 b.2)) ++ (rowP (b :: r)).flatMap (cutP x)).length ≤ _
    rw [List.length_append, List.length_cons]
    omega
theorem flat_take_len (x : P2) (l : List P2) (j : Nat) : (((rowP l).take j).flatMap (cutP x)).length ≤ 2 * l.length := by
  refine Nat.le_trans ?_ (flat_len x l)
  conv => rhs; rw [← List.take_append_drop j (rowP l), List.flatMap_append, List.length_append]
  exact Nat.le_add_right _ _
theorem row_last : ∀ {l : List P2} {B : P2}, l.getLast? = some B → 2 ≤ l.length → ∃ init a, List.map pcD (rowP l) = init ++ [pcD (.str (Prod.fst a) (Prod.snd a) B.1 B.2)]
  | [], _, h, _ => nomatch h
  | [_], _, _, h2 => absurd h2 (Nat.not_succ_le_self 1)
  | [a, b], B, h, _ => by
    have : b = B := by simpa using h
    subst this
    exact ⟨[], a, rfl⟩
  | a :: b :: c :: r, B, h, _ => by
    rw [List.getLast?_cons_cons] at h
    obtain ⟨init, x, e⟩ := row_last (l := b :: c :: r) h (Nat.le_add_left _ _)
    refine ⟨pcD (.str a.1 a.2 b.1 b.2) :: init, x, ?_⟩
    show pcD (.str a.1 a.2 b.1 b.2) :: List.map pcD (rowP (b :: c :: r)) = _
    rw [e]
    rfl
theorem keys_pts {l : List P2} : ∀ {ks : List D}, (∀ d ∈ ks, ∃ y ∈ l, d = pD y) → ∃ l2 : List P2, ks = l2.map pD
  | [], _ => ⟨[], rfl⟩
  | k :: ks, h => by
    obtain ⟨l2, e⟩ := keys_pts (ks := ks) fun d hd => h d (List.mem_cons_of_mem _ hd)
    obtain ⟨y, _, ey⟩ := h k List.mem_cons_self
    exact ⟨y :: l2, by rw [ey, e]; rfl⟩
theorem map_q4 (l : List P2) : l.map pD = (l.map q4).map ptD := by rw [List.map_map]; rfl
theorem nd_q4 {l : List P2} (h : l.Nodup) : (l.map q4).Nodup := h.map (S := fun a b => a ≠ b) q4 fun a b h e => h (q4_inj e)
theorem pts_pure4 (zs : List Pt4) : (zs.map ptD).all (pureN 59) = true := List.all_eq_true.mpr fun d hd => by obtain ⟨p, _, rfl⟩ := List.mem_map.mp hd; rfl
def unD : D → Pt4
  | .tup [.tup [.int a, .int b], .tup [.int c, .int d]] => (a, b, c, d)
  | _ => (0, 0, 0, 0)
theorem perm_q4 {l l2 : List P2} (h : (l2.map pD).Perm (l.map pD)) : (l2.map q4).Perm (l.map q4) := by
  have := h.map unD
  rw [List.map_map, List.map_map] at this
  exact this
theorem getLast_at {α : Type} {l : List α} {x : α} (h : l.getLast? = some x) : l[l.length - 1]? = some x := by rw [← List.getLast?_eq_getElem?]; exact h
theorem cut_from1 (xs : List D) : Dd.cutD xs (some 1) none = xs.drop 1 := by
  unfold Dd.cutD
  cases xs with
  | nil => rfl
  | cons x xs =>
    rw [List.length_cons, (sIx1 xs.length).1]
    show ((x :: xs).drop 1).take (xs.length + 1 - 1) = _
    simp
theorem cut_13 (ns : List Int) : (Dd.cutD (ns.map D.int) (some 1) (some 13)).length ≤ 12 ∧ ∀ (i : Nat) d, (Dd.cutD (ns.map D.int) (some 1) (some 13))[i]? = some d → ∃ c : Int, d = D.int c := by
  constructor
  · unfold Dd.cutD
    rw [show (1 : Int) = ((1 : Nat) : Int) from rfl, show (13 : Int) = ((13 : Nat) : Int) from rfl, HT.sIx_nat, HT.sIx_nat, List.length_take]
    omega
  · intro i d h
    obtain ⟨c, _, e⟩ := List.mem_map.mp (cut_mem (List.mem_of_getElem? h))
    exact ⟨c, e.symm⟩

-- HINT law 2 lists
-- HINT law dict_law_ends yes
-- HINT law sorted points
-- HINT law cut3 yes
-- HINT law cut7 yes
def sp_law : DSp := fun ds M Q => ∃ ns : List Int, ds = [.fz (ns.map D.int)] ∧ ns.length ≤ 63 ∧ ∀ M', Q (.bl true) M'
abbrev s_law : Stmt := top 34
theorem sc_law : FnScope ["_law_script", "_law_from", "_law_p", "_law_q", "_law_whole", "_law_pieces", "_law_ends", "_law_cell", "_law_bottom", "_law_at", "_law_more", "_law_piece", "_law_one", "_law_other", "_law_told"] ["_law_script"] (defScope s_law) := ⟨rfl, rfl, rfl, by decide +kernel, rfl, by decide +kernel, by decide +kernel⟩
theorem has_law {f0 : Addr} {fd0 : FuncData} (hF : L2.Fun K "law" "law" s_law f0 fd0) (h_law_cell_at : Has P w K mg base 101 "_law_cell_at" ["_law_script", "_law_k"] sp_law_cell_at) (h_law_feed : Has P w K mg base 101 "_law_feed" ["_law_cell"] sp_law_feed) (h_law_draw : Has P w K mg base 101 "_law_draw" ["_law_from", "_law_many"] sp_law_draw) (h_law_spot : Has P w K mg base 103 "_law_spot" ["_law_from"] sp_law_spot) (h_law_lowest : Has P w K mg base 101 "_law_lowest" ["_law_top", "_law_bottom"] sp_law_lowest) (h_stretch : Has P w K mg base 103 "stretch" ["p", "q"] sp_stretch) (h_law_mixed : Has P w K mg base 102 "_law_mixed" ["_law_p", "_law_q", "_law_by"] sp_law_mixed) (h_cut : Has P w K mg base 104 "cut" ["piece", "p"] sp_cut) (h_law_apart : Has P w K mg base 106 "_law_apart" ["_law_pieces", "_law_whole"] sp_law_apart) (n_len : mg "len" = none) (n_list : mg "list" = none) (n_sorted : mg "sorted" = none) (n_zip : mg "zip" = none) :
    FnOk P w K mg base CX0 111 f0 fd0 ["_law_script"] (lowSp K sp_law) := by
  refine Fun.okZ hF sc_law (fun ds M Q ⟨ns, e, _⟩ => by rw [e]; rfl) fun cdv A outer s H ds M Q E hr h => ?_
  obtain ⟨ns, rfl, hl, fin⟩ := h
  refine ⟨_, (zdss_cons (zds_set (i := 1) sc_law.nd (zde_callH h_law_feed hr (by decide) (zda_cons (zde_callH h_law_cell_at hr (by decide) (zda_cons (zde_var 0) (zda_cons zde_int zda_nil))) zda_nil)))
    (zdss_cons (zds_set (i := 2) sc_law.nd (zde_callH h_law_spot hr (by decide) (zda_cons (zde_var 1) zda_nil)))
    (zdss_cons (zds_set (i := 3) sc_law.nd (zde_callH h_law_spot hr (by decide) (zda_cons (zde_var 1) zda_nil)))
    (zdss_cut (zds_if (zdt_cmp (od_eq hr) (zde_var 2) (zde_var 3)) (zdss_one (zds_set (i := 3) sc_law.nd (zde_tup (zda_cons (zde_callH h_law_lowest hr (by decide) (zda_cons (zde_op od_add (zde_ix (zde_ix (zde_var 2) zde_int) zde_int) (zde_ix (zde_ix (zde_var 2) zde_int) zde_int)) (zda_cons (zde_ix (zde_ix (zde_var 2) zde_int) zde_int) zda_nil))) (zda_cons (zde_ix (zde_var 2) zde_int) zda_nil))))) zdss_nil)
    (zdss_cons (zds_set (i := 4) sc_law.nd (zde_callH h_stretch hr (by decide) (zda_cons (zde_var 2) (zda_cons (zde_var 3) zda_nil))))
    (zdss_cons (zds_set (i := 5) sc_law.nd (zde_lst (zda_cons (zde_var 4) zda_nil)))
    (zdss_cons (zds_set (i := 6) sc_law.nd (zde_dict2 hr (zde_var 2) zde_bl (zde_var 3) zde_bl))
    (zdss_cut (zds_forL PassesOwn.never rfl (zde_slice (zde_var 0) (zdo_some zde_int) (zdo_some zde_int)) (zdg_name (i := 7) sc_law.nd) (zdss_cons (zds_set (i := 1) sc_law.nd (zde_callH h_law_feed hr (by decide) (zda_cons (zde_var 7) zda_nil)))
    (zdss_cons (zds_set (i := 8) sc_law.nd (zde_op od_add zde_int (zde_callH h_law_draw hr (by decide) (zda_cons (zde_var 1) (zda_cons (zde_op od_pow zde_int zde_int) zda_nil)))))
    (zdss_cons (zds_set (i := 9) sc_law.nd (zde_callH h_law_mixed hr (by decide) (zda_cons (zde_var 2) (zda_cons (zde_var 3) (zda_cons (zde_tup (zda_cons (zde_callH h_law_draw hr (by decide) (zda_cons (zde_var 1) (zda_cons (zde_op od_add (zde_var 8) zde_int) zda_nil))) (zda_cons (zde_var 8) zda_nil))) zda_nil)))))
    (zdss_cons (zds_asg zde_bl (zdg_subKr hr (zde_var 6) (zde_var 9)))
    (zdss_cons (zds_set (i := 10) sc_law.nd (zde_lst zda_nil))
    (zdss_cons (zds_forL PassesOwn.never rfl (zde_var 5) (zdg_name (i := 11) sc_law.nd) (zdss_one (zds_expr (zde_extend (zde_var 10) (zde_callH h_cut hr (by decide) (zda_cons (zde_var 11) (zda_cons (zde_var 9) zda_nil)))))))
    (zdss_one (zds_set (i := 5) sc_law.nd (zde_var 10))))))))))
    (zdss_cons (zds_if (zdt_w (zdw_or (zdt_cmp (od_ne hr) (zde_ix (zde_ix (zde_var 5) zde_int) zde_int) (zde_ix (zde_var 4) zde_int)) (zdw_or1 (zdt_cmp (od_ne hr) (zde_ix (zde_ix (zde_var 5) (zde_neg zde_int)) zde_int) (zde_ix (zde_var 4) zde_int))))) (zdss_one (zds_ret zde_bl)) zdss_nil)
    (zdss_cons (zds_forZL PassesOwn.never rfl n_zip (zda_cons (zde_var 5) (zda_cons (zde_slice (zde_var 5) (zdo_some zde_int) zdo_none) zda_nil)) (zdg_unp (n := 2) rfl (zdgs_cons (zdg_name (i := 12) sc_law.nd) (zdgs_cons (zdg_name (i := 13) sc_law.nd) zdgs_nil))) (zdss_one (zds_if (zdt_w (zdw_or (zdt_cmp (od_ne hr) (zde_ix (zde_var 12) zde_int) zde_str) (zdw_or1 (zdt_cmp (od_ne hr) (zde_ix (zde_var 12) zde_int) (zde_ix (zde_var 13) zde_int))))) (zdss_one (zds_ret zde_bl)) zdss_nil)))
    (zdss_cons (zds_set (i := 14) sc_law.nd (zde_op od_add (zde_lcL (⟨rfl, by decide +kernel, by decide +kernel, by decide +kernel, rfl, by decide +kernel⟩ : BlkS ["_law_script", "_law_from", "_law_p", "_law_q", "_law_whole", "_law_pieces", "_law_ends", "_law_cell", "_law_bottom", "_law_at", "_law_more", "_law_piece", "_law_one", "_law_other", "_law_told"] (defScope s_law) ["_law_piece"] [none] _) rfl (zde_var 5) (fun _ _ _ _ _ => (zdg_name (i := 0) (show List.Nodup (["_law_piece"] : List Str) by decide +kernel))) (fun _ _ _ _ _ => (zde_ix (zde_var 0) zde_int))) (zde_lst (zda_cons (zde_ix (zde_var 4) zde_int) zda_nil))))
    (zdss_cons (zds_if (zdt_w (zdw_or (zdt_cmp (od_ne hr) (zde_callB cd_len n_len (zda_cons (zde_var 14) zda_nil)) (zde_callB cd_lenK n_len (zda_cons (zde_var 6) zda_nil))) (zdw_or1 (zdt_cmp (od_ne hr) (zde_callB (cd_sortPr hr) n_sorted (zda_cons (zde_var 14) zda_nil)) (zde_callB (cd_sortPr hr) n_sorted (zda_cons (zde_callTy (cd_listK rfl) n_list (zda_cons (zde_var 6) zda_nil)) zda_nil)))))) (zdss_one (zds_ret zde_bl)) zdss_nil)
    (zdss_one (zds_ret (zde_callH h_law_apart hr (by decide) (zda_cons (zde_var 5) (zda_cons (zde_var 4) zda_nil))))))))))))))))), ?_⟩
  decreasing_tactic
  refine ⟨ns, 0, rfl, fun c0 => ?_⟩
  decreasing_tactic
  refine ⟨c0, rfl, fun pf Mf hpf fdf avf => ?_⟩
  decreasing_tactic
  refine ⟨pf, 0, rfl, fdf, by decide, fun d M1 ⟨x, y, e1, hx, hy⟩ fd1 av1 => ?_⟩
  subst e1
  decreasing_tactic
  refine ⟨pf, _, rfl, fd1, by decide, fun d M2 ⟨u, v, e2, hu, hv⟩ fd2 av2 => ?_⟩
  subst e2
  decreasing_tactic
  refine ⟨fun ρ' M' => M' = M2 ∧ ∃ a b : Rat, BQ 25 a ∧ BQ 25 b ∧ ((x, y) : P2) ≠ (a, b) ∧ ρ' = [some (.fz (ns.map D.int)), some (.ref pf), some (PQ x y), some (PQ a b), none, none, none, none, none, none, none, none, none, none, none], ?_, ?_⟩
  · rw [dEq_PQ]
    refine dif (fun z => ?_) (fun z => ?_)
    · refine ⟨_, _, rfl, den_ne x, (hx.2).mono (by decide), by decide, rfl, x + 1, y, ?_, hy.mono (by decide), fun e => ?_, ?_⟩
      · exact bq_one hx
      · have := congrArg Prod.fst e
        dsimp only at this
        grind
      · rw [add_one]; rfl
    · exact ⟨rfl, u, v, hu.mono (by decide), hv.mono (by decide), fun e => z ⟨congrArg Prod.fst e, congrArg Prod.snd e⟩, rfl⟩
  rintro _ M3 ⟨e3, a, b, ha, hb, ne, rfl⟩
  clear fd2 hu hv av2 fd1 av1 e3
  decreasing_tactic
  refine ⟨x, y, a, b, rfl, hx.mono (by decide), hy.mono (by decide), ha.mono (by decide), hb.mono (by decide), ?_⟩
  decreasing_tactic
  obtain ⟨A', B', hAB, eW, hkeys, hOn, bA, bB⟩ := order2 (p := (x, y)) (q := (a, b)) ne ⟨hx.mono (by decide), hy.mono (by decide)⟩ ⟨ha, hb⟩
  dsimp only at eW
  rw [eW]
  refine ⟨by decide, fun r0 hr0 e0 he0 => ⟨putK_same, fun q hq => ?_, by decide, ?_⟩⟩
  · rcases List.mem_cons.mp hq with z | z
    · rw [z]; exact key_pD (x, y)
    · rw [List.mem_singleton.mp z]; exact key_pD (a, b)
  have e2 : mergeD [] [(PQ x y, D.bl true), (PQ a b, D.bl true)] = [(pD (x, y), .bl true), (pD (a, b), .bl true)] := merge2 ne _
  rw [e2, putK_putK]
  generalize hKV : ([(pD (x, y), .bl true), (pD (a, b), .bl true)] : List (D × D)) = kv0
  have tk0 : TK kv0 := by
    rw [← hKV]
    refine ⟨fun p hp => ?_, ?_⟩
    · rcases List.mem_cons.mp hp with z | z
      · rw [z]; exact key_pD (x, y)
      · rw [List.mem_singleton.mp z]; exact key_pD (a, b)
    · have : pD (x, y) ≠ pD (a, b) := fun z => ne (pD_inj z)
      simp [this]
  have mem0 : ∀ d, d ∈ kv0.map (·.1) ↔ ∃ y ∈ [A', B'], d = pD y := fun d => by
    rw [← hKV]
    have := hkeys d
    simp only [List.map_cons, List.map_nil, List.mem_cons, List.not_mem_nil, or_false] at this ⊢
    rw [this]
    simp
  have len0 : kv0.length = 2 := by rw [← hKV]; rfl
  clear hKV e2
  generalize hM4 : putK (putM M3 r0 [pcD (.str A'.1 A'.2 B'.1 B'.2)]) e0 (ents w kv0) = M4
  have r4 : M4 r0 = some (List.map pcD (rowP [A', B'])) := by rw [← hM4, putK_l]; exact putM_same
  have d4 : M4 (.d e0) = some (ents w kv0) := by rw [← hM4]; exact putK_same
  clear hM4 hr0 he0
  refine ⟨fun ρ' M' => ∃ r e l kvs o1 o7 o8 o9 o10 o11, M' (.l r) = some (List.map pcD (rowP l)) ∧ RowW A' B' l 14 ∧ M' (.d e) = some (ents w kvs) ∧ TK kvs ∧ (∀ d, d ∈ kvs.map (·.1) ↔ ∃ y ∈ l, d = pD y) ∧
    ρ' = [some (.fz (ns.map D.int)), o1, some (PQ x y), some (PQ a b), some (pcD (.str A'.1 A'.2 B'.1 B'.2)), some (.ref r), some (.ref e), o7, o8, o9, o10, o11, none, none, none], fun p2 hp2 => ⟨_, putM_same, ?_⟩, ?_⟩
  · have lc := (cut_13 ns).1
    have ic := (cut_13 ns).2
    generalize Dd.cutD (ns.map D.int) (some 1) (some 13) = CELLS at lc ic ⊢
    have c5 : putM M4 p2 CELLS p2 = some CELLS := putM_same
    have r5 : putM M4 p2 CELLS r0 = some (List.map pcD (rowP [A', B'])) := by rw [putM_ne (ne_of_noneM r4 hp2)]; exact r4
    have d5 : putM M4 p2 CELLS (.d e0) = some (ents w kv0) := by rw [putM_d]; exact d4
    generalize putM M4 p2 CELLS = M5 at c5 r5 d5 ⊢
    refine ⟨fun i ρ' M' => M' p2 = some CELLS ∧ ∃ r e l kvs o1 o7 o8 o9 o10 o11, M' (.l r) = some (List.map pcD (rowP l)) ∧ RowW A' B' l (2 + i) ∧ M' (.d e) = some (ents w kvs) ∧ TK kvs ∧ (∀ d, d ∈ kvs.map (·.1) ↔ ∃ y ∈ l, d = pD y) ∧
      ρ' = [some (.fz (ns.map D.int)), o1, some (PQ x y), some (PQ a b), some (pcD (.str A'.1 A'.2 B'.1 B'.2)), some (.ref r), some (.ref e), o7, o8, o9, o10, o11, none, none, none],
      ⟨c5, r0, e0, _, kv0, _, _, _, _, _, _, r5, row0 hAB bA bB, d5, tk0, mem0, rfl⟩, fun i ρ' M' _ h a e => by cases e; exact h.1, ?_, ?_⟩
    · rintro i d ρ' M6 hd ⟨c6, r, e, l, kvs, o1, o7, o8, o9, o10, o11, r6, row, d6, tk, hmem, rfl⟩
      obtain ⟨c, rfl⟩ := ic i d hd
      have hi : i < CELLS.length := (List.getElem?_eq_some_iff.mp hd).1
      decreasing_tactic
      refine ⟨c, rfl, fun pg Mg hpg fdg avg => ?_⟩
      have n1 : p2 ≠ pg := ne_of_noneM c6 hpg
      have n2 : r ≠ pg := ne_of_noneM r6 hpg
      decreasing_tactic
      refine ⟨⟨by decide, by decide, by decide⟩, pg, _, 0, rfl, fdg, by decide, by decide, bdk (by decide), fun b0 M7 b00 b01 fd7 av7 => ?_⟩
      have b01 : b0 < 1000000 := b01
      decreasing_tactic
      have bb : Bd 24 (1 + b0 + 1) := bd24 (by omega) (by omega)
      refine ⟨pg, _, _, rfl, fd7, by decide, by omega, bb.mono (by decide), fun k0 M8 k00 k01 fd8 av8 => ?_⟩
      have c8 : M8 p2 = some CELLS := by rw [av8 p2 n1, av7 p2 n1, avg p2 n1]; exact c6
      have r8 : M8 r = some (List.map pcD (rowP l)) := by rw [av8 r n2, av7 r n2, avg r n2]; exact r6
      have d8 : M8 (.d e) = some (ents w kvs) := by rw [av8.d, av7.d, avg.d]; exact d6
      clear fdg avg av7 fd7 fd8 av8 c6 r6 d6 hpg
      decreasing_tactic
      refine ⟨by decide, x, y, a, b, k0, 1 + b0, rfl, hx.mono (by decide), hy.mono (by decide), ha, hb, by unfold Bd; omega, by unfold Bd; omega, by omega, ?_⟩
      have hX : OnW A' B' (mx ((k0 : Rat) / ((1 + b0 : Int) : Rat)) x a, mx ((k0 : Rat) / ((1 + b0 : Int) : Rat)) y b) := hOn _ (onW_mx (A := (x, y)) (B := (a, b)) k00 (by omega) (by omega))
      have bX : BQ 72 (mx ((k0 : Rat) / ((1 + b0 : Int) : Rat)) x a) ∧ BQ 72 (mx ((k0 : Rat) / ((1 + b0 : Int) : Rat)) y b) := ⟨bq_mx13 k00 (by omega) (by omega) (hx.mono (by decide)) ha (by omega), bq_mx13 k00 (by omega) (by omega) (hy.mono (by decide)) hb (by omega)⟩
      generalize mx ((k0 : Rat) / ((1 + b0 : Int) : Rat)) x a = X1 at hX bX ⊢
      generalize mx ((k0 : Rat) / ((1 + b0 : Int) : Rat)) y b = X2 at hX bX ⊢
      decreasing_tactic
      have kl : kvs.length = l.length := by have := (perm_keys tk row.up hmem).length_eq; rw [List.length_map, List.length_map] at this; exact this
      have ll := row.len
      refine ⟨kvs, d8, tk, by omega, key_pD (X1, X2), by decide, fun pm hpm => ⟨List.map pcD (rowP l), ?_, ?_⟩⟩
      · rw [putK_l] at hpm
        rw [putM_ne (ne_of_noneM r8 hpm), putK_l]
        exact r8
      rw [putK_l] at hpm
      have n3 : r ≠ pm := ne_of_noneM r8 hpm
      have n4 : p2 ≠ pm := ne_of_noneM c8 hpm
      have tk' : TK (putD kvs (pD (X1, X2)) (.bl true)) := tk.put (key_pD (X1, X2))
      have mem' : ∀ d, d ∈ (putD kvs (pD (X1, X2)) (.bl true)).map (·.1) ↔ ∃ y ∈ insP (X1, X2) l, d = pD y := fun d => by
        have h1 : d ∈ (putD kvs (pD (X1, X2)) (.bl true)).map (·.1) ↔ d ∈ kvs.map (·.1) ∨ d = pD (X1, X2) := by
          rw [putD_keys]
          split
          · rename_i z
            exact ⟨.inl, fun y => y.elim id fun y => by rw [y]; exact z⟩
          · rw [List.mem_append, List.mem_singleton]
        rw [h1, hmem d]
        constructor
        · rintro (⟨y, hy, e⟩ | e)
          · exact ⟨y, (row.mem hX y).mpr (.inl hy), e⟩
          · exact ⟨_, (row.mem hX _).mpr (.inr rfl), e⟩
        · rintro ⟨y, hy, e⟩
          rcases (row.mem hX y).mp hy with z | z
          · exact .inl ⟨y, z, e⟩
          · exact .inr (by rw [e, z])
      have c9 : putM (putK M8 e (ents w (putD kvs (pD (X1, X2)) (.bl true)))) pm [] p2 = some CELLS := by rw [putM_ne n4, putK_l]; exact c8
      have r9 : putM (putK M8 e (ents w (putD kvs (pD (X1, X2)) (.bl true)))) pm [] r = some (List.map pcD (rowP l)) := by rw [putM_ne n3, putK_l]; exact r8
      have d9 : putM (putK M8 e (ents w (putD kvs (pD (X1, X2)) (.bl true)))) pm [] (.d e) = some (ents w (putD kvs (pD (X1, X2)) (.bl true))) := by rw [putM_d]; exact putK_same
      have m9 : putM (putK M8 e (ents w (putD kvs (pD (X1, X2)) (.bl true)))) pm [] pm = some [] := putM_same
      show dIt _ _ _ _ _ _ (putM (putK M8 e (ents w (putD kvs (pD (X1, X2)) (.bl true)))) pm [])
      generalize putM (putK M8 e (ents w (putD kvs (pD (X1, X2)) (.bl true)))) pm [] = M9 at c9 r9 d9 m9 ⊢
      generalize putD kvs (pD (X1, X2)) (.bl true) = kvs' at tk' mem' d9
      refine ⟨fun j ρ' M' => M' p2 = some CELLS ∧ M' r = some (List.map pcD (rowP l)) ∧ M' (.d e) = some (ents w kvs') ∧ M' pm = some (((rowP l).take j).flatMap (cutP (X1, X2))) ∧ ∃ o11,
        ρ' = [some (.fz (ns.map D.int)), some (.ref pg), some (PQ x y), some (PQ a b), some (pcD (.str A'.1 A'.2 B'.1 B'.2)), some (.ref r), some (.ref e), some (.int c), some (.int (1 + b0)), some (PQ X1 X2), some (.ref pm), o11, none, none, none],
        ⟨c9, r9, d9, m9, _, rfl⟩, fun j ρ' M' _ h a e => by cases e; exact h.2.1, ?_, ?_⟩
      · rintro j d ρ' M' hj ⟨c', r', d', m', o11, rfl⟩
        obtain ⟨g, h, gm, hm', eg, rfl⟩ := row_piece hj
        have big : ∀ {z : Rat}, BQ 72 z → BQ 1460 z := fun h => h.mono (by decide)
        decreasing_tactic
        refine ⟨⟨_, m'⟩, g.1, g.2, h.1, h.2, X1, X2, rfl, big (row.bq g gm).1, big (row.bq g gm).2, big (row.bq h hm').1, big (row.bq h hm').2, big bX.1, big bX.2, fun pc hpc => ?_⟩
        have l1 := flat_take_len (X1, X2) l j
        have l2 : (cutS g.1 g.2 h.1 h.2 X1 X2).length ≤ 2 := cutP_len (X1, X2) g.1 g.2 h.1 h.2
        decreasing_tactic
        refine ⟨_, pc, _, rfl, by rw [putM_ne (ne_of_noneM m' hpc)]; exact m', putM_same, by omega, ?_⟩
        have n5 : r ≠ pc := ne_of_noneM r' hpc
        have n6 : p2 ≠ pc := ne_of_noneM c' hpc
        refine ⟨by rw [putM_ne n4, putM_ne n6]; exact c', by rw [putM_ne n3, putM_ne n5]; exact r', by rw [putM_d, putM_d]; exact d', ?_, _, rfl⟩
        rw [putM_same, take_flat (cutP (X1, X2)) (rowP l) j _ eg]
        rfl
      · rintro ρ' M' ⟨c', r', d', m', o11, rfl⟩
        rw [List.length_map, List.take_length, row.cut hX] at m'
        decreasing_tactic
        exact ⟨c', pm, e, _, kvs', _, _, _, _, _, _, m', (row.ins hX bX), d', tk', mem', rfl⟩
    · rintro ρ' M' ⟨c', r, e, l, kvs, o1, o7, o8, o9, o10, o11, r6, row, d6, tk, hmem, rfl⟩
      exact ⟨r, e, l, kvs, o1, o7, o8, o9, o10, o11, r6, { row with len := by have := row.len; omega }, d6, tk, hmem, rfl⟩
  · rintro _ M6 ⟨r, e, l, kvs, o1, o7, o8, o9, o10, o11, r6, row, d6, tk, hmem, rfl⟩
    decreasing_tactic
    have l2 : 2 ≤ l.length := by obtain ⟨g, h, rr, rfl⟩ := row.two; exact Nat.le_add_left _ _
    have ll := row.len
    have h0 : ∃ h : P2, (List.map pcD (rowP l))[0]? = some (pcD (.str A'.1 A'.2 h.1 h.2)) := by
      obtain ⟨g, h, rr, rfl⟩ := row.two
      have eg : g = A' := by have := row.hd; simpa using this
      subst eg
      exact ⟨h, rfl⟩
    obtain ⟨h, h0⟩ := h0
    refine ⟨_, _, r6, atI_nat h0, ?_⟩
    dsimp only [pcD]
    decreasing_tactic
    refine dEq_self (by rfl) (ifF rfl ?_)
    obtain ⟨init, g, hla⟩ := row_last row.la l2
    refine ⟨_, _, r6, by rw [hla]; exact L2.atI_last init _, ?_⟩
    dsimp only [pcD]
    decreasing_tactic
    refine dEq_self (by rfl) (ifF rfl ?_)
    refine ⟨_, r6, fun pz hpz => ⟨List.map pcD (rowP l), (List.map pcD (rowP l)).drop 1, by rw [putM_ne (ne_of_noneM r6 hpz)]; exact r6, by rw [putM_same, cut_from1], ?_⟩⟩
    have r7 : putM M6 pz (Dd.cutD (List.map pcD (rowP l)) (some 1) none) r = some (List.map pcD (rowP l)) := by rw [putM_ne (ne_of_noneM r6 hpz)]; exact r6
    have z7 : putM M6 pz (Dd.cutD (List.map pcD (rowP l)) (some 1) none) pz = some ((List.map pcD (rowP l)).drop 1) := by rw [putM_same, cut_from1]
    have d7 : putM M6 pz (Dd.cutD (List.map pcD (rowP l)) (some 1) none) (.d e) = some (ents w kvs) := by rw [putM_d]; exact d6
    generalize putM M6 pz (Dd.cutD (List.map pcD (rowP l)) (some 1) none) = M7 at r7 z7 d7 ⊢
    refine ⟨fun i ρ' M' => M' = M7 ∧ ∃ o12 o13, ρ' = [some (.fz (ns.map D.int)), o1, some (PQ x y), some (PQ a b), some (pcD (.str A'.1 A'.2 B'.1 B'.2)), some (.ref r), some (.ref e), o7, o8, o9, o10, o11, o12, o13, none], ⟨rfl, _, _, rfl⟩, ?_, ?_, ?_⟩
    · rintro i ρ' M' _ ⟨rfl, _⟩
      exact ⟨r7, z7⟩
    · rintro i d ρ' M' hd ⟨rfl, o12, o13, rfl⟩
      obtain ⟨g1, g2, g3, rfl⟩ := zip_row hd
      decreasing_tactic
      refine ⟨rfl, ?_⟩
      dsimp only [pcD]
      decreasing_tactic
      refine dEq_self (by rfl) (ifF rfl ?_)
      decreasing_tactic
      refine dEq_self (by rfl) (ifF rfl ⟨rfl, _, _, rfl⟩)
    rintro ρ' M8 ⟨rfl, o12, o13, rfl⟩
    decreasing_tactic
    refine ⟨_, r7, by rw [List.length_map, rowP_len]; omega, fun i ys M' => M' = M8 ∧ ys = ((rowP l).take i).map fstP, ⟨rfl, rfl⟩, ?_, ?_, ?_⟩
    · rintro i ys M' _ ⟨rfl, _⟩ a e
      cases e
      exact r7
    · rintro i d ys M' hd ⟨rfl, rfl⟩
      obtain ⟨g1, g2, _, _, eg, rfl⟩ := row_piece hd
      decreasing_tactic
      dsimp only [pcD]
      decreasing_tactic
      refine ⟨rfl, ?_⟩
      rw [List.take_add_one, eg]
      simp [fstP]
    rintro ys M' - ⟨rfl, rfl⟩ pa hpa
    rw [List.length_map, List.take_length]
    dsimp only [pcD]
    decreasing_tactic
    refine ⟨by decide, fun pb hpb => ⟨_, _, by rw [putM_ne (ne_of_noneM putM_same hpb)]; exact putM_same, putM_same, by rw [List.length_map, rowP_len, List.length_singleton]; omega, fun pt hpt => ⟨l.map pD, by rw [putM_same]; exact congrArg some (row_told row.la), ents w kvs, ?_, ?_⟩⟩⟩
    · rw [putM_d, putM_d, putM_d]; exact d7
    have er := row_told row.la
    have t9 : putM (putM (putM M' pa ((rowP l).map fstP)) pb [pD B']) pt ((rowP l).map fstP ++ [pD B']) pt = some (l.map pD) := by rw [putM_same, er]
    have na : r ≠ pa := ne_of_noneM r7 hpa
    have nb : r ≠ pb := ne_of_noneM (by rw [putM_ne na]; exact r7) hpb
    have nt : r ≠ pt := ne_of_noneM (by rw [putM_ne nb, putM_ne na]; exact r7) hpt
    have r9 : putM (putM (putM M' pa ((rowP l).map fstP)) pb [pD B']) pt ((rowP l).map fstP ++ [pD B']) r = some (List.map pcD (rowP l)) := by rw [putM_ne nt, putM_ne nb, putM_ne na]; exact r7
    have d9 : putM (putM (putM M' pa ((rowP l).map fstP)) pb [pD B']) pt ((rowP l).map fstP ++ [pD B']) (.d e) = some (ents w kvs) := by rw [putM_d, putM_d, putM_d]; exact d7
    show dEq _ _ _ (putM (putM (putM M' pa ((rowP l).map fstP)) pb [pD B']) pt ((rowP l).map fstP ++ [pD B'])) _
    generalize putM (putM (putM M' pa ((rowP l).map fstP)) pb [pD B']) pt ((rowP l).map fstP ++ [pD B']) = M9 at t9 r9 d9 ⊢
    have pk := perm_keys tk row.up hmem
    have kl : (ents w kvs).length = (l.map pD).length := by
      have := pk.length_eq
      rw [List.length_map] at this
      unfold ents
      rw [List.length_map]; exact this
    rw [kl]
    refine dEq_self (by rfl) (ifF rfl ?_)
    have ndl : l.Nodup := row.up.imp fun h => ne_of_bf h
    refine ⟨l.map q4, by rw [t9, map_q4], nd_q4 ndl, by rw [List.length_map]; exact l2, by rw [List.length_map]; omega, fun s1 zs hs1 pz1 sz1 => ?_⟩
    decreasing_tactic
    have d10 : putM M9 s1 (zs.map ptD) (.d e) = some (ents w kvs) := by rw [putM_d]; exact d9
    have z10 : putM M9 s1 (zs.map ptD) s1 = some (zs.map ptD) := putM_same
    have r10 : putM M9 s1 (zs.map ptD) r = some (List.map pcD (rowP l)) := by rw [putM_ne (ne_of_noneM r9 hs1)]; exact r9
    generalize putM M9 s1 (zs.map ptD) = M10 at d10 z10 r10 ⊢
    refine ⟨_, d10, fun pk1 hpk => ?_⟩
    rw [ents_keys]
    obtain ⟨l3, e3⟩ := keys_pts (l := l) (ks := kvs.map (·.1)) fun d hd => (hmem d).mp hd
    rw [e3]
    have p3 : (l3.map q4).Perm (l.map q4) := perm_q4 (by rw [← e3]; exact pk)
    have z11 : putM M10 pk1 (l3.map pD) s1 = some (zs.map ptD) := by rw [putM_ne (ne_of_noneM z10 hpk)]; exact z10
    have r11 : putM M10 pk1 (l3.map pD) r = some (List.map pcD (rowP l)) := by rw [putM_ne (ne_of_noneM r10 hpk)]; exact r10
    have k11 : putM M10 pk1 (l3.map pD) pk1 = some (l3.map pD) := putM_same
    generalize putM M10 pk1 (l3.map pD) = M11 at z11 r11 k11 ⊢
    have n3 : l3.length = l.length := by have := p3.length_eq; rw [List.length_map, List.length_map] at this; exact this
    refine ⟨l3.map q4, by rw [k11, map_q4], p3.nodup_iff.mpr (nd_q4 ndl), by rw [List.length_map]; omega, by rw [List.length_map]; omega, fun s2 ws hs2 pw sw => ?_⟩
    have n4 : s1 ≠ s2 := ne_of_noneM z11 hs2
    have ez : zs = ws := sorted_one pz1 (pw.trans p3) sz1 sw
    refine dEq_refs (xs := zs.map ptD) (ys := ws.map ptD) (by rw [putM_ne n4]; exact z11) putM_same n4 (by rw [ez]) (pts_pure4 zs) (ifF rfl ?_)
    decreasing_tactic
    refine ⟨r, l, A', B', rfl, by rw [putM_ne (ne_of_noneM r11 hs2)]; exact r11, row.inrow, by omega, by rw [← List.head?_eq_getElem?]; exact row.hd, getLast_at row.la, l2, row.bq, ?_⟩
    exact ⟨_, .refl _, fin _⟩
theorem law_here (ns : List Int) (hl : ns.length ≤ 63) (M : DM) : sp_law [.fz (ns.map D.int)] M fun d _ => d = .bl true := ⟨ns, rfl, hl, fun _ => rfl⟩

end
theorem all_mk {l : PySem.W.OpenLaw} {w : World} {K : PySem.W.Frag} {h : Heap} {mg : Str → Option Value} {fa f0 f1 f2 f3 f4 f5 f6 f7 f8 f9 f10 f11 f12 f13 f14 f15 f16 f17 f18 f19 f20 f21 f22 f23 f24 f25 f26 : Addr} (X : K.In h) (G : h.Ns mainGlobals mg) (hfa : mg "law" = some (.ref fa))
    {od0 an0 : Option Addr} {sl0 : Array (Option Value)} {oc0 kV0 dc0 pm0 cd0 ct0 : Value}
    {od1 an1 : Option Addr} {sl1 : Array (Option Value)} {oc1 kV1 dc1 pm1 cd1 ct1 : Value}
    {od2 an2 : Option Addr} {sl2 : Array (Option Value)} {oc2 kV2 dc2 pm2 cd2 ct2 : Value}
    {od3 an3 : Option Addr} {sl3 : Array (Option Value)} {oc3 kV3 dc3 pm3 cd3 ct3 : Value}
    {od4 an4 : Option Addr} {sl4 : Array (Option Value)} {oc4 kV4 dc4 pm4 cd4 ct4 : Value}
    {od5 an5 : Option Addr} {sl5 : Array (Option Value)} {oc5 kV5 dc5 pm5 cd5 ct5 : Value}
    {od6 an6 : Option Addr} {sl6 : Array (Option Value)} {oc6 kV6 dc6 pm6 cd6 ct6 : Value}
    {od7 an7 : Option Addr} {sl7 : Array (Option Value)} {oc7 kV7 dc7 pm7 cd7 ct7 : Value}
    {od8 an8 : Option Addr} {sl8 : Array (Option Value)} {oc8 kV8 dc8 pm8 cd8 ct8 : Value}
    {od9 an9 : Option Addr} {sl9 : Array (Option Value)} {oc9 kV9 dc9 pm9 cd9 ct9 : Value}
    {od10 an10 : Option Addr} {sl10 : Array (Option Value)} {oc10 kV10 dc10 pm10 cd10 ct10 : Value}
    {od11 an11 : Option Addr} {sl11 : Array (Option Value)} {oc11 kV11 dc11 pm11 cd11 ct11 : Value}
    {od12 an12 : Option Addr} {sl12 : Array (Option Value)} {oc12 kV12 dc12 pm12 cd12 ct12 : Value}
    {od13 an13 : Option Addr} {sl13 : Array (Option Value)} {oc13 kV13 dc13 pm13 cd13 ct13 : Value}
    {od14 an14 : Option Addr} {sl14 : Array (Option Value)} {oc14 kV14 dc14 pm14 cd14 ct14 : Value}
    {od15 an15 : Option Addr} {sl15 : Array (Option Value)} {oc15 kV15 dc15 pm15 cd15 ct15 : Value}
    {od16 an16 : Option Addr} {sl16 : Array (Option Value)} {oc16 kV16 dc16 pm16 cd16 ct16 : Value}
    {od17 an17 : Option Addr} {sl17 : Array (Option Value)} {oc17 kV17 dc17 pm17 cd17 ct17 : Value}
    {od18 an18 : Option Addr} {sl18 : Array (Option Value)} {oc18 kV18 dc18 pm18 cd18 ct18 : Value}
    {od19 an19 : Option Addr} {sl19 : Array (Option Value)} {oc19 kV19 dc19 pm19 cd19 ct19 : Value}
    {od20 an20 : Option Addr} {sl20 : Array (Option Value)} {oc20 kV20 dc20 pm20 cd20 ct20 : Value}
    {od21 an21 : Option Addr} {sl21 : Array (Option Value)} {oc21 kV21 dc21 pm21 cd21 ct21 : Value}
    {od22 an22 : Option Addr} {sl22 : Array (Option Value)} {oc22 kV22 dc22 pm22 cd22 ct22 : Value}
    {od23 an23 : Option Addr} {sl23 : Array (Option Value)} {oc23 kV23 dc23 pm23 cd23 ct23 : Value}
    {od24 an24 : Option Addr} {sl24 : Array (Option Value)} {oc24 kV24 dc24 pm24 cd24 ct24 : Value}
    {od25 an25 : Option Addr} {sl25 : Array (Option Value)} {oc25 kV25 dc25 pm25 cd25 ct25 : Value}
    {od26 an26 : Option Addr} {sl26 : Array (Option Value)} {oc26 kV26 dc26 pm26 cd26 ct26 : Value}
    (a0 : PySem.W.nsIn K mainGlobals "greatest_divisor" = some (some (.ref f0))) (l0 : K.lookup f0 = some ⟨oc0, od0, .func (PySem.W.fnOf "greatest_divisor" "greatest_divisor" (defArgs s_greatest_divisor) (defBody s_greatest_divisor) (defScope s_greatest_divisor) .none kV0 dc0 pm0 an0 cd0 ct0), sl0⟩) (c0 : PySem.W.codeIn K cd0 "greatest_divisor" = true) (k0 : PySem.W.keepIn K (.ref f0) = true)
    (a1 : PySem.W.nsIn K mainGlobals "ratio" = some (some (.ref f1))) (l1 : K.lookup f1 = some ⟨oc1, od1, .func (PySem.W.fnOf "ratio" "ratio" (defArgs s_ratio) (defBody s_ratio) (defScope s_ratio) .none kV1 dc1 pm1 an1 cd1 ct1), sl1⟩) (c1 : PySem.W.codeIn K cd1 "ratio" = true) (k1 : PySem.W.keepIn K (.ref f1) = true)
    (a2 : PySem.W.nsIn K mainGlobals "plus" = some (some (.ref f2))) (l2 : K.lookup f2 = some ⟨oc2, od2, .func (PySem.W.fnOf "plus" "plus" (defArgs s_plus) (defBody s_plus) (defScope s_plus) .none kV2 dc2 pm2 an2 cd2 ct2), sl2⟩) (c2 : PySem.W.codeIn K cd2 "plus" = true) (k2 : PySem.W.keepIn K (.ref f2) = true)
    (a3 : PySem.W.nsIn K mainGlobals "minus" = some (some (.ref f3))) (l3 : K.lookup f3 = some ⟨oc3, od3, .func (PySem.W.fnOf "minus" "minus" (defArgs s_minus) (defBody s_minus) (defScope s_minus) .none kV3 dc3 pm3 an3 cd3 ct3), sl3⟩) (c3 : PySem.W.codeIn K cd3 "minus" = true) (k3 : PySem.W.keepIn K (.ref f3) = true)
    (a4 : PySem.W.nsIn K mainGlobals "times" = some (some (.ref f4))) (l4 : K.lookup f4 = some ⟨oc4, od4, .func (PySem.W.fnOf "times" "times" (defArgs s_times) (defBody s_times) (defScope s_times) .none kV4 dc4 pm4 an4 cd4 ct4), sl4⟩) (c4 : PySem.W.codeIn K cd4 "times" = true) (k4 : PySem.W.keepIn K (.ref f4) = true)
    (a5 : PySem.W.nsIn K mainGlobals "below" = some (some (.ref f5))) (l5 : K.lookup f5 = some ⟨oc5, od5, .func (PySem.W.fnOf "below" "below" (defArgs s_below) (defBody s_below) (defScope s_below) .none kV5 dc5 pm5 an5 cd5 ct5), sl5⟩) (c5 : PySem.W.codeIn K cd5 "below" = true) (k5 : PySem.W.keepIn K (.ref f5) = true)
    (a6 : PySem.W.nsIn K mainGlobals "before" = some (some (.ref f6))) (l6 : K.lookup f6 = some ⟨oc6, od6, .func (PySem.W.fnOf "before" "before" (defArgs s_before) (defBody s_before) (defScope s_before) .none kV6 dc6 pm6 an6 cd6 ct6), sl6⟩) (c6 : PySem.W.codeIn K cd6 "before" = true) (k6 : PySem.W.keepIn K (.ref f6) = true)
    (a7 : PySem.W.nsIn K mainGlobals "stretch" = some (some (.ref f7))) (l7 : K.lookup f7 = some ⟨oc7, od7, .func (PySem.W.fnOf "stretch" "stretch" (defArgs s_stretch) (defBody s_stretch) (defScope s_stretch) .none kV7 dc7 pm7 an7 cd7 ct7), sl7⟩) (c7 : PySem.W.codeIn K cd7 "stretch" = true) (k7 : PySem.W.keepIn K (.ref f7) = true)
    (a8 : PySem.W.nsIn K mainGlobals "plain_line" = some (some (.ref f8))) (l8 : K.lookup f8 = some ⟨oc8, od8, .func (PySem.W.fnOf "plain_line" "plain_line" (defArgs s_plain_line) (defBody s_plain_line) (defScope s_plain_line) .none kV8 dc8 pm8 an8 cd8 ct8), sl8⟩) (c8 : PySem.W.codeIn K cd8 "plain_line" = true) (k8 : PySem.W.keepIn K (.ref f8) = true)
    (a9 : PySem.W.nsIn K mainGlobals "line" = some (some (.ref f9))) (l9 : K.lookup f9 = some ⟨oc9, od9, .func (PySem.W.fnOf "line" "line" (defArgs s_line) (defBody s_line) (defScope s_line) .none kV9 dc9 pm9 an9 cd9 ct9), sl9⟩) (c9 : PySem.W.codeIn K cd9 "line" = true) (k9 : PySem.W.keepIn K (.ref f9) = true)
    (a10 : PySem.W.nsIn K mainGlobals "on_one_bottom" = some (some (.ref f10))) (l10 : K.lookup f10 = some ⟨oc10, od10, .func (PySem.W.fnOf "on_one_bottom" "on_one_bottom" (defArgs s_on_one_bottom) (defBody s_on_one_bottom) (defScope s_on_one_bottom) .none kV10 dc10 pm10 an10 cd10 ct10), sl10⟩) (c10 : PySem.W.codeIn K cd10 "on_one_bottom" = true) (k10 : PySem.W.keepIn K (.ref f10) = true)
    (a11 : PySem.W.nsIn K mainGlobals "sign" = some (some (.ref f11))) (l11 : K.lookup f11 = some ⟨oc11, od11, .func (PySem.W.fnOf "sign" "sign" (defArgs s_sign) (defBody s_sign) (defScope s_sign) .none kV11 dc11 pm11 an11 cd11 ct11), sl11⟩) (c11 : PySem.W.codeIn K cd11 "sign" = true) (k11 : PySem.W.keepIn K (.ref f11) = true)
    (a12 : PySem.W.nsIn K mainGlobals "side" = some (some (.ref f12))) (l12 : K.lookup f12 = some ⟨oc12, od12, .func (PySem.W.fnOf "side" "side" (defArgs s_side) (defBody s_side) (defScope s_side) .none kV12 dc12 pm12 an12 cd12 ct12), sl12⟩) (c12 : PySem.W.codeIn K cd12 "side" = true) (k12 : PySem.W.keepIn K (.ref f12) = true)
    (a13 : PySem.W.nsIn K mainGlobals "on_straight" = some (some (.ref f13))) (l13 : K.lookup f13 = some ⟨oc13, od13, .func (PySem.W.fnOf "on_straight" "on_straight" (defArgs s_on_straight) (defBody s_on_straight) (defScope s_on_straight) .none kV13 dc13 pm13 an13 cd13 ct13), sl13⟩) (c13 : PySem.W.codeIn K cd13 "on_straight" = true) (k13 : PySem.W.keepIn K (.ref f13) = true)
    (a14 : PySem.W.nsIn K mainGlobals "overlap" = some (some (.ref f14))) (l14 : K.lookup f14 = some ⟨oc14, od14, .func (PySem.W.fnOf "overlap" "overlap" (defArgs s_overlap) (defBody s_overlap) (defScope s_overlap) .none kV14 dc14 pm14 an14 cd14 ct14), sl14⟩) (c14 : PySem.W.codeIn K cd14 "overlap" = true) (k14 : PySem.W.keepIn K (.ref f14) = true)
    (a15 : PySem.W.nsIn K mainGlobals "crossing" = some (some (.ref f15))) (l15 : K.lookup f15 = some ⟨oc15, od15, .func (PySem.W.fnOf "crossing" "crossing" (defArgs s_crossing) (defBody s_crossing) (defScope s_crossing) .none kV15 dc15 pm15 an15 cd15 ct15), sl15⟩) (c15 : PySem.W.codeIn K cd15 "crossing" = true) (k15 : PySem.W.keepIn K (.ref f15) = true)
    (a16 : PySem.W.nsIn K mainGlobals "common" = some (some (.ref f16))) (l16 : K.lookup f16 = some ⟨oc16, od16, .func (PySem.W.fnOf "common" "common" (defArgs s_common) (defBody s_common) (defScope s_common) .none kV16 dc16 pm16 an16 cd16 ct16), sl16⟩) (c16 : PySem.W.codeIn K cd16 "common" = true) (k16 : PySem.W.keepIn K (.ref f16) = true)
    (a17 : PySem.W.nsIn K mainGlobals "_law_apart" = some (some (.ref f17))) (l17 : K.lookup f17 = some ⟨oc17, od17, .func (PySem.W.fnOf "_law_apart" "_law_apart" (defArgs s_law_apart) (defBody s_law_apart) (defScope s_law_apart) .none kV17 dc17 pm17 an17 cd17 ct17), sl17⟩) (c17 : PySem.W.codeIn K cd17 "_law_apart" = true) (k17 : PySem.W.keepIn K (.ref f17) = true)
    (a18 : PySem.W.nsIn K mainGlobals "_law_feed" = some (some (.ref f18))) (l18 : K.lookup f18 = some ⟨oc18, od18, .func (PySem.W.fnOf "_law_feed" "_law_feed" (defArgs s_law_feed) (defBody s_law_feed) (defScope s_law_feed) .none kV18 dc18 pm18 an18 cd18 ct18), sl18⟩) (c18 : PySem.W.codeIn K cd18 "_law_feed" = true) (k18 : PySem.W.keepIn K (.ref f18) = true)
    (a19 : PySem.W.nsIn K mainGlobals "_law_draw" = some (some (.ref f19))) (l19 : K.lookup f19 = some ⟨oc19, od19, .func (PySem.W.fnOf "_law_draw" "_law_draw" (defArgs s_law_draw) (defBody s_law_draw) (defScope s_law_draw) .none kV19 dc19 pm19 an19 cd19 ct19), sl19⟩) (c19 : PySem.W.codeIn K cd19 "_law_draw" = true) (k19 : PySem.W.keepIn K (.ref f19) = true)
    (a20 : PySem.W.nsIn K mainGlobals "_law_lowest" = some (some (.ref f20))) (l20 : K.lookup f20 = some ⟨oc20, od20, .func (PySem.W.fnOf "_law_lowest" "_law_lowest" (defArgs s_law_lowest) (defBody s_law_lowest) (defScope s_law_lowest) .none kV20 dc20 pm20 an20 cd20 ct20), sl20⟩) (c20 : PySem.W.codeIn K cd20 "_law_lowest" = true) (k20 : PySem.W.keepIn K (.ref f20) = true)
    (a21 : PySem.W.nsIn K mainGlobals "_law_small" = some (some (.ref f21))) (l21 : K.lookup f21 = some ⟨oc21, od21, .func (PySem.W.fnOf "_law_small" "_law_small" (defArgs s_law_small) (defBody s_law_small) (defScope s_law_small) .none kV21 dc21 pm21 an21 cd21 ct21), sl21⟩) (c21 : PySem.W.codeIn K cd21 "_law_small" = true) (k21 : PySem.W.keepIn K (.ref f21) = true)
    (a22 : PySem.W.nsIn K mainGlobals "_law_spot" = some (some (.ref f22))) (l22 : K.lookup f22 = some ⟨oc22, od22, .func (PySem.W.fnOf "_law_spot" "_law_spot" (defArgs s_law_spot) (defBody s_law_spot) (defScope s_law_spot) .none kV22 dc22 pm22 an22 cd22 ct22), sl22⟩) (c22 : PySem.W.codeIn K cd22 "_law_spot" = true) (k22 : PySem.W.keepIn K (.ref f22) = true)
    (a23 : PySem.W.nsIn K mainGlobals "_law_cell_at" = some (some (.ref f23))) (l23 : K.lookup f23 = some ⟨oc23, od23, .func (PySem.W.fnOf "_law_cell_at" "_law_cell_at" (defArgs s_law_cell_at) (defBody s_law_cell_at) (defScope s_law_cell_at) .none kV23 dc23 pm23 an23 cd23 ct23), sl23⟩) (c23 : PySem.W.codeIn K cd23 "_law_cell_at" = true) (k23 : PySem.W.keepIn K (.ref f23) = true)
    (a24 : PySem.W.nsIn K mainGlobals "_law_mixed" = some (some (.ref f24))) (l24 : K.lookup f24 = some ⟨oc24, od24, .func (PySem.W.fnOf "_law_mixed" "_law_mixed" (defArgs s_law_mixed) (defBody s_law_mixed) (defScope s_law_mixed) .none kV24 dc24 pm24 an24 cd24 ct24), sl24⟩) (c24 : PySem.W.codeIn K cd24 "_law_mixed" = true) (k24 : PySem.W.keepIn K (.ref f24) = true)
    (a25 : PySem.W.nsIn K mainGlobals "cut" = some (some (.ref f25))) (l25 : K.lookup f25 = some ⟨oc25, od25, .func (PySem.W.fnOf "cut" "cut" (defArgs s_cut) (defBody s_cut) (defScope s_cut) .none kV25 dc25 pm25 an25 cd25 ct25), sl25⟩) (c25 : PySem.W.codeIn K cd25 "cut" = true) (k25 : PySem.W.keepIn K (.ref f25) = true)
    (a26 : PySem.W.nsIn K mainGlobals "law" = some (some (.ref f26))) (l26 : K.lookup f26 = some ⟨oc26, od26, .func (PySem.W.fnOf "law" "law" (defArgs s_law) (defBody s_law) (defScope s_law) .none kV26 dc26 pm26 an26 cd26 ct26), sl26⟩) (c26 : PySem.W.codeIn K cd26 "law" = true) (k26 : PySem.W.keepIn K (.ref f26) = true)
    (z_abs : PySem.W.nsIn K mainGlobals "abs" = some none)
    (z_int : PySem.W.nsIn K mainGlobals "int" = some none)
    (z_len : PySem.W.nsIn K mainGlobals "len" = some none)
    (z_list : PySem.W.nsIn K mainGlobals "list" = some none)
    (z_range : PySem.W.nsIn K mainGlobals "range" = some none)
    (z_sorted : PySem.W.nsIn K mainGlobals "sorted" = some none)
    (z_zip : PySem.W.nsIn K mainGlobals "zip" = some none)
    : ∃ fd : FuncData, (∀ (s : Shared) (v : Value), BindsTo s fd ⟨[v], []⟩ [("_law_script", v)]) ∧ ∀ base : Heap, K.In base → base.Ns mainGlobals mg → FnOk l.prog w K mg base CX0 111 fa fd ["_law_script"] (lowSp K sp_law) := by
  have e := hfa.symm.trans (PySem.W.mg_of X G a26)
  cases e
  have F0 := fun_mk (st := s_greatest_divisor) l0 c0 k0
  have H0 : HasF K mg "greatest_divisor" s_greatest_divisor ["one", "other"] := ⟨_, _, F0, PySem.W.mg_of X G a0, F0.binds (ps := ["one", "other"]) fun _ _ _ _ _ _ us hl => by obtain ⟨_, _, rfl⟩ := us2 hl; rfl⟩
  have F1 := fun_mk (st := s_ratio) l1 c1 k1
  have H1 : HasF K mg "ratio" s_ratio ["top", "bottom"] := ⟨_, _, F1, PySem.W.mg_of X G a1, F1.binds (ps := ["top", "bottom"]) fun _ _ _ _ _ _ us hl => by obtain ⟨_, _, rfl⟩ := us2 hl; rfl⟩
  have F2 := fun_mk (st := s_plus) l2 c2 k2
  have H2 : HasF K mg "plus" s_plus ["one", "other"] := ⟨_, _, F2, PySem.W.mg_of X G a2, F2.binds (ps := ["one", "other"]) fun _ _ _ _ _ _ us hl => by obtain ⟨_, _, rfl⟩ := us2 hl; rfl⟩
  have F3 := fun_mk (st := s_minus) l3 c3 k3
  have H3 : HasF K mg "minus" s_minus ["one", "other"] := ⟨_, _, F3, PySem.W.mg_of X G a3, F3.binds (ps := ["one", "other"]) fun _ _ _ _ _ _ us hl => by obtain ⟨_, _, rfl⟩ := us2 hl; rfl⟩
  have F4 := fun_mk (st := s_times) l4 c4 k4
  have H4 : HasF K mg "times" s_times ["one", "other"] := ⟨_, _, F4, PySem.W.mg_of X G a4, F4.binds (ps := ["one", "other"]) fun _ _ _ _ _ _ us hl => by obtain ⟨_, _, rfl⟩ := us2 hl; rfl⟩
  have F5 := fun_mk (st := s_below) l5 c5 k5
  have H5 : HasF K mg "below" s_below ["one", "other"] := ⟨_, _, F5, PySem.W.mg_of X G a5, F5.binds (ps := ["one", "other"]) fun _ _ _ _ _ _ us hl => by obtain ⟨_, _, rfl⟩ := us2 hl; rfl⟩
  have F6 := fun_mk (st := s_before) l6 c6 k6
  have H6 : HasF K mg "before" s_before ["p", "q"] := ⟨_, _, F6, PySem.W.mg_of X G a6, F6.binds (ps := ["p", "q"]) fun _ _ _ _ _ _ us hl => by obtain ⟨_, _, rfl⟩ := us2 hl; rfl⟩
  have F7 := fun_mk (st := s_stretch) l7 c7 k7
  have H7 : HasF K mg "stretch" s_stretch ["p", "q"] := ⟨_, _, F7, PySem.W.mg_of X G a7, F7.binds (ps := ["p", "q"]) fun _ _ _ _ _ _ us hl => by obtain ⟨_, _, rfl⟩ := us2 hl; rfl⟩
  have F8 := fun_mk (st := s_plain_line) l8 c8 k8
  have H8 : HasF K mg "plain_line" s_plain_line ["a", "b", "d"] := ⟨_, _, F8, PySem.W.mg_of X G a8, F8.binds (ps := ["a", "b", "d"]) fun _ _ _ _ _ _ us hl => by obtain ⟨_, _, _, rfl⟩ := us3 hl; rfl⟩
  have F9 := fun_mk (st := s_line) l9 c9 k9
  have H9 : HasF K mg "line" s_line ["p", "q"] := ⟨_, _, F9, PySem.W.mg_of X G a9, F9.binds (ps := ["p", "q"]) fun _ _ _ _ _ _ us hl => by obtain ⟨_, _, rfl⟩ := us2 hl; rfl⟩
  have F10 := fun_mk (st := s_on_one_bottom) l10 c10 k10
  have H10 : HasF K mg "on_one_bottom" s_on_one_bottom ["p"] := ⟨_, _, F10, PySem.W.mg_of X G a10, F10.binds (ps := ["p"]) fun _ _ _ _ _ _ us hl => by obtain ⟨_, rfl⟩ := us1 hl; rfl⟩
  have F11 := fun_mk (st := s_sign) l11 c11 k11
  have H11 : HasF K mg "sign" s_sign ["number"] := ⟨_, _, F11, PySem.W.mg_of X G a11, F11.binds (ps := ["number"]) fun _ _ _ _ _ _ us hl => by obtain ⟨_, rfl⟩ := us1 hl; rfl⟩
  have F12 := fun_mk (st := s_side) l12 c12 k12
  have H12 : HasF K mg "side" s_side ["a", "b", "p"] := ⟨_, _, F12, PySem.W.mg_of X G a12, F12.binds (ps := ["a", "b", "p"]) fun _ _ _ _ _ _ us hl => by obtain ⟨_, _, _, rfl⟩ := us3 hl; rfl⟩
  have F13 := fun_mk (st := s_on_straight) l13 c13 k13
  have H13 : HasF K mg "on_straight" s_on_straight ["piece", "p"] := ⟨_, _, F13, PySem.W.mg_of X G a13, F13.binds (ps := ["piece", "p"]) fun _ _ _ _ _ _ us hl => by obtain ⟨_, _, rfl⟩ := us2 hl; rfl⟩
  have F14 := fun_mk (st := s_overlap) l14 c14 k14
  have H14 : HasF K mg "overlap" s_overlap ["one", "other"] := ⟨_, _, F14, PySem.W.mg_of X G a14, F14.binds (ps := ["one", "other"]) fun _ _ _ _ _ _ us hl => by obtain ⟨_, _, rfl⟩ := us2 hl; rfl⟩
  have F15 := fun_mk (st := s_crossing) l15 c15 k15
  have H15 : HasF K mg "crossing" s_crossing ["one", "other"] := ⟨_, _, F15, PySem.W.mg_of X G a15, F15.binds (ps := ["one", "other"]) fun _ _ _ _ _ _ us hl => by obtain ⟨_, _, rfl⟩ := us2 hl; rfl⟩
  have F16 := fun_mk (st := s_common) l16 c16 k16
  have H16 : HasF K mg "common" s_common ["one", "other"] := ⟨_, _, F16, PySem.W.mg_of X G a16, F16.binds (ps := ["one", "other"]) fun _ _ _ _ _ _ us hl => by obtain ⟨_, _, rfl⟩ := us2 hl; rfl⟩
  have F17 := fun_mk (st := s_law_apart) l17 c17 k17
  have H17 : HasF K mg "_law_apart" s_law_apart ["_law_pieces", "_law_whole"] := ⟨_, _, F17, PySem.W.mg_of X G a17, F17.binds (ps := ["_law_pieces", "_law_whole"]) fun _ _ _ _ _ _ us hl => by obtain ⟨_, _, rfl⟩ := us2 hl; rfl⟩
  have F18 := fun_mk (st := s_law_feed) l18 c18 k18
  have H18 : HasF K mg "_law_feed" s_law_feed ["_law_cell"] := ⟨_, _, F18, PySem.W.mg_of X G a18, F18.binds (ps := ["_law_cell"]) fun _ _ _ _ _ _ us hl => by obtain ⟨_, rfl⟩ := us1 hl; rfl⟩
  have F19 := fun_mk (st := s_law_draw) l19 c19 k19
  have H19 : HasF K mg "_law_draw" s_law_draw ["_law_from", "_law_many"] := ⟨_, _, F19, PySem.W.mg_of X G a19, F19.binds (ps := ["_law_from", "_law_many"]) fun _ _ _ _ _ _ us hl => by obtain ⟨_, _, rfl⟩ := us2 hl; rfl⟩
  have F20 := fun_mk (st := s_law_lowest) l20 c20 k20
  have H20 : HasF K mg "_law_lowest" s_law_lowest ["_law_top", "_law_bottom"] := ⟨_, _, F20, PySem.W.mg_of X G a20, F20.binds (ps := ["_law_top", "_law_bottom"]) fun _ _ _ _ _ _ us hl => by obtain ⟨_, _, rfl⟩ := us2 hl; rfl⟩
  have F21 := fun_mk (st := s_law_small) l21 c21 k21
  have H21 : HasF K mg "_law_small" s_law_small ["_law_from"] := ⟨_, _, F21, PySem.W.mg_of X G a21, F21.binds (ps := ["_law_from"]) fun _ _ _ _ _ _ us hl => by obtain ⟨_, rfl⟩ := us1 hl; rfl⟩
  have F22 := fun_mk (st := s_law_spot) l22 c22 k22
  have H22 : HasF K mg "_law_spot" s_law_spot ["_law_from"] := ⟨_, _, F22, PySem.W.mg_of X G a22, F22.binds (ps := ["_law_from"]) fun _ _ _ _ _ _ us hl => by obtain ⟨_, rfl⟩ := us1 hl; rfl⟩
  have F23 := fun_mk (st := s_law_cell_at) l23 c23 k23
  have H23 : HasF K mg "_law_cell_at" s_law_cell_at ["_law_script", "_law_k"] := ⟨_, _, F23, PySem.W.mg_of X G a23, F23.binds (ps := ["_law_script", "_law_k"]) fun _ _ _ _ _ _ us hl => by obtain ⟨_, _, rfl⟩ := us2 hl; rfl⟩
  have F24 := fun_mk (st := s_law_mixed) l24 c24 k24
  have H24 : HasF K mg "_law_mixed" s_law_mixed ["_law_p", "_law_q", "_law_by"] := ⟨_, _, F24, PySem.W.mg_of X G a24, F24.binds (ps := ["_law_p", "_law_q", "_law_by"]) fun _ _ _ _ _ _ us hl => by obtain ⟨_, _, _, rfl⟩ := us3 hl; rfl⟩
  have F25 := fun_mk (st := s_cut) l25 c25 k25
  have H25 : HasF K mg "cut" s_cut ["piece", "p"] := ⟨_, _, F25, PySem.W.mg_of X G a25, F25.binds (ps := ["piece", "p"]) fun _ _ _ _ _ _ us hl => by obtain ⟨_, _, rfl⟩ := us2 hl; rfl⟩
  have F26 := fun_mk (st := s_law) l26 c26 k26
  have n_abs := PySem.W.mg_none_of X G z_abs
  have n_int := PySem.W.mg_none_of X G z_int
  have n_len := PySem.W.mg_none_of X G z_len
  have n_list := PySem.W.mg_none_of X G z_list
  have n_range := PySem.W.mg_none_of X G z_range
  have n_sorted := PySem.W.mg_none_of X G z_sorted
  have n_zip := PySem.W.mg_none_of X G z_zip
  refine ⟨PySem.W.fnOf "law" "law" (defArgs s_law) (defBody s_law) (defScope s_law) .none kV26 dc26 pm26 an26 cd26 ct26, fun s v => .of_eq rfl, fun base _ _ => ?_⟩
  have h_greatest_divisor := has_greatest_divisor (P := l.prog) (w := w) (base := base) H0 n_abs
  have h_ratio := has_ratio (P := l.prog) (w := w) (base := base) H1 h_greatest_divisor
  have h_plus := has_plus (P := l.prog) (w := w) (base := base) H2 h_greatest_divisor
  have h_minus := has_minus (P := l.prog) (w := w) (base := base) H3 h_plus
  have h_times := has_times (P := l.prog) (w := w) (base := base) H4 h_greatest_divisor
  have h_below := has_below (P := l.prog) (w := w) (base := base) H5
  have h_before := has_before (P := l.prog) (w := w) (base := base) H6 h_below
  have h_stretch := has_stretch (P := l.prog) (w := w) (base := base) H7 h_before
  have h_plain_line := has_plain_line (P := l.prog) (w := w) (base := base) H8 h_greatest_divisor
  have h_line := has_line (P := l.prog) (w := w) (base := base) H9 h_minus h_plus h_times h_plain_line
  have h_on_one_bottom := has_on_one_bottom (P := l.prog) (w := w) (base := base) H10
  have h_sign := has_sign (P := l.prog) (w := w) (base := base) H11
  have h_side := has_side (P := l.prog) (w := w) (base := base) H12 h_on_one_bottom h_sign
  have h_on_straight := has_on_straight (P := l.prog) (w := w) (base := base) H13 h_side h_before
  have h_overlap := has_overlap (P := l.prog) (w := w) (base := base) H14 h_before h_stretch
  have h_crossing := has_crossing (P := l.prog) (w := w) (base := base) H15 h_ratio
  have h_common := has_common (P := l.prog) (w := w) (base := base) H16 h_on_straight h_line h_overlap h_crossing
  have h_law_apart := has_law_apart (P := l.prog) (w := w) (base := base) H17 h_common n_range n_len
  have h_law_feed := has_law_feed (P := l.prog) (w := w) (base := base) H18 n_int
  have h_law_draw := has_law_draw (P := l.prog) (w := w) (base := base) H19
  have h_law_lowest := has_law_lowest (P := l.prog) (w := w) (base := base) H20 n_abs
  have h_law_small := has_law_small (P := l.prog) (w := w) (base := base) H21 h_law_draw h_law_lowest
  have h_law_spot := has_law_spot (P := l.prog) (w := w) (base := base) H22 h_law_small
  have h_law_cell_at := has_law_cell_at (P := l.prog) (w := w) (base := base) H23 n_len
  have h_law_mixed := has_law_mixed (P := l.prog) (w := w) (base := base) H24 h_law_lowest n_zip
  have h_cut := has_cut (P := l.prog) (w := w) (base := base) H25 h_on_straight
  exact has_law (P := l.prog) (w := w) (base := base) F26 h_law_cell_at h_law_feed h_law_draw h_law_spot h_law_lowest h_stretch h_law_mixed h_cut h_law_apart n_len n_list n_sorted n_zip
end Lw
def PySem.W.Fast.tw13269540003426091680 : Unit := ()
def PySem.W.Fast.tw4804390204430665189 : Unit := ()
def PySem.W.Fast.tw14201367515203292518 : Unit := ()
def PySem.W.Fast.tw3535930400678923721 : Unit := ()
def PySem.W.Fast.tw1183875305966871433 : Unit := ()
def PySem.W.Fast.tw12586750995639989994 : Unit := ()
def PySem.W.Fast.tw15963419480671524750 : Unit := ()
def PySem.W.Fast.tw15377852905041365520 : Unit := ()
def PySem.W.Fast.tw2831956707382742610 : Unit := ()
def PySem.W.Fast.tw2804454493899197718 : Unit := ()
def PySem.W.Fast.tw6975853549178730294 : Unit := ()
def PySem.W.Fast.tw8367133023526745048 : Unit := ()
def PySem.W.Fast.tw7558121295848940794 : Unit := ()
def PySem.W.Fast.tw7408884790292304411 : Unit := ()
def PySem.W.Fast.tw5089149877460725535 : Unit := ()
def PySem.W.Fast.tw1461290579090181255 : Unit := ()
open PySem PySem.W PyProof.Rows
set_option maxRecDepth 100000 in
set_option maxHeartbeats 0 in
theorem PySem.Challenge.cw_arcmill_k13_whole_stretches_cut_to_piece_holds : PySem.Challenge.rw_arcmill_k13_whole_stretches_cut_to_piece.Holds := by
  w_on; o_law; k_head; (case hw => w_witness2)
  k_fill
  refine Dd.walk_ofD (l := PySem.Challenge.rw_arcmill_k13_whole_stretches_cut_to_piece) (n := 63) (k := 111) (x := "_law_script") (sp := Lw.sp_law) rfl (by decide) rfl ⟨rfl, by decide, by decide⟩ (fun w h Y => PySem.W.kIn_of Y) ?F Lw.law_here
  case F =>
    intro w mg fa h KX G hmg
    refine' Lw.all_mk KX G hmg ?a0 ?l0 ?c0 ?k0 ?a1 ?l1 ?c1 ?k1 ?a2 ?l2 ?c2 ?k2 ?a3 ?l3 ?c3 ?k3 ?a4 ?l4 ?c4 ?k4 ?a5 ?l5 ?c5 ?k5 ?a6 ?l6 ?c6 ?k6 ?a7 ?l7 ?c7 ?k7 ?a8 ?l8 ?c8 ?k8 ?a9 ?l9 ?c9 ?k9 ?a10 ?l10 ?c10 ?k10 ?a11 ?l11 ?c11 ?k11 ?a12 ?l12 ?c12 ?k12 ?a13 ?l13 ?c13 ?k13 ?a14 ?l14 ?c14 ?k14 ?a15 ?l15 ?c15 ?k15 ?a16 ?l16 ?c16 ?k16 ?a17 ?l17 ?c17 ?k17 ?a18 ?l18 ?c18 ?k18 ?a19 ?l19 ?c19 ?k19 ?a20 ?l20 ?c20 ?k20 ?a21 ?l21 ?c21 ?k21 ?a22 ?l22 ?c22 ?k22 ?a23 ?l23 ?c23 ?k23 ?a24 ?l24 ?c24 ?k24 ?a25 ?l25 ?c25 ?k25 ?a26 ?l26 ?c26 ?k26 ?z_abs ?z_int ?z_len ?z_list ?z_range ?z_sorted ?z_zip
    (case a0 => k_is)
    (case l0 => k_is)
    (case c0 => k_is)
    (case k0 => k_is)
    (case a1 => k_is)
    (case l1 => k_is)
    (case c1 => k_is)
    (case k1 => k_is)
    (case a2 => k_is)
    (case l2 => k_is)
    (case c2 => k_is)
    (case k2 => k_is)
    (case a3 => k_is)
    (case l3 => k_is)
    (case c3 => k_is)
    (case k3 => k_is)
    (case a4 => k_is)
    (case l4 => k_is)
    (case c4 => k_is)
    (case k4 => k_is)
    (case a5 => k_is)
    (case l5 => k_is)
    (case c5 => k_is)
    (case k5 => k_is)
    (case a6 => k_is)
    (case l6 => k_is)
    (case c6 => k_is)
    (case k6 => k_is)
    (case a7 => k_is)
    (case l7 => k_is)
    (case c7 => k_is)
    (case k7 => k_is)
    (case a8 => k_is)
    (case l8 => k_is)
    (case c8 => k_is)
    (case k8 => k_is)
    (case a9 => k_is)
    (case l9 => k_is)
    (case c9 => k_is)
    (case k9 => k_is)
    (case a10 => k_is)
    (case l10 => k_is)
    (case c10 => k_is)
    (case k10 => k_is)
    (case a11 => k_is)
    (case l11 => k_is)
    (case c11 => k_is)
    (case k11 => k_is)
    (case a12 => k_is)
    (case l12 => k_is)
    (case c12 => k_is)
    (case k12 => k_is)
    (case a13 => k_is)
    (case l13 => k_is)
    (case c13 => k_is)
    (case k13 => k_is)
    (case a14 => k_is)
    (case l14 => k_is)
    (case c14 => k_is)
    (case k14 => k_is)
    (case a15 => k_is)
    (case l15 => k_is)
    (case c15 => k_is)
    (case k15 => k_is)
    (case a16 => k_is)
    (case l16 => k_is)
    (case c16 => k_is)
    (case k16 => k_is)
    (case a17 => k_is)
    (case l17 => k_is)
    (case c17 => k_is)
    (case k17 => k_is)
    (case a18 => k_is)
    (case l18 => k_is)
    (case c18 => k_is)
    (case k18 => k_is)
    (case a19 => k_is)
    (case l19 => k_is)
    (case c19 => k_is)
    (case k19 => k_is)
    (case a20 => k_is)
    (case l20 => k_is)
    (case c20 => k_is)
    (case k20 => k_is)
    (case a21 => k_is)
    (case l21 => k_is)
    (case c21 => k_is)
    (case k21 => k_is)
    (case a22 => k_is)
    (case l22 => k_is)
    (case c22 => k_is)
    (case k22 => k_is)
    (case a23 => k_is)
    (case l23 => k_is)
    (case c23 => k_is)
    (case k23 => k_is)
    (case a24 => k_is)
    (case l24 => k_is)
    (case c24 => k_is)
    (case k24 => k_is)
    (case a25 => k_is)
    (case l25 => k_is)
    (case c25 => k_is)
    (case k25 => k_is)
    (case a26 => k_is)
    (case l26 => k_is)
    (case c26 => k_is)
    (case k26 => k_is)
    (case z_abs => k_is)
    (case z_int => k_is)
    (case z_len => k_is)
    (case z_list => k_is)
    (case z_range => k_is)
    (case z_sorted => k_is)
    (case z_zip => k_is)


