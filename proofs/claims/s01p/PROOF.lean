import PyProof.Rows.All
import PyFlatLaws
import Wide.All
import OpenK.AllK
import Wide.FinOn
import Open.SpecLaws
import KE.OsGo
import HandS.ForSpec
import HandS.ForMost
import HandS.TryMany
import HandS.Rev
import HandS.Conv
import HandS.TupAny
import HandS.Flow
import HandS.Codes
import HandS.ExcCtx
import HandS.HotCalls
import HandS.More
import HandS.DictTup
import HandS.SortKw
import KE.DataMinMax
import KE.SortData
import HandS.Walk
import HandS.TupLen
import KE.KDictKeyed
import PyProof.Rows.SeqRoads
import HandS.Small
import KE.DataCmp
import PySem.Challenge.RW_keystore_s01_answers
set_option Elab.async false
set_option linter.all false
set_option maxRecDepth 100000
set_option maxHeartbeats 4000000
namespace Ks
open Gv05
/-! ### keys in order -/
theorem less_nil (b : Bytes) : less [] b = (b != []) := rfl
theorem less_cons (x y : Nat) (r s : Bytes) : less (x :: r) (y :: s) = (decide (x < y) || (x == y && less r s)) := rfl
theorem less_irrefl : ∀ a : Bytes, less a a = false
  | [] => rfl
  | x :: r => by
    rw [less_cons, less_irrefl r]
    simp
theorem less_iff_cons {x y : Nat} {r s : Bytes} : less (x :: r) (y :: s) = true ↔ x < y ∨ (x = y ∧ less r s = true) := by
  rw [less_cons]; simp
theorem less_trans : ∀ {a b c : Bytes}, less a b = true → less b c = true → less a c = true
  | [], b, [], h, k => by cases b <;> cases k
  | [], _, _ :: _, _, _ => rfl
  | _ :: _, [], _, h, _ => by cases h
  | _ :: _, _ :: _, [], _, k => by cases k
  | x :: r, y :: s, z :: t, h, k => by
    rw [less_iff_cons] at h k ⊢
    rcases h with h | ⟨h, h'⟩
    · rcases k with k | ⟨k, _⟩
      · exact .inl (by omega)
      · exact .inl (by omega)
    · rcases k with k | ⟨k, k'⟩
      · exact .inl (by omega)
      · exact .inr ⟨by omega, less_trans h' k'⟩
theorem less_total : ∀ {a b : Bytes}, less a b = false → less b a = false → a = b
  | [], [], _, _ => rfl
  | [], _ :: _, h, _ => by cases h
  | _ :: _, [], _, k => by cases k
  | x :: r, y :: s, h, k => by
    have h' : ¬ (x < y ∨ (x = y ∧ less r s = true)) := fun z => by rw [less_iff_cons.mpr z] at h; cases h
    have k' : ¬ (y < x ∨ (y = x ∧ less s r = true)) := fun z => by rw [less_iff_cons.mpr z] at k; cases k
    have e : x = y := by omega
    subst e
    have h2 : less r s = false := by
      cases q : less r s with
      | false => rfl
      | true => exact absurd (.inr ⟨rfl, q⟩) h'
    have k2 : less s r = false := by
      cases q : less s r with
      | false => rfl
      | true => exact absurd (.inr ⟨rfl, q⟩) k'
    rw [less_total h2 k2]
theorem less_asymm {a b : Bytes} (h : less a b = true) : less b a = false := by
  cases q : less b a with
  | false => rfl
  | true =>
    have z := less_trans h q
    rw [less_irrefl] at z
    cases z
theorem less_ne {a b : Bytes} (h : less a b = true) : a ≠ b := by
  intro e; subst e; rw [less_irrefl] at h; cases h
/-- not above, then below: below -/
theorem less_of_le_less {a b c : Bytes} (h : less b a = false) (k : less b c = true) : less a c = true := by
  cases q : less a b with
  | true => exact less_trans q k
  | false => rw [less_total q h]; exact k
theorem less_of_less_le {a b c : Bytes} (h : less a b = true) (k : less c b = false) : less a c = true := by
  cases q : less b c with
  | true => exact less_trans h q
  | false => rw [less_total k q]; exact h
theorem upTo_iff {a b : Bytes} : upTo a b = true ↔ less b a = false := by unfold upTo; cases less b a <;> simp
/-! ### sorted maps, by places -/
/-- how many keys are below -/
def place (m : Map) (k : Bytes) : Nat := (m.filter fun x => less x.1 k).length
/-- how many keys are below or at -/
def placeA (m : Map) (k : Bytes) : Nat := (m.filter fun x => !less k x.1).length
theorem sorted_nil : Sorted [] := List.Pairwise.nil
theorem sorted_tail {x : Bytes × Bytes} {m : Map} (h : Sorted (x :: m)) : Sorted m := (List.pairwise_cons.mp h).2
theorem sorted_head {x : Bytes × Bytes} {m : Map} (h : Sorted (x :: m)) : ∀ y ∈ m, less x.1 y.1 = true := (List.pairwise_cons.mp h).1
/-- a cut of a sorted map by a test that goes from true to false -/
theorem cut_filter (p : Bytes × Bytes → Bool) : ∀ (m : Map), m.Pairwise (fun x y => p y = true → p x = true) →
    m.take (m.filter p).length = m.filter p ∧ m.drop (m.filter p).length = m.filter (fun x => !p x)
  | [], _ => ⟨rfl, rfl⟩
  | x :: m, h => by
    obtain ⟨h1, h2⟩ := List.pairwise_cons.mp h
    obtain ⟨i1, i2⟩ := cut_filter p m h2
    cases q : p x with
    | true =>
      rw [List.filter_cons_of_pos q, List.filter_cons_of_neg (by simp [q])]
      exact ⟨congrArg (x :: ·) i1, i2⟩
    | false =>
      have e : m.filter p = [] := List.filter_eq_nil_iff.mpr fun y hy z => by
        have := h1 y hy z
        rw [q] at this; cases this
      rw [List.filter_cons_of_neg (by simp [q]), List.filter_cons_of_pos (by simp [q]), e]
      refine ⟨rfl, congrArg (x :: ·) ?_⟩
      exact (List.filter_eq_self.mpr fun y hy => by
        cases z : p y with
        | false => rfl
        | true => have := h1 y hy z; rw [q] at this; cases this).symm
theorem cut_at (p : Bytes × Bytes → Bool) : ∀ (m : Map), m.Pairwise (fun x y => p y = true → p x = true) → ∀ (i : Nat) (x : Bytes × Bytes), m[i]? = some x → (p x = true ↔ i < (m.filter p).length)
  | [], _, i, x, e => by simp at e
  | y :: m, h, i, x, e => by
    obtain ⟨h1, h2⟩ := List.pairwise_cons.mp h
    cases q : p y with
    | true =>
      rw [List.filter_cons_of_pos q]
      cases i with
      | zero =>
        have e' : y = x := Option.some.inj e
        subst e'
        simp [q]
      | succ i =>
        have := cut_at p m h2 i x e
        rw [this]; simp
    | false =>
      have e0 : m.filter p = [] := List.filter_eq_nil_iff.mpr fun y hy z => by
        have := h1 y hy z
        rw [q] at this; cases this
      rw [List.filter_cons_of_neg (by simp [q]), e0]
      cases i with
      | zero =>
        have e' : y = x := Option.some.inj e
        subst e'
        simp [q]
      | succ i =>
        have hx : x ∈ m := List.mem_of_getElem? e
        constructor
        · intro z
          have := h1 x hx z
          rw [q] at this; cases this
        · intro z; exact absurd z (Nat.not_lt_zero _)
theorem mono_less {m : Map} (h : Sorted m) (k : Bytes) : m.Pairwise (fun x y => less y.1 k = true → less x.1 k = true) :=
  h.imp fun hxy z => less_trans hxy z
theorem mono_le {m : Map} (h : Sorted m) (k : Bytes) : m.Pairwise (fun x y => (!less k y.1) = true → (!less k x.1) = true) :=
  h.imp fun {x y} hxy z => by
    cases q : less k x.1 with
    | false => rfl
    | true => rw [less_trans q hxy] at z; cases z
theorem take_place {m : Map} (h : Sorted m) (k : Bytes) : m.take (place m k) = m.filter fun x => less x.1 k := (cut_filter _ m (mono_less h k)).1
theorem drop_place {m : Map} (h : Sorted m) (k : Bytes) : m.drop (place m k) = m.filter fun x => !less x.1 k := (cut_filter _ m (mono_less h k)).2
theorem take_placeA {m : Map} (h : Sorted m) (k : Bytes) : m.take (placeA m k) = m.filter fun x => !less k x.1 := (cut_filter _ m (mono_le h k)).1
theorem drop_placeA {m : Map} (h : Sorted m) (k : Bytes) : m.drop (placeA m k) = m.filter fun x => less k x.1 := by
  have e := (cut_filter _ m (mono_le h k)).2
  simpa [placeA] using e
theorem at_place {m : Map} (h : Sorted m) (k : Bytes) {i : Nat} {x : Bytes × Bytes} (e : m[i]? = some x) : less x.1 k = true ↔ i < place m k := cut_at _ m (mono_less h k) i x e
theorem at_placeA {m : Map} (h : Sorted m) (k : Bytes) {i : Nat} {x : Bytes × Bytes} (e : m[i]? = some x) : less k x.1 = false ↔ i < placeA m k := by
  have := cut_at _ m (mono_le h k) i x e
  rw [← show _ ↔ i < placeA m k from this]; simp
theorem place_le (m : Map) (k : Bytes) : place m k ≤ m.length := List.length_filter_le _ _
theorem placeA_le (m : Map) (k : Bytes) : placeA m k ≤ m.length := List.length_filter_le _ _
/-! ### look-up -/
theorem lookup_cons (x : Bytes × Bytes) (m : Map) (k : Bytes) : lookup (x :: m) k = if x.1 = k then some x.2 else lookup m k := by
  unfold lookup
  by_cases e : x.1 = k
  · rw [List.find?_cons_of_pos (by simp [e]), if_pos e]; rfl
  · rw [List.find?_cons_of_neg (by simp [e]), if_neg e]
theorem lookup_none_of {m : Map} {k : Bytes} (h : ∀ x ∈ m, x.1 ≠ k) : lookup m k = none := by
  induction m with
  | nil => rfl
  | cons x m ih =>
    rw [lookup_cons, if_neg (h x List.mem_cons_self)]
    exact ih fun y hy => h y (List.mem_cons_of_mem _ hy)
theorem lookup_mem {m : Map} {k v : Bytes} (h : lookup m k = some v) : (k, v) ∈ m := by
  induction m with
  | nil => cases h
  | cons x m ih =>
    rw [lookup_cons] at h
    by_cases e : x.1 = k
    · rw [if_pos e] at h
      have e2 := Option.some.inj h
      subst e; subst e2
      exact List.mem_cons_self
    · rw [if_neg e] at h
      exact List.mem_cons_of_mem _ (ih h)
theorem lookup_of_mem {m : Map} (h : Sorted m) {k v : Bytes} (e : (k, v) ∈ m) : lookup m k = some v := by
  induction m with
  | nil => cases e
  | cons x m ih =>
    rw [lookup_cons]
    rcases List.mem_cons.mp e with e | e
    · subst e; simp
    · have := sorted_head h _ e
      rw [if_neg (less_ne this)]
      exact ih (sorted_tail h) e
/-- the key stands at its place, or isn't there -/
theorem lookup_at {m : Map} (h : Sorted m) (k : Bytes) : lookup m k = match m[place m k]? with
    | some x => if x.1 = k then some x.2 else none
    | none => none := by
  cases e : m[place m k]? with
  | none =>
    refine lookup_none_of fun x hx z => ?_
    obtain ⟨i, hi⟩ := List.mem_iff_getElem?.mp hx
    have q : ¬ less x.1 k = true := by rw [z, less_irrefl]; simp
    rw [at_place h k hi] at q
    have l1 := List.getElem?_eq_none_iff.mp e
    have l2 : i < m.length := (List.getElem?_eq_some_iff.mp hi).1
    omega
  | some x =>
    show lookup m k = if x.1 = k then some x.2 else none
    by_cases q : x.1 = k
    · rw [if_pos q]
      refine lookup_of_mem h ?_
      rw [← q]
      exact List.mem_of_getElem? e
    · rw [if_neg q]
      refine lookup_none_of fun y hy z => ?_
      obtain ⟨i, hi⟩ := List.mem_iff_getElem?.mp hy
      have a1 : ¬ i < place m k := by
        rw [← at_place h k hi, z, less_irrefl]; simp
      have a2 : ¬ less x.1 k = true := by rw [at_place h k e]; omega
      have a3 : less k x.1 = true := by
        cases r : less k x.1 with
        | true => rfl
        | false => exact absurd (less_total (by simpa using a2) r) q
      by_cases i1 : i = place m k
      · rw [i1, e] at hi
        exact q (by rw [Option.some.inj hi]; exact z)
      · have i2 : place m k < i := by omega
        obtain ⟨l1, e1⟩ := List.getElem?_eq_some_iff.mp e
        obtain ⟨l2, e2⟩ := List.getElem?_eq_some_iff.mp hi
        have := (List.pairwise_iff_getElem.mp h) (place m k) i l1 l2 i2
        rw [e1, e2] at this
        rw [z] at this
        rw [less_asymm this] at a3; cases a3
/-! ### the next, the one before -/
theorem find_head {α : Type} (p : α → Bool) : ∀ m : List α, m.find? p = (m.filter p).head?
  | [] => rfl
  | x :: m => by
    cases q : p x with
    | true => rw [List.find?_cons_of_pos q, List.filter_cons_of_pos q]; rfl
    | false => rw [List.find?_cons_of_neg (by simp [q]), List.filter_cons_of_neg (by simp [q]), find_head p m]
theorem above_or_at (k : Bytes) (x : Bytes × Bytes) : (less k x.1 || (true && x.1 == k)) = !less x.1 k := by
  cases q : less x.1 k with
  | true =>
    rw [less_asymm q]
    have := less_ne q
    simp [this]
  | false =>
    cases r : less k x.1 with
    | true => rfl
    | false => simp [less_total q r]
theorem below_or_at (k : Bytes) (x : Bytes × Bytes) : (less x.1 k || (true && x.1 == k)) = !less k x.1 := by
  cases q : less k x.1 with
  | true =>
    rw [less_asymm q]
    have := less_ne q
    simp [Ne.symm this]
  | false =>
    cases r : less x.1 k with
    | true => rfl
    | false => simp [less_total r q]
theorem following_true {m : Map} (h : Sorted m) (k : Bytes) : following m k true = m[place m k]? := by
  unfold following
  rw [find_head, List.filter_congr (q := fun x => !less x.1 k) (fun x _ => above_or_at k x), ← drop_place h k, List.head?_drop]
theorem following_false {m : Map} (h : Sorted m) (k : Bytes) : following m k false = m[placeA m k]? := by
  unfold following
  rw [find_head, List.filter_congr (q := fun x => less k x.1) (fun x _ => by simp), ← drop_placeA h k, List.head?_drop]
theorem take_last {α : Type} (m : List α) (n : Nat) (h : n ≤ m.length) : (m.take n).getLast? = if n = 0 then none else m[n - 1]? := by
  cases n with
  | zero => rfl
  | succ n =>
    rw [List.getLast?_eq_getElem?, List.length_take, Nat.min_eq_left h, if_neg (Nat.succ_ne_zero n), List.getElem?_take, if_pos (by omega)]
theorem preceding_true {m : Map} (h : Sorted m) (k : Bytes) : preceding m k true = if placeA m k = 0 then none else m[placeA m k - 1]? := by
  unfold preceding
  rw [List.filter_congr (q := fun x => !less k x.1) (fun x _ => below_or_at k x), ← take_placeA h k, take_last m _ (placeA_le m k)]
theorem preceding_false {m : Map} (h : Sorted m) (k : Bytes) : preceding m k false = if place m k = 0 then none else m[place m k - 1]? := by
  unfold preceding
  rw [List.filter_congr (q := fun x => less x.1 k) (fun x _ => by simp), ← take_place h k, take_last m _ (place_le m k)]
/-! ### put, remove -/
/-- the place behind the key's own -/
def behind (m : Map) (k : Bytes) : Nat := match m[place m k]? with
  | some x => if x.1 = k then place m k + 1 else place m k
  | none => place m k
theorem behind_is {m : Map} (h : Sorted m) (k : Bytes) : behind m k = placeA m k := by
  unfold behind
  cases e : m[place m k]? with
  | none =>
    have l := List.getElem?_eq_none_iff.mp e
    have l2 := place_le m k
    show place m k = placeA m k
    have l3 := placeA_le m k
    have hp : place m k = m.length := by omega
    by_cases c : placeA m k = m.length
    · omega
    · have lt : placeA m k < m.length := by omega
      have q := List.getElem?_eq_getElem lt
      have a := at_place h k q
      have b := at_placeA h k q
      have a' : less (m[placeA m k]).1 k = true := a.mpr (by omega)
      have b' := b.mp (less_asymm a')
      omega
  | some x =>
    show (if x.1 = k then place m k + 1 else place m k) = placeA m k
    have a := at_place h k e
    have b := at_placeA h k e
    have na : less x.1 k = false := by
      cases q : less x.1 k with
      | false => rfl
      | true => exact absurd (a.mp q) (Nat.lt_irrefl _)
    obtain ⟨l1, e1⟩ := List.getElem?_eq_some_iff.mp e
    by_cases q : x.1 = k
    · rw [if_pos q]
      have b1 : place m k < placeA m k := b.mp (by rw [q]; exact less_irrefl k)
      by_cases c : placeA m k ≤ place m k + 1
      · omega
      · have lt : place m k + 1 < m.length := by have := placeA_le m k; omega
        have r := at_placeA h k (List.getElem?_eq_getElem lt)
        have s := (List.pairwise_iff_getElem.mp h) (place m k) (place m k + 1) l1 lt (by omega)
        rw [e1, q] at s
        have := r.mpr (by omega)
        rw [s] at this; cases this
    · rw [if_neg q]
      have c : ¬ place m k < placeA m k := fun z => q (less_total na (b.mpr z))
      by_cases d : placeA m k = place m k
      · exact d.symm
      · have lt : placeA m k < m.length := by omega
        have q1 := List.getElem?_eq_getElem lt
        have a1 := (at_place h k q1).mpr (by omega)
        have := (at_placeA h k q1).mp (less_asymm a1)
        omega
theorem put_is {m : Map} (h : Sorted m) (k v : Bytes) : put m k v = m.take (place m k) ++ (k, v) :: m.drop (behind m k) := by
  rw [behind_is h, take_place h, drop_placeA h]; rfl
theorem filter_ne (k : Bytes) : ∀ m : Map, Sorted m → m.filter (fun x => x.1 != k) = m.filter (fun x => less x.1 k) ++ m.filter (fun x => less k x.1)
  | [], _ => rfl
  | x :: m, h => by
    have ih := filter_ne k m (sorted_tail h)
    cases q : less x.1 k with
    | true =>
      have n1 : (x.1 != k) = true := by simpa using less_ne q
      simp only [List.filter_cons, q, less_asymm q, n1, ih, if_true, List.cons_append]
      rfl
    | false =>
      have e0 : m.filter (fun x => less x.1 k) = [] := List.filter_eq_nil_iff.mpr fun y hy z => by
        have := less_trans (sorted_head h y hy) z
        rw [q] at this; cases this
      rw [e0] at ih
      cases r : less k x.1 with
      | true =>
        have n1 : (x.1 != k) = true := by simpa using Ne.symm (less_ne r)
        simp only [List.filter_cons, q, r, n1, ih, e0, if_true, List.nil_append]
        rfl
      | false =>
        have e : x.1 = k := less_total q r
        have n1 : (x.1 != k) = false := by simp [e]
        simp only [List.filter_cons, q, r, n1, ih, e0, List.nil_append]
        rfl
theorem remove_is {m : Map} (h : Sorted m) (k : Bytes) : remove m k = m.take (place m k) ++ m.drop (behind m k) := by
  rw [behind_is h, take_place h, drop_placeA h]
  exact filter_ne k m h
/-! ### maps stay sorted -/
theorem sorted_put {m : Map} (h : Sorted m) (k v : Bytes) : Sorted (put m k v) := by
  unfold put Sorted
  rw [List.pairwise_append]
  refine ⟨List.Pairwise.filter _ h, List.pairwise_cons.mpr ⟨fun y hy => ?_, List.Pairwise.filter _ h⟩, fun x hx y hy => ?_⟩
  · exact (List.mem_filter.mp hy).2
  · have a := (List.mem_filter.mp hx).2
    rcases List.mem_cons.mp hy with e | e
    · rw [e]; exact a
    · exact less_trans a (List.mem_filter.mp e).2
theorem sorted_remove {m : Map} (h : Sorted m) (k : Bytes) : Sorted (remove m k) := List.Pairwise.filter _ h
theorem sorted_does {m : Map} (h : Sorted m) (c : Change) : Sorted (does m c) := by
  unfold does
  cases effect c (lookup m c.key) with
  | some v => exact sorted_put h _ _
  | none => exact sorted_remove h _
theorem put_self {m : Map} (h : Sorted m) {k v : Bytes} (e : lookup m k = some v) : put m k v = m := by
  have hl := lookup_at h k
  rw [e] at hl
  rw [put_is h]
  unfold behind
  cases q : m[place m k]? with
  | none => rw [q] at hl; cases hl
  | some x =>
    rw [q] at hl
    have hl' : some v = if x.1 = k then some x.2 else none := hl
    by_cases c : x.1 = k
    · rw [if_pos c] at hl'
      have e2 := Option.some.inj hl'
      show m.take (place m k) ++ (k, v) :: m.drop (if x.1 = k then place m k + 1 else place m k) = m
      rw [if_pos c]
      obtain ⟨l1, e1⟩ := List.getElem?_eq_some_iff.mp q
      have : (k, v) = m[place m k] := by rw [e1, ← c, e2]
      rw [this, List.getElem_cons_drop, List.take_append_drop]
    · rw [if_neg c] at hl'; cases hl'
/-- a change as the specification does it on plain maps -/
theorem change_does {m : Map} (h : Sorted m) (c : Change) (w : Unit) : change maps m c w = .ret (.ok (does m c), w) := by
  cases c with
  | put k v => rfl
  | remove k => rfl
  | add k n =>
    show (match effect (.add k n) (lookup m k) with
      | some x => if lookup m k = some x ∧ ((lookup m k).bind countOf).isNone = true then (give m : M Unit Unit Map) else maps.put m k x
      | none => give m) w = .ret (.ok (match effect (.add k n) (lookup m k) with
      | some v => put m k v
      | none => remove m k), w)
    cases e : lookup m k with
    | none =>
      show (if (none : Option Bytes) = some (countBytes n) ∧ ((none : Option Bytes).bind countOf).isNone = true then (give m : M Unit Unit Map) else maps.put m k (countBytes n)) w = _
      rw [if_neg (by simp)]; rfl
    | some b =>
      cases q : countOf b with
      | none =>
        have e1 : effect (.add k n) (some b) = some b := by simp only [effect, q]
        rw [e1]
        show (if some b = some b ∧ (((some b : Option Bytes)).bind countOf).isNone = true then (give m : M Unit Unit Map) else maps.put m k b) w = .ret (.ok (put m k b), w)
        rw [if_pos ⟨rfl, by show (countOf b).isNone = true; rw [q]; rfl⟩, put_self h e]; rfl
      | some z =>
        have e1 : effect (.add k n) (some b) = some (countBytes (z + n)) := by simp only [effect, q]
        rw [e1]
        show (if some b = some (countBytes (z + n)) ∧ (((some b : Option Bytes)).bind countOf).isNone = true then (give m : M Unit Unit Map) else maps.put m k (countBytes (z + n))) w = _
        rw [if_neg (by
          intro ⟨_, z⟩
          have z' : (countOf b).isNone = true := z
          rw [q] at z'; cases z')]; rfl
theorem apply_does : ∀ (l : List Change) {m : Map}, Sorted m → ∀ w : Unit, apply maps l m w = .ret (.ok (l.foldl does m), w)
  | [], _, _, _ => rfl
  | c :: l, m, h, w => by
    show ((change maps m c).andThen fun s => apply maps l s) w = _
    unfold M.andThen
    rw [change_does h c w]
    exact apply_does l (sorted_does h c) w
end Ks
namespace Ks
open Gv05
/-! ### numbers as bytes -/
def low (z : Int) (n : Nat) : Bytes := (List.range n).map fun i => (z / 256 ^ i % 256).toNat
theorem low_zero (z : Int) : low z 0 = [] := rfl
theorem low_succ (z : Int) (n : Nat) : low z (n + 1) = low z n ++ [(z / 256 ^ n % 256).toNat] := by
  unfold low
  rw [List.range_succ, List.map_append]; rfl
theorem low_length (z : Int) (n : Nat) : (low z n).length = n := by unfold low; simp
theorem low_next (z : Int) (n : Nat) : z / 256 ^ n / 256 = z / 256 ^ (n + 1) := by
  rw [Int.ediv_ediv_of_nonneg (by exact Int.le_of_lt (Int.pow_pos (by decide))), Int.pow_succ]
theorem low_right (z : Int) (n : Nat) : ∀ x ∈ low z n, x < 256 := by
  intro x hx
  unfold low at hx
  obtain ⟨i, _, e⟩ := List.mem_map.mp hx
  have := Int.emod_lt_of_pos (z / 256 ^ i) (show (0 : Int) < 256 by decide)
  omega
theorem low_count (z : Int) : low z 8 = countBytes z := by
  unfold low countBytes le
  refine List.map_congr_left fun i hi => ?_
  have h : i < 8 := List.mem_range.mp hi
  match i, h with
  | 0, _ => simp only [Int.pow_zero, Nat.pow_zero]; omega
  | 1, _ => omega
  | 2, _ => omega
  | 3, _ => omega
  | 4, _ => omega
  | 5, _ => omega
  | 6, _ => omega
  | 7, _ => omega
theorem low_two (n : Nat) : low (n : Int) 2 = le 2 n := by
  unfold low le
  refine List.map_congr_left fun i hi => ?_
  have h : i < 2 := List.mem_range.mp hi
  match i, h with
  | 0, _ => simp only [Int.pow_zero, Nat.pow_zero]; omega
  | 1, _ => omega
theorem count_mod {a b : Int} (h : a % 2 ^ 64 = b % 2 ^ 64) : countBytes a = countBytes b := by unfold countBytes; rw [h]
/-- the number that eight bytes tell -/
def toldN (b : Bytes) : Int := if (number b : Int) ≥ 9223372036854775808 then (number b : Int) - 18446744073709551616 else (number b : Int)
theorem number_cons (x : Nat) (b : Bytes) : number (x :: b) = x + 256 * number b := rfl
theorem number_lt : ∀ b : Bytes, (∀ x ∈ b, x < 256) → number b < 256 ^ b.length
  | [], _ => by decide
  | x :: b, h => by
    have ih := number_lt b fun y hy => h y (List.mem_cons_of_mem _ hy)
    have hx := h x List.mem_cons_self
    rw [number_cons, List.length_cons, Nat.pow_succ]
    omega
theorem toldN_wrap {b : Bytes} (h : ∀ x ∈ b, x < 256) (hl : b.length = 8) : toldN b = wrap (number b : Int) := by
  have := number_lt b h
  rw [hl] at this
  unfold toldN wrap
  have e : (256 : Nat) ^ 8 = 18446744073709551616 := by decide
  rw [e] at this
  split <;> omega
theorem toldN_mod (b : Bytes) : toldN b % 2 ^ 64 = (number b : Int) % 2 ^ 64 := by
  unfold toldN
  split <;> omega
theorem wrap_mod (z : Int) : wrap z % 2 ^ 64 = z % 2 ^ 64 := by unfold wrap; omega
/-- what add makes of a value -/
def raised (v : Option Bytes) (n : Int) : Bytes := match v with
  | none => low n 8
  | some b => if b.length = 8 then low (toldN b + n) 8 else b
theorem raised_effect (k : Bytes) (v : Option Bytes) (n : Int) : effect (.add k n) v = some (raised v n) := by
  cases v with
  | none =>
    show some (countBytes n) = some (low n 8)
    rw [low_count]
  | some b =>
    show (match countOf b with
      | some m => some (countBytes (m + n))
      | none => some b) = some (if b.length = 8 then low (toldN b + n) 8 else b)
    by_cases h : b.length = 8
    · have e : countOf b = some (wrap (number b : Int)) := if_pos h
      rw [e, if_pos h, low_count]
      refine congrArg some (count_mod ?_)
      have a := toldN_mod b
      have c := wrap_mod (number b : Int)
      omega
    · have e : countOf b = none := if_neg h
      rw [e, if_neg h]
/-! ### records -/
theorem takeKey_some {b : Bytes} {x : Bytes × Bytes} (h : takeKey b = some x) : ∃ n r, b = n :: r ∧ 1 ≤ n ∧ n ≤ 64 ∧ n ≤ r.length ∧ x = (r.take n, r.drop n) := by
  cases b with
  | nil => cases h
  | cons n r =>
    have h' : (if n < 1 ∨ 64 < n ∨ r.length < n then none else some (r.take n, r.drop n)) = some x := h
    by_cases c : n < 1 ∨ 64 < n ∨ r.length < n
    · rw [if_pos c] at h'; cases h'
    · rw [if_neg c] at h'
      exact ⟨n, r, rfl, by omega, by omega, by omega, (Option.some.inj h').symm⟩
theorem takeKey_yes {n : Nat} {r : Bytes} (h1 : 1 ≤ n) (h2 : n ≤ 64) (h3 : n ≤ r.length) : takeKey (n :: r) = some (r.take n, r.drop n) := by
  show (if n < 1 ∨ 64 < n ∨ r.length < n then none else some (r.take n, r.drop n)) = _
  rw [if_neg (by omega)]
theorem takeKey_no {n : Nat} {r : Bytes} (h : n < 1 ∨ 64 < n ∨ r.length < n) : takeKey (n :: r) = none := if_pos h
theorem takeChange_one (r : Bytes) : takeChange (1 :: r) = (takeKey r).bind fun x => if x.2.length < 2 ∨ 300 < number (x.2.take 2) ∨ x.2.length < 2 + number (x.2.take 2) then none else some (.put x.1 ((x.2.drop 2).take (number (x.2.take 2))), x.2.drop (2 + number (x.2.take 2))) := rfl
theorem takeChange_two (r : Bytes) : takeChange (2 :: r) = (takeKey r).map fun x => (.remove x.1, x.2) := rfl
theorem takeChange_three (r : Bytes) : takeChange (3 :: r) = (takeKey r).bind fun x => if x.2.length < 8 then none else (countOf (x.2.take 8)).map fun n => (.add x.1 n, x.2.drop 8) := rfl
theorem takeChange_other {t : Nat} {r : Bytes} (h1 : t ≠ 1) (h2 : t ≠ 2) (h3 : t ≠ 3) : takeChange (t :: r) = none := by
  match t, h1, h2, h3 with
  | 0, _, _, _ => rfl
  | 1, h, _, _ => exact absurd rfl h
  | 2, _, h, _ => exact absurd rfl h
  | 3, _, _, h => exact absurd rfl h
  | t + 4, _, _, _ => rfl
theorem takeChange_nil : takeChange [] = none := rfl
theorem takeChange_short {b : Bytes} {x : Change × Bytes} (h : takeChange b = some x) : x.2.length < b.length := by
  cases b with
  | nil => cases h
  | cons t r =>
    by_cases c1 : t = 1
    · subst c1
      rw [takeChange_one] at h
      obtain ⟨y, hy, h⟩ := Option.bind_eq_some_iff.mp h
      obtain ⟨n, s, rfl, _, _, _, rfl⟩ := takeKey_some hy
      by_cases c : ((s.take n, s.drop n) : Bytes × Bytes).2.length < 2 ∨ 300 < number ((((s.take n, s.drop n) : Bytes × Bytes).2).take 2) ∨ ((s.take n, s.drop n) : Bytes × Bytes).2.length < 2 + number ((((s.take n, s.drop n) : Bytes × Bytes).2).take 2)
      · rw [if_pos c] at h; cases h
      · rw [if_neg c] at h
        have e := Option.some.inj h
        subst e
        simp only [List.length_drop, List.length_cons]
        omega
    · by_cases c2 : t = 2
      · subst c2
        rw [takeChange_two] at h
        obtain ⟨y, hy, h⟩ := Option.map_eq_some_iff.mp h
        obtain ⟨n, s, rfl, _, _, _, rfl⟩ := takeKey_some hy
        subst h
        simp only [List.length_drop, List.length_cons]
        omega
      · by_cases c3 : t = 3
        · subst c3
          rw [takeChange_three] at h
          obtain ⟨y, hy, h⟩ := Option.bind_eq_some_iff.mp h
          obtain ⟨n, s, rfl, _, _, _, rfl⟩ := takeKey_some hy
          by_cases c : ((s.take n, s.drop n) : Bytes × Bytes).2.length < 8
          · rw [if_pos c] at h; cases h
          · rw [if_neg c] at h
            obtain ⟨z, _, e⟩ := Option.map_eq_some_iff.mp h
            subst e
            simp only [List.length_drop, List.length_cons]
            omega
        · rw [takeChange_other c1 c2 c3] at h; cases h
theorem changesFrom_more : ∀ (f g : Nat) (b : Bytes), b.length < f → b.length < g → changesFrom f b = changesFrom g b
  | 0, _, _, h, _ => absurd h (Nat.not_lt_zero _)
  | _, 0, _, _, h => absurd h (Nat.not_lt_zero _)
  | f + 1, g + 1, b, hf, hg => by
    show (if b = [] then some [] else (takeChange b).bind fun x => (changesFrom f x.2).map fun l => x.1 :: l) = (if b = [] then some [] else (takeChange b).bind fun x => (changesFrom g x.2).map fun l => x.1 :: l)
    by_cases c : b = []
    · rw [if_pos c, if_pos c]
    · rw [if_neg c, if_neg c]
      cases e : takeChange b with
      | none => rfl
      | some x =>
        have := takeChange_short e
        show (changesFrom f x.2).map (fun l => x.1 :: l) = (changesFrom g x.2).map (fun l => x.1 :: l)
        rw [changesFrom_more f g x.2 (by omega) (by omega)]
theorem changes_nil : changes [] = some [] := rfl
theorem changes_step {b : Bytes} (h : b ≠ []) : changes b = (takeChange b).bind fun x => (changes x.2).map fun l => x.1 :: l := by
  show (if b = [] then some [] else (takeChange b).bind fun x => (changesFrom b.length x.2).map fun l => x.1 :: l) = _
  rw [if_neg h]
  cases e : takeChange b with
  | none => rfl
  | some x =>
    have := takeChange_short e
    show (changesFrom b.length x.2).map (fun l => x.1 :: l) = (changesFrom (x.2.length + 1) x.2).map (fun l => x.1 :: l)
    rw [changesFrom_more b.length (x.2.length + 1) x.2 this (Nat.lt_succ_self _)]
theorem record_append (l : List Change) (c : Change) : record (l ++ [c]) = record l ++ c.bytes := by
  unfold record
  rw [List.flatMap_append]; simp
theorem over_append (l : List Change) (c : Change) (k : Bytes) (v : Option Bytes) : over (l ++ [c]) k v = if c.key = k then effect c (over l k v) else over l k v := by
  unfold over
  rw [List.foldl_append]; rfl
end Ks
namespace Ks
open Gv05
/-! ### look-ups behind changes -/
theorem lookup_filter {m : Map} (p : Bytes → Bool) (k : Bytes) : lookup (m.filter fun x => p x.1) k = if p k = true then lookup m k else none := by
  induction m with
  | nil => simp [lookup]
  | cons x m ih =>
    by_cases q : p x.1 = true
    · rw [List.filter_cons_of_pos (p := fun x : Bytes × Bytes => p x.1) q, lookup_cons, lookup_cons, ih]
      by_cases e : x.1 = k
      · rw [if_pos e, if_pos e]
        rw [e] at q
        rw [if_pos q]
      · rw [if_neg e, if_neg e]
    · rw [List.filter_cons_of_neg (p := fun x : Bytes × Bytes => p x.1) (by simpa using q), ih, lookup_cons]
      by_cases e : x.1 = k
      · rw [e] at q
        rw [if_neg q, if_neg q]
      · rw [if_neg e]
theorem lookup_append (a b : Map) (k : Bytes) : lookup (a ++ b) k = match lookup a k with
    | some v => some v
    | none => lookup b k := by
  induction a with
  | nil => rfl
  | cons x a ih =>
    rw [List.cons_append, lookup_cons, lookup_cons, ih]
    by_cases e : x.1 = k
    · rw [if_pos e, if_pos e]
    · rw [if_neg e, if_neg e]
theorem lookup_put (m : Map) (k v j : Bytes) : lookup (put m k v) j = if k = j then some v else lookup m j := by
  unfold put
  rw [lookup_append, lookup_filter (fun y => less y k), lookup_cons, lookup_filter (fun y => less k y)]
  by_cases e : k = j
  · subst e
    rw [less_irrefl]
    simp
  · rw [if_neg e, if_neg e]
    cases q : less j k with
    | true =>
      rw [less_asymm q]
      simp
      cases lookup m j <;> rfl
    | false =>
      cases r : less k j with
      | true => simp
      | false => exact absurd (less_total r q) e
theorem lookup_remove (m : Map) (k j : Bytes) : lookup (remove m k) j = if k = j then none else lookup m j := by
  unfold remove
  rw [lookup_filter (fun y => y != k)]
  by_cases e : k = j
  · subst e; simp
  · rw [if_neg e, if_pos (by simpa using Ne.symm e)]
theorem lookup_does (m : Map) (c : Change) (j : Bytes) : lookup (does m c) j = if c.key = j then effect c (lookup m j) else lookup m j := by
  unfold does
  by_cases e : c.key = j
  · rw [if_pos e]
    cases q : effect c (lookup m c.key) with
    | some v => show lookup (put m c.key v) j = _; rw [lookup_put, if_pos e, ← e, q]
    | none => show lookup (remove m c.key) j = _; rw [lookup_remove, if_pos e, ← e, q]
  · rw [if_neg e]
    cases q : effect c (lookup m c.key) with
    | some v => show lookup (put m c.key v) j = _; rw [lookup_put, if_neg e]
    | none => show lookup (remove m c.key) j = _; rw [lookup_remove, if_neg e]
theorem over_cons (c : Change) (l : List Change) (k : Bytes) (v : Option Bytes) : over (c :: l) k v = over l k (if c.key = k then effect c v else v) := rfl
theorem lookup_fold (l : List Change) (m : Map) (k : Bytes) : lookup (l.foldl does m) k = over l k (lookup m k) := by
  induction l generalizing m with
  | nil => rfl
  | cons c l ih => rw [List.foldl_cons, ih, lookup_does, over_cons]
theorem sorted_fold (l : List Change) {m : Map} (h : Sorted m) : Sorted (l.foldl does m) := by
  induction l generalizing m with
  | nil => exact h
  | cons c l ih => exact ih (sorted_does h c)
/-! ### settled keys -/
theorem settled_cons (c : Change) (l : List Change) (k : Bytes) : settled (c :: l) k = ((match c with
    | .put j _ => j == k
    | .remove j => j == k
    | .add _ _ => false) || settled l k) := rfl
theorem over_settled (l : List Change) (k : Bytes) (h : settled l k = true) (u v : Option Bytes) : over l k u = over l k v := by
  induction l generalizing u v with
  | nil => cases h
  | cons c l ih =>
    rw [over_cons, over_cons]
    by_cases s : settled l k = true
    · exact ih s _ _
    · rw [settled_cons, Bool.or_eq_true] at h
      rcases h with h | h
      · cases c with
        | put j x =>
          have e : j = k := by simpa using h
          show over l k (if j = k then some x else u) = over l k (if j = k then some x else v)
          rw [if_pos e, if_pos e]
        | remove j =>
          have e : j = k := by simpa using h
          show over l k (if j = k then none else u) = over l k (if j = k then none else v)
          rw [if_pos e, if_pos e]
        | add j n => cases h
      · exact absurd h s
theorem over_unsettled (l : List Change) (k : Bytes) (h : settled l k = false) (v : Option Bytes) (hv : v.isSome = true ∨ ∃ c ∈ l, c.key = k) : (over l k v).isSome = true := by
  induction l generalizing v with
  | nil =>
    rcases hv with hv | ⟨c, hc, _⟩
    · exact hv
    · cases hc
  | cons c l ih =>
    rw [settled_cons, Bool.or_eq_false_iff] at h
    rw [over_cons]
    refine ih h.2 _ ?_
    by_cases e : c.key = k
    · rw [if_pos e]
      refine .inl ?_
      cases c with
      | put j x => have : j = k := e; simp [this] at h
      | remove j => have : j = k := e; simp [this] at h
      | add j n => rw [raised_effect]; rfl
    · rw [if_neg e]
      rcases hv with hv | ⟨d, hd, hk⟩
      · exact .inl hv
      · rcases List.mem_cons.mp hd with z | z
        · rw [z] at hk; exact absurd hk e
        · exact .inr ⟨d, z, hk⟩
theorem over_none_key (l : List Change) (k : Bytes) (h : ∀ c ∈ l, c.key ≠ k) (v : Option Bytes) : over l k v = v := by
  induction l generalizing v with
  | nil => rfl
  | cons c l ih =>
    rw [over_cons, if_neg (h c List.mem_cons_self)]
    exact ih (fun d hd => h d (List.mem_cons_of_mem _ hd)) v
/-! ### the nearest on a side -/
def dirL (back : Bool) (a b : Bytes) : Bool := if back = true then less b a else less a b
def rng (back : Bool) (k : Bytes) (w : Bool) (x : Bytes) : Bool := (if back = true then less x k else less k x) || (w && x == k)
def near (back : Bool) (m : Map) (k : Bytes) (w : Bool) : Option (Bytes × Bytes) := if back = true then preceding m k w else following m k w
theorem dirL_irrefl (back : Bool) (a : Bytes) : dirL back a a = false := by unfold dirL; cases back <;> exact less_irrefl a
theorem dirL_trans {back : Bool} {a b c : Bytes} (h : dirL back a b = true) (k : dirL back b c = true) : dirL back a c = true := by
  cases back with
  | true => exact less_trans (show less c b = true from k) (show less b a = true from h)
  | false => exact less_trans (show less a b = true from h) (show less b c = true from k)
theorem dirL_total {back : Bool} {a b : Bytes} (h : dirL back a b = false) (k : dirL back b a = false) : a = b := by
  cases back with
  | true => exact less_total (show less a b = false from k) (show less b a = false from h)
  | false => exact less_total (show less a b = false from h) (show less b a = false from k)
theorem dirL_asymm {back : Bool} {a b : Bytes} (h : dirL back a b = true) : dirL back b a = false := by
  cases back with
  | true => exact less_asymm (show less b a = true from h)
  | false => exact less_asymm (show less a b = true from h)
theorem rng_iff {back : Bool} {k : Bytes} {w : Bool} {x : Bytes} : rng back k w x = true ↔ dirL back k x = true ∨ (w = true ∧ x = k) := by
  unfold rng dirL
  rw [Bool.or_eq_true, Bool.and_eq_true, beq_iff_eq]
/-- from a key on: what lies further -/
theorem rng_on {back : Bool} {k : Bytes} {w : Bool} {x y : Bytes} (h : rng back k w x = true) (d : dirL back x y = true) : rng back k w y = true := by
  rw [rng_iff] at h ⊢
  rcases h with h | ⟨_, h⟩
  · exact .inl (dirL_trans h d)
  · subst h; exact .inl d
theorem rng_false {back : Bool} {k x : Bytes} : rng back k false x = dirL back k x := by unfold rng dirL; simp
structure Near (back : Bool) (S : Bytes → Prop) (k : Bytes) (w : Bool) (x : Bytes) : Prop where
  in_ : rng back k w x = true
  has : S x
  least : ∀ y, rng back k w y = true → S y → dirL back y x = false
theorem Near.uniq {back : Bool} {S : Bytes → Prop} {k : Bytes} {w : Bool} {x y : Bytes} (h : Near back S k w x) (g : Near back S k w y) : x = y :=
  dirL_total (g.least x h.in_ h.has) (h.least y g.in_ g.has)
theorem near_filter (back : Bool) (m : Map) (k : Bytes) (w : Bool) : near back m k w = if back = true then (m.filter fun x => rng back k w x.1).getLast? else (m.filter fun x => rng back k w x.1).head? := by
  cases back with
  | true => rfl
  | false => exact find_head _ m
theorem near_mem {back : Bool} {m : Map} {k : Bytes} {w : Bool} {x : Bytes × Bytes} (h : near back m k w = some x) : x ∈ m ∧ rng back k w x.1 = true := by
  rw [near_filter] at h
  have hm : x ∈ m.filter fun x => rng back k w x.1 := by
    cases back with
    | true => exact List.mem_of_getLast? h
    | false => exact List.mem_of_head? h
  exact ⟨(List.mem_filter.mp hm).1, (List.mem_filter.mp hm).2⟩
theorem sorted_last {m : Map} (h : Sorted m) {x : Bytes × Bytes} (e : m.getLast? = some x) : ∀ y ∈ m, less x.1 y.1 = false := by
  intro y hy
  obtain ⟨i, hi⟩ := List.mem_iff_getElem?.mp hy
  rw [List.getLast?_eq_getElem?] at e
  obtain ⟨l1, e1⟩ := List.getElem?_eq_some_iff.mp e
  obtain ⟨l2, e2⟩ := List.getElem?_eq_some_iff.mp hi
  by_cases c : i = m.length - 1
  · have : y = x := by rw [← e1, ← e2]; congr
    rw [this]; exact less_irrefl _
  · have := (List.pairwise_iff_getElem.mp h) i (m.length - 1) l2 l1 (by omega)
    rw [e1, e2] at this
    exact less_asymm this
theorem sorted_first {m : Map} (h : Sorted m) {x : Bytes × Bytes} (e : m.head? = some x) : ∀ y ∈ m, less y.1 x.1 = false := by
  intro y hy
  cases m with
  | nil => cases e
  | cons z m =>
    have e' : z = x := Option.some.inj e
    subst e'
    rcases List.mem_cons.mp hy with q | q
    · rw [q]; exact less_irrefl _
    · exact less_asymm (sorted_head h y q)
theorem near_is {back : Bool} {m : Map} (h : Sorted m) {k : Bytes} {w : Bool} {x : Bytes × Bytes} (e : near back m k w = some x) : Near back (fun y => (lookup m y).isSome = true) k w x.1 ∧ lookup m x.1 = some x.2 := by
  obtain ⟨hm, hr⟩ := near_mem e
  have hl := lookup_of_mem h (k := x.1) (v := x.2) hm
  refine ⟨⟨hr, by rw [hl]; rfl, fun y hy hs => ?_⟩, hl⟩
  obtain ⟨v, hv⟩ := Option.isSome_iff_exists.mp hs
  have hy' : (y, v) ∈ m.filter fun x => rng back k w x.1 := List.mem_filter.mpr ⟨lookup_mem hv, hy⟩
  rw [near_filter] at e
  have sf : Sorted (m.filter fun x => rng back k w x.1) := List.Pairwise.filter _ h
  cases back with
  | true => exact sorted_last sf e _ hy'
  | false => exact sorted_first sf e _ hy'
theorem near_none {back : Bool} {m : Map} {k : Bytes} {w : Bool} (e : near back m k w = none) : ∀ y, rng back k w y = true → lookup m y = none := by
  intro y hy
  cases q : lookup m y with
  | none => rfl
  | some v =>
    have hy' : (y, v) ∈ m.filter fun x => rng back k w x.1 := List.mem_filter.mpr ⟨lookup_mem q, hy⟩
    rw [near_filter] at e
    cases back with
    | true => rw [List.getLast?_eq_none_iff.mp e] at hy'; cases hy'
    | false => rw [List.head?_eq_none_iff.mp e] at hy'; cases hy'
/-- the nearest, told by what it is -/
theorem near_some_of {back : Bool} {m : Map} (h : Sorted m) {k : Bytes} {w : Bool} {x v : Bytes} (n : Near back (fun y => (lookup m y).isSome = true) k w x) (hv : lookup m x = some v) : near back m k w = some (x, v) := by
  cases e : near back m k w with
  | none => rw [near_none e x n.in_] at hv; cases hv
  | some y =>
    obtain ⟨n', hl⟩ := near_is h e
    have := n'.uniq n
    obtain ⟨y1, y2⟩ := y
    have e1 : y1 = x := this
    subst e1
    have e2 : lookup m y1 = some y2 := hl
    rw [hv] at e2
    rw [Option.some.inj e2]
theorem near_none_of {back : Bool} {m : Map} (h : Sorted m) {k : Bytes} {w : Bool} (n : ∀ y, rng back k w y = true → lookup m y = none) : near back m k w = none := by
  cases e : near back m k w with
  | none => rfl
  | some y =>
    obtain ⟨n', hl⟩ := near_is h e
    rw [n _ n'.in_] at hl; cases hl
end Ks
namespace Ks
open Gv05
/-! ### a transaction's next, on plain maps -/
abbrev TM := Txn Map
/-- the value that a transaction sees -/
def seen (t : TM) (k : Bytes) : Option Bytes := over t.list k (lookup t.root k)
theorem seen_is (t : TM) (k : Bytes) : seen t k = lookup (t.list.foldl does t.root) k := (lookup_fold t.list t.root k).symm
def visible (t : TM) : Map := t.list.foldl does t.root
/-- how many changes have their key on that side -/
def ahead (l : List Change) (back : Bool) (k : Bytes) (w : Bool) : Nat := (l.filter fun c => rng back k w c.key).length
theorem ahead_le (l : List Change) (back : Bool) (k : Bytes) (w : Bool) : ahead l back k w ≤ l.length := List.length_filter_le _ _
theorem filter_lt {α : Type} {p q : α → Bool} : ∀ {l : List α}, (∀ x ∈ l, q x = true → p x = true) → (∃ x ∈ l, p x = true ∧ q x = false) → (l.filter q).length < (l.filter p).length
  | [], _, ⟨_, h, _⟩ => by cases h
  | a :: l, hs, ⟨x, hx, hp, hq⟩ => by
    have le : ∀ (m : List α), (∀ x ∈ m, q x = true → p x = true) → (m.filter q).length ≤ (m.filter p).length := by
      intro m
      induction m with
      | nil => intro _; exact Nat.le_refl _
      | cons b m ih =>
        intro h
        have ih := ih fun y hy => h y (List.mem_cons_of_mem _ hy)
        cases qb : q b with
        | true =>
          rw [List.filter_cons_of_pos qb, List.filter_cons_of_pos (h b List.mem_cons_self qb)]
          exact Nat.succ_le_succ ih
        | false =>
          rw [List.filter_cons_of_neg (by simp [qb])]
          cases pb : p b with
          | true => rw [List.filter_cons_of_pos pb]; exact Nat.le_succ_of_le ih
          | false => rw [List.filter_cons_of_neg (by simp [pb])]; exact ih
    have hs' : ∀ y ∈ l, q y = true → p y = true := fun y hy => hs y (List.mem_cons_of_mem _ hy)
    rcases List.mem_cons.mp hx with e | e
    · subst e
      rw [List.filter_cons_of_pos hp, List.filter_cons_of_neg (by simp [hq])]
      exact Nat.lt_succ_of_le (le l hs')
    · have ih := filter_lt hs' ⟨x, e, hp, hq⟩
      cases qa : q a with
      | true =>
        rw [List.filter_cons_of_pos qa, List.filter_cons_of_pos (hs a List.mem_cons_self qa)]
        exact Nat.succ_lt_succ ih
      | false =>
        rw [List.filter_cons_of_neg (by simp [qa])]
        cases pa : p a with
        | true => rw [List.filter_cons_of_pos pa]; exact Nat.lt_succ_of_lt ih
        | false => rw [List.filter_cons_of_neg (by simp [pa])]; exact ih
theorem maps_near (back : Bool) (m : Map) (k : Bytes) (w : Bool) : (if back = true then maps.before else maps.next) m k w = give (near back m k w) := by
  cases back <;> rfl
/-- of the root's keys that have a value still -/
def rootHas (t : TM) (y : Bytes) : Prop := (lookup t.root y).isSome = true ∧ (seen t y).isSome = true
theorem rootNext_is (t : TM) (h : Sorted t.root) (back : Bool) : ∀ (f : Nat) (k : Bytes) (w : Bool), ahead t.list back k w < f →
    ∃ r, Txn.rootNext maps t back f k w = (give r : M Unit Unit _) ∧ (∀ x, r = some x → Near back (rootHas t) k w x.1 ∧ seen t x.1 = some x.2) ∧ (r = none → ∀ y, rng back k w y = true → ¬ rootHas t y)
  | 0, _, _, hf => absurd hf (Nat.not_lt_zero _)
  | f + 1, k, w, hf => by
    have e0 : Txn.rootNext maps t back (f + 1) k w = ((if back = true then maps.before else maps.next) t.root k w).andThen fun x => match x with
      | none => give none
      | some y => match over t.list y.1 (some y.2) with
        | some v => give (some (y.1, v))
        | none => Txn.rootNext maps t back f y.1 false := rfl
    rw [e0, maps_near]
    cases e : near back t.root k w with
    | none =>
      refine ⟨none, rfl, fun x z => (by cases z), fun _ y hy hh => ?_⟩
      have hh1 := hh.1
      rw [near_none e y hy] at hh1
      cases hh1
    | some x =>
      obtain ⟨n, hl⟩ := near_is h e
      have hsx : seen t x.1 = over t.list x.1 (some x.2) := by unfold seen; rw [hl]
      cases q : over t.list x.1 (some x.2) with
      | some v =>
        refine ⟨some (x.1, v), ?_, fun z ez => ?_, fun z => (by cases z)⟩
        · show (give (some x) : M Unit Unit _).andThen _ = _
          funext w'
          show (match over t.list x.1 (some x.2) with
            | some v => give (some (x.1, v))
            | none => Txn.rootNext maps t back f x.1 false : M Unit Unit _) w' = _
          rw [q]
        · have ez' := Option.some.inj ez
          subst ez'
          refine ⟨⟨n.in_, ⟨n.has, ?_⟩, fun y hy hh => n.least y hy hh.1⟩, ?_⟩
          · rw [hsx, q]; rfl
          · rw [hsx, q]
      | none =>
        have key : ∃ c ∈ t.list, c.key = x.1 := by
          by_cases c : ∃ c ∈ t.list, c.key = x.1
          · exact c
          · rw [over_none_key t.list x.1 (fun d hd z => c ⟨d, hd, z⟩)] at q; cases q
        have less1 : ahead t.list back x.1 false < ahead t.list back k w := by
          refine filter_lt (fun c _ hc => ?_) ?_
          · rw [rng_false] at hc
            exact rng_on n.in_ hc
          · obtain ⟨c, hc, ec⟩ := key
            refine ⟨c, hc, ?_, ?_⟩
            · rw [ec]; exact n.in_
            · rw [ec, rng_false]; exact dirL_irrefl back x.1
        obtain ⟨r, er, h1, h2⟩ := rootNext_is t h back f x.1 false (by omega)
        have off : ∀ y, rng back k w y = true → rootHas t y → rng back x.1 false y = true := fun y hy hh => by
          rw [rng_false]
          have a := n.least y hy hh.1
          cases d : dirL back x.1 y with
          | true => rfl
          | false =>
            have := dirL_total d a
            rw [← this] at hh
            have := hh.2
            rw [hsx, q] at this; cases this
        refine ⟨r, ?_, fun z ez => ?_, fun ez y hy hh => h2 ez y (off y hy hh) hh⟩
        · funext w'
          show (match over t.list x.1 (some x.2) with
            | some v => give (some (x.1, v))
            | none => Txn.rootNext maps t back f x.1 false : M Unit Unit _) w' = _
          rw [q]
          exact congrFun er w'
        · obtain ⟨nz, sz⟩ := h1 z ez
          refine ⟨⟨?_, nz.has, fun y hy hh => nz.least y (off y hy hh) hh⟩, sz⟩
          have := nz.in_
          rw [rng_false] at this
          exact rng_on n.in_ this
/-! the transaction's own keys -/
theorem mem_own {t : TM} {q : Bytes} : q ∈ t.own ↔ (∃ c ∈ t.list, c.key = q) ∧ (settled t.list q = false ∨ (over t.list q none).isSome = true) := by
  unfold Txn.own
  rw [List.mem_filter, List.mem_eraseDups, List.mem_map]
  simp
theorem fold_pick (back : Bool) : ∀ (l : List Bytes) (a : Option Bytes), ∃ r, l.foldl (fun (m : Option Bytes) (x : Bytes) => match m with
      | none => some x
      | some y => if (if back = true then less y x else less x y) = true then some x else some y) a = r ∧
    (r = none → a = none ∧ l = []) ∧ (∀ x, r = some x → (a = some x ∨ x ∈ l) ∧ (∀ y, a = some y → dirL back y x = false) ∧ ∀ y ∈ l, dirL back y x = false)
  | [], a => ⟨a, rfl, fun h => ⟨h, rfl⟩, fun x hx => ⟨.inl hx, fun y hy => by rw [hx] at hy; rw [Option.some.inj hy]; exact dirL_irrefl back y, fun _ h => by cases h⟩⟩
  | z :: l, a => by
    have step : ∀ b : Bytes, (b = z ∨ a = some b) → dirL back z b = false → (∀ y, a = some y → dirL back y b = false) → (∀ r, (∃ r', l.foldl (fun (m : Option Bytes) (x : Bytes) => match m with
      | none => some x
      | some y => if (if back = true then less y x else less x y) = true then some x else some y) (some b) = r' ∧ r' = r) → (r = none → a = none ∧ z :: l = []) ∧ (∀ x, r = some x → (a = some x ∨ x ∈ z :: l) ∧ (∀ y, a = some y → dirL back y x = false) ∧ ∀ y ∈ z :: l, dirL back y x = false)) := by
      intro b hb hz ha r ⟨r', e1, e2⟩
      obtain ⟨r'', e3, h1, h2⟩ := fold_pick back l (some b)
      have er : r'' = r := by rw [← e3, e1, e2]
      subst er
      refine ⟨fun hn => ?_, fun x hx => ?_⟩
      · have := (h1 hn).1; cases this
      · obtain ⟨p1, p2, p3⟩ := h2 x hx
        have bx := p2 b rfl
        have tr : ∀ y, dirL back y b = false → dirL back y x = false := fun y hy => by
          cases d : dirL back y x with
          | false => rfl
          | true =>
            -- y before x; b is not before x: so x is at or before b, y before b
            cases d2 : dirL back x b with
            | true => rw [dirL_trans d d2] at hy; cases hy
            | false => rw [dirL_total bx d2] at hy; rw [d] at hy; cases hy
        refine ⟨?_, fun y hy => tr y (ha y hy), fun y hy => ?_⟩
        · rcases p1 with p1 | p1
          · have e := Option.some.inj p1
            subst e
            rcases hb with hb | hb
            · exact .inr (by rw [hb]; exact List.mem_cons_self)
            · exact .inl hb
          · exact .inr (List.mem_cons_of_mem _ p1)
        · rcases List.mem_cons.mp hy with e | e
          · rw [e]; exact tr z hz
          · exact p3 y e
    cases a with
    | none => exact ⟨_, rfl, (step z (.inl rfl) (dirL_irrefl back z) (fun y hy => by cases hy) _ ⟨_, rfl, rfl⟩).1, (step z (.inl rfl) (dirL_irrefl back z) (fun y hy => by cases hy) _ ⟨_, rfl, rfl⟩).2⟩
    | some y =>
      by_cases c : (if back = true then less y z else less z y) = true
      · have d : dirL back z y = true := c
        have hh := step z (.inl rfl) (dirL_irrefl back z) (fun y' hy => by rw [← Option.some.inj hy]; exact dirL_asymm d) _ ⟨_, rfl, rfl⟩
        refine ⟨_, rfl, ?_⟩
        show (_ → _) ∧ _
        simp only [List.foldl_cons, c, if_true]
        exact hh
      · have d : dirL back z y = false := by
          have : ¬ dirL back z y = true := c
          simpa using this
        have hh := step y (.inr rfl) d (fun y' hy => by rw [← Option.some.inj hy]; exact dirL_irrefl back y) _ ⟨_, rfl, rfl⟩
        refine ⟨_, rfl, ?_⟩
        show (_ → _) ∧ _
        simp only [List.foldl_cons, c, if_false]
        exact hh
theorem ownNext_is (t : TM) (back : Bool) (k : Bytes) (w : Bool) : (∀ q, t.ownNext back k w = some q → Near back (fun y => y ∈ t.own) k w q) ∧ (t.ownNext back k w = none → ∀ y, rng back k w y = true → ¬ y ∈ t.own) := by
  have fe : ∀ x : Bytes, ((if back = true then less x k else less k x) || (w && x == k)) = rng back k w x := fun _ => rfl
  obtain ⟨r, er, h1, h2⟩ := fold_pick back (t.own.filter fun x => rng back k w x) none
  have e : t.ownNext back k w = r := er
  rw [e]
  refine ⟨fun q hq => ?_, fun hn y hy hm => ?_⟩
  · obtain ⟨p1, _, p3⟩ := h2 q hq
    rcases p1 with p1 | p1
    · cases p1
    · obtain ⟨m1, m2⟩ := List.mem_filter.mp p1
      exact ⟨m2, m1, fun y hy hm => p3 y (List.mem_filter.mpr ⟨hm, hy⟩)⟩
  · have : y ∈ (t.own.filter fun x => rng back k w x) := List.mem_filter.mpr ⟨hm, hy⟩
    rw [(h1 hn).2] at this
    cases this
/-- the stretch that a next (before) looks at -/
def stretchOf (back : Bool) (k : Bytes) (r : Option (Bytes × Bytes)) : Look := match r with
  | some z => if back = true then .stretch z.1 (some k) else .stretch k (some z.1)
  | none => if back = true then .stretch [] (some k) else .stretch k none
theorem seen_own {t : TM} {q : Bytes} (h : q ∈ t.own) : (seen t q).isSome = true := by
  obtain ⟨hk, hs⟩ := mem_own.mp h
  unfold seen
  cases s : settled t.list q with
  | true =>
    rcases hs with hs | hs
    · rw [s] at hs; cases hs
    · rw [over_settled t.list q s _ none]; exact hs
  | false => exact over_unsettled t.list q s _ (.inr hk)
theorem own_of_seen {t : TM} {q : Bytes} (h : (seen t q).isSome = true) (hr : lookup t.root q = none) : q ∈ t.own := by
  unfold seen at h
  rw [hr] at h
  refine mem_own.mpr ⟨?_, .inr h⟩
  by_cases c : ∃ c ∈ t.list, c.key = q
  · exact c
  · rw [over_none_key t.list q (fun d hd z => c ⟨d, hd, z⟩)] at h; cases h
/-- the nearer of the two -/
def pick (t : TM) (back : Bool) (x : Option (Bytes × Bytes)) (o : Option Bytes) : Option (Bytes × Bytes) := match x, o with
  | none, none => none
  | some y, none => some y
  | none, some q => (over t.list q none).map fun v => (q, v)
  | some y, some q => if (if back = true then less y.1 q else less q y.1) = true then (over t.list q none).map fun v => (q, v) else some y
/-- **next, before**: the nearest of what the transaction sees -/
theorem next_is (t : TM) (h : Sorted t.root) (back : Bool) (k : Bytes) (w : Bool) :
    Txn.next maps t back k w = (give (t.looked (stretchOf back k (near back (visible t) k w)), near back (visible t) k w) : M Unit Unit _) := by
  obtain ⟨r, er, h1, h2⟩ := rootNext_is t h back (t.list.length + 1) k w (Nat.lt_succ_of_le (ahead_le _ _ _ _))
  obtain ⟨o1, o2⟩ := ownNext_is t back k w
  have sv : Sorted (visible t) := sorted_fold t.list h
  have lv : ∀ y, lookup (visible t) y = seen t y := fun y => (seen_is t y).symm
  -- what is seen stands in the root still, or is its own
  have split : ∀ y, (seen t y).isSome = true → rootHas t y ∨ (y ∈ t.own ∧ lookup t.root y = none) := fun y hy => by
    cases q : lookup t.root y with
    | none => exact .inr ⟨own_of_seen hy q, rfl⟩
    | some v => exact .inl ⟨by rw [q]; rfl, hy⟩
  have key : ∀ res : Option (Bytes × Bytes), pick t back r (t.ownNext back k w) = res → res = near back (visible t) k w := by
    intro res hres
    cases er' : r with
    | none =>
      cases eo : t.ownNext back k w with
      | none =>
        rw [er', eo] at hres
        rw [← hres]
        refine (near_none_of sv fun y hy => ?_).symm
        rw [lv]
        cases q : seen t y with
        | none => rfl
        | some v =>
          rcases split y (by rw [q]; rfl) with z | z
          · exact absurd z (h2 er' y hy)
          · exact absurd z.1 (o2 eo y hy)
      | some q =>
        rw [er', eo] at hres
        have nq := o1 q eo
        have sq := seen_own nq.has
        have hr : lookup t.root q = none := by
          cases z : lookup t.root q with
          | none => rfl
          | some v => exact absurd ⟨by rw [z]; rfl, sq⟩ (h2 er' q nq.in_)
        obtain ⟨v, hv⟩ := Option.isSome_iff_exists.mp sq
        have hv' : over t.list q none = some v := by unfold seen at hv; rw [hr] at hv; exact hv
        have hres' : (over t.list q none).map (fun v => (q, v)) = res := hres
        rw [hv'] at hres'
        rw [← hres']
        refine (near_some_of sv (x := q) (v := v) ⟨nq.in_, ?_, fun y hy hs => ?_⟩ ?_).symm
        · rw [lv]; exact sq
        · rw [lv] at hs
          rcases split y hs with z | z
          · exact absurd z (h2 er' y hy)
          · exact nq.least y hy z.1
        · rw [lv]; exact hv
    | some x =>
      obtain ⟨nx, sx⟩ := h1 x er'
      cases eo : t.ownNext back k w with
      | none =>
        rw [er', eo] at hres
        rw [← hres]
        refine (near_some_of sv (x := x.1) (v := x.2) ⟨nx.in_, ?_, fun y hy hs => ?_⟩ ?_).symm
        · rw [lv, sx]; rfl
        · rw [lv] at hs
          rcases split y hs with z | z
          · exact nx.least y hy z
          · exact absurd z.1 (o2 eo y hy)
        · rw [lv]; exact sx
      | some q =>
        rw [er', eo] at hres
        have nq := o1 q eo
        have sq := seen_own nq.has
        have hres' : (if (if back = true then less x.1 q else less q x.1) = true then (over t.list q none).map (fun v => (q, v)) else some x) = res := hres
        by_cases c : (if back = true then less x.1 q else less q x.1) = true
        · have d : dirL back q x.1 = true := c
          rw [if_pos c] at hres'
          have hr : lookup t.root q = none := by
            cases z : lookup t.root q with
            | none => rfl
            | some v =>
              have := nx.least q nq.in_ ⟨by rw [z]; rfl, sq⟩
              rw [d] at this; cases this
          obtain ⟨v, hv⟩ := Option.isSome_iff_exists.mp sq
          have hv' : over t.list q none = some v := by unfold seen at hv; rw [hr] at hv; exact hv
          rw [hv'] at hres'
          rw [← hres']
          refine (near_some_of sv (x := q) (v := v) ⟨nq.in_, ?_, fun y hy hs => ?_⟩ ?_).symm
          · rw [lv]; exact sq
          · rw [lv] at hs
            rcases split y hs with z | z
            · have a := nx.least y hy z
              cases b : dirL back y q with
              | false => rfl
              | true => rw [dirL_trans b d] at a; cases a
            · exact nq.least y hy z.1
          · rw [lv]; exact hv
        · have d : dirL back q x.1 = false := by
            have : ¬ dirL back q x.1 = true := c
            simpa using this
          rw [if_neg c] at hres'
          rw [← hres']
          refine (near_some_of sv (x := x.1) (v := x.2) ⟨nx.in_, ?_, fun y hy hs => ?_⟩ ?_).symm
          · rw [lv, sx]; rfl
          · rw [lv] at hs
            rcases split y hs with z | z
            · exact nx.least y hy z
            · have a := nq.least y hy z.1
              cases b : dirL back y x.1 with
              | false => rfl
              | true =>
                cases g : dirL back x.1 q with
                | true => rw [dirL_trans b g] at a; cases a
                | false => rw [dirL_total g d] at b; rw [a] at b; cases b
          · rw [lv]; exact sx
  have k2 := key _ rfl
  unfold Txn.next
  rw [er]
  funext w'
  show (give (t.looked (stretchOf back k (pick t back r (t.ownNext back k w))), pick t back r (t.ownNext back k w)) : M Unit Unit _) w' = _
  rw [k2]
end Ks
namespace Ks
open Gv05
/-! ### stretches of a map -/
def inH (hi : Option Bytes) (x : Bytes) : Bool := match hi with
  | some h => upTo x h
  | none => true
def sl (m : Map) (k : Bytes) (w : Bool) (hi : Option Bytes) : Map := m.filter fun x => rng false k w x.1 && inH hi x.1
theorem inH_down {hi : Option Bytes} {x y : Bytes} (h : inH hi y = true) (l : less x y = true) : inH hi x = true := by
  cases hi with
  | none => rfl
  | some z =>
    have h' : less z y = false := upTo_iff.mp h
    refine upTo_iff.mpr ?_
    cases q : less z x with
    | false => rfl
    | true => rw [less_trans q l] at h'; cases h'
theorem head_filter {α : Type} (p q : α → Bool) : ∀ l : List α, (∀ x, l.head? = some x → q x = false → ∀ y ∈ l, q y = false) → (l.filter q).head? = l.head?.filter q
  | [], _ => rfl
  | x :: l, h => by
    cases c : q x with
    | true =>
      rw [List.filter_cons_of_pos c]
      show some x = Option.filter q (some x)
      simp [Option.filter, c]
    | false =>
      have e : (x :: l).filter q = [] := List.filter_eq_nil_iff.mpr fun y hy => by rw [h x rfl c y hy]; simp
      rw [e]
      show none = Option.filter q (some x)
      simp [Option.filter, c]
theorem next_inside {m : Map} (h : Sorted m) (k : Bytes) (w : Bool) (hi : Option Bytes) : (following m k w).filter (fun q => inH hi q.1) = (sl m k w hi).head? := by
  have e : following m k w = (m.filter fun x => rng false k w x.1).head? := find_head _ m
  have e2 : sl m k w hi = (m.filter fun x => rng false k w x.1).filter fun x => inH hi x.1 := by
    unfold sl
    rw [List.filter_filter]
    congr 1
    funext x
    exact Bool.and_comm _ _
  have sf : Sorted (m.filter fun x => rng false k w x.1) := List.Pairwise.filter _ h
  rw [e, e2]
  refine (head_filter (fun _ => true) (fun x : Bytes × Bytes => inH hi x.1) _ fun x hx c y hy => ?_).symm
  cases q : inH hi y.1 with
  | false => rfl
  | true =>
    have := sorted_first sf hx y hy
    cases l : less x.1 y.1 with
    | true => rw [inH_down q l] at c; cases c
    | false => rw [less_total l this] at c; rw [q] at c; cases c
theorem sl_tail {m : Map} (h : Sorted m) {k : Bytes} {w : Bool} {hi : Option Bytes} {p : Bytes × Bytes} (e : (sl m k w hi).head? = some p) : sl m k w hi = p :: sl m p.1 false hi := by
  have ss : Sorted (sl m k w hi) := List.Pairwise.filter _ h
  have hp : p ∈ sl m k w hi := List.mem_of_head? e
  have hp2 := (List.mem_filter.mp hp).2
  rw [Bool.and_eq_true] at hp2
  obtain ⟨r, er⟩ : ∃ r, sl m k w hi = p :: r := by
    cases q : sl m k w hi with
    | nil => rw [q] at e; cases e
    | cons x r => rw [q] at e; have e' : x = p := Option.some.inj e; subst e'; exact ⟨r, rfl⟩
  -- those of the stretch behind p
  have a1 : (sl m k w hi).filter (fun x => less p.1 x.1) = sl m p.1 false hi := by
    unfold sl
    rw [List.filter_filter]
    refine List.filter_congr fun x _ => ?_
    rw [rng_false]
    show (less p.1 x.1 && (rng false k w x.1 && inH hi x.1)) = (less p.1 x.1 && inH hi x.1)
    cases c : less p.1 x.1 with
    | false => rfl
    | true =>
      have : rng false k w x.1 = true := rng_on hp2.1 c
      rw [this]; rfl
  rw [er] at a1 ss
  rw [List.filter_cons_of_neg (by simp [less_irrefl])] at a1
  have a2 : r.filter (fun x => less p.1 x.1) = r := List.filter_eq_self.mpr fun x hx => sorted_head ss x hx
  rw [a2] at a1
  rw [er, a1]
theorem differ_is {a b : Map} (ha : Sorted a) (hb : Sorted b) (hi : Option Bytes) : ∀ (f : Nat) (k : Bytes) (w : Bool), (sl a k w hi).length < f → differ maps hi f a b k w = (give (decide (sl a k w hi ≠ sl b k w hi)) : M Unit Unit Bool)
  | 0, _, _, h => absurd h (Nat.not_lt_zero _)
  | f + 1, k, w, h => by
    have e0 : differ maps hi (f + 1) a b k w = (match (following a k w).filter (fun q => inH hi q.1), (following b k w).filter (fun q => inH hi q.1) with
      | none, none => give false
      | some p, some q => if p = q then differ maps hi f a b p.1 false else give true
      | _, _ => give true : M Unit Unit Bool) := rfl
    rw [e0, next_inside ha, next_inside hb]
    cases ea : (sl a k w hi).head? with
    | none =>
      have na : sl a k w hi = [] := List.head?_eq_none_iff.mp ea
      cases eb : (sl b k w hi).head? with
      | none =>
        have nb : sl b k w hi = [] := List.head?_eq_none_iff.mp eb
        rw [na, nb]; rfl
      | some q =>
        have tb := sl_tail hb eb
        rw [na, tb]; rfl
    | some p =>
      have ta := sl_tail ha ea
      cases eb : (sl b k w hi).head? with
      | none =>
        have nb : sl b k w hi = [] := List.head?_eq_none_iff.mp eb
        rw [ta, nb]; rfl
      | some q =>
        have tb := sl_tail hb eb
        show (if p = q then differ maps hi f a b p.1 false else give true) = _
        by_cases c : p = q
        · rw [if_pos c]
          subst c
          rw [ta, tb]
          rw [ta, List.length_cons] at h
          rw [differ_is ha hb hi f p.1 false (by omega)]
          congr 1
          refine decide_eq_decide.mpr ?_
          simp
        · rw [if_neg c, ta, tb]
          congr 1
          refine (decide_eq_true ?_).symm
          intro z
          injection z with z1 z2
          exact c z1
/-! ### clashes -/
def lookB (a b : Map) : Look → Bool
  | .key k => decide (lookup a k ≠ lookup b k)
  | .stretch lo hi => decide (sl a lo true hi ≠ sl b lo true hi)
def clashB (a b : Map) (l : List Look) : Bool := l.any (lookB a b)
theorem clashing_is {a b : Map} (ha : Sorted a) (hb : Sorted b) (hl : a.length < FAR) : ∀ l : List Look, clashing maps a b l = (give (clashB a b l) : M Unit Unit Bool)
  | [] => rfl
  | .key k :: l => by
    have e0 : clashing maps a b (.key k :: l) = (if lookup a k = lookup b k then clashing maps a b l else give true : M Unit Unit Bool) := rfl
    rw [e0, clashing_is ha hb hl l]
    by_cases c : lookup a k = lookup b k
    · rw [if_pos c]
      unfold clashB
      rw [List.any_cons]
      show _ = give (decide (lookup a k ≠ lookup b k) || _)
      rw [decide_eq_false (by simpa using c)]; rfl
    · rw [if_neg c]
      unfold clashB
      rw [List.any_cons]
      show _ = give (decide (lookup a k ≠ lookup b k) || _)
      rw [decide_eq_true c]; rfl
  | .stretch lo hi :: l => by
    have e0 : clashing maps a b (.stretch lo hi :: l) = ((differ maps hi FAR a b lo true).andThen fun x => if x = true then give true else clashing maps a b l : M Unit Unit Bool) := rfl
    rw [e0, clashing_is ha hb hl l, differ_is ha hb hi FAR lo true (Nat.lt_of_le_of_lt (List.length_filter_le _ _) hl)]
    funext w
    show (if decide (sl a lo true hi ≠ sl b lo true hi) = true then (give true : M Unit Unit Bool) else give (clashB a b l)) w = give (decide (sl a lo true hi ≠ sl b lo true hi) || clashB a b l) w
    cases decide (sl a lo true hi ≠ sl b lo true hi) <;> rfl
theorem clashB_same (a : Map) (l : List Look) : clashB a a l = false := by
  unfold clashB
  rw [List.any_eq_false]
  intro x _
  cases x with
  | key k => show ¬ decide (lookup a k ≠ lookup a k) = true; simp
  | stretch lo hi => show ¬ decide (sl a lo true hi ≠ sl a lo true hi) = true; simp
theorem clashes_is {t : TM} {now : Map} (ha : Sorted t.root) (hb : Sorted now) (hl : t.root.length < FAR) : Txn.clashes maps t now = (give (clashB t.root now t.looks) : M Unit Unit Bool) := by
  have e0 : Txn.clashes maps t now = (if (t.root == now) = true then give false else clashing maps t.root now t.looks : M Unit Unit Bool) := rfl
  rw [e0]
  by_cases c : (t.root == now) = true
  · rw [if_pos c, ← eq_of_beq c, clashB_same]
  · rw [if_neg c, clashing_is ha hb hl]
/-! ### count -/
def countP (hi : Bytes) : Nat → TM → Bytes → Bool → TM × Nat
  | 0, t, _, _ => (t, 0)
  | f + 1, t, k, w => match near false (visible t) k w with
    | none => (t.looked (stretchOf false k none), 0)
    | some y => if upTo y.1 hi = false then (t.looked (stretchOf false k (some y)), 0) else
      ((countP hi f (t.looked (stretchOf false k (some y))) y.1 false).1, (countP hi f (t.looked (stretchOf false k (some y))) y.1 false).2 + 1)
theorem looked_root (t : TM) (x : Look) : (t.looked x).root = t.root := by unfold Txn.looked; split <;> rfl
theorem looked_list (t : TM) (x : Look) : (t.looked x).list = t.list := by unfold Txn.looked; split <;> rfl
theorem looked_saves (t : TM) (x : Look) : (t.looked x).saves = t.saves := by unfold Txn.looked; split <;> rfl
theorem looked_visible (t : TM) (x : Look) : visible (t.looked x) = visible t := by unfold visible; rw [looked_root, looked_list]
theorem count_is (hi : Bytes) : ∀ (f : Nat) (t : TM), Sorted t.root → ∀ (k : Bytes) (w : Bool), Txn.count maps hi f t k w = (give (countP hi f t k w) : M Unit Unit _)
  | 0, _, _, _, _ => rfl
  | f + 1, t, h, k, w => by
    have e0 : Txn.count maps hi (f + 1) t k w = ((Txn.next maps t false k w).andThen fun x => match x.2 with
      | none => give (x.1, 0)
      | some y => if upTo y.1 hi = false then give (x.1, 0) else (Txn.count maps hi f x.1 y.1 false).andThen fun z => give (z.1, z.2 + 1) : M Unit Unit _) := rfl
    rw [e0, next_is t h]
    funext w'
    unfold countP
    cases e : near false (visible t) k w with
    | none => rfl
    | some y =>
      show (if upTo y.1 hi = false then give (t.looked (stretchOf false k (some y)), 0) else (Txn.count maps hi f (t.looked (stretchOf false k (some y))) y.1 false).andThen fun z => give (z.1, z.2 + 1) : M Unit Unit _) w' = give (if upTo y.1 hi = false then (t.looked (stretchOf false k (some y)), 0) else
        ((countP hi f (t.looked (stretchOf false k (some y))) y.1 false).1, (countP hi f (t.looked (stretchOf false k (some y))) y.1 false).2 + 1)) w'
      by_cases c : upTo y.1 hi = false
      · rw [if_pos c, if_pos c]
      · rw [if_neg c, if_neg c, count_is hi f _ (by rw [looked_root]; exact h)]; rfl
/-! ### a transaction's step -/
def ansO : Option Bytes → Ans
  | some v => ⟨v.length, [], v⟩
  | none => only ABSENT
def ansP : Option (Bytes × Bytes) → Ans
  | some y => ⟨y.2.length, y.1, y.2⟩
  | none => only ABSENT
def getP (t : TM) (k : Bytes) : TM × Option Bytes := if settled t.list k = true then (t, seen t k) else (t.looked (.key k), seen t k)
def stepP (t : TM) : Step → TM × Ans
  | .get k => if isKey k = false then (t, only BAD) else if settled t.list k = false ∧ LOOKS ≤ t.looks.length then (t, only FULL) else ((getP t k).1, ansO (getP t k).2)
  | .put k v => if isKey k = false ∨ isValue v = false then (t, only BAD) else t.changed (.put k v)
  | .remove k => if isKey k = false then (t, only BAD) else t.changed (.remove k)
  | .add k n => if isKey k = false ∨ wrap n ≠ n then (t, only BAD) else t.changed (.add k n)
  | .next k w => if isPlace k = false then (t, only BAD) else if LOOKS ≤ t.looks.length then (t, only FULL) else (t.looked (stretchOf false k (near false (visible t) k w)), ansP (near false (visible t) k w))
  | .before k w => if isPlace k = false then (t, only BAD) else if LOOKS ≤ t.looks.length then (t, only FULL) else (t.looked (stretchOf true k (near true (visible t) k w)), ansP (near true (visible t) k w))
  | .count lo hi n => if isPlace lo = false ∨ isKey hi = false ∨ n < 0 ∨ 1000 < n then (t, only BAD) else if LOOKS < t.looks.length + n.toNat then (t, only FULL) else ((countP hi n.toNat t lo true).1, only (((countP hi n.toNat t lo true).2 : Nat) : Int))
  | .save => if SAVES ≤ t.saves.length then (t, only FULL) else ({ t with saves := t.saves ++ [t.list.length] }, only (((t.saves.length + 1 : Nat) : Int)))
  | .back n => if n < 1 ∨ (t.saves.length : Int) < n then (t, only ABSENT) else ({ t with list := t.list.take (t.saves.getD (n.toNat - 1) 0), saves := t.saves.take n.toNat }, only 0)
  | .list => (t, ⟨t.list.length, [], record t.list⟩)
theorem give_ite {α : Type} {c : Prop} [Decidable c] (a b : α) : (if c then give a else give b : M Unit Unit α) = give (if c then a else b) := by split <;> rfl
theorem get_is (t : TM) (k : Bytes) : Txn.get maps t k = (give (getP t k) : M Unit Unit _) := by
  have e0 : Txn.get maps t k = (if settled t.list k = true then give (t, over t.list k none) else give (t.looked (.key k), over t.list k (lookup t.root k)) : M Unit Unit _) := rfl
  rw [e0]
  unfold getP
  by_cases c : settled t.list k = true
  · rw [if_pos c, if_pos c]
    unfold seen
    rw [over_settled t.list k c none (lookup t.root k)]
  · rw [if_neg c, if_neg c]; rfl
theorem step_is (t : TM) (h : Sorted t.root) (s : Step) : Txn.step maps t s = (give (stepP t s) : M Unit Unit _) := by
  cases s with
  | get k =>
    have e0 : Txn.step maps t (.get k) = (if isKey k = false then give (t, only BAD) else if settled t.list k = false ∧ LOOKS ≤ t.looks.length then give (t, only FULL) else (Txn.get maps t k).andThen fun x => give (x.1, match x.2 with
      | some v => ⟨v.length, [], v⟩
      | none => only ABSENT) : M Unit Unit _) := rfl
    rw [e0, get_is]
    show _ = give (if isKey k = false then (t, only BAD) else if settled t.list k = false ∧ LOOKS ≤ t.looks.length then (t, only FULL) else ((getP t k).1, ansO (getP t k).2))
    split
    · rfl
    · split
      · rfl
      · cases e : (getP t k).2 with
        | none => funext w; show give ((getP t k).1, _) w = _; rw [e]; rfl
        | some v => funext w; show give ((getP t k).1, _) w = _; rw [e]; rfl
  | put k v => rfl
  | remove k => rfl
  | add k n => rfl
  | next k w =>
    have e0 : Txn.step maps t (.next k w) = (if isPlace k = false then give (t, only BAD) else if LOOKS ≤ t.looks.length then give (t, only FULL) else (Txn.next maps t false k w).andThen fun x => give (x.1, match x.2 with
      | some y => ⟨y.2.length, y.1, y.2⟩
      | none => only ABSENT) : M Unit Unit _) := rfl
    rw [e0, next_is t h]
    show _ = give (if isPlace k = false then (t, only BAD) else if LOOKS ≤ t.looks.length then (t, only FULL) else (t.looked (stretchOf false k (near false (visible t) k w)), ansP (near false (visible t) k w)))
    split
    · rfl
    · split
      · rfl
      · cases near false (visible t) k w <;> rfl
  | before k w =>
    have e0 : Txn.step maps t (.before k w) = (if isPlace k = false then give (t, only BAD) else if LOOKS ≤ t.looks.length then give (t, only FULL) else (Txn.next maps t true k w).andThen fun x => give (x.1, match x.2 with
      | some y => ⟨y.2.length, y.1, y.2⟩
      | none => only ABSENT) : M Unit Unit _) := rfl
    rw [e0, next_is t h]
    show _ = give (if isPlace k = false then (t, only BAD) else if LOOKS ≤ t.looks.length then (t, only FULL) else (t.looked (stretchOf true k (near true (visible t) k w)), ansP (near true (visible t) k w)))
    split
    · rfl
    · split
      · rfl
      · cases near true (visible t) k w <;> rfl
  | count lo hi n =>
    have e0 : Txn.step maps t (.count lo hi n) = (if isPlace lo = false ∨ isKey hi = false ∨ n < 0 ∨ 1000 < n then give (t, only BAD) else if LOOKS < t.looks.length + n.toNat then give (t, only FULL) else (Txn.count maps hi n.toNat t lo true).andThen fun x => give (x.1, only ((x.2 : Nat) : Int)) : M Unit Unit _) := rfl
    rw [e0, count_is hi _ t h]
    show _ = give (if isPlace lo = false ∨ isKey hi = false ∨ n < 0 ∨ 1000 < n then (t, only BAD) else if LOOKS < t.looks.length + n.toNat then (t, only FULL) else ((countP hi n.toNat t lo true).1, only (((countP hi n.toNat t lo true).2 : Nat) : Int)))
    split
    · rfl
    · split
      · rfl
      · rfl
  | save => rfl
  | back n => rfl
  | list => rfl
end Ks
namespace Ks
open Gv05
/-! ### the desk on plain maps -/
abbrev DM := Desk Unit Map
def putT (d : DM) (i : Int) (t : Option TM) : DM := { d with txns := d.txns.set i.toNat t }
def onP (d : DM) (i : Int) (f : TM → Ans × DM) : Ans × DM := if eight i = false then (only BAD, d) else match d.txns.getD i.toNat none with
  | some t => f t
  | none => (only ABSENT, d)
def deskP (d : DM) : Call → Ans × DM
  | .begin_ i => if eight i = false then (only BAD, d) else (only 0, putT d i (some (begin_ d.root)))
  | .older i j => if eight i = false ∨ eight j = false then (only BAD, d) else match d.olds.getD j.toNat none with
    | some r => (only 0, putT d i (some (begin_ r)))
    | none => (only ABSENT, d)
  | .step i s => onP d i fun t => ((stepP t s).2, putT d i (some (stepP t s).1))
  | .commit i => onP d i fun t => if clashB t.root d.root t.looks = true then (only CLASH, putT d i none) else (only (t.list.length : Int), putT { d with root := t.list.foldl does d.root } i none)
  | .drop i => onP d i fun _ => (only 0, putT d i none)
  | .keep j => if eight j = false then (only BAD, d) else (only 0, { d with olds := d.olds.set j.toNat (some d.root) })
  | .forget j => if eight j = false then (only BAD, d) else if (d.olds.getD j.toNat none).isNone = true then (only ABSENT, d) else (only 0, { d with olds := d.olds.set j.toNat none })
  | .replay b => match changes b with
    | none => (only BAD, d)
    | some l => (only (l.length : Int), { d with root := l.foldl does d.root })
/-- how many changes wait in the transactions -/
def wOf : Option TM → Nat
  | some t => t.list.length
  | none => 0
def waits (l : List (Option TM)) : Nat := (l.map wOf).sum
/-- a desk as it may be: maps sorted, and no more keys than numbers were read -/
structure DOk (n : Nat) (d : DM) : Prop where
  root : Sorted d.root
  olds : ∀ (j : Nat) (r : Map), d.olds[j]? = some (some r) → Sorted r ∧ r.length ≤ n
  txns : ∀ (i : Nat) (t : TM), d.txns[i]? = some (some t) → Sorted t.root ∧ t.root.length ≤ n
  o8 : d.olds.length = 8
  t8 : d.txns.length = 8
  few : d.root.length + waits d.txns ≤ n
theorem getD_some {α : Type} {l : List (Option α)} {i : Nat} {x : α} (h : l.getD i none = some x) : l[i]? = some (some x) := by
  rw [List.getD_eq_getElem?_getD] at h
  cases e : l[i]? with
  | none => rw [e] at h; cases h
  | some o => rw [e] at h; have h' : o = some x := h; rw [h']
theorem deskP_is {n : Nat} {d : DM} (h : DOk n d) (hn : n < FAR) (c : Call) : plainly (Desk.does maps d c) = some (deskP d c) := by
  cases c with
  | begin_ i =>
    show plainly (if eight i = false then Prog.ret (only BAD, d) else Prog.ret (only 0, putT d i (some (begin_ d.root)))) = some (if eight i = false then (only BAD, d) else (only 0, putT d i (some (begin_ d.root))))
    split <;> rfl
  | older i j =>
    unfold Desk.does deskP
    dsimp only
    by_cases c : eight i = false ∨ eight j = false
    · rw [if_pos c, if_pos c]; rfl
    · rw [if_neg c, if_neg c]
      cases d.olds.getD j.toNat none <;> rfl
  | step i s =>
    unfold Desk.does deskP onP
    dsimp only
    by_cases c : eight i = false
    · rw [if_pos c, if_pos c]; rfl
    · rw [if_neg c, if_neg c]
      cases e : d.txns.getD i.toNat none with
      | none => rfl
      | some t =>
        show plainly (Desk.way d (Txn.step maps t s) _) = _
        rw [step_is t (h.txns _ t (getD_some e)).1 s]
        rfl
  | commit i =>
    unfold Desk.does deskP onP
    dsimp only
    by_cases c : eight i = false
    · rw [if_pos c, if_pos c]; rfl
    · rw [if_neg c, if_neg c]
      cases e : d.txns.getD i.toNat none with
      | none => rfl
      | some t =>
        obtain ⟨hs, hl⟩ := h.txns _ t (getD_some e)
        show plainly (Desk.way d ((Txn.clashes maps t d.root).andThen fun x => if x = true then give none else (apply maps t.list d.root).andThen fun r => give (some r)) _) = _
        rw [clashes_is hs h.root (by omega)]
        have ea : apply maps t.list d.root = (give (t.list.foldl does d.root) : M Unit Unit Map) := by
          funext w; exact apply_does t.list h.root w
        rw [ea]
        dsimp only
        cases clashB t.root d.root t.looks <;> rfl
  | drop i =>
    unfold Desk.does deskP onP
    dsimp only
    by_cases c : eight i = false
    · rw [if_pos c, if_pos c]; rfl
    · rw [if_neg c, if_neg c]
      cases e : d.txns.getD i.toNat none <;> rfl
  | keep j =>
    show plainly (if eight j = false then Prog.ret (only BAD, d) else Prog.ret (only 0, { d with olds := d.olds.set j.toNat (some d.root) })) = some (if eight j = false then (only BAD, d) else (only 0, { d with olds := d.olds.set j.toNat (some d.root) }))
    split <;> rfl
  | forget j =>
    show plainly (if eight j = false then Prog.ret (only BAD, d) else if (d.olds.getD j.toNat none).isNone = true then Prog.ret (only ABSENT, d) else Prog.ret (only 0, { d with olds := d.olds.set j.toNat none })) = some (if eight j = false then (only BAD, d) else if (d.olds.getD j.toNat none).isNone = true then (only ABSENT, d) else (only 0, { d with olds := d.olds.set j.toNat none }))
    split
    · rfl
    · split <;> rfl
  | replay b =>
    unfold Desk.does deskP
    dsimp only
    cases e : changes b with
    | none => rfl
    | some l =>
      have ea : apply maps l d.root = (give (l.foldl does d.root) : M Unit Unit Map) := by
        funext w; exact apply_does l h.root w
      show plainly (Desk.way d (apply maps l d.root) _) = _
      rw [ea]; rfl
/-! ### it stays so -/
theorem waits_set {l : List (Option TM)} {i : Nat} {o : Option TM} (h : l[i]? = some o) (u : Option TM) : waits (l.set i u) + wOf o = waits l + wOf u := by
  induction l generalizing i with
  | nil => simp at h
  | cons a l ih =>
    cases i with
    | zero =>
      have e : a = o := Option.some.inj h
      subst e
      unfold waits
      simp only [List.set_cons_zero, List.map_cons, List.sum_cons]
      omega
    | succ i =>
      have := ih (i := i) h
      unfold waits at this ⊢
      simp only [List.set_cons_succ, List.map_cons, List.sum_cons]
      omega
theorem does_len {m : Map} (h : Sorted m) (c : Change) : (does m c).length ≤ m.length + 1 := by
  have pl : ∀ v, (put m c.key v).length ≤ m.length + 1 := fun v => by
    rw [put_is h, behind_is h]
    have a := place_le m c.key
    have : place m c.key ≤ placeA m c.key := by
      rw [← behind_is h]
      unfold behind
      cases m[place m c.key]? with
      | none => exact Nat.le_refl _
      | some x => show place m c.key ≤ if x.1 = c.key then place m c.key + 1 else place m c.key; split <;> omega
    simp only [List.length_append, List.length_cons, List.length_take, List.length_drop]
    omega
  unfold does
  cases effect c (lookup m c.key) with
  | some v => exact pl v
  | none => exact Nat.le_trans (List.length_filter_le _ _) (Nat.le_succ _)
theorem fold_does_len (l : List Change) {m : Map} (h : Sorted m) : (l.foldl does m).length ≤ m.length + l.length := by
  induction l generalizing m with
  | nil => exact Nat.le_refl _
  | cons c l ih =>
    have := ih (sorted_does h c)
    have := does_len h c
    simp only [List.foldl_cons, List.length_cons]
    omega
theorem changes_len : ∀ (b : Bytes) (l : List Change), changes b = some l → l.length ≤ b.length := by
  intro b
  induction hb : b.length using Nat.strongRecOn generalizing b with
  | ind n ih =>
    intro l h
    by_cases c : b = []
    · subst c
      have : l = [] := (Option.some.inj h).symm
      subst this
      exact Nat.zero_le _
    · rw [changes_step c] at h
      obtain ⟨x, hx, h⟩ := Option.bind_eq_some_iff.mp h
      obtain ⟨r, hr, e⟩ := Option.map_eq_some_iff.mp h
      subst e
      have sh := takeChange_short hx
      have := ih x.2.length (by omega) x.2 rfl r hr
      rw [List.length_cons]
      omega
theorem step_root (t : TM) (s : Step) : (stepP t s).1.root = t.root := by
  have ch : ∀ c, (t.changed c).1.root = t.root := fun c => by unfold Txn.changed; split <;> rfl
  have ct : ∀ (hi : Bytes) (f : Nat) (u : TM) (k : Bytes) (w : Bool), (countP hi f u k w).1.root = u.root := by
    intro hi f
    induction f with
    | zero => intro u k w; rfl
    | succ f ih =>
      intro u k w
      unfold countP
      cases near false (visible u) k w with
      | none => exact looked_root _ _
      | some y =>
        show (if upTo y.1 hi = false then (u.looked (stretchOf false k (some y)), 0) else ((countP hi f (u.looked (stretchOf false k (some y))) y.1 false).1, (countP hi f (u.looked (stretchOf false k (some y))) y.1 false).2 + 1)).1.root = u.root
        split
        · exact looked_root _ _
        · exact (ih _ _ _).trans (looked_root _ _)
  cases s with
  | get k =>
    show (if isKey k = false then (t, only BAD) else if settled t.list k = false ∧ LOOKS ≤ t.looks.length then (t, only FULL) else ((getP t k).1, ansO (getP t k).2)).1.root = _
    split
    · rfl
    · split
      · rfl
      · show (getP t k).1.root = _
        unfold getP
        split
        · rfl
        · exact looked_root _ _
  | put k v => show (if _ then (t, only BAD) else t.changed (.put k v)).1.root = _; split; rfl; exact ch _
  | remove k => show (if _ then (t, only BAD) else t.changed (.remove k)).1.root = _; split; rfl; exact ch _
  | add k n => show (if _ then (t, only BAD) else t.changed (.add k n)).1.root = _; split; rfl; exact ch _
  | next k w => show (if _ then (t, only BAD) else if _ then (t, only FULL) else (t.looked _, _)).1.root = _; split; rfl; split; rfl; exact looked_root _ _
  | before k w => show (if _ then (t, only BAD) else if _ then (t, only FULL) else (t.looked _, _)).1.root = _; split; rfl; split; rfl; exact looked_root _ _
  | count lo hi n => show (if _ then (t, only BAD) else if _ then (t, only FULL) else ((countP hi n.toNat t lo true).1, _)).1.root = _; split; rfl; split; rfl; exact ct _ _ _ _ _
  | save => show (if _ then (t, only FULL) else _).1.root = _; split <;> rfl
  | back n => show (if _ then (t, only ABSENT) else _).1.root = _; split <;> rfl
  | list => rfl
end Ks
namespace Ks
open Gv05
theorem changed_len (t : TM) (c : Change) : (t.changed c).1.list.length ≤ t.list.length + 1 := by
  unfold Txn.changed
  split
  · exact Nat.le_succ _
  · show (t.list ++ [c]).length ≤ _
    simp
theorem countP_list (hi : Bytes) : ∀ (f : Nat) (u : TM) (k : Bytes) (w : Bool), (countP hi f u k w).1.list = u.list := by
  intro f
  induction f with
  | zero => intro u k w; rfl
  | succ f ih =>
    intro u k w
    unfold countP
    cases near false (visible u) k w with
    | none => exact looked_list _ _
    | some y =>
      show (if upTo y.1 hi = false then (u.looked (stretchOf false k (some y)), 0) else ((countP hi f (u.looked (stretchOf false k (some y))) y.1 false).1, (countP hi f (u.looked (stretchOf false k (some y))) y.1 false).2 + 1)).1.list = u.list
      split
      · exact looked_list _ _
      · exact (ih _ _ _).trans (looked_list _ _)
theorem step_list (t : TM) (s : Step) : (stepP t s).1.list.length ≤ t.list.length + 1 := by
  have le : t.list.length ≤ t.list.length + 1 := Nat.le_succ _
  cases s with
  | get k =>
    show (if isKey k = false then (t, only BAD) else if settled t.list k = false ∧ LOOKS ≤ t.looks.length then (t, only FULL) else ((getP t k).1, ansO (getP t k).2)).1.list.length ≤ _
    split
    · exact le
    · split
      · exact le
      · show (getP t k).1.list.length ≤ _
        unfold getP
        split
        · exact le
        · rw [looked_list]; exact le
  | put k v => show (if _ then (t, only BAD) else t.changed (.put k v)).1.list.length ≤ _; split; exact le; exact changed_len _ _
  | remove k => show (if _ then (t, only BAD) else t.changed (.remove k)).1.list.length ≤ _; split; exact le; exact changed_len _ _
  | add k n => show (if _ then (t, only BAD) else t.changed (.add k n)).1.list.length ≤ _; split; exact le; exact changed_len _ _
  | next k w => show (if _ then (t, only BAD) else if _ then (t, only FULL) else (t.looked _, _)).1.list.length ≤ _; split; exact le; split; exact le; show (t.looked _).list.length ≤ _; rw [looked_list]; exact le
  | before k w => show (if _ then (t, only BAD) else if _ then (t, only FULL) else (t.looked _, _)).1.list.length ≤ _; split; exact le; split; exact le; show (t.looked _).list.length ≤ _; rw [looked_list]; exact le
  | count lo hi n => show (if _ then (t, only BAD) else if _ then (t, only FULL) else ((countP hi n.toNat t lo true).1, _)).1.list.length ≤ _; split; exact le; split; exact le; show (countP hi n.toNat t lo true).1.list.length ≤ _; rw [countP_list]; exact le
  | save => show (if _ then (t, only FULL) else _).1.list.length ≤ _; split; exact le; exact le
  | back n =>
    show (if _ then (t, only ABSENT) else _).1.list.length ≤ _
    split
    · exact le
    · show (t.list.take _).length ≤ _
      exact Nat.le_trans (List.length_take_le' _ _) le
  | list => exact le
def cost : Call → Nat
  | .replay b => b.length
  | .step _ _ => 1
  | _ => 0
theorem DOk.more {n m : Nat} {d : DM} (h : DOk n d) (hm : n ≤ m) : DOk m d :=
  ⟨h.root, fun j r e => ⟨(h.olds j r e).1, Nat.le_trans (h.olds j r e).2 hm⟩, fun i t e => ⟨(h.txns i t e).1, Nat.le_trans (h.txns i t e).2 hm⟩, h.o8, h.t8, Nat.le_trans h.few hm⟩
theorem set_some {α : Type} {l : List (Option α)} {i j : Nat} {u : Option α} {x : α} (h : (l.set i u)[j]? = some (some x)) : l[j]? = some (some x) ∨ u = some x := by
  rw [List.getElem?_set] at h
  split at h
  · split at h
    · exact .inr (Option.some.inj h)
    · cases h
  · exact .inl h
/-- a transaction's place is filled anew -/
theorem DOk.putT {n m : Nat} {d : DM} (h : DOk n d) {i : Int} (hi : i.toNat < 8) (u : Option TM) (hu : ∀ t, u = some t → Sorted t.root ∧ t.root.length ≤ m) (hm : n ≤ m)
    (hw : d.root.length + waits d.txns + wOf u ≤ m + wOf (d.txns.getD i.toNat none)) : DOk m (Ks.putT d i u) := by
  obtain ⟨o, ho⟩ : ∃ o, d.txns[i.toNat]? = some o := ⟨_, List.getElem?_eq_getElem (by rw [h.t8]; exact hi)⟩
  have hg : d.txns.getD i.toNat none = o := by rw [List.getD_eq_getElem?_getD, ho]; rfl
  refine ⟨h.root, fun j r e => ⟨(h.olds j r e).1, Nat.le_trans (h.olds j r e).2 hm⟩, fun j t e => ?_, h.o8, ?_, ?_⟩
  · rcases set_some e with e | e
    · exact ⟨(h.txns j t e).1, Nat.le_trans (h.txns j t e).2 hm⟩
    · exact hu t e
  · show (d.txns.set _ _).length = 8
    rw [List.length_set]; exact h.t8
  · have := waits_set ho u
    rw [hg] at hw
    show d.root.length + waits (d.txns.set i.toNat u) ≤ m
    omega
theorem eight_lt {i : Int} (h : ¬ eight i = false) : i.toNat < 8 := by
  unfold eight at h
  simp at h
  omega
theorem waits_at {l : List (Option TM)} {i : Nat} {t : TM} (h : l[i]? = some (some t)) : t.list.length ≤ waits l := by
  have := waits_set h none
  have e : wOf (some t) = t.list.length := rfl
  have e2 : wOf none = 0 := rfl
  omega
theorem deskP_ok {n : Nat} {d : DM} (h : DOk n d) (c : Call) : DOk (n + cost c) (deskP d c).2 := by
  have hle := h.few
  cases c with
  | begin_ i =>
    show DOk n (if eight i = false then (only BAD, d) else (only 0, putT d i (some (begin_ d.root)))).2
    by_cases c : eight i = false
    · rw [if_pos c]; exact h
    · rw [if_neg c]
      refine h.putT (eight_lt c) _ (fun t e => ?_) (Nat.le_refl _) ?_
      · have e' := Option.some.inj e
        subst e'
        exact ⟨h.root, by show d.root.length ≤ n; omega⟩
      · show _ + 0 ≤ _; omega
  | older i j =>
    unfold deskP
    dsimp only
    by_cases c : eight i = false ∨ eight j = false
    · rw [if_pos c]; exact h
    · rw [if_neg c]
      cases e : d.olds.getD j.toNat none with
      | none => exact h
      | some r =>
        refine h.putT (eight_lt fun z => c (.inl z)) _ (fun t e' => ?_) (Nat.le_refl _) ?_
        · have e' := Option.some.inj e'
          subst e'
          exact h.olds _ r (getD_some e)
        · show _ + 0 ≤ _; omega
  | step i s =>
    unfold deskP onP
    dsimp only
    by_cases c : eight i = false
    · rw [if_pos c]; exact h.more (Nat.le_add_right _ _)
    · rw [if_neg c]
      cases e : d.txns.getD i.toNat none with
      | none => exact h.more (Nat.le_add_right _ _)
      | some t =>
        have ht := h.txns _ t (getD_some e)
        refine h.putT (eight_lt c) _ (fun t' e' => ?_) (Nat.le_add_right _ _) ?_
        · have e' := Option.some.inj e'
          subst e'
          rw [step_root]
          exact ⟨ht.1, Nat.le_trans ht.2 (Nat.le_add_right _ _)⟩
        · rw [e]
          have := step_list t s
          show _ + (stepP t s).1.list.length ≤ n + 1 + t.list.length
          omega
  | commit i =>
    unfold deskP onP
    dsimp only
    by_cases c : eight i = false
    · rw [if_pos c]; exact h
    · rw [if_neg c]
      cases e : d.txns.getD i.toNat none with
      | none => exact h
      | some t =>
        have et := getD_some e
        have gone : DOk n (putT d i none) := by
          refine h.putT (eight_lt c) _ (fun t' e' => by cases e') (Nat.le_refl _) ?_
          show _ + 0 ≤ _; omega
        show DOk n (if clashB t.root d.root t.looks = true then (only CLASH, putT d i none) else (only (t.list.length : Int), putT { d with root := t.list.foldl does d.root } i none)).2
        by_cases q : clashB t.root d.root t.looks = true
        · rw [if_pos q]; exact gone
        · rw [if_neg q]
          have := waits_set et none
          have e1 : wOf (some t) = t.list.length := rfl
          have e2 : wOf none = 0 := rfl
          have fl := fold_does_len t.list h.root
          refine ⟨sorted_fold _ h.root, gone.olds, gone.txns, gone.o8, gone.t8, ?_⟩
          show (t.list.foldl does d.root).length + waits (d.txns.set i.toNat none) ≤ n
          omega
  | drop i =>
    unfold deskP onP
    dsimp only
    by_cases c : eight i = false
    · rw [if_pos c]; exact h
    · rw [if_neg c]
      cases e : d.txns.getD i.toNat none with
      | none => exact h
      | some t =>
        refine h.putT (eight_lt c) _ (fun t' e' => by cases e') (Nat.le_refl _) ?_
        show _ + 0 ≤ _; omega
  | keep j =>
    show DOk n (if eight j = false then (only BAD, d) else (only 0, { d with olds := d.olds.set j.toNat (some d.root) })).2
    by_cases c : eight j = false
    · rw [if_pos c]; exact h
    · rw [if_neg c]
      refine ⟨h.root, fun k r e => ?_, h.txns, ?_, h.t8, h.few⟩
      · rcases set_some e with e | e
        · exact h.olds k r e
        · have e' := Option.some.inj e
          subst e'
          exact ⟨h.root, by omega⟩
      · show (d.olds.set _ _).length = 8
        rw [List.length_set]; exact h.o8
  | forget j =>
    show DOk n (if eight j = false then (only BAD, d) else if (d.olds.getD j.toNat none).isNone = true then (only ABSENT, d) else (only 0, { d with olds := d.olds.set j.toNat none })).2
    by_cases c : eight j = false
    · rw [if_pos c]; exact h
    · rw [if_neg c]
      by_cases q : (d.olds.getD j.toNat none).isNone = true
      · rw [if_pos q]; exact h
      · rw [if_neg q]
        refine ⟨h.root, fun k r e => ?_, h.txns, ?_, h.t8, h.few⟩
        · rcases set_some e with e | e
          · exact h.olds k r e
          · cases e
        · show (d.olds.set _ _).length = 8
          rw [List.length_set]; exact h.o8
  | replay b =>
    unfold deskP
    dsimp only
    cases e : changes b with
    | none => exact h.more (Nat.le_add_right _ _)
    | some l =>
      have hl := changes_len b l e
      have fl := fold_does_len l h.root
      have h' := h.more (Nat.le_add_right n (cost (.replay b)))
      refine ⟨sorted_fold _ h.root, h'.olds, h'.txns, h'.o8, h'.t8, ?_⟩
      show (l.foldl does d.root).length + waits d.txns ≤ n + b.length
      omega
theorem start_ok : DOk 0 Gv05Neutral.start := by
  refine ⟨List.Pairwise.nil, fun j r e => ?_, fun j r e => ?_, rfl, rfl, Nat.le_refl _⟩
  · have := List.mem_of_getElem? e
    cases (List.eq_of_mem_replicate this)
  · have := List.mem_of_getElem? e
    cases (List.eq_of_mem_replicate this)
/-! ### the answers -/
def encA (a : Ans) : List Int := a.v :: (a.k.length : Int) :: (Gv05Neutral.ints a.k ++ Gv05Neutral.ints a.b)
theorem neutral_step {n : Nat} {d : DM} (h : DOk n d) (hn : n < FAR) {c : List (List Int)} {x : Call} (hc : Gv05Neutral.callOf c = some x) : Gv05Neutral.step d c = ((deskP d x).2, encA (deskP d x).1) := by
  unfold Gv05Neutral.step
  rw [hc]
  dsimp only
  rw [deskP_is h hn x]
  rfl
/-! ### a call of the line -/
def isB (r : List Int) : Prop := r.length ≤ 6000 ∧ ∀ z ∈ r, 0 ≤ z ∧ z < 256
/-- the call's numbers and rows -/
def Fits (c : List (List Int)) : Call → Prop
  | .begin_ i => c = [[1, i]]
  | .older i j => c = [[2, i, j]]
  | .commit i => c = [[3, i]]
  | .drop i => c = [[4, i]]
  | .keep j => c = [[5, j]]
  | .forget j => c = [[6, j]]
  | .replay b => ∃ r, c = [[7], r] ∧ b = Gv05Neutral.nats r ∧ isB r
  | .step i (.get k) => ∃ r, c = [[10, i], r] ∧ k = Gv05Neutral.nats r ∧ isB r
  | .step i (.put k v) => ∃ r s, c = [[11, i], r, s] ∧ k = Gv05Neutral.nats r ∧ isB r ∧ v = Gv05Neutral.nats s ∧ isB s
  | .step i (.remove k) => ∃ r, c = [[12, i], r] ∧ k = Gv05Neutral.nats r ∧ isB r
  | .step i (.add k n) => ∃ r, c = [[13, i, n], r] ∧ k = Gv05Neutral.nats r ∧ isB r ∧ wrap n = n
  | .step i (.next k w) => ∃ r z, c = [[14, i, z], r] ∧ k = Gv05Neutral.nats r ∧ isB r ∧ w = (z != 0) ∧ (z = 0 ∨ z = 1)
  | .step i (.before k w) => ∃ r z, c = [[15, i, z], r] ∧ k = Gv05Neutral.nats r ∧ isB r ∧ w = (z != 0) ∧ (z = 0 ∨ z = 1)
  | .step i (.count lo hi n) => ∃ r s, c = [[16, i, n], r, s] ∧ lo = Gv05Neutral.nats r ∧ isB r ∧ hi = Gv05Neutral.nats s ∧ isB s
  | .step i .save => c = [[17, i]]
  | .step i (.back n) => c = [[18, i, n]]
  | .step i .list => c = [[19, i]]
theorem isB_of {r : List Int} (h : (r.all (fun (z : Int) => Gv05Neutral.natural z 8) && Gv05Neutral.short r 6000) = true) : isB r := by
  rw [Bool.and_eq_true] at h
  refine ⟨of_decide_eq_true h.2, fun z hz => ?_⟩
  have := List.all_eq_true.mp h.1 z hz
  unfold Gv05Neutral.natural at this
  rw [Bool.and_eq_true, decide_eq_true_eq, decide_eq_true_eq] at this
  exact ⟨this.1, by have := this.2; simpa using this⟩
theorem wrap_of {n : Int} (h : Gv05Neutral.whole64 n = true) : wrap n = n := by
  unfold Gv05Neutral.whole64 at h
  rw [Bool.and_eq_true, decide_eq_true_eq, decide_eq_true_eq] at h
  unfold wrap
  omega
theorem bit_of {z : Int} (h : NeutralIO.within z 0 1 = true) : z = 0 ∨ z = 1 := by
  unfold NeutralIO.within at h
  simp at h
  omega
theorem fits_of {c : List (List Int)} (h : Gv05Neutral.asked1 c = true) : ∃ x, Gv05Neutral.callOf c = some x ∧ Fits c x := by
  unfold Gv05Neutral.asked1 at h
  split at h <;> first | cases h | skip
  · exact ⟨_, rfl, rfl⟩
  · exact ⟨_, rfl, rfl⟩
  · exact ⟨_, rfl, rfl⟩
  · exact ⟨_, rfl, rfl⟩
  · exact ⟨_, rfl, rfl⟩
  · exact ⟨_, rfl, rfl⟩
  · exact ⟨_, rfl, _, rfl, rfl, isB_of h⟩
  · rw [Bool.and_eq_true] at h
    exact ⟨_, rfl, _, rfl, rfl, isB_of h.2⟩
  · rw [Bool.and_eq_true, Bool.and_eq_true] at h
    exact ⟨_, rfl, _, _, rfl, rfl, isB_of h.2.1, rfl, isB_of h.2.2⟩
  · rw [Bool.and_eq_true] at h
    exact ⟨_, rfl, _, rfl, rfl, isB_of h.2⟩
  · rw [Bool.and_eq_true, Bool.and_eq_true] at h
    exact ⟨_, rfl, _, rfl, rfl, isB_of h.2.2, wrap_of h.2.1⟩
  · rw [Bool.and_eq_true, Bool.and_eq_true] at h
    exact ⟨_, rfl, _, _, rfl, rfl, isB_of h.2.2, rfl, bit_of h.2.1⟩
  · rw [Bool.and_eq_true, Bool.and_eq_true] at h
    exact ⟨_, rfl, _, _, rfl, rfl, isB_of h.2.2, rfl, bit_of h.2.1⟩
  · rw [Bool.and_eq_true, Bool.and_eq_true, Bool.and_eq_true] at h
    exact ⟨_, rfl, _, _, rfl, rfl, isB_of h.2.2.1, rfl, isB_of h.2.2.2⟩
  · exact ⟨_, rfl, rfl⟩
  · exact ⟨_, rfl, rfl⟩
  · exact ⟨_, rfl, rfl⟩
theorem whole_same (c : List (List Int)) : PyGv05.whole c = c := by
  unfold PyGv05.whole
  split <;> rfl
/-- **what is due of a line that may be handed in** -/
theorem line_is {ns : List Int} (h : PyGv05.answers_asked ns = true) : ∃ raw : List (List (List Int)), ns = PyFlat.put raw ∧ raw.length ≤ 1200 ∧ (∀ c ∈ raw, PyFlat.okCall PyGv05.shape c ∧ ∃ x, Gv05Neutral.callOf c = some x ∧ Fits c x) ∧
    PyGv05.answers ns = PyFlat.told (PyFlat.played Gv05Neutral.step Gv05Neutral.start raw) := by
  unfold PyGv05.answers_asked at h
  cases e : PyFlat.calls PyGv05.shape ns.length ns with
  | none => rw [e] at h; cases h
  | some raw =>
    rw [e] at h
    have h : (PyFlat.atMost 1200 raw && PyInside.calls PyGv05.bound raw && Gv05Neutral.asked (raw.map PyGv05.whole) && PyFlat.short 10000000 (PyGv05.answers ns)) = true := h
    rw [Bool.and_eq_true, Bool.and_eq_true, Bool.and_eq_true] at h
    obtain ⟨⟨⟨h1, _⟩, h3⟩, _⟩ := h
    have hw : raw.map PyGv05.whole = raw := by
      rw [List.map_congr_left (g := id) fun c _ => whole_same c, List.map_id]
    rw [hw] at h3
    unfold Gv05Neutral.asked at h3
    rw [Bool.and_eq_true, Bool.and_eq_true] at h3
    obtain ⟨hp, hc⟩ := PyFlat.put_calls _ _ _ e
    refine ⟨raw, hp, of_decide_eq_true h1, fun c hm => ⟨hc c hm, fits_of (List.all_eq_true.mp h3.1.1 c hm)⟩, ?_⟩
    unfold PyGv05.answers PyGv05.calls
    rw [e]
    show PyFlat.told (PyFlat.played _ _ (raw.map PyGv05.whole)) = _
    rw [hw]
end Ks
namespace Ks
namespace G
open Gv05 (Bytes less)
variable {β : Type}
/-- keys and what belongs to them, keys rising -/
abbrev GM (β : Type) := List (Bytes × β)
def Srt (m : GM β) : Prop := m.Pairwise fun x y => less x.1 y.1 = true
def lookup (m : GM β) (k : Bytes) : Option β := (m.find? fun x => x.1 == k).map fun x => x.2
def put (m : GM β) (k : Bytes) (v : β) : GM β := m.filter (fun x => less x.1 k) ++ ((k, v) :: m.filter fun x => less k x.1)
def remove (m : GM β) (k : Bytes) : GM β := m.filter fun x => x.1 != k
/-! ### sorted maps, by places -/
/-- how many keys are below -/
def place (m : GM β) (k : Bytes) : Nat := (m.filter fun x => less x.1 k).length
/-- how many keys are below or at -/
def placeA (m : GM β) (k : Bytes) : Nat := (m.filter fun x => !less k x.1).length
theorem sorted_nil : Srt ([] : GM β) := List.Pairwise.nil
theorem sorted_tail {x : Bytes × β} {m : GM β} (h : Srt (x :: m)) : Srt m := (List.pairwise_cons.mp h).2
theorem sorted_head {x : Bytes × β} {m : GM β} (h : Srt (x :: m)) : ∀ y ∈ m, less x.1 y.1 = true := (List.pairwise_cons.mp h).1
/-- a cut of a sorted map by a test that goes from true to false -/
theorem cut_filter (p : Bytes × β → Bool) : ∀ (m : GM β), m.Pairwise (fun x y => p y = true → p x = true) →
    m.take (m.filter p).length = m.filter p ∧ m.drop (m.filter p).length = m.filter (fun x => !p x)
  | [], _ => ⟨rfl, rfl⟩
  | x :: m, h => by
    obtain ⟨h1, h2⟩ := List.pairwise_cons.mp h
    obtain ⟨i1, i2⟩ := cut_filter p m h2
    cases q : p x with
    | true =>
      rw [List.filter_cons_of_pos q, List.filter_cons_of_neg (by simp [q])]
      exact ⟨congrArg (x :: ·) i1, i2⟩
    | false =>
      have e : m.filter p = [] := List.filter_eq_nil_iff.mpr fun y hy z => by
        have := h1 y hy z
        rw [q] at this; cases this
      rw [List.filter_cons_of_neg (by simp [q]), List.filter_cons_of_pos (by simp [q]), e]
      refine ⟨rfl, congrArg (x :: ·) ?_⟩
      exact (List.filter_eq_self.mpr fun y hy => by
        cases z : p y with
        | false => rfl
        | true => have := h1 y hy z; rw [q] at this; cases this).symm
theorem cut_at (p : Bytes × β → Bool) : ∀ (m : GM β), m.Pairwise (fun x y => p y = true → p x = true) → ∀ (i : Nat) (x : Bytes × β), m[i]? = some x → (p x = true ↔ i < (m.filter p).length)
  | [], _, i, x, e => by simp at e
  | y :: m, h, i, x, e => by
    obtain ⟨h1, h2⟩ := List.pairwise_cons.mp h
    cases q : p y with
    | true =>
      rw [List.filter_cons_of_pos q]
      cases i with
      | zero =>
        have e' : y = x := Option.some.inj e
        subst e'
        simp [q]
      | succ i =>
        have := cut_at p m h2 i x e
        rw [this]; simp
    | false =>
      have e0 : m.filter p = [] := List.filter_eq_nil_iff.mpr fun y hy z => by
        have := h1 y hy z
        rw [q] at this; cases this
      rw [List.filter_cons_of_neg (by simp [q]), e0]
      cases i with
      | zero =>
        have e' : y = x := Option.some.inj e
        subst e'
        simp [q]
      | succ i =>
        have hx : x ∈ m := List.mem_of_getElem? e
        constructor
        · intro z
          have := h1 x hx z
          rw [q] at this; cases this
        · intro z; exact absurd z (Nat.not_lt_zero _)
theorem mono_less {m : GM β} (h : Srt m) (k : Bytes) : m.Pairwise (fun x y => less y.1 k = true → less x.1 k = true) :=
  h.imp fun hxy z => less_trans hxy z
theorem mono_le {m : GM β} (h : Srt m) (k : Bytes) : m.Pairwise (fun x y => (!less k y.1) = true → (!less k x.1) = true) :=
  h.imp fun {x y} hxy z => by
    cases q : less k x.1 with
    | false => rfl
    | true => rw [less_trans q hxy] at z; cases z
theorem take_place {m : GM β} (h : Srt m) (k : Bytes) : m.take (place m k) = m.filter fun x => less x.1 k := (cut_filter _ m (mono_less h k)).1
theorem drop_place {m : GM β} (h : Srt m) (k : Bytes) : m.drop (place m k) = m.filter fun x => !less x.1 k := (cut_filter _ m (mono_less h k)).2
theorem take_placeA {m : GM β} (h : Srt m) (k : Bytes) : m.take (placeA m k) = m.filter fun x => !less k x.1 := (cut_filter _ m (mono_le h k)).1
theorem drop_placeA {m : GM β} (h : Srt m) (k : Bytes) : m.drop (placeA m k) = m.filter fun x => less k x.1 := by
  have e := (cut_filter _ m (mono_le h k)).2
  simpa [placeA] using e
theorem at_place {m : GM β} (h : Srt m) (k : Bytes) {i : Nat} {x : Bytes × β} (e : m[i]? = some x) : less x.1 k = true ↔ i < place m k := cut_at _ m (mono_less h k) i x e
theorem at_placeA {m : GM β} (h : Srt m) (k : Bytes) {i : Nat} {x : Bytes × β} (e : m[i]? = some x) : less k x.1 = false ↔ i < placeA m k := by
  have := cut_at _ m (mono_le h k) i x e
  rw [← show _ ↔ i < placeA m k from this]; simp
theorem place_le (m : GM β) (k : Bytes) : place m k ≤ m.length := List.length_filter_le _ _
theorem placeA_le (m : GM β) (k : Bytes) : placeA m k ≤ m.length := List.length_filter_le _ _
/-! ### look-up -/
theorem lookup_cons (x : Bytes × β) (m : GM β) (k : Bytes) : lookup (x :: m) k = if x.1 = k then some x.2 else lookup m k := by
  unfold lookup
  by_cases e : x.1 = k
  · rw [List.find?_cons_of_pos (by simp [e]), if_pos e]; rfl
  · rw [List.find?_cons_of_neg (by simp [e]), if_neg e]
theorem lookup_none_of {m : GM β} {k : Bytes} (h : ∀ x ∈ m, x.1 ≠ k) : lookup m k = none := by
  induction m with
  | nil => rfl
  | cons x m ih =>
    rw [lookup_cons, if_neg (h x List.mem_cons_self)]
    exact ih fun y hy => h y (List.mem_cons_of_mem _ hy)
theorem lookup_mem {m : GM β} {k : Bytes} {v : β} (h : lookup m k = some v) : (k, v) ∈ m := by
  induction m with
  | nil => cases h
  | cons x m ih =>
    rw [lookup_cons] at h
    by_cases e : x.1 = k
    · rw [if_pos e] at h
      have e2 := Option.some.inj h
      subst e; subst e2
      exact List.mem_cons_self
    · rw [if_neg e] at h
      exact List.mem_cons_of_mem _ (ih h)
theorem lookup_of_mem {m : GM β} (h : Srt m) {k : Bytes} {v : β} (e : (k, v) ∈ m) : lookup m k = some v := by
  induction m with
  | nil => cases e
  | cons x m ih =>
    rw [lookup_cons]
    rcases List.mem_cons.mp e with e | e
    · subst e; simp
    · have := sorted_head h _ e
      rw [if_neg (less_ne this)]
      exact ih (sorted_tail h) e
/-- the key stands at its place, or isn't there -/
theorem lookup_at {m : GM β} (h : Srt m) (k : Bytes) : lookup m k = match m[place m k]? with
    | some x => if x.1 = k then some x.2 else none
    | none => none := by
  cases e : m[place m k]? with
  | none =>
    refine lookup_none_of fun x hx z => ?_
    obtain ⟨i, hi⟩ := List.mem_iff_getElem?.mp hx
    have q : ¬ less x.1 k = true := by rw [z, less_irrefl]; simp
    rw [at_place h k hi] at q
    have l1 := List.getElem?_eq_none_iff.mp e
    have l2 : i < m.length := (List.getElem?_eq_some_iff.mp hi).1
    omega
  | some x =>
    show lookup m k = if x.1 = k then some x.2 else none
    by_cases q : x.1 = k
    · rw [if_pos q]
      refine lookup_of_mem h ?_
      rw [← q]
      exact List.mem_of_getElem? e
    · rw [if_neg q]
      refine lookup_none_of fun y hy z => ?_
      obtain ⟨i, hi⟩ := List.mem_iff_getElem?.mp hy
      have a1 : ¬ i < place m k := by
        rw [← at_place h k hi, z, less_irrefl]; simp
      have a2 : ¬ less x.1 k = true := by rw [at_place h k e]; omega
      have a3 : less k x.1 = true := by
        cases r : less k x.1 with
        | true => rfl
        | false => exact absurd (less_total (by simpa using a2) r) q
      by_cases i1 : i = place m k
      · rw [i1, e] at hi
        exact q (by rw [Option.some.inj hi]; exact z)
      · have i2 : place m k < i := by omega
        obtain ⟨l1, e1⟩ := List.getElem?_eq_some_iff.mp e
        obtain ⟨l2, e2⟩ := List.getElem?_eq_some_iff.mp hi
        have := (List.pairwise_iff_getElem.mp h) (place m k) i l1 l2 i2
        rw [e1, e2] at this
        rw [z] at this
        rw [less_asymm this] at a3; cases a3
/-! ### put, remove -/
/-- the place behind the key's own -/
def behind (m : GM β) (k : Bytes) : Nat := match m[place m k]? with
  | some x => if x.1 = k then place m k + 1 else place m k
  | none => place m k
theorem behind_is {m : GM β} (h : Srt m) (k : Bytes) : behind m k = placeA m k := by
  unfold behind
  cases e : m[place m k]? with
  | none =>
    have l := List.getElem?_eq_none_iff.mp e
    have l2 := place_le m k
    show place m k = placeA m k
    have l3 := placeA_le m k
    have hp : place m k = m.length := by omega
    by_cases c : placeA m k = m.length
    · omega
    · have lt : placeA m k < m.length := by omega
      have q := List.getElem?_eq_getElem lt
      have a := at_place h k q
      have b := at_placeA h k q
      have a' : less (m[placeA m k]).1 k = true := a.mpr (by omega)
      have b' := b.mp (less_asymm a')
      omega
  | some x =>
    show (if x.1 = k then place m k + 1 else place m k) = placeA m k
    have a := at_place h k e
    have b := at_placeA h k e
    have na : less x.1 k = false := by
      cases q : less x.1 k with
      | false => rfl
      | true => exact absurd (a.mp q) (Nat.lt_irrefl _)
    obtain ⟨l1, e1⟩ := List.getElem?_eq_some_iff.mp e
    by_cases q : x.1 = k
    · rw [if_pos q]
      have b1 : place m k < placeA m k := b.mp (by rw [q]; exact less_irrefl k)
      by_cases c : placeA m k ≤ place m k + 1
      · omega
      · have lt : place m k + 1 < m.length := by have := placeA_le m k; omega
        have r := at_placeA h k (List.getElem?_eq_getElem lt)
        have s := (List.pairwise_iff_getElem.mp h) (place m k) (place m k + 1) l1 lt (by omega)
        rw [e1, q] at s
        have := r.mpr (by omega)
        rw [s] at this; cases this
    · rw [if_neg q]
      have c : ¬ place m k < placeA m k := fun z => q (less_total na (b.mpr z))
      by_cases d : placeA m k = place m k
      · exact d.symm
      · have lt : placeA m k < m.length := by omega
        have q1 := List.getElem?_eq_getElem lt
        have a1 := (at_place h k q1).mpr (by omega)
        have := (at_placeA h k q1).mp (less_asymm a1)
        omega
theorem put_is {m : GM β} (h : Srt m) (k : Bytes) (v : β) : put m k v = m.take (place m k) ++ (k, v) :: m.drop (behind m k) := by
  rw [behind_is h, take_place h, drop_placeA h]; rfl
theorem filter_ne (k : Bytes) : ∀ m : GM β, Srt m → m.filter (fun x => x.1 != k) = m.filter (fun x => less x.1 k) ++ m.filter (fun x => less k x.1)
  | [], _ => rfl
  | x :: m, h => by
    have ih := filter_ne k m (sorted_tail h)
    cases q : less x.1 k with
    | true =>
      have n1 : (x.1 != k) = true := by simpa using less_ne q
      simp only [List.filter_cons, q, less_asymm q, n1, ih, if_true, List.cons_append]
      rfl
    | false =>
      have e0 : m.filter (fun x => less x.1 k) = [] := List.filter_eq_nil_iff.mpr fun y hy z => by
        have := less_trans (sorted_head h y hy) z
        rw [q] at this; cases this
      rw [e0] at ih
      cases r : less k x.1 with
      | true =>
        have n1 : (x.1 != k) = true := by simpa using Ne.symm (less_ne r)
        simp only [List.filter_cons, q, r, n1, ih, e0, if_true, List.nil_append]
        rfl
      | false =>
        have e : x.1 = k := less_total q r
        have n1 : (x.1 != k) = false := by simp [e]
        simp only [List.filter_cons, q, r, n1, ih, e0, List.nil_append]
        rfl
theorem remove_is {m : GM β} (h : Srt m) (k : Bytes) : remove m k = m.take (place m k) ++ m.drop (behind m k) := by
  rw [behind_is h, take_place h, drop_placeA h]
  exact filter_ne k m h
/-! ### maps stay sorted -/
theorem sorted_put {m : GM β} (h : Srt m) (k : Bytes) (v : β) : Srt (put m k v) := by
  unfold put Srt
  rw [List.pairwise_append]
  refine ⟨List.Pairwise.filter _ h, List.pairwise_cons.mpr ⟨fun y hy => ?_, List.Pairwise.filter _ h⟩, fun x hx y hy => ?_⟩
  · exact (List.mem_filter.mp hy).2
  · have a := (List.mem_filter.mp hx).2
    rcases List.mem_cons.mp hy with e | e
    · rw [e]; exact a
    · exact less_trans a (List.mem_filter.mp e).2
theorem sorted_remove {m : GM β} (h : Srt m) (k : Bytes) : Srt (remove m k) := List.Pairwise.filter _ h
theorem lookup_filter {m : GM β} (p : Bytes → Bool) (k : Bytes) : lookup (m.filter fun x => p x.1) k = if p k = true then lookup m k else none := by
  induction m with
  | nil => simp [lookup]
  | cons x m ih =>
    by_cases q : p x.1 = true
    · rw [List.filter_cons_of_pos (p := fun x : Bytes × β => p x.1) q, lookup_cons, lookup_cons, ih]
      by_cases e : x.1 = k
      · rw [if_pos e, if_pos e]
        rw [e] at q
        rw [if_pos q]
      · rw [if_neg e, if_neg e]
    · rw [List.filter_cons_of_neg (p := fun x : Bytes × β => p x.1) (by simpa using q), ih, lookup_cons]
      by_cases e : x.1 = k
      · rw [e] at q
        rw [if_neg q, if_neg q]
      · rw [if_neg e]
theorem lookup_append (a b : GM β) (k : Bytes) : lookup (a ++ b) k = match lookup a k with
    | some v => some v
    | none => lookup b k := by
  induction a with
  | nil => rfl
  | cons x a ih =>
    rw [List.cons_append, lookup_cons, lookup_cons, ih]
    by_cases e : x.1 = k
    · rw [if_pos e, if_pos e]
    · rw [if_neg e, if_neg e]
theorem lookup_put (m : GM β) (k : Bytes) (v : β) (j : Bytes) : lookup (put m k v) j = if k = j then some v else lookup m j := by
  unfold put
  rw [lookup_append, lookup_filter (fun y => less y k), lookup_cons, lookup_filter (fun y => less k y)]
  by_cases e : k = j
  · subst e
    rw [less_irrefl]
    simp
  · rw [if_neg e, if_neg e]
    cases q : less j k with
    | true =>
      rw [less_asymm q]
      simp
      cases lookup m j <;> rfl
    | false =>
      cases r : less k j with
      | true => simp
      | false => exact absurd (less_total r q) e
theorem lookup_remove (m : GM β) (k j : Bytes) : lookup (remove m k) j = if k = j then none else lookup m j := by
  unfold remove
  rw [lookup_filter (fun y => y != k)]
  by_cases e : k = j
  · subst e; simp
  · rw [if_neg e, if_pos (by simpa using Ne.symm e)]
theorem put_len (m : GM β) (k : Bytes) (v : β) (h : Srt m) : (put m k v).length ≤ m.length + 1 := by
  rw [put_is h]
  have a := place_le m k
  have b : place m k ≤ behind m k := by
    unfold behind
    cases m[place m k]? with
    | none => exact Nat.le_refl _
    | some x =>
      show place m k ≤ if x.1 = k then place m k + 1 else place m k
      split <;> omega
  simp only [List.length_append, List.length_take, List.length_drop, List.length_cons]
  omega
theorem lookup_nil (k : Bytes) : lookup ([] : GM β) k = none := rfl
theorem isSome_of_mem {m : GM β} {k : Bytes} {v : β} (h : (k, v) ∈ m) : (lookup m k).isSome = true := by
  cases e : lookup m k with
  | some _ => rfl
  | none =>
    exfalso
    induction m with
    | nil => cases h
    | cons x m ih =>
      rw [lookup_cons] at e
      by_cases c : x.1 = k
      · rw [if_pos c] at e; cases e
      · rw [if_neg c] at e
        rcases List.mem_cons.mp h with z | z
        · rw [← z] at c; exact c rfl
        · exact ih z e
end G
open Gv05
theorem snoc_ind {α : Type} {P : List α → Prop} (h0 : P []) (h1 : ∀ l a, P l → P (l ++ [a])) (l : List α) : P l := by
  have h : ∀ r : List α, P r.reverse := by
    intro r
    induction r with
    | nil => exact h0
    | cons a r ih => rw [List.reverse_cons]; exact h1 _ _ ih
  have := h l.reverse
  rwa [List.reverse_reverse] at this
/-! ### adding twice -/
theorem low_cons (z : Int) (n : Nat) : low z (n + 1) = (z % 256).toNat :: low (z / 256) n := by
  unfold low
  rw [List.range_succ_eq_map, List.map_cons, List.map_map]
  have e : z / 256 ^ 0 % 256 = z % 256 := by rw [Int.pow_zero, Int.ediv_one]
  rw [e]
  congr 1
  refine List.map_congr_left fun i _ => ?_
  show (z / 256 ^ (i + 1) % 256).toNat = (z / 256 / 256 ^ i % 256).toNat
  rw [Int.ediv_ediv_of_nonneg (by decide), Int.pow_succ, Int.mul_comm]
theorem number_low (n : Nat) : ∀ z : Int, (number (low z n) : Int) = z % 256 ^ n := by
  induction n with
  | zero =>
    intro z
    rw [Int.pow_zero, Int.emod_one]; rfl
  | succ n ih =>
    intro z
    rw [low_cons, number_cons]
    have h := ih (z / 256)
    have p : (0 : Int) < 256 ^ n := Int.pow_pos (by decide)
    have b0 := Int.emod_nonneg (z / 256) (Int.ne_of_gt p)
    have b1 := Int.emod_lt_of_pos (z / 256) p
    have d := Int.mul_ediv_add_emod (z / 256) (256 ^ n)
    have r0 := Int.emod_nonneg z (show (256 : Int) ≠ 0 by decide)
    have r1 := Int.emod_lt_of_pos z (show (0 : Int) < 256 by decide)
    have r := Int.mul_ediv_add_emod z 256
    have e : z = (256 * (z / 256 % 256 ^ n) + z % 256) + 256 ^ (n + 1) * (z / 256 / 256 ^ n) := by
      rw [Int.pow_succ, Int.mul_comm (256 ^ n) 256, Int.mul_assoc]
      omega
    have f : z % 256 ^ (n + 1) = 256 * (z / 256 % 256 ^ n) + z % 256 := by
      conv => lhs; rw [e]
      rw [Int.add_mul_emod_self_left]
      refine Int.emod_eq_of_lt (by omega) ?_
      rw [Int.pow_succ]
      omega
    rw [f, ← h]
    omega
theorem number_low8 (z : Int) : (number (low z 8) : Int) = z % 2 ^ 64 := by
  rw [number_low]
  rfl
theorem low_mod {a b : Int} (h : a % 2 ^ 64 = b % 2 ^ 64) : low a 8 = low b 8 := by rw [low_count, low_count, count_mod h]
theorem raised_twice (v : Option Bytes) (m n : Int) : raised (some (raised v m)) n = raised v (m + n) := by
  have key : ∀ z : Int, low (toldN (low z 8) + n) 8 = low (z + n) 8 := fun z => by
    refine low_mod ?_
    have a := toldN_mod (low z 8)
    rw [number_low8] at a
    omega
  cases v with
  | none =>
    show (if (low m 8).length = 8 then low (toldN (low m 8) + n) 8 else low m 8) = low (m + n) 8
    rw [if_pos (low_length m 8), key]
  | some b =>
    by_cases c : b.length = 8
    · have e : raised (some b) m = low (toldN b + m) 8 := if_pos c
      rw [e]
      show (if (low (toldN b + m) 8).length = 8 then low (toldN (low (toldN b + m) 8) + n) 8 else low (toldN b + m) 8) = if b.length = 8 then low (toldN b + (m + n)) 8 else b
      rw [if_pos (low_length _ 8), if_pos c, key, Int.add_assoc]
    · have e : raised (some b) m = b := if_neg c
      rw [e]
      show (if b.length = 8 then low (toldN b + n) 8 else b) = if b.length = 8 then low (toldN b + (m + n)) 8 else b
      rw [if_neg c, if_neg c]
/-! ### one change for all of a key's -/
def both (e c : Change) : Change := match c with
  | .put k v => .put k v
  | .remove k => .remove k
  | .add k n => match e with
    | .add _ m => .add k (m + n)
    | .put _ v => .put k (raised (some v) n)
    | .remove _ => .put k (raised none n)
theorem both_key (e c : Change) : (both e c).key = c.key := by
  cases c with
  | put k v => rfl
  | remove k => rfl
  | add k n => cases e <;> rfl
theorem effect_both (e c : Change) (v : Option Bytes) : effect (both e c) v = effect c (effect e v) := by
  cases c with
  | put k x => rfl
  | remove k => rfl
  | add k n =>
    cases e with
    | add j m =>
      show effect (.add k (m + n)) v = effect (.add k n) (effect (.add j m) v)
      rw [raised_effect, raised_effect, raised_effect, raised_twice]
    | put j x =>
      show some (raised (some x) n) = effect (.add k n) (some x)
      rw [raised_effect]
    | remove j =>
      show some (raised none n) = effect (.add k n) none
      rw [raised_effect]
def isAdd : Change → Bool
  | .add _ _ => true
  | _ => false
def isRem : Change → Bool
  | .remove _ => true
  | _ => false
theorem both_add (e c : Change) : isAdd (both e c) = (isAdd e && isAdd c) := by
  cases c with
  | put k v => cases e <;> rfl
  | remove k => cases e <;> rfl
  | add k n => cases e <;> rfl
def effWith (m : G.GM Change) (c : Change) : Change := match G.lookup m c.key with
  | none => c
  | some e => both e c
theorem effWith_key (m : G.GM Change) (c : Change) : (effWith m c).key = c.key := by
  unfold effWith
  cases G.lookup m c.key with
  | none => rfl
  | some e => exact both_key e c
def effStep (m : G.GM Change) (c : Change) : G.GM Change := G.put m c.key (effWith m c)
def effs (l : List Change) : G.GM Change := l.foldl effStep []
theorem effs_append (l : List Change) (c : Change) : effs (l ++ [c]) = effStep (effs l) c := by
  unfold effs
  rw [List.foldl_append]; rfl
theorem effs_sorted (l : List Change) : G.Srt (effs l) := by
  refine snoc_ind (P := fun l => G.Srt (effs l)) G.sorted_nil (fun l c ih => ?_) l
  rw [effs_append]
  exact G.sorted_put ih _ _
theorem effs_len (l : List Change) : (effs l).length ≤ l.length := by
  refine snoc_ind (P := fun l => (effs l).length ≤ l.length) (Nat.le_refl _) (fun l c ih => ?_) l
  rw [effs_append, List.length_append]
  have := G.put_len (effs l) c.key (effWith (effs l) c) (effs_sorted l)
  unfold effStep
  simp only [List.length_cons, List.length_nil]
  omega
theorem effs_look (l : List Change) (c : Change) (k : Bytes) : G.lookup (effs (l ++ [c])) k = if c.key = k then some (effWith (effs l) c) else G.lookup (effs l) k := by
  rw [effs_append]
  exact G.lookup_put _ _ _ _
theorem effs_key (l : List Change) (k : Bytes) : ∀ e, G.lookup (effs l) k = some e → e.key = k := by
  refine snoc_ind (P := fun l => ∀ e, G.lookup (effs l) k = some e → e.key = k) (fun e h => by cases h) (fun l c ih e h => ?_) l
  rw [effs_look] at h
  by_cases q : c.key = k
  · rw [if_pos q] at h
    rw [← Option.some.inj h, effWith_key, q]
  · rw [if_neg q] at h
    exact ih e h
theorem over_effs (l : List Change) (k : Bytes) (v : Option Bytes) : over l k v = match G.lookup (effs l) k with
    | none => v
    | some e => effect e v := by
  refine snoc_ind (P := fun l => over l k v = match G.lookup (effs l) k with
    | none => v
    | some e => effect e v) rfl (fun l c ih => ?_) l
  rw [effs_look, over_append]
  by_cases q : c.key = k
  · rw [if_pos q, if_pos q, ih]
    unfold effWith
    rw [q]
    cases G.lookup (effs l) k with
    | none => rfl
    | some e => exact (effect_both e c v).symm
  · rw [if_neg q, if_neg q, ih]
theorem beq_dec (a b : Bytes) : (a == b) = decide (a = b) := by by_cases h : a = b <;> simp [h]
theorem settled_append (l : List Change) (c : Change) (k : Bytes) : settled (l ++ [c]) k = (settled l k || (!isAdd c && decide (c.key = k))) := by
  unfold settled
  rw [List.any_append]
  cases c with
  | put j v => show ((_ || ((j == k) || false)) : Bool) = (_ || (true && decide (j = k))); rw [Bool.or_false, Bool.true_and, beq_dec]
  | remove j => show ((_ || ((j == k) || false)) : Bool) = (_ || (true && decide (j = k))); rw [Bool.or_false, Bool.true_and, beq_dec]
  | add j n => rfl
theorem settled_effs (l : List Change) (k : Bytes) : settled l k = match G.lookup (effs l) k with
    | none => false
    | some e => !isAdd e := by
  refine snoc_ind (P := fun l => settled l k = match G.lookup (effs l) k with
    | none => false
    | some e => !isAdd e) rfl (fun l c ih => ?_) l
  rw [effs_look, settled_append]
  by_cases q : c.key = k
  · rw [if_pos q, ih, decide_eq_true q, Bool.and_true]
    show _ = !isAdd (effWith (effs l) c)
    unfold effWith
    rw [q]
    cases G.lookup (effs l) k with
    | none => simp
    | some e =>
      show ((!isAdd e) || (!isAdd c)) = !isAdd (both e c)
      rw [both_add]
      cases isAdd e <;> cases isAdd c <;> rfl
  · rw [if_neg q, decide_eq_false q, Bool.and_false, Bool.or_false, ih]
/-! ### the nearest of two maps -/
def remB (l : List Change) (k : Bytes) : Bool := match G.lookup (effs l) k with
  | none => false
  | some e => isRem e
theorem vis_iff (l : List Change) (k : Bytes) (v : Option Bytes) : (over l k v).isSome = true ↔ (v.isSome = true ∧ remB l k = false) ∨ ((G.lookup (effs l) k).isSome = true ∧ remB l k = false) := by
  rw [over_effs]
  unfold remB
  cases G.lookup (effs l) k with
  | none => simp
  | some e =>
    cases e with
    | put j x => simp [effect, isRem]
    | remove j => simp [effect, isRem]
    | add j n => rw [show (match some (Change.add j n) with | none => v | some e => effect e v) = effect (.add j n) v from rfl, raised_effect]; simp [isRem]
def NearO (back : Bool) (S : Bytes → Prop) (k : Bytes) (w : Bool) : Option Bytes → Prop
  | some x => Near back S k w x
  | none => ∀ y, rng back k w y = true → ¬ S y
def pk (back : Bool) : Option Bytes → Option Bytes → Option Bytes
  | none, r => r
  | some a, none => some a
  | some a, some b => if dirL back b a = true then some b else some a
theorem nearO_or {back : Bool} {S T : Bytes → Prop} {k : Bytes} {w : Bool} {r s : Option Bytes} (h : NearO back S k w r) (g : NearO back T k w s) : NearO back (fun y => S y ∨ T y) k w (pk back r s) := by
  cases r with
  | none =>
    cases s with
    | none => exact fun y hy z => z.elim (h y hy) (g y hy)
    | some b =>
      have g : Near back T k w b := g
      exact ⟨g.in_, .inr g.has, fun y hy z => z.elim (fun z => absurd z (h y hy)) (g.least y hy)⟩
  | some a =>
    have h : Near back S k w a := h
    cases s with
    | none => exact ⟨h.in_, .inl h.has, fun y hy z => z.elim (h.least y hy) (fun z => absurd z (g y hy))⟩
    | some b =>
      have g : Near back T k w b := g
      show NearO back _ k w (if dirL back b a = true then some b else some a)
      by_cases c : dirL back b a = true
      · rw [if_pos c]
        refine ⟨g.in_, .inr g.has, fun y hy z => z.elim (fun z => ?_) (g.least y hy)⟩
        cases q : dirL back y b with
        | false => rfl
        | true => have := h.least y hy z; rw [dirL_trans q c] at this; cases this
      · rw [if_neg c]
        refine ⟨h.in_, .inl h.has, fun y hy z => z.elim (h.least y hy) (fun z => ?_)⟩
        cases q : dirL back y a with
        | false => rfl
        | true =>
          have e1 := g.least y hy z
          by_cases c2 : dirL back a b = true
          · rw [dirL_trans q c2] at e1; cases e1
          · have : a = b := dirL_total (by simpa using c2) (by simpa using c)
            rw [this] at q
            rw [q] at e1; cases e1
theorem nearO_congr {back : Bool} {S T : Bytes → Prop} {k : Bytes} {w : Bool} {r : Option Bytes} (e : ∀ y, S y ↔ T y) (h : NearO back S k w r) : NearO back T k w r := by
  cases r with
  | none => exact fun y hy z => h y hy ((e y).mpr z)
  | some a =>
    have h : Near back S k w a := h
    exact ⟨h.in_, (e a).mp h.has, fun y hy z => h.least y hy ((e y).mpr z)⟩
/-- the keys of a map that the changes don't remove -/
def leftIn {β : Type} (l : List Change) (m : G.GM β) (y : Bytes) : Prop := (G.lookup m y).isSome = true ∧ remB l y = false
/-- what next and before find: by the two nearest -/
theorem near_pk (t : TM) (h : Sorted t.root) {back : Bool} {k : Bytes} {w : Bool} {r s : Option Bytes} (hr : NearO back (leftIn t.list (β := Bytes) t.root) k w r) (hs : NearO back (leftIn t.list (effs t.list)) k w s) :
    near back (visible t) k w = match pk back r s with
      | none => none
      | some x => some (x, (seen t x).getD []) := by
  have sv : Sorted (visible t) := sorted_fold t.list h
  have lv : ∀ y, Gv05.lookup (visible t) y = seen t y := fun y => (seen_is t y).symm
  have u : NearO back (fun y => (Gv05.lookup (visible t) y).isSome = true) k w (pk back r s) := by
    refine nearO_congr (fun y => ?_) (nearO_or hr hs)
    rw [lv]
    unfold seen
    rw [vis_iff]
    rfl
  cases e : pk back r s with
  | none =>
    rw [e] at u
    refine near_none_of sv fun y hy => ?_
    have := u y hy
    simpa using this
  | some x =>
    rw [e] at u
    have u : Near back _ k w x := u
    have hx := u.has
    rw [lv] at hx
    obtain ⟨v, hv⟩ := Option.isSome_iff_exists.mp hx
    rw [near_some_of sv u (v := v) (by rw [lv]; exact hv)]
    show _ = some (x, (seen t x).getD [])
    rw [hv]; rfl
theorem pk_seen (t : TM) {back : Bool} {k : Bytes} {w : Bool} {r s : Option Bytes} (hr : NearO back (leftIn t.list (β := Bytes) t.root) k w r) (hs : NearO back (leftIn t.list (effs t.list)) k w s) {x : Bytes} (e : pk back r s = some x) : (seen t x).isSome = true := by
  have u := nearO_or hr hs
  rw [e] at u
  have u : Near back _ k w x := u
  unfold seen
  rw [vis_iff]
  exact u.has
/-! ### where the keys on a side begin -/
def firstP {β : Type} (back w : Bool) (m : G.GM β) (k : Bytes) : Int := match back, w with
  | false, true => (G.place m k : Int)
  | false, false => (G.placeA m k : Int)
  | true, true => (G.placeA m k : Int) - 1
  | true, false => (G.place m k : Int) - 1
theorem rng_at {β : Type} {m : G.GM β} (h : G.Srt m) (back w : Bool) (k : Bytes) {i : Nat} {x : Bytes × β} (e : m[i]? = some x) :
    rng back k w x.1 = true ↔ if back = true then (i : Int) ≤ firstP back w m k else firstP back w m k ≤ (i : Int) := by
  have a := G.at_place h k e
  have b := G.at_placeA h k e
  rw [rng_iff]
  cases back with
  | false =>
    cases w with
    | true =>
      show (less k x.1 = true ∨ _) ↔ ((G.place m k : Int) ≤ (i : Int))
      constructor
      · intro z
        have : less x.1 k = false := by
          rcases z with z | ⟨_, z⟩
          · exact less_asymm z
          · rw [z]; exact less_irrefl k
        have n : ¬ i < G.place m k := fun c => by rw [a.mpr c] at this; cases this
        omega
      · intro z
        have n : ¬ less x.1 k = true := fun c => by have := a.mp c; omega
        cases q : less k x.1 with
        | true => exact .inl rfl
        | false => exact .inr ⟨rfl, less_total (by simpa using n) q⟩
    | false =>
      show (less k x.1 = true ∨ _) ↔ ((G.placeA m k : Int) ≤ (i : Int))
      constructor
      · intro z
        rcases z with z | ⟨z, _⟩
        · have n : ¬ i < G.placeA m k := fun c => by rw [b.mpr c] at z; cases z
          omega
        · cases z
      · intro z
        cases q : less k x.1 with
        | true => exact .inl rfl
        | false => have := b.mp q; omega
  | true =>
    cases w with
    | true =>
      show (less x.1 k = true ∨ _) ↔ ((i : Int) ≤ (G.placeA m k : Int) - 1)
      constructor
      · intro z
        have : less k x.1 = false := by
          rcases z with z | ⟨_, z⟩
          · exact less_asymm z
          · rw [z]; exact less_irrefl k
        have := b.mp this
        omega
      · intro z
        have n := b.mpr (by omega)
        cases q : less x.1 k with
        | true => exact .inl rfl
        | false => exact .inr ⟨rfl, less_total q n⟩
    | false =>
      show (less x.1 k = true ∨ _) ↔ ((i : Int) ≤ (G.place m k : Int) - 1)
      constructor
      · intro z
        rcases z with z | ⟨z, _⟩
        · have := a.mp z; omega
        · cases z
      · intro z
        exact .inl (a.mpr (by omega))
end Ks
namespace Ks
open Gv05
theorem filter_app_all {α : Type} (p : α → Bool) (a b : List α) (ha : ∀ x ∈ a, p x = true) (hb : ∀ x ∈ b, p x = false) : (a ++ b).filter p = a := by
  rw [List.filter_append, List.filter_eq_self.mpr ha, List.filter_eq_nil_iff.mpr (fun x hx => by rw [hb x hx]; exact Bool.false_ne_true), List.append_nil]
/-- a stretch by places -/
theorem sl_places {m : Map} (h : Sorted m) (lo : Bytes) : ∀ hi : Option Bytes, sl m lo true hi = match hi with
    | none => m.drop (place m lo)
    | some z => (m.drop (place m lo)).take (placeA m z - place m lo)
  | none => by
    show m.filter (fun x => rng false lo true x.1 && true) = m.drop (place m lo)
    rw [drop_place h]
    refine List.filter_congr fun x _ => ?_
    rw [Bool.and_true]
    exact above_or_at lo x
  | some z => by
    show m.filter (fun x => rng false lo true x.1 && upTo x.1 z) = (m.drop (place m lo)).take (placeA m z - place m lo)
    have e1 : m.filter (fun x => rng false lo true x.1 && upTo x.1 z) = (m.drop (place m lo)).filter (fun x => upTo x.1 z) := by
      rw [drop_place h, List.filter_filter]
      refine List.filter_congr fun x _ => ?_
      have : rng false lo true x.1 = !less x.1 lo := above_or_at lo x
      rw [this, Bool.and_comm]
    rw [e1, ← List.drop_take]
    have tk := take_placeA h z
    have dp := drop_placeA h z
    have sp : m = m.take (placeA m z) ++ m.drop (placeA m z) := (List.take_append_drop _ _).symm
    generalize place m lo = p
    have e2 : m.drop p = (m.take (placeA m z)).drop p ++ (m.drop (placeA m z)).drop (p - (m.take (placeA m z)).length) := by
      rw [← List.drop_append, ← sp]
    rw [e2]
    refine filter_app_all _ _ _ (fun x hx => ?_) (fun x hx => ?_)
    · have hx' := List.mem_of_mem_drop hx
      rw [tk] at hx'
      exact (List.mem_filter.mp hx').2
    · have hx' := List.mem_of_mem_drop hx
      rw [dp] at hx'
      have := (List.mem_filter.mp hx').2
      unfold upTo
      rw [this]; rfl
/-! ### looks, apart -/
def keyL : Look → Option Bytes
  | .key k => some k
  | .stretch _ _ => none
def strL : Look → Option (Bytes × Option Bytes)
  | .key _ => none
  | .stretch lo hi => some (lo, hi)
def keysL (l : List Look) : List Bytes := l.filterMap keyL
def strsL (l : List Look) : List (Bytes × Option Bytes) := l.filterMap strL
theorem looks_len (l : List Look) : l.length = (keysL l).length + (strsL l).length := by
  induction l with
  | nil => rfl
  | cons x l ih =>
    cases x with
    | key k =>
      show l.length + 1 = ((k :: keysL l).length) + (strsL l).length
      rw [List.length_cons]; omega
    | stretch lo hi =>
      show l.length + 1 = (keysL l).length + (((lo, hi) :: strsL l).length)
      rw [List.length_cons]; omega
theorem mem_keysL {l : List Look} {k : Bytes} : k ∈ keysL l ↔ Look.key k ∈ l := by
  unfold keysL
  rw [List.mem_filterMap]
  constructor
  · rintro ⟨x, hx, e⟩
    cases x with
    | key j => cases e; exact hx
    | stretch lo hi => cases e
  · intro h; exact ⟨_, h, rfl⟩
theorem mem_strsL {l : List Look} {k : Bytes × Option Bytes} : k ∈ strsL l ↔ Look.stretch k.1 k.2 ∈ l := by
  unfold strsL
  rw [List.mem_filterMap]
  constructor
  · rintro ⟨x, hx, e⟩
    cases x with
    | key j => cases e
    | stretch lo hi => cases e; exact hx
  · intro h; exact ⟨_, h, rfl⟩
def lookedL (l : List Look) (x : Look) : List Look := if l.contains x = true then l else l ++ [x]
theorem looked_looks (t : TM) (x : Look) : (t.looked x).looks = lookedL t.looks x := by
  unfold Txn.looked lookedL
  split <;> rfl
theorem looked_is (t : TM) (x : Look) : t.looked x = { t with looks := lookedL t.looks x } := by
  unfold Txn.looked lookedL
  split <;> rfl
theorem lookedL_len (l : List Look) (x : Look) : (lookedL l x).length ≤ l.length + 1 := by
  unfold lookedL
  split
  · exact Nat.le_succ _
  · simp
theorem contains_iff {l : List Look} {x : Look} : l.contains x = true ↔ x ∈ l := by simp
theorem lookedL_key (l : List Look) (k : Bytes) : keysL (lookedL l (.key k)) = (if k ∈ keysL l then keysL l else keysL l ++ [k]) ∧ strsL (lookedL l (.key k)) = strsL l := by
  unfold lookedL
  by_cases c : Look.key k ∈ l
  · rw [if_pos (contains_iff.mpr c), if_pos (mem_keysL.mpr c)]
    exact ⟨rfl, rfl⟩
  · rw [if_neg (fun z => c (contains_iff.mp z)), if_neg (fun z => c (mem_keysL.mp z))]
    refine ⟨?_, ?_⟩
    · unfold keysL; rw [List.filterMap_append]; rfl
    · unfold strsL; rw [List.filterMap_append]; show _ ++ [] = _; rw [List.append_nil]
theorem lookedL_str (l : List Look) (lo : Bytes) (hi : Option Bytes) : keysL (lookedL l (.stretch lo hi)) = keysL l ∧ strsL (lookedL l (.stretch lo hi)) = (if (lo, hi) ∈ strsL l then strsL l else strsL l ++ [(lo, hi)]) := by
  unfold lookedL
  by_cases c : Look.stretch lo hi ∈ l
  · rw [if_pos (contains_iff.mpr c), if_pos (mem_strsL.mpr c)]
    exact ⟨rfl, rfl⟩
  · rw [if_neg (fun z => c (contains_iff.mp z)), if_neg (fun z => c (mem_strsL.mp z))]
    refine ⟨?_, ?_⟩
    · unfold keysL; rw [List.filterMap_append]; show _ ++ [] = _; rw [List.append_nil]
    · unfold strsL; rw [List.filterMap_append]; rfl
/-- clashes: by the keys, by the stretches -/
theorem clash_apart (a b : Map) (l : List Look) : clashB a b l = ((keysL l).any (fun k => decide (lookup a k ≠ lookup b k)) || (strsL l).any (fun k => decide (sl a k.1 true k.2 ≠ sl b k.1 true k.2))) := by
  induction l with
  | nil => rfl
  | cons x l ih =>
    have e : clashB a b (x :: l) = (lookB a b x || clashB a b l) := rfl
    rw [e, ih]
    cases x with
    | key k =>
      show (decide (lookup a k ≠ lookup b k) || _) = ((k :: keysL l).any _ || (strsL l).any _)
      rw [List.any_cons, Bool.or_assoc]
    | stretch lo hi =>
      show (decide (sl a lo true hi ≠ sl b lo true hi) || _) = ((keysL l).any _ || ((lo, hi) :: strsL l).any _)
      rw [List.any_cons]
      generalize (keysL l).any _ = u
      generalize (strsL l).any _ = v
      cases u <;> cases v <;> simp
end Ks
namespace Ks
open Gv05
/-! ### lengths -/
def VOk (m : Map) : Prop := ∀ x ∈ m, x.1.length ≤ 64 ∧ x.2.length ≤ 300
/-- lengths as they may be, of a change -/
def okC : Change → Prop
  | .put k v => k.length ≤ 64 ∧ v.length ≤ 300
  | .remove k => k.length ≤ 64
  | .add k _ => k.length ≤ 64
theorem okC_key {c : Change} (h : okC c) : c.key.length ≤ 64 := by
  cases c with
  | put k v => exact h.1
  | remove k => exact h
  | add k n => exact h
def VO (o : Option Bytes) : Prop := ∀ v, o = some v → v.length ≤ 300
theorem effect_len {c : Change} (h : okC c) {o : Option Bytes} (ho : VO o) : VO (effect c o) := by
  intro v e
  cases c with
  | put k x => cases e; exact h.2
  | remove k => cases e
  | add k n =>
    rw [raised_effect] at e
    cases e
    cases o with
    | none => show (low n 8).length ≤ 300; rw [low_length]; decide
    | some b =>
      show (if b.length = 8 then low (toldN b + n) 8 else b).length ≤ 300
      split
      · rw [low_length]; decide
      · exact ho b rfl
theorem over_len (l : List Change) (h : ∀ c ∈ l, okC c) (k : Bytes) : ∀ o, VO o → VO (over l k o) := by
  induction l with
  | nil => intro o ho; exact ho
  | cons c l ih =>
    intro o ho
    rw [over_cons]
    refine ih (fun d hd => h d (List.mem_cons_of_mem _ hd)) _ ?_
    split
    · exact effect_len (h c List.mem_cons_self) ho
    · exact ho
theorem lookup_len {m : Map} (h : VOk m) (k : Bytes) : VO (lookup m k) := fun v e => (h _ (lookup_mem e)).2
theorem vok_does {m : Map} (h : VOk m) {c : Change} (hc : okC c) : VOk (does m c) := by
  have hl := lookup_len h c.key
  have he := effect_len hc hl
  unfold does
  cases e : effect c (lookup m c.key) with
  | none => exact fun x hx => h x (List.mem_filter.mp hx).1
  | some v =>
    intro x hx
    show x.1.length ≤ 64 ∧ x.2.length ≤ 300
    have hx : x ∈ m.filter (fun y => less y.1 c.key) ++ ((c.key, v) :: m.filter fun y => less c.key y.1) := hx
    rcases List.mem_append.mp hx with z | z
    · exact h x (List.mem_filter.mp z).1
    · rcases List.mem_cons.mp z with z | z
      · rw [z]; exact ⟨okC_key hc, he v e⟩
      · exact h x (List.mem_filter.mp z).1
theorem vok_fold (l : List Change) (h : ∀ c ∈ l, okC c) : ∀ {m : Map}, VOk m → VOk (l.foldl does m) := by
  induction l with
  | nil => intro m hm; exact hm
  | cons c l ih =>
    intro m hm
    exact ih (fun d hd => h d (List.mem_cons_of_mem _ hd)) (vok_does hm (h c List.mem_cons_self))
/-! ### a transaction as it may be -/
structure TOk (t : TM) : Prop where
  srt : Sorted t.root
  few : t.root.length ≤ 99999
  vok : VOk t.root
  chs : ∀ c ∈ t.list, okC c
  rec_ : (record t.list).length ≤ 4000
  lks : t.looks.length ≤ 1000
  s8 : t.saves.length ≤ 8
  sle : ∀ s ∈ t.saves, s ≤ t.list.length
  smo : t.saves.Pairwise (· ≤ ·)
theorem bytes_pos {c : Change} : 1 ≤ c.bytes.length := by
  cases c with
  | put k v => show 1 ≤ (1 :: _).length; simp
  | remove k => show 1 ≤ (2 :: _).length; simp
  | add k n => show 1 ≤ (3 :: _).length; simp
theorem record_len (l : List Change) : l.length ≤ (record l).length := by
  induction l with
  | nil => exact Nat.le_refl _
  | cons c l ih =>
    show l.length + 1 ≤ (c.bytes ++ record l).length
    rw [List.length_append]
    have := bytes_pos (c := c)
    omega
theorem TOk.list {t : TM} (h : TOk t) : t.list.length ≤ 4000 := Nat.le_trans (record_len t.list) h.rec_
theorem TOk.seen {t : TM} (h : TOk t) (k : Bytes) : VO (seen t k) := over_len t.list h.chs k _ (lookup_len h.vok k)
theorem TOk.visible {t : TM} (h : TOk t) : VOk (visible t) := vok_fold t.list h.chs h.vok
theorem TOk.looked {t : TM} (h : TOk t) (x : Look) (hl : t.looks.length < 1000) : TOk (t.looked x) := by
  rw [looked_is]
  exact ⟨h.srt, h.few, h.vok, h.chs, h.rec_, Nat.le_trans (lookedL_len t.looks x) hl, h.s8, h.sle, h.smo⟩
theorem TOk.begin_ {m : Map} (h : Sorted m) (hl : m.length ≤ 99999) (hv : VOk m) : TOk (begin_ m) :=
  ⟨h, hl, hv, fun c hc => absurd hc List.not_mem_nil, Nat.zero_le _, Nat.zero_le _, Nat.zero_le _, fun s hs => absurd hs List.not_mem_nil, List.Pairwise.nil⟩
theorem TOk.more {t : TM} (h : TOk t) {c : Change} (hc : okC c) (hr : (record (t.list ++ [c])).length ≤ 4000) : TOk { t with list := t.list ++ [c] } := by
  refine ⟨h.srt, h.few, h.vok, fun d hd => ?_, hr, h.lks, h.s8, fun s hs => ?_, h.smo⟩
  · rcases List.mem_append.mp hd with z | z
    · exact h.chs d z
    · rw [List.mem_singleton.mp z]; exact hc
  · have := h.sle s hs
    show s ≤ (t.list ++ [c]).length
    rw [List.length_append]
    omega
theorem record_take (l : List Change) (n : Nat) : (record (l.take n)).length ≤ (record l).length := by
  have e : record l = record (l.take n) ++ record (l.drop n) := by
    unfold record
    rw [← List.flatMap_append, List.take_append_drop]
  rw [e, List.length_append]
  omega
theorem TOk.save {t : TM} (h : TOk t) (hs : t.saves.length < 8) : TOk { t with saves := t.saves ++ [t.list.length] } := by
  refine ⟨h.srt, h.few, h.vok, h.chs, h.rec_, h.lks, ?_, fun s hs => ?_, ?_⟩
  · show (t.saves ++ [t.list.length]).length ≤ 8
    rw [List.length_append]
    simp only [List.length_cons, List.length_nil]
    omega
  · rcases List.mem_append.mp hs with z | z
    · exact h.sle s z
    · rw [List.mem_singleton.mp z]; exact Nat.le_refl _
  · rw [List.pairwise_append]
    exact ⟨h.smo, List.pairwise_singleton _ _, fun a ha b hb => by rw [List.mem_singleton.mp hb]; exact h.sle a ha⟩
theorem take_le {t : TM} (h : TOk t) {n : Nat} {s : Nat} (e : t.saves[n]? = some s) : ∀ x ∈ t.saves.take (n + 1), x ≤ s := by
  intro x hx
  obtain ⟨i, hi⟩ := List.mem_iff_getElem?.mp hx
  rw [List.getElem?_take] at hi
  split at hi
  · rename_i c
    obtain ⟨l1, e1⟩ := List.getElem?_eq_some_iff.mp hi
    obtain ⟨l2, e2⟩ := List.getElem?_eq_some_iff.mp e
    by_cases q : i = n
    · subst q
      rw [← e1, ← e2]; exact Nat.le_refl _
    · have := (List.pairwise_iff_getElem.mp h.smo) i n l1 l2 (by omega)
      rw [e1, e2] at this
      exact this
  · cases hi
theorem TOk.back {t : TM} (h : TOk t) {n s : Nat} (e : t.saves[n]? = some s) : TOk { t with list := t.list.take s, saves := t.saves.take (n + 1) } := by
  refine ⟨h.srt, h.few, h.vok, fun c hc => h.chs c (List.mem_of_mem_take hc), Nat.le_trans (record_take t.list s) h.rec_, h.lks, ?_, fun x hx => ?_, ?_⟩
  · show (t.saves.take (n + 1)).length ≤ 8
    rw [List.length_take]
    have := h.s8
    omega
  · show x ≤ (t.list.take s).length
    rw [List.length_take]
    have a := take_le h e x hx
    have b := h.sle x (List.mem_of_mem_take hx)
    omega
  · exact List.Pairwise.take h.smo
/-- answers are short -/
theorem near_len {t : TM} (h : TOk t) {back : Bool} {k : Bytes} {w : Bool} {y : Bytes × Bytes} (e : near back (visible t) k w = some y) : y.1.length ≤ 64 ∧ y.2.length ≤ 300 := h.visible y (near_mem e).1
end Ks
namespace Ks
open PySem PySem.Spec PyProof.Rows L2
/-! ### a def of the top, and its promise -/
/-- what the top holds of a def without defaults -/
structure Src (K : PySem.W.Frag) (mg : Str → Option Value) (x : Str) (st : Stmt) (ps : List Str) : Prop where
  ex : ∃ (f : Addr) (fd : FuncData), mg x = some (.ref f) ∧ Fun K x x st f fd ∧ Binds K fd ps []
structure DefOk (P : Program) (w : World) (K : PySem.W.Frag) (mg : Str → Option Value) (base : Heap) (CX : CXT) (k : Nat) (x : Str) (sp : Sp) : Prop where
  ex : ∃ (f : Addr) (fd : FuncData) (ps : List Str), mg x = some (.ref f) ∧ FnOk P w K mg base CX k f fd ps sp ∧ PySem.W.keepIn K (.ref f) = true ∧ Binds K fd ps []
/-- a constant of the top -/
def GI (mg : Str → Option Value) (x : Str) (n : Int) : Prop := ∃ t, mg x = some (.int n t)
section
variable {P : Program} {w : World} {K : PySem.W.Frag} {mg : Str → Option Value} {base : Heap}
theorem Src.ok {x : Str} {st : Stmt} {N ps : List Str} {k : Nat} {sp : Sp} (D : Src K mg x st ps) (S : FnScope N ps (defScope st)) (len : ∀ vs H Q E, sp vs H Q E → vs.length = ps.length)
    (hbody : ∀ (f : Addr) (cdv : Value) (A : Around) (outer : List Env) (s : Shared) (H : Hp) (vs : List V) (Q : VK) (E : XK), Room k (A.deeper (envOfC x (defScope st) s.heap.objs.size f cdv)) → sp vs H Q E →
      ∃ t, PSs (cxOf CX0 P w K mg base N x (defScope st) f cdv A outer s H E).nox (defBody st) t ∧ t { nx := fun _ H' => Q .non H', rt := Q } (start N vs) H) : DefOk P w K mg base CX0 (k + 1) x sp := by
  obtain ⟨f, fd, hm, F, b⟩ := D.ex
  exact ⟨f, fd, ps, hm, F.ok S len (fun cdv A outer s H vs Q E hr h => hbody f cdv A outer s H vs Q E hr h), F.kp, b⟩
/-- a def that may raise (where nothing is handled) -/
theorem okN {x qual : Str} {st : Stmt} {f : Addr} {fd : FuncData} {N ps : List Str} {k : Nat} {sp : Sp} (F : Fun K x qual st f fd) (S : FnScope N ps (defScope st)) (len : ∀ vs H Q E, sp vs H Q E → vs.length = ps.length)
    (hb : ∀ (cdv : Value) (A : Around) (outer : List Env) (s : Shared) (H : Hp) (vs : List V) (Q : VK) (E : XK), Room k (A.deeper (envOfC qual (defScope st) s.heap.objs.size f cdv)) → sp vs H Q E →
      ∃ t, PSs (cxOf (L2N.CX P w) P w K mg base N qual (defScope st) f cdv A outer s H E) (defBody st) t ∧ t { nx := fun _ H' => Q .non H', rt := Q } (start N vs) H) : FnOk P w K mg base (L2N.CX P w) (k + 1) f fd ps sp := by
  obtain ⟨oc, od, kV, doc, pm, an, cdv, ct, osl, rfl, lk, hcd⟩ := F.ex
  exact fn_of lk hcd S len fun A outer s H vs Q E hr hsp => hb cdv A outer s H vs Q E hr hsp
theorem Src.okX {x : Str} {st : Stmt} {N ps : List Str} {k : Nat} {sp : Sp} (D : Src K mg x st ps) (S : FnScope N ps (defScope st)) (len : ∀ vs H Q E, sp vs H Q E → vs.length = ps.length)
    (hbody : ∀ (f : Addr) (cdv : Value) (A : Around) (outer : List Env) (s : Shared) (H : Hp) (vs : List V) (Q : VK) (E : XK), Room k (A.deeper (envOfC x (defScope st) s.heap.objs.size f cdv)) → sp vs H Q E →
      ∃ t, PSs (cxOf (L2N.CX P w) P w K mg base N x (defScope st) f cdv A outer s H E) (defBody st) t ∧ t { nx := fun _ H' => Q .non H', rt := Q } (start N vs) H) : DefOk P w K mg base (L2N.CX P w) (k + 1) x sp := by
  obtain ⟨f, fd, hm, F, b⟩ := D.ex
  exact ⟨f, fd, ps, hm, okN F S len (fun cdv A outer s H vs Q E hr h => hbody f cdv A outer s H vs Q E hr h), F.kp, b⟩
end
section
variable {X : Cx} {CX : CXT} {k : Nat} {sp : Sp} {E : XK} {x : Str} {p pos : Pos} {e : Expr} {es : List Expr} {t : TA}
/-- f(e, ..) -/
def tCl (sp : Sp) (E : XK) (t : TA) : TE := fun σ H Q => t σ H fun vs H1 => sp vs H1 Q E
theorem pe_cl (D : DefOk X.prog X.w X.K X.mg X.base CX k x sp) (hr : Room k X.A) (hx : Passes CX X E) (ha : PA X (e :: es) t) (hg : Gl X x := by rfl)
    (hdb : (x == ("__debug__" : Str)) = false := by decide) (he : starEach (e :: es) X.env = (false, eval e X.env) :: starEach es X.env := by rfl) (hpl : (backTo pos (starEach es X.env)).any (·.1) = false := by rfl) :
    PE X (.Call (.Name x p) (e :: es) [] pos) (tCl sp E t) := by
  obtain ⟨f, fd, ps, hm, F, hk, hb⟩ := D.ex
  refine ⟨fun pins s σ H Q I h => (pe_call (pos := pos) (p := p) F hr hg hm hk hb .nil hx ha hdb he hpl).run pins s σ H Q I ?_⟩
  have e0 : (fun (vs : List V) (H1 : Hp) => sp (vs ++ []) H1 Q E) = fun vs H1 => sp vs H1 Q E := by
    funext vs H1
    rw [List.append_nil]
  show t σ H (fun vs H1 => sp (vs ++ []) H1 Q E)
  rw [e0]
  exact h
theorem pe_cl0 (D : DefOk X.prog X.w X.K X.mg X.base CX k x sp) (hr : Room k X.A) (hx : Passes CX X E) (hg : Gl X x := by rfl)
    (hdb : (x == ("__debug__" : Str)) = false := by decide) : PE X (.Call (.Name x p) [] [] pos) (tCl sp E tNil) := by
  obtain ⟨f, fd, ps, hm, F, hk, hb⟩ := D.ex
  exact ⟨fun pins s σ H Q I h => (pe_call0 (pos := pos) (p := p) F hr hg hm hk hb .nil hx hdb).run pins s σ H Q I h⟩
theorem pe_gi {n : Int} (h : GI X.mg x n) (hg : Gl X x := by rfl) (hdb : (x == ("__debug__" : Str)) = false := by decide) : PE X (.Name x pos) (tC (.int n)) := by
  obtain ⟨t, hm⟩ := h
  exact pe_glob hg hm ⟨t, rfl⟩ hdb
end
/-! ### tests -/
theorem iteD {c A B : Prop} [Decidable c] (h1 : c → A) (h2 : ¬ c → B) : if decide c = true then A else B := by
  by_cases h : c
  · rw [if_pos (decide_eq_true h)]; exact h1 h
  · rw [if_neg (by rw [decide_eq_false h]; exact Bool.false_ne_true)]; exact h2 h
theorem iteDN {c A B : Prop} [Decidable c] (h1 : ¬ c → A) (h2 : c → B) : if (!decide c) = true then A else B := by
  by_cases h : c
  · rw [if_neg (by rw [decide_eq_true h]; exact Bool.false_ne_true)]; exact h2 h
  · rw [if_pos (by rw [decide_eq_false h]; rfl)]; exact h1 h
theorem iteB {c : Bool} {A B : Prop} (h1 : c = true → A) (h2 : c = false → B) : if c = true then A else B := by
  cases c with
  | true => rw [if_pos rfl]; exact h1 rfl
  | false => rw [if_neg Bool.false_ne_true]; exact h2 rfl
theorem iteBN {c : Bool} {A B : Prop} (h1 : c = false → A) (h2 : c = true → B) : if (!c) = true then A else B := by
  cases c with
  | true => rw [if_neg (by decide)]; exact h2 rfl
  | false => rw [if_pos (by decide)]; exact h1 rfl
theorem int_eq {a b : Int} : (V.int a = V.int b) ↔ a = b := ⟨fun h => V.int.inj h, fun h => by rw [h]⟩
/-! ### bytes as tuples -/
/-- the values of bytes -/
def vN (l : List Nat) : List V := l.map fun (n : Nat) => V.int (n : Int)
theorem vN_len (l : List Nat) : (vN l).length = l.length := by unfold vN; simp
theorem vN_app (a b : List Nat) : vN (a ++ b) = vN a ++ vN b := List.map_append
theorem vN_get {l : List Nat} {i : Nat} {x : V} (h : (vN l)[i]? = some x) : ∃ n, l[i]? = some n ∧ x = .int (n : Int) := by
  unfold vN at h
  rw [List.getElem?_map] at h
  obtain ⟨n, e, q⟩ := Option.map_eq_some_iff.mp h
  exact ⟨n, e, q.symm⟩
theorem vN_take (l : List Nat) (n : Nat) : vN (l.take n) = (vN l).take n := by unfold vN; rw [List.map_take]
theorem vN_drop (l : List Nat) (n : Nat) : vN (l.drop n) = (vN l).drop n := by unfold vN; rw [List.map_drop]
/-- a tuple of bytes stands at a -/
def Tb (H : Hp) (a : Addr) (l : List Nat) : Prop := H a = some (.tup (vN l))
/-- a value, or None -/
def Tv (H : Hp) : V → Option (List Nat) → Prop
  | .non, none => True
  | .ref a, some l => Tb H a l
  | _, _ => False
theorem Tv.same {H H' : Hp} (s : Same H H') : ∀ {v : V} {o : Option (List Nat)}, Tv H v o → Tv H' v o
  | .non, none, h => h
  | .ref _, some _, h => s _ _ h
  | .non, some _, h => h
  | .ref _, none, h => h
  | .bl _, _, h => h
  | .int _, _, h => h
  | .str _, _, h => h
  | .byt _, _, h => h
  | .flt _, _, h => h
  | .ty _, _, h => h
theorem Tv.none_ {H : Hp} {v : V} (h : Tv H v none) : v = .non := by
  cases v <;> first | rfl | exact False.elim h
theorem Tv.some_ {H : Hp} {v : V} {l : List Nat} (h : Tv H v (some l)) : ∃ a, v = .ref a ∧ Tb H a l := by
  cases v <;> first | exact False.elim h | exact ⟨_, rfl, h⟩
theorem same_upd {H : Hp} {p : Addr} {o : HO} (hp : H p = none) : Same H (upd H p o) := fun b u e => by
  rw [upd_ne (ne_of_none e hp)]; exact e
theorem small_le {n m : Nat} (h : n ≤ m) (hm : m ≤ 16777216 := by decide) : n ≤ sizeLine := by
  rw [sizeLine_eq]; exact Nat.le_trans h hm
theorem small_lt {n m : Nat} (h : n < m) (hm : m ≤ 16777216 := by decide) : n < sizeLine := by
  rw [sizeLine_eq]; exact Nat.lt_of_lt_of_le h hm
end Ks
namespace Ks
open PySem PySem.Spec PyProof.Rows L2
/-! the places of the program's defs, their scopes (made by a program from its term) -/
def top (i : Nat) : Stmt := PySem.Challenge.pw_keystore_s01_answers.main.body.getD i (.Pass ⟨0, 0, 0, 0⟩)
abbrev s_empty_map : Stmt := top 3
abbrev N_empty_map : List Str := []
theorem sc_empty_map : FnScope [] [] (defScope s_empty_map) := ⟨rfl, rfl, rfl, by decide +kernel, rfl, by decide +kernel, by decide +kernel⟩
abbrev s_place_of : Stmt := top 4
abbrev N_place_of : List Str := ["pairs", "key", "low", "high", "middle"]
theorem sc_place_of : FnScope ["pairs", "key", "low", "high", "middle"] ["pairs", "key"] (defScope s_place_of) := ⟨rfl, rfl, rfl, by decide +kernel, rfl, by decide +kernel, by decide +kernel⟩
abbrev s_place_behind : Stmt := top 5
abbrev N_place_behind : List Str := ["pairs", "key", "place"]
theorem sc_place_behind : FnScope ["pairs", "key", "place"] ["pairs", "key"] (defScope s_place_behind) := ⟨rfl, rfl, rfl, by decide +kernel, rfl, by decide +kernel, by decide +kernel⟩
abbrev s_stands_at : Stmt := top 6
abbrev N_stands_at : List Str := ["pairs", "place", "key"]
theorem sc_stands_at : FnScope ["pairs", "place", "key"] ["pairs", "place", "key"] (defScope s_stands_at) := ⟨rfl, rfl, rfl, by decide +kernel, rfl, by decide +kernel, by decide +kernel⟩
abbrev s_value_at : Stmt := top 7
abbrev N_value_at : List Str := ["pairs", "key", "place"]
theorem sc_value_at : FnScope ["pairs", "key", "place"] ["pairs", "key"] (defScope s_value_at) := ⟨rfl, rfl, rfl, by decide +kernel, rfl, by decide +kernel, by decide +kernel⟩
abbrev s_map_with : Stmt := top 8
abbrev N_map_with : List Str := ["pairs", "key", "value", "middle"]
theorem sc_map_with : FnScope ["pairs", "key", "value", "middle"] ["pairs", "key", "value"] (defScope s_map_with) := ⟨rfl, rfl, rfl, by decide +kernel, rfl, by decide +kernel, by decide +kernel⟩
abbrev s_first_place : Stmt := top 9
abbrev N_first_place : List Str := ["pairs", "key", "itself", "way"]
theorem sc_first_place : FnScope ["pairs", "key", "itself", "way"] ["pairs", "key", "itself", "way"] (defScope s_first_place) := ⟨rfl, rfl, rfl, by decide +kernel, rfl, by decide +kernel, by decide +kernel⟩
abbrev s_part_between : Stmt := top 10
abbrev N_part_between : List Str := ["pairs", "low", "high", "start"]
theorem sc_part_between : FnScope ["pairs", "low", "high", "start"] ["pairs", "low", "high"] (defScope s_part_between) := ⟨rfl, rfl, rfl, by decide +kernel, rfl, by decide +kernel, by decide +kernel⟩
abbrev s_Reader_init : Stmt := inClass (top 13) 0
abbrev N_Reader_init : List Str := ["self", "row"]
theorem sc_Reader_init : FnScope ["self", "row"] ["self", "row"] (defScope s_Reader_init) := ⟨rfl, rfl, rfl, by decide +kernel, rfl, by decide +kernel, by decide +kernel⟩
abbrev s_Reader_ended : Stmt := inClass (top 13) 1
abbrev N_Reader_ended : List Str := ["self"]
theorem sc_Reader_ended : FnScope ["self"] ["self"] (defScope s_Reader_ended) := ⟨rfl, rfl, rfl, by decide +kernel, rfl, by decide +kernel, by decide +kernel⟩
abbrev s_Reader_take : Stmt := inClass (top 13) 2
abbrev N_Reader_take : List Str := ["self", "length", "end", "taken"]
theorem sc_Reader_take : FnScope ["self", "length", "end", "taken"] ["self", "length"] (defScope s_Reader_take) := ⟨rfl, rfl, rfl, by decide +kernel, rfl, by decide +kernel, by decide +kernel⟩
abbrev s_Reader_take_one : Stmt := inClass (top 13) 3
abbrev N_Reader_take_one : List Str := ["self"]
theorem sc_Reader_take_one : FnScope ["self"] ["self"] (defScope s_Reader_take_one) := ⟨rfl, rfl, rfl, by decide +kernel, rfl, by decide +kernel, by decide +kernel⟩
abbrev s_Reader_take_counted : Stmt := inClass (top 13) 4
abbrev N_Reader_take_counted : List Str := ["self", "length"]
theorem sc_Reader_take_counted : FnScope ["self", "length"] ["self"] (defScope s_Reader_take_counted) := ⟨rfl, rfl, rfl, by decide +kernel, rfl, by decide +kernel, by decide +kernel⟩
abbrev s_is_number : Stmt := top 18
abbrev N_is_number : List Str := ["number"]
theorem sc_is_number : FnScope ["number"] ["number"] (defScope s_is_number) := ⟨rfl, rfl, rfl, by decide +kernel, rfl, by decide +kernel, by decide +kernel⟩
abbrev s_low_first : Stmt := top 19
abbrev N_low_first : List Str := ["number", "length", "row", "rest", "place"]
theorem sc_low_first : FnScope ["number", "length", "row", "rest", "place"] ["number", "length"] (defScope s_low_first) := ⟨rfl, rfl, rfl, by decide +kernel, rfl, by decide +kernel, by decide +kernel⟩
abbrev s_whole_number : Stmt := top 20
abbrev N_whole_number : List Str := ["row", "total", "byte"]
theorem sc_whole_number : FnScope ["row", "total", "byte"] ["row"] (defScope s_whole_number) := ⟨rfl, rfl, rfl, by decide +kernel, rfl, by decide +kernel, by decide +kernel⟩
abbrev s_count_told : Stmt := top 21
abbrev N_count_told : List Str := ["row", "total"]
theorem sc_count_told : FnScope ["row", "total"] ["row"] (defScope s_count_told) := ⟨rfl, rfl, rfl, by decide +kernel, rfl, by decide +kernel, by decide +kernel⟩
abbrev s_count_raised : Stmt := top 22
abbrev N_count_raised : List Str := ["value", "number"]
theorem sc_count_raised : FnScope ["value", "number"] ["value", "number"] (defScope s_count_raised) := ⟨rfl, rfl, rfl, by decide +kernel, rfl, by decide +kernel, by decide +kernel⟩
abbrev s_is_key : Stmt := top 30
abbrev N_is_key : List Str := ["row"]
theorem sc_is_key : FnScope ["row"] ["row"] (defScope s_is_key) := ⟨rfl, rfl, rfl, by decide +kernel, rfl, by decide +kernel, by decide +kernel⟩
abbrev s_is_start : Stmt := top 31
abbrev N_is_start : List Str := ["row"]
theorem sc_is_start : FnScope ["row"] ["row"] (defScope s_is_start) := ⟨rfl, rfl, rfl, by decide +kernel, rfl, by decide +kernel, by decide +kernel⟩
abbrev s_is_value : Stmt := top 32
abbrev N_is_value : List Str := ["row"]
theorem sc_is_value : FnScope ["row"] ["row"] (defScope s_is_value) := ⟨rfl, rfl, rfl, by decide +kernel, rfl, by decide +kernel, by decide +kernel⟩
abbrev s_value_after : Stmt := top 33
abbrev N_value_after : List Str := ["change", "value"]
theorem sc_value_after : FnScope ["change", "value"] ["change", "value"] (defScope s_value_after) := ⟨rfl, rfl, rfl, by decide +kernel, rfl, by decide +kernel, by decide +kernel⟩
abbrev s_change_of_both : Stmt := top 34
abbrev N_change_of_both : List Str := ["earlier", "later"]
theorem sc_change_of_both : FnScope ["earlier", "later"] ["earlier", "later"] (defScope s_change_of_both) := ⟨rfl, rfl, rfl, by decide +kernel, rfl, by decide +kernel, by decide +kernel⟩
abbrev s_change_bytes : Stmt := top 37
abbrev N_change_bytes : List Str := ["change", "key", "head"]
theorem sc_change_bytes : FnScope ["change", "key", "head"] ["change"] (defScope s_change_bytes) := ⟨rfl, rfl, rfl, by decide +kernel, rfl, by decide +kernel, by decide +kernel⟩
abbrev s_read_record : Stmt := top 38
abbrev N_read_record : List Str := ["row", "reader", "changes"]
theorem sc_read_record : FnScope ["row", "reader", "changes"] ["row"] (defScope s_read_record) := ⟨rfl, rfl, rfl, by decide +kernel, rfl, by decide +kernel, by decide +kernel⟩
abbrev s_read_change : Stmt := top 39
abbrev N_read_change : List Str := ["reader", "kind", "key"]
theorem sc_read_change : FnScope ["reader", "kind", "key"] ["reader"] (defScope s_read_change) := ⟨rfl, rfl, rfl, by decide +kernel, rfl, by decide +kernel, by decide +kernel⟩
abbrev s_read_key : Stmt := top 40
abbrev N_read_key : List Str := ["reader", "key"]
theorem sc_read_key : FnScope ["reader", "key"] ["reader"] (defScope s_read_key) := ⟨rfl, rfl, rfl, by decide +kernel, rfl, by decide +kernel, by decide +kernel⟩
abbrev s_read_value : Stmt := top 41
abbrev N_read_value : List Str := ["reader", "length", "value"]
theorem sc_read_value : FnScope ["reader", "length", "value"] ["reader"] (defScope s_read_value) := ⟨rfl, rfl, rfl, by decide +kernel, rfl, by decide +kernel, by decide +kernel⟩
abbrev s_reply : Stmt := top 48
abbrev N_reply : List Str := ["number"]
theorem sc_reply : FnScope ["number"] ["number"] (defScope s_reply) := ⟨rfl, rfl, rfl, by decide +kernel, rfl, by decide +kernel, by decide +kernel⟩
abbrev s_value_reply : Stmt := top 49
abbrev N_value_reply : List Str := ["value"]
theorem sc_value_reply : FnScope ["value"] ["value"] (defScope s_value_reply) := ⟨rfl, rfl, rfl, by decide +kernel, rfl, by decide +kernel, by decide +kernel⟩
abbrev s_key_reply : Stmt := top 50
abbrev N_key_reply : List Str := ["key", "value"]
theorem sc_key_reply : FnScope ["key", "value"] ["key", "value"] (defScope s_key_reply) := ⟨rfl, rfl, rfl, by decide +kernel, rfl, by decide +kernel, by decide +kernel⟩
abbrev s_record_reply : Stmt := top 51
abbrev N_record_reply : List Str := ["how_many", "record"]
theorem sc_record_reply : FnScope ["how_many", "record"] ["how_many", "record"] (defScope s_record_reply) := ⟨rfl, rfl, rfl, by decide +kernel, rfl, by decide +kernel, by decide +kernel⟩
abbrev s_state_after : Stmt := top 53
abbrev N_state_after : List Str := ["state", "changes", "now", "change", "key"]
theorem sc_state_after : FnScope ["state", "changes", "now", "change", "key"] ["state", "changes"] (defScope s_state_after) := ⟨rfl, rfl, rfl, by decide +kernel, rfl, by decide +kernel, by decide +kernel⟩
abbrev s_Draft_init : Stmt := inClass (top 55) 0
abbrev N_Draft_init : List Str := ["self", "changes", "record", "effects"]
theorem sc_Draft_init : FnScope ["self", "changes", "record", "effects"] ["self", "changes", "record", "effects"] (defScope s_Draft_init) := ⟨rfl, rfl, rfl, by decide +kernel, rfl, by decide +kernel, by decide +kernel⟩
abbrev s_empty_draft : Stmt := top 56
abbrev N_empty_draft : List Str := []
theorem sc_empty_draft : FnScope [] [] (defScope s_empty_draft) := ⟨rfl, rfl, rfl, by decide +kernel, rfl, by decide +kernel, by decide +kernel⟩
abbrev s_draft_with : Stmt := top 57
abbrev N_draft_with : List Str := ["draft", "change", "changes", "record", "effects"]
theorem sc_draft_with : FnScope ["draft", "change", "changes", "record", "effects"] ["draft", "change"] (defScope s_draft_with) := ⟨rfl, rfl, rfl, by decide +kernel, rfl, by decide +kernel, by decide +kernel⟩
abbrev s_effect_with : Stmt := top 58
abbrev N_effect_with : List Str := ["draft", "change", "effect"]
theorem sc_effect_with : FnScope ["draft", "change", "effect"] ["draft", "change"] (defScope s_effect_with) := ⟨rfl, rfl, rfl, by decide +kernel, rfl, by decide +kernel, by decide +kernel⟩
abbrev s_is_settled : Stmt := top 59
abbrev N_is_settled : List Str := ["draft", "key", "effect"]
theorem sc_is_settled : FnScope ["draft", "key", "effect"] ["draft", "key"] (defScope s_is_settled) := ⟨rfl, rfl, rfl, by decide +kernel, rfl, by decide +kernel, by decide +kernel⟩
abbrev s_is_removed : Stmt := top 60
abbrev N_is_removed : List Str := ["draft", "key", "effect"]
theorem sc_is_removed : FnScope ["draft", "key", "effect"] ["draft", "key"] (defScope s_is_removed) := ⟨rfl, rfl, rfl, by decide +kernel, rfl, by decide +kernel, by decide +kernel⟩
abbrev s_value_by : Stmt := top 61
abbrev N_value_by : List Str := ["draft", "key", "value", "effect"]
theorem sc_value_by : FnScope ["draft", "key", "value", "effect"] ["draft", "key", "value"] (defScope s_value_by) := ⟨rfl, rfl, rfl, by decide +kernel, rfl, by decide +kernel, by decide +kernel⟩
abbrev s_nearest_left : Stmt := top 62
abbrev N_nearest_left : List Str := ["draft", "pairs", "key", "itself", "way", "place", "found"]
theorem sc_nearest_left : FnScope ["draft", "pairs", "key", "itself", "way", "place", "found"] ["draft", "pairs", "key", "itself", "way"] (defScope s_nearest_left) := ⟨rfl, rfl, rfl, by decide +kernel, rfl, by decide +kernel, by decide +kernel⟩
abbrev s_Looks_init : Stmt := inClass (top 66) 0
abbrev N_Looks_init : List Str := ["self"]
theorem sc_Looks_init : FnScope ["self"] ["self"] (defScope s_Looks_init) := ⟨rfl, rfl, rfl, by decide +kernel, rfl, by decide +kernel, by decide +kernel⟩
abbrev s_Looks_has_room : Stmt := inClass (top 66) 1
abbrev N_Looks_has_room : List Str := ["self", "more"]
theorem sc_Looks_has_room : FnScope ["self", "more"] ["self", "more"] (defScope s_Looks_has_room) := ⟨rfl, rfl, rfl, by decide +kernel, rfl, by decide +kernel, by decide +kernel⟩
abbrev s_Looks_look_at_key : Stmt := inClass (top 66) 2
abbrev N_Looks_look_at_key : List Str := ["self", "key"]
theorem sc_Looks_look_at_key : FnScope ["self", "key"] ["self", "key"] (defScope s_Looks_look_at_key) := ⟨rfl, rfl, rfl, by decide +kernel, rfl, by decide +kernel, by decide +kernel⟩
abbrev s_Looks_look_at_stretch : Stmt := inClass (top 66) 3
abbrev N_Looks_look_at_stretch : List Str := ["self", "low", "high"]
theorem sc_Looks_look_at_stretch : FnScope ["self", "low", "high"] ["self", "low", "high"] (defScope s_Looks_look_at_stretch) := ⟨rfl, rfl, rfl, by decide +kernel, rfl, by decide +kernel, by decide +kernel⟩
abbrev s_Looks_differ : Stmt := inClass (top 66) 4
abbrev N_Looks_differ : List Str := ["self", "one", "other"]
theorem sc_Looks_differ : FnScope ["self", "one", "other"] ["self", "one", "other"] (defScope s_Looks_differ) := ⟨rfl, rfl, rfl, by decide +kernel, rfl, by decide +kernel, by decide +kernel⟩
abbrev s_stretch_differs : Stmt := top 67
abbrev N_stretch_differs : List Str := ["one", "other", "stretch", "part"]
theorem sc_stretch_differs : FnScope ["one", "other", "stretch", "part"] ["one", "other", "stretch"] (defScope s_stretch_differs) := ⟨rfl, rfl, rfl, by decide +kernel, rfl, by decide +kernel, by decide +kernel⟩
abbrev s_Transaction_init : Stmt := inClass (top 72) 0
abbrev N_Transaction_init : List Str := ["self", "state"]
theorem sc_Transaction_init : FnScope ["self", "state"] ["self", "state"] (defScope s_Transaction_init) := ⟨rfl, rfl, rfl, by decide +kernel, rfl, by decide +kernel, by decide +kernel⟩
abbrev s_Transaction_get : Stmt := inClass (top 72) 1
abbrev N_Transaction_get : List Str := ["self", "key"]
theorem sc_Transaction_get : FnScope ["self", "key"] ["self", "key"] (defScope s_Transaction_get) := ⟨rfl, rfl, rfl, by decide +kernel, rfl, by decide +kernel, by decide +kernel⟩
abbrev s_Transaction_value_seen : Stmt := inClass (top 72) 2
abbrev N_Transaction_value_seen : List Str := ["self", "key"]
theorem sc_Transaction_value_seen : FnScope ["self", "key"] ["self", "key"] (defScope s_Transaction_value_seen) := ⟨rfl, rfl, rfl, by decide +kernel, rfl, by decide +kernel, by decide +kernel⟩
abbrev s_Transaction_put : Stmt := inClass (top 72) 3
abbrev N_Transaction_put : List Str := ["self", "key", "value"]
theorem sc_Transaction_put : FnScope ["self", "key", "value"] ["self", "key", "value"] (defScope s_Transaction_put) := ⟨rfl, rfl, rfl, by decide +kernel, rfl, by decide +kernel, by decide +kernel⟩
abbrev s_Transaction_remove : Stmt := inClass (top 72) 4
abbrev N_Transaction_remove : List Str := ["self", "key"]
theorem sc_Transaction_remove : FnScope ["self", "key"] ["self", "key"] (defScope s_Transaction_remove) := ⟨rfl, rfl, rfl, by decide +kernel, rfl, by decide +kernel, by decide +kernel⟩
abbrev s_Transaction_add : Stmt := inClass (top 72) 5
abbrev N_Transaction_add : List Str := ["self", "key", "number"]
theorem sc_Transaction_add : FnScope ["self", "key", "number"] ["self", "key", "number"] (defScope s_Transaction_add) := ⟨rfl, rfl, rfl, by decide +kernel, rfl, by decide +kernel, by decide +kernel⟩
abbrev s_Transaction_change_more : Stmt := inClass (top 72) 6
abbrev N_Transaction_change_more : List Str := ["self", "change", "draft"]
theorem sc_Transaction_change_more : FnScope ["self", "change", "draft"] ["self", "change"] (defScope s_Transaction_change_more) := ⟨rfl, rfl, rfl, by decide +kernel, rfl, by decide +kernel, by decide +kernel⟩
abbrev s_Transaction_nearest : Stmt := inClass (top 72) 7
abbrev N_Transaction_nearest : List Str := ["self", "key", "itself", "way", "found"]
theorem sc_Transaction_nearest : FnScope ["self", "key", "itself", "way", "found"] ["self", "key", "itself", "way"] (defScope s_Transaction_nearest) := ⟨rfl, rfl, rfl, by decide +kernel, rfl, by decide +kernel, by decide +kernel⟩
abbrev s_Transaction_look_from : Stmt := inClass (top 72) 8
abbrev N_Transaction_look_from : List Str := ["self", "key", "itself", "way", "state_key", "own_key", "found"]
theorem sc_Transaction_look_from : FnScope ["self", "key", "itself", "way", "state_key", "own_key", "found"] ["self", "key", "itself", "way"] (defScope s_Transaction_look_from) := ⟨rfl, rfl, rfl, by decide +kernel, rfl, by decide +kernel, by decide +kernel⟩
abbrev s_Transaction_count : Stmt := inClass (top 72) 9
abbrev N_Transaction_count : List Str := ["self", "one", "another", "most"]
theorem sc_Transaction_count : FnScope ["self", "one", "another", "most"] ["self", "one", "another", "most"] (defScope s_Transaction_count) := ⟨rfl, rfl, rfl, by decide +kernel, rfl, by decide +kernel, by decide +kernel⟩
abbrev s_Transaction_how_many : Stmt := inClass (top 72) 10
abbrev N_Transaction_how_many : List Str := ["self", "one", "another", "most", "counted", "found"]
theorem sc_Transaction_how_many : FnScope ["self", "one", "another", "most", "counted", "found"] ["self", "one", "another", "most"] (defScope s_Transaction_how_many) := ⟨rfl, rfl, rfl, by decide +kernel, rfl, by decide +kernel, by decide +kernel⟩
abbrev s_Transaction_save : Stmt := inClass (top 72) 11
abbrev N_Transaction_save : List Str := ["self"]
theorem sc_Transaction_save : FnScope ["self"] ["self"] (defScope s_Transaction_save) := ⟨rfl, rfl, rfl, by decide +kernel, rfl, by decide +kernel, by decide +kernel⟩
abbrev s_Transaction_back : Stmt := inClass (top 72) 12
abbrev N_Transaction_back : List Str := ["self", "number"]
theorem sc_Transaction_back : FnScope ["self", "number"] ["self", "number"] (defScope s_Transaction_back) := ⟨rfl, rfl, rfl, by decide +kernel, rfl, by decide +kernel, by decide +kernel⟩
abbrev s_Transaction_list_changes : Stmt := inClass (top 72) 13
abbrev N_Transaction_list_changes : List Str := ["self"]
theorem sc_Transaction_list_changes : FnScope ["self"] ["self"] (defScope s_Transaction_list_changes) := ⟨rfl, rfl, rfl, by decide +kernel, rfl, by decide +kernel, by decide +kernel⟩
abbrev s_Transaction_clashes_with : Stmt := inClass (top 72) 14
abbrev N_Transaction_clashes_with : List Str := ["self", "state"]
theorem sc_Transaction_clashes_with : FnScope ["self", "state"] ["self", "state"] (defScope s_Transaction_clashes_with) := ⟨rfl, rfl, rfl, by decide +kernel, rfl, by decide +kernel, by decide +kernel⟩
abbrev s_nearer : Stmt := top 73
abbrev N_nearer : List Str := ["one", "other", "way", "keys"]
theorem sc_nearer : FnScope ["one", "other", "way", "keys"] ["one", "other", "way"] (defScope s_nearer) := ⟨rfl, rfl, rfl, by decide +kernel, rfl, by decide +kernel, by decide +kernel⟩
abbrev s_Desk_init : Stmt := inClass (top 76) 0
abbrev N_Desk_init : List Str := ["self"]
theorem sc_Desk_init : FnScope ["self"] ["self"] (defScope s_Desk_init) := ⟨rfl, rfl, rfl, by decide +kernel, rfl, by decide +kernel, by decide +kernel⟩
abbrev s_is_slot : Stmt := top 77
abbrev N_is_slot : List Str := ["number"]
theorem sc_is_slot : FnScope ["number"] ["number"] (defScope s_is_slot) := ⟨rfl, rfl, rfl, by decide +kernel, rfl, by decide +kernel, by decide +kernel⟩
abbrev s_refusal : Stmt := top 78
abbrev N_refusal : List Str := ["number", "filled"]
theorem sc_refusal : FnScope ["number", "filled"] ["number", "filled"] (defScope s_refusal) := ⟨rfl, rfl, rfl, by decide +kernel, rfl, by decide +kernel, by decide +kernel⟩
abbrev s_begin : Stmt := top 79
abbrev N_begin : List Str := ["desk", "given"]
theorem sc_begin : FnScope ["desk", "given"] ["desk", "given"] (defScope s_begin) := ⟨rfl, rfl, rfl, by decide +kernel, rfl, by decide +kernel, by decide +kernel⟩
abbrev s_older : Stmt := top 80
abbrev N_older : List Str := ["desk", "given", "refused"]
theorem sc_older : FnScope ["desk", "given", "refused"] ["desk", "given"] (defScope s_older) := ⟨rfl, rfl, rfl, by decide +kernel, rfl, by decide +kernel, by decide +kernel⟩
abbrev s_commit : Stmt := top 81
abbrev N_commit : List Str := ["desk", "given", "refused", "transaction", "changes"]
theorem sc_commit : FnScope ["desk", "given", "refused", "transaction", "changes"] ["desk", "given"] (defScope s_commit) := ⟨rfl, rfl, rfl, by decide +kernel, rfl, by decide +kernel, by decide +kernel⟩
abbrev s_drop : Stmt := top 82
abbrev N_drop : List Str := ["desk", "given"]
theorem sc_drop : FnScope ["desk", "given"] ["desk", "given"] (defScope s_drop) := ⟨rfl, rfl, rfl, by decide +kernel, rfl, by decide +kernel, by decide +kernel⟩
abbrev s_keep : Stmt := top 83
abbrev N_keep : List Str := ["desk", "given"]
theorem sc_keep : FnScope ["desk", "given"] ["desk", "given"] (defScope s_keep) := ⟨rfl, rfl, rfl, by decide +kernel, rfl, by decide +kernel, by decide +kernel⟩
abbrev s_forget : Stmt := top 84
abbrev N_forget : List Str := ["desk", "given"]
theorem sc_forget : FnScope ["desk", "given"] ["desk", "given"] (defScope s_forget) := ⟨rfl, rfl, rfl, by decide +kernel, rfl, by decide +kernel, by decide +kernel⟩
abbrev s_empty_slot : Stmt := top 85
abbrev N_empty_slot : List Str := ["number", "filled", "refused"]
theorem sc_empty_slot : FnScope ["number", "filled", "refused"] ["number", "filled"] (defScope s_empty_slot) := ⟨rfl, rfl, rfl, by decide +kernel, rfl, by decide +kernel, by decide +kernel⟩
abbrev s_replay : Stmt := top 86
abbrev N_replay : List Str := ["desk", "given", "changes"]
theorem sc_replay : FnScope ["desk", "given", "changes"] ["desk", "given"] (defScope s_replay) := ⟨rfl, rfl, rfl, by decide +kernel, rfl, by decide +kernel, by decide +kernel⟩
abbrev s_get : Stmt := top 87
abbrev N_get : List Str := ["transaction", "given"]
theorem sc_get : FnScope ["transaction", "given"] ["transaction", "given"] (defScope s_get) := ⟨rfl, rfl, rfl, by decide +kernel, rfl, by decide +kernel, by decide +kernel⟩
abbrev s_put : Stmt := top 88
abbrev N_put : List Str := ["transaction", "given"]
theorem sc_put : FnScope ["transaction", "given"] ["transaction", "given"] (defScope s_put) := ⟨rfl, rfl, rfl, by decide +kernel, rfl, by decide +kernel, by decide +kernel⟩
abbrev s_remove : Stmt := top 89
abbrev N_remove : List Str := ["transaction", "given"]
theorem sc_remove : FnScope ["transaction", "given"] ["transaction", "given"] (defScope s_remove) := ⟨rfl, rfl, rfl, by decide +kernel, rfl, by decide +kernel, by decide +kernel⟩
abbrev s_add : Stmt := top 90
abbrev N_add : List Str := ["transaction", "given"]
theorem sc_add : FnScope ["transaction", "given"] ["transaction", "given"] (defScope s_add) := ⟨rfl, rfl, rfl, by decide +kernel, rfl, by decide +kernel, by decide +kernel⟩
abbrev s_next_key : Stmt := top 91
abbrev N_next_key : List Str := ["transaction", "given"]
theorem sc_next_key : FnScope ["transaction", "given"] ["transaction", "given"] (defScope s_next_key) := ⟨rfl, rfl, rfl, by decide +kernel, rfl, by decide +kernel, by decide +kernel⟩
abbrev s_key_before : Stmt := top 92
abbrev N_key_before : List Str := ["transaction", "given"]
theorem sc_key_before : FnScope ["transaction", "given"] ["transaction", "given"] (defScope s_key_before) := ⟨rfl, rfl, rfl, by decide +kernel, rfl, by decide +kernel, by decide +kernel⟩
abbrev s_count : Stmt := top 93
abbrev N_count : List Str := ["transaction", "given"]
theorem sc_count : FnScope ["transaction", "given"] ["transaction", "given"] (defScope s_count) := ⟨rfl, rfl, rfl, by decide +kernel, rfl, by decide +kernel, by decide +kernel⟩
abbrev s_save : Stmt := top 94
abbrev N_save : List Str := ["transaction", "given"]
theorem sc_save : FnScope ["transaction", "given"] ["transaction", "given"] (defScope s_save) := ⟨rfl, rfl, rfl, by decide +kernel, rfl, by decide +kernel, by decide +kernel⟩
abbrev s_back : Stmt := top 95
abbrev N_back : List Str := ["transaction", "given"]
theorem sc_back : FnScope ["transaction", "given"] ["transaction", "given"] (defScope s_back) := ⟨rfl, rfl, rfl, by decide +kernel, rfl, by decide +kernel, by decide +kernel⟩
abbrev s_list_changes : Stmt := top 96
abbrev N_list_changes : List Str := ["transaction", "given"]
theorem sc_list_changes : FnScope ["transaction", "given"] ["transaction", "given"] (defScope s_list_changes) := ⟨rfl, rfl, rfl, by decide +kernel, rfl, by decide +kernel, by decide +kernel⟩
abbrev s_read_given : Stmt := top 100
abbrev N_read_given : List Str := ["reader", "call", "form", "given", "row"]
theorem sc_read_given : FnScope ["reader", "call", "form", "given", "row"] ["reader", "call"] (defScope s_read_given) := ⟨rfl, rfl, rfl, by decide +kernel, rfl, by decide +kernel, by decide +kernel⟩
abbrev s_do_call : Stmt := top 101
abbrev N_do_call : List Str := ["desk", "call", "given", "refused"]
theorem sc_do_call : FnScope ["desk", "call", "given", "refused"] ["desk", "call", "given"] (defScope s_do_call) := ⟨rfl, rfl, rfl, by decide +kernel, rfl, by decide +kernel, by decide +kernel⟩
abbrev s_answers : Stmt := top 102
abbrev N_answers : List Str := ["calls", "desk", "reader", "told", "call", "answer"]
theorem sc_answers : FnScope ["calls", "desk", "reader", "told", "call", "answer"] ["calls"] (defScope s_answers) := ⟨rfl, rfl, rfl, by decide +kernel, rfl, by decide +kernel, by decide +kernel⟩
end Ks
namespace Ks
open PySem PySem.Spec PyProof.Rows L2 RT
section
variable {P : Program} {w : World} {K : PySem.W.Frag} {mg : Str → Option Value} {base : Heap}
def sp_low : Sp := fun vs H Q _ => ∃ (z : Int) (n : Nat), vs = [.int z, .int (n : Int)] ∧ n ≤ 8 ∧
  ∀ H' p, Same H H' → H p = none → Tb H' p (low z n) → Q (.ref p) H'
theorem d_low (D : Src K mg "low_first" s_low_first ["number", "length"]) (hR : mg "range" = none) (hT : mg "tuple" = none) : DefOk P w K mg base CX0 1 "low_first" sp_low := by
  refine D.ok sc_low_first (fun vs H Q E h => ?_) (fun f cdv A outer s H vs Q E hr h => ⟨_, pss_cons (ps_set (i := 2) sc_low_first.nd rfl (.inl rfl) (pe_lst pa_nil))
      (pss_cons (ps_set (i := 3) sc_low_first.nd rfl (.inl rfl) (pv 0))
      (pss_cons (ps_for PassesOwn.never rfl (pi_range1 rfl hR (pa_cons (pv 1) pa_nil)) (pg_name (i := 4) sc_low_first.nd rfl (.inl rfl))
        (pss_cons (ps_expr (pe_bm PySem.F.plainAttrs_list PySem.F.slot_list_append PySem.F.type_list_append mt_append (pv 2) (pa_cons (pe_op op_mod (pv 3) pe_int) pa_nil)))
          (pss_one (ps_set (i := 3) sc_low_first.nd rfl (.inl rfl) (pe_op op_fdiv (pv 3) pe_int)))))
      (pss_one (ps_ret (pe_callTy call_tuple_of (by rfl) hT (by decide +kernel) (pa_cons (pv 2) pa_nil)))))), ?_⟩)
  · obtain ⟨z, n, rfl, _⟩ := h
    rfl
  · obtain ⟨z, n, rfl, hn, k⟩ := h
    refine ⟨small_le (Nat.zero_le 1), fun l hl => ?_⟩
    refine ⟨_, rfl, ?_⟩
    refine ⟨_, rfl, (n : Int), rfl, by omega, by omega, for_range (n := (n : Int).toNat) (fun i σ H' => ∃ v : Option V, σ = [some (.int z), some (.int (n : Int)), some (.ref l), some (.int (z / 256 ^ i)), v] ∧ H' = upd H l (.lst (vN (low z i)))) ⟨none, ?_, rfl⟩ ?_ ?_⟩
    · simp [L2.start]
    · rintro i σ H' hi ⟨v, rfl, rfl⟩
      have hlen : (vN (low z i)).length = i := by rw [vN_len, low_length]
      refine ⟨_, rfl, .inl ⟨rfl, _, SqL.of upd_same⟩, _, rfl, _, _, rfl, rfl, (by decide : (0 : Int) < 256), l, _, _, rfl, rfl, upd_same, by rw [hlen]; exact small_lt (m := 100) (by omega), ?_⟩
      refine ⟨_, rfl, _, _, rfl, rfl, ⟨by decide, by decide⟩, _, by rw [← low_next]; rfl, ?_⟩
      rw [upd_upd, low_succ, vN_app]
      have e : ((z / 256 ^ i % 256).toNat : Int) = z / 256 ^ i % 256 := Int.toNat_of_nonneg (Int.emod_nonneg _ (by decide))
      have e2 : vN [(z / 256 ^ i % 256).toNat] = [V.int (z / 256 ^ i % 256)] := by
        show [V.int ((z / 256 ^ i % 256).toNat : Int)] = _
        rw [e]
      rw [e2]
    · rintro σ H' ⟨v, rfl, rfl⟩
      refine ⟨_, rfl, _, _, rfl, .inl ⟨SqL.of upd_same, fun p hp => ?_⟩⟩
      have e : (n : Int).toNat = n := by omega
      rw [e] at hp ⊢
      have hpl : p ≠ l := fun z => by rw [z, upd_same] at hp; cases hp
      refine k _ p (Same.trans (same_upd hl) (same_upd hp)) ?_ upd_same
      rw [upd_ne hpl] at hp
      exact hp
/-! whole_number -/
theorem number_drop {l : List Nat} {i n : Nat} (hi : i < l.length) (e : l[l.length - 1 - i]? = some n) : Gv05.number (l.drop (l.length - (i + 1))) = n + 256 * Gv05.number (l.drop (l.length - i)) := by
  have q : l.length - (i + 1) = l.length - 1 - i := by omega
  obtain ⟨h1, h2⟩ := List.getElem?_eq_some_iff.mp e
  rw [q, List.drop_eq_getElem_cons h1, h2, number_cons]
  congr 4
  omega
def sp_whole : Sp := fun vs H Q _ => ∃ (a : Addr) (l : List Nat), vs = [.ref a] ∧ Tb H a l ∧ Q (.int (Gv05.number l : Int)) H
theorem d_whole (D : Src K mg "whole_number" s_whole_number ["row"]) (hR : mg "reversed" = none) : DefOk P w K mg base CX0 1 "whole_number" sp_whole := by
  refine D.ok sc_whole_number (fun vs H Q E h => ?_) (fun f cdv A outer s H vs Q E hr h => ⟨_, pss_cons (ps_set (i := 1) sc_whole_number.nd rfl (.inl rfl) pe_int)
      (pss_cons (ps_for PassesOwn.never rfl (pi_revA rfl hR (pv 0)) (pg_name (i := 2) sc_whole_number.nd rfl (.inl rfl))
        (pss_one (ps_set (i := 1) sc_whole_number.nd rfl (.inl rfl) (pe_op op_add (pe_op op_mul (pv 1) pe_int) (pv 2)))))
      (pss_one (ps_ret (pv 1)))), ?_⟩)
  · obtain ⟨a, l, rfl, _⟩ := h
    rfl
  · obtain ⟨a, l, rfl, ha, k⟩ := h
    refine ⟨_, rfl, a, vN l, rfl, .inr ⟨SqT.of ha, for_ItvT (fun i σ H' => ∃ v : Option V, σ = [some (.ref a), some (.int (Gv05.number (l.drop (l.length - i)) : Int)), v] ∧ H' = H) ⟨none, ?_, rfl⟩ ?_ ?_ ?_⟩⟩
    · simp [L2.start]; rfl
    · rintro i σ H' ⟨v, _, rfl⟩
      exact SqT.of ha
    · rintro i x σ H' hi hx ⟨v, rfl, rfl⟩
      rw [vN_len] at hi hx
      obtain ⟨n, hn, rfl⟩ := vN_get hx
      refine ⟨_, rfl, _, _, rfl, rfl, .inr ⟨by decide, by decide⟩, _, rfl, _, _, rfl, rfl, some (.int (n : Int)), ?_, rfl⟩
      rw [number_drop hi hn]
      have e : ((n + 256 * Gv05.number (l.drop (l.length - i)) : Nat) : Int) = (Gv05.number (l.drop (l.length - i)) : Int) * 256 + (n : Int) := by omega
      rw [e]; rfl
    · rintro σ H' ⟨v, rfl, rfl⟩
      rw [vN_len, Nat.sub_self]
      exact ⟨_, rfl, k⟩
/-! count_told -/
def sp_told : Sp := fun vs H Q _ => ∃ (a : Addr) (l : List Nat), vs = [.ref a] ∧ Tb H a l ∧ Q (.int (toldN l)) H
theorem d_told (D : Src K mg "count_told" s_count_told ["row"]) (W : DefOk P w K mg base CX0 1 "whole_number" sp_whole) (cE : GI mg "COUNTS_END" 9223372036854775808) (cA : GI mg "COUNTS_IN_ALL" 18446744073709551616) : DefOk P w K mg base CX0 2 "count_told" sp_told := by
  refine D.ok sc_count_told (fun vs H Q E h => ?_) (fun f cdv A outer s H vs Q E hr h => ⟨_, pss_cons (ps_set (i := 1) sc_count_told.nd rfl (.inl rfl) (pe_cl W hr pass0 (pa_cons (pv 0) pa_nil)))
      (pss_cons (ps_if (pt_cmpR op_ge (pv 1) (pe_gi cE) (nomark _)) (pss_one (ps_ret (pe_op op_sub (pv 1) (pe_gi cA)))) pss_nil)
      (pss_one (ps_ret (pv 1)))), ?_⟩)
  · obtain ⟨a, l, rfl, _⟩ := h
    rfl
  · obtain ⟨a, l, rfl, ha, k⟩ := h
    refine ⟨_, rfl, a, l, rfl, ha, ?_⟩
    refine ⟨_, rfl, _, _, rfl, rfl, _, rfl, ?_⟩
    unfold toldN at k
    refine iteD (fun c => ?_) (fun c => ?_)
    · rw [if_pos c] at k
      exact ⟨_, rfl, _, _, rfl, rfl, k⟩
    · rw [if_neg c] at k
      exact ⟨_, rfl, k⟩
/-! count_raised -/
def sp_raised : Sp := fun vs H Q _ => ∃ (v : V) (o : Option (List Nat)) (n : Int), vs = [v, .int n] ∧ Tv H v o ∧
  ∀ H' r, Same H H' → Tv H' r (some (raised o n)) → Q r H'
theorem d_raised (D : Src K mg "count_raised" s_count_raised ["value", "number"]) (L : DefOk P w K mg base CX0 1 "low_first" sp_low) (T : DefOk P w K mg base CX0 2 "count_told" sp_told) (hL : mg "len" = none) (c8 : GI mg "COUNT_LENGTH" 8) : DefOk P w K mg base CX0 3 "count_raised" sp_raised := by
  refine D.ok sc_count_raised (fun vs H Q E h => ?_) (fun f cdv A outer s H vs Q E hr h => ⟨_, pss_cons (ps_if (pt_cmpR op_isN (pv 0) pe_non (nomark _)) (pss_one (ps_ret (pe_cl L (hr.mono (by decide)) pass0 (pa_cons (pv 1) (pa_cons (pe_gi c8) pa_nil))))) pss_nil)
      (pss_cons (ps_if (pt_cmpR op_ne (pe_callB call_len (by rfl) hL PySem.boot_len (pa_cons (pv 0) pa_nil)) (pe_gi c8) (nomark _)) (pss_one (ps_ret (pv 0))) pss_nil)
      (pss_one (ps_ret (pe_cl L (hr.mono (by decide)) pass0 (pa_cons (pe_op op_add (pe_cl T hr pass0 (pa_cons (pv 0) pa_nil)) (pv 1)) (pa_cons (pe_gi c8) pa_nil)))))), ?_⟩)
  · obtain ⟨v, o, n, rfl, _⟩ := h
    rfl
  · obtain ⟨v, o, n, rfl, hv, k⟩ := h
    cases o with
    | none =>
      obtain rfl := hv.none_
      refine ⟨_, rfl, rfl, _, rfl, iteD (fun _ => ?_) (fun c => absurd rfl c)⟩
      refine ⟨_, rfl, n, 8, rfl, by decide, fun H' p sm hp hb => ?_⟩
      exact k H' (.ref p) sm hb
    | some b =>
      obtain ⟨a, rfl, ha⟩ := hv.some_
      refine ⟨_, rfl, rfl, _, rfl, iteD (fun c => nomatch c) (fun c => ?_)⟩
      refine ⟨_, rfl, _, _, rfl, .inr ⟨_, SqT.of ha, rfl⟩, rfl, _, rfl, iteDN (fun c => ?_) (fun c => ?_)⟩
      · rw [int_eq, vN_len] at c
        refine ⟨_, rfl, k H (.ref a) (Same.refl H) ?_⟩
        show Tb H a (if b.length = 8 then low (toldN b + n) 8 else b)
        rw [if_neg (by omega)]
        exact ha
      · rw [int_eq, vN_len] at c
        refine ⟨_, rfl, a, b, rfl, ha, _, rfl, _, _, rfl, rfl, toldN b + n, 8, rfl, by decide, fun H' p sm hp hb => ?_⟩
        refine k H' (.ref p) sm ?_
        show Tb H' p (if b.length = 8 then low (toldN b + n) 8 else b)
        rw [if_pos (by omega)]
        exact hb
end
end Ks
namespace Ks
open PySem PySem.Spec PyProof.Rows L2
/-! ### comparing tuples of bytes, or None -/
def dL : List Nat → List PyData
  | [] => []
  | n :: l => .int (n : Int) :: dL l
def dO : Option (List Nat) → PyData
  | none => .none
  | some l => .tuple (dL l)
theorem dL_lay : ∀ l : List Nat, PyData.canLayAll0 (dL l) = true
  | [] => rfl
  | n :: l => by
    show (PyData.canLay0 (.int (n : Int)) && PyData.canLayAll0 (dL l)) = true
    rw [dL_lay l]; rfl
theorem dL_depth : ∀ l : List Nat, PyData.depthAll (dL l) = 0
  | [] => rfl
  | n :: l => by
    show max 0 (PyData.depthAll (dL l)) = 0
    rw [dL_depth l]; rfl
theorem dO_shaped : ∀ o : Option (List Nat), SeqAt.shaped (dO o) = true
  | none => rfl
  | some l => by
    show (PyData.canLayAll0 (dL l) && decide (PyData.depthAll (dL l) + 1 ≤ 64)) = true
    rw [dL_lay, dL_depth]; rfl
theorem dL_eqv : ∀ a b : List Nat, PyData.eqvAll (dL a) (dL b) = decide (a = b)
  | [], [] => rfl
  | [], _ :: _ => rfl
  | _ :: _, [] => rfl
  | x :: a, y :: b => by
    show (((x : Int) == (y : Int)) && PyData.eqvAll (dL a) (dL b)) = decide (x :: a = y :: b)
    rw [dL_eqv a b]
    by_cases h : x = y
    · subst h
      by_cases k : a = b
      · subst k; simp
      · simp [k]
    · have : ¬ (x : Int) = (y : Int) := by omega
      simp [h, this]
theorem dO_eqv : ∀ a b : Option (List Nat), PyData.eqv (dO a) (dO b) = decide (a = b)
  | none, none => rfl
  | none, some _ => rfl
  | some _, none => rfl
  | some a, some b => by
    show PyData.eqvAll (dL a) (dL b) = decide (some a = some b)
    rw [dL_eqv]
    by_cases h : a = b
    · subst h; simp
    · simp [h]
section
variable {K : PySem.W.Frag} {H : Hp}
theorem dL_all : ∀ l : List Nat, DpAll K H (vN l) (dL l)
  | [] => .nil
  | n :: l => .cons (.int _) (dL_all l)
theorem Tv.dp {v : V} {o : Option (List Nat)} (h : Tv H v o) : Dp K H v (dO o) := by
  cases o with
  | none => obtain rfl := h.none_; exact .non
  | some l => obtain ⟨a, rfl, ha⟩ := h.some_; exact .tup (SqT.of ha) (dL_all l)
end
section
variable {X : Cx}
theorem op_eqB (hu : X.A.units + 64 < cLine) : OpR X (compareOp .Eq) (fun x y H Q => ∃ a b, Tv H x a ∧ Tv H y b ∧ Q (.bl (decide (a = b))) H) := by
  intro pins s σ H x y v u Q I rx ry h
  obtain ⟨a, b, ha, hb, q⟩ := h
  refine op_eqD hu pins s σ H x y v u Q I rx ry ⟨dO a, dO b, ha.dp, hb.dp, dO_shaped a, dO_shaped b, ?_⟩
  rw [dO_eqv]; exact q
theorem op_neB (hu : X.A.units + 64 < cLine) : OpR X (compareOp .NotEq) (fun x y H Q => ∃ a b, Tv H x a ∧ Tv H y b ∧ Q (.bl (!decide (a = b))) H) := by
  intro pins s σ H x y v u Q I rx ry h
  obtain ⟨a, b, ha, hb, q⟩ := h
  refine op_neD hu pins s σ H x y v u Q I rx ry ⟨dO a, dO b, ha.dp, hb.dp, dO_shaped a, dO_shaped b, ?_⟩
  rw [dO_eqv]; exact q
/-! ### the order of keys -/
def zN (l : List Nat) : List Int := l.map fun (n : Nat) => (n : Int)
theorem zN_v (l : List Nat) : (zN l).map V.int = vN l := by unfold zN vN; rw [List.map_map]; rfl
theorem lex_less : ∀ a b : List Nat, HT.lexLt (zN a) (zN b) = Gv05.less a b
  | [], [] => rfl
  | [], _ :: _ => rfl
  | _ :: _, [] => rfl
  | x :: a, y :: b => by
    show (if (x : Int) = (y : Int) then HT.lexLt (zN a) (zN b) else decide ((x : Int) < (y : Int))) = (decide (x < y) || (x == y && Gv05.less a b))
    rw [lex_less a b]
    by_cases h : x = y
    · subst h; simp
    · have e : ¬ (x : Int) = (y : Int) := by omega
      rw [if_neg e]
      simp [h]
theorem op_ltB (hu : X.A.units < cLine) : OpR X (compareOp .Lt) (fun x y H Q => ∃ a b l m, x = .ref a ∧ y = .ref b ∧ Tb H a l ∧ Tb H b m ∧ Q (.bl (Gv05.less l m)) H) := by
  intro pins s σ H x y v u Q I rx ry h
  obtain ⟨a, b, l, m, rfl, rfl, ha, hb, q⟩ := h
  refine op_ltT hu pins s σ H _ _ v u Q I rx ry ⟨a, b, zN l, zN m, rfl, rfl, ?_, ?_, ?_⟩
  · rw [zN_v]; exact SqT.of ha
  · rw [zN_v]; exact SqT.of hb
  · rw [lex_less]; exact q
theorem op_ltS (hu : X.A.units < cLine) : OpR X (compareOp .Lt) (fun x y H Q => ∃ a b l m, x = .ref a ∧ y = .ref b ∧ Tb H a l ∧ SqT X.K H b (vN m) ∧ Q (.bl (Gv05.less l m)) H) := by
  intro pins s σ H x y v u Q I rx ry h
  obtain ⟨a, b, l, m, rfl, rfl, ha, hb, q⟩ := h
  refine op_ltT hu pins s σ H _ _ v u Q I rx ry ⟨a, b, zN l, zN m, rfl, rfl, ?_, ?_, ?_⟩
  · rw [zN_v]; exact SqT.of ha
  · rw [zN_v]; exact hb
  · rw [lex_less]; exact q
/-! ### places of a tuple -/
theorem tup0 {v : V} {r : List V} : atI (v :: r) 0 = some v := atI_nat (j := 0) rfl
theorem tup1 {u v : V} {r : List V} : atI (u :: v :: r) 1 = some v := atI_nat (j := 1) rfl
theorem tup2 {t u v : V} {r : List V} : atI (t :: u :: v :: r) 2 = some v := atI_nat (j := 2) rfl
end
/-! ### a change in the heap -/
def kind : Gv05.Change → Int
  | .put _ _ => 1
  | .remove _ => 2
  | .add _ _ => 3
def Third (H : Hp) : Gv05.Change → V → Prop
  | .put _ v, x => ∃ a, x = .ref a ∧ Tb H a v
  | .remove _, x => x = .non
  | .add _ n, x => x = .int n
/-- a change stands at a -/
def Ch (H : Hp) (a : Addr) (c : Gv05.Change) : Prop := ∃ (ka : Addr) (x : V), H a = some (.tup [.int (kind c), .ref ka, x]) ∧ Tb H ka c.key ∧ Third H c x
theorem Third.same {H H' : Hp} (s : Same H H') {c : Gv05.Change} {x : V} (h : Third H c x) : Third H' c x := by
  cases c with
  | put k v => obtain ⟨a, e, h⟩ := h; exact ⟨a, e, s _ _ h⟩
  | remove k => exact h
  | add k n => exact h
theorem Ch.same {H H' : Hp} (s : Same H H') {a : Addr} {c : Gv05.Change} (h : Ch H a c) : Ch H' a c := by
  obtain ⟨ka, x, h1, h2, h3⟩ := h
  exact ⟨ka, x, s _ _ h1, s _ _ h2, h3.same s⟩
/-! ### lists side by side -/
theorem paired_get {α β : Type} {R : α → β → Prop} : ∀ {xs : List α} {ys : List β} {i : Nat} {x : α}, Paired R xs ys → xs[i]? = some x → ∃ y, ys[i]? = some y ∧ R x y
  | _, _, _, _, .nil, e => by simp at e
  | _, _, 0, _, .cons r _, e => ⟨_, rfl, by have e' := Option.some.inj e; subst e'; exact r⟩
  | _, _, i + 1, x, .cons _ t, e => paired_get (i := i) (x := x) t e
theorem paired_get' {α β : Type} {R : α → β → Prop} : ∀ {xs : List α} {ys : List β} {i : Nat} {y : β}, Paired R xs ys → ys[i]? = some y → ∃ x, xs[i]? = some x ∧ R x y
  | _, _, _, _, .nil, e => by simp at e
  | _, _, 0, _, .cons r _, e => ⟨_, rfl, by have e' := Option.some.inj e; subst e'; exact r⟩
  | _, _, i + 1, y, .cons _ t, e => paired_get' (i := i) (y := y) t e
theorem paired_len {α β : Type} {R : α → β → Prop} : ∀ {xs : List α} {ys : List β}, Paired R xs ys → xs.length = ys.length
  | _, _, .nil => rfl
  | _, _, .cons _ t => congrArg (· + 1) (paired_len t)
theorem paired_app {α β : Type} {R : α → β → Prop} : ∀ {xs us : List α} {ys vs : List β}, Paired R xs ys → Paired R us vs → Paired R (xs ++ us) (ys ++ vs)
  | _, _, _, _, .nil, h => h
  | _, _, _, _, .cons r t, h => .cons r (paired_app t h)
theorem paired_take {α β : Type} {R : α → β → Prop} : ∀ {xs : List α} {ys : List β} (n : Nat), Paired R xs ys → Paired R (xs.take n) (ys.take n)
  | _, _, 0, _ => .nil
  | _, _, _ + 1, .nil => .nil
  | _, _, n + 1, .cons r t => .cons r (paired_take n t)
theorem paired_drop {α β : Type} {R : α → β → Prop} : ∀ {xs : List α} {ys : List β} (n : Nat), Paired R xs ys → Paired R (xs.drop n) (ys.drop n)
  | _, _, 0, h => h
  | _, _, _ + 1, .nil => .nil
  | _, _, n + 1, .cons _ t => paired_drop n t
theorem paired_map {α β : Type} {R S : α → β → Prop} (f : ∀ a b, R a b → S a b) : ∀ {xs : List α} {ys : List β}, Paired R xs ys → Paired S xs ys
  | _, _, .nil => .nil
  | _, _, .cons r t => .cons (f _ _ r) (paired_map f t)
/-- a list of changes -/
def Chs (H : Hp) : List V → List Gv05.Change → Prop := Paired fun v c => ∃ a, v = .ref a ∧ Ch H a c
theorem Chs.same {H H' : Hp} (s : Same H H') {vs : List V} {cs : List Gv05.Change} (h : Chs H vs cs) : Chs H' vs cs :=
  paired_map (fun _ _ ⟨a, e, h⟩ => ⟨a, e, h.same s⟩) h
/-! ### tuples stay -/
def TS (H H' : Hp) : Prop := ∀ b xs, H b = some (.tup xs) → H' b = some (.tup xs)
theorem TS.of {H H' : Hp} (s : Same H H') : TS H H' := fun b xs h => s b _ h
theorem TS.trans {H H1 H2 : Hp} (a : TS H H1) (b : TS H1 H2) : TS H H2 := fun c xs h => b c xs (a c xs h)
theorem TS.upd {H : Hp} {a : Addr} {u o : HO} (h : H a = some u) (n : ∀ xs, u ≠ .tup xs) : TS H (upd H a o) := fun b xs e => by
  rw [upd_ne (ne_of e h (fun z => n xs z.symm))]; exact e
theorem Third.ts {H H' : Hp} (s : TS H H') {c : Gv05.Change} {x : V} (h : Third H c x) : Third H' c x := by
  cases c with
  | put k v => obtain ⟨a, e, h⟩ := h; exact ⟨a, e, s _ _ h⟩
  | remove k => exact h
  | add k n => exact h
theorem Ch.ts {H H' : Hp} (s : TS H H') {a : Addr} {c : Gv05.Change} (h : Ch H a c) : Ch H' a c := by
  obtain ⟨ka, x, h1, h2, h3⟩ := h
  exact ⟨ka, x, s _ _ h1, s _ _ h2, h3.ts s⟩
theorem Chs.ts {H H' : Hp} (s : TS H H') {vs : List V} {cs : List Gv05.Change} (h : Chs H vs cs) : Chs H' vs cs :=
  paired_map (fun _ _ ⟨a, e, h⟩ => ⟨a, e, h.ts s⟩) h
end Ks
namespace Ks
open PySem PySem.Spec PyProof.Rows L2
section
variable {P : Program} {w : World} {K : PySem.W.Frag} {mg : Str → Option Value} {base : Heap}
/-! is_key, is_value: by the lengths alone -/
def okK (l : List Nat) : Bool := decide (1 ≤ l.length) && decide (l.length ≤ 64)
def okV (l : List Nat) : Bool := decide (l.length ≤ 300)
def sp_isKey : Sp := fun vs H Q _ => ∃ (a : Addr) (l : List Nat), vs = [.ref a] ∧ Tb H a l ∧ Q (.bl (okK l)) H
theorem d_isKey (D : Src K mg "is_key" s_is_key ["row"]) (hL : mg "len" = none) (c : GI mg "LONGEST_KEY" 64) : DefOk P w K mg base CX0 1 "is_key" sp_isKey := by
  refine D.ok sc_is_key (fun vs H Q E h => ?_) (fun f cdv A outer s H vs Q E hr h => ⟨_, pss_one (ps_ret (pe_chain op_le op_le pe_int (pe_callB call_len (by rfl) hL PySem.boot_len (pa_cons (pv 0) pa_nil)) (pe_gi c))), ?_⟩)
  · obtain ⟨a, l, rfl, _⟩ := h
    rfl
  · obtain ⟨a, l, rfl, ha, k⟩ := h
    refine ⟨_, rfl, _, _, rfl, .inr ⟨_, SqT.of ha, rfl⟩, _, _, rfl, rfl, _, rfl, ?_⟩
    rw [vN_len]
    unfold okK at k
    refine iteD (fun c1 => ⟨_, _, rfl, rfl, ?_⟩) (fun c1 => ?_)
    · have e1 : decide (1 ≤ l.length) = true := decide_eq_true (by omega)
      have e2 : decide ((l.length : Int) ≤ 64) = decide (l.length ≤ 64) := decide_eq_decide.mpr (by omega)
      rw [e1, Bool.true_and] at k
      show Q (.bl (decide ((l.length : Int) ≤ 64))) H
      rw [e2]; exact k
    · have e1 : decide (1 ≤ l.length) = false := decide_eq_false (by omega)
      rw [e1, Bool.false_and] at k
      exact k
def sp_isValue : Sp := fun vs H Q _ => ∃ (a : Addr) (l : List Nat), vs = [.ref a] ∧ Tb H a l ∧ Q (.bl (okV l)) H
theorem d_isValue (D : Src K mg "is_value" s_is_value ["row"]) (hL : mg "len" = none) (c : GI mg "LONGEST_VALUE" 300) : DefOk P w K mg base CX0 1 "is_value" sp_isValue := by
  refine D.ok sc_is_value (fun vs H Q E h => ?_) (fun f cdv A outer s H vs Q E hr h => ⟨_, pss_one (ps_ret (pe_cmpR op_le (pe_callB call_len (by rfl) hL PySem.boot_len (pa_cons (pv 0) pa_nil)) (pe_gi c) (nomark _))), ?_⟩)
  · obtain ⟨a, l, rfl, _⟩ := h
    rfl
  · obtain ⟨a, l, rfl, ha, k⟩ := h
    refine ⟨_, rfl, _, _, rfl, .inr ⟨_, SqT.of ha, rfl⟩, _, _, rfl, rfl, ?_⟩
    rw [vN_len]
    unfold okV at k
    have e2 : decide ((l.length : Int) ≤ 300) = decide (l.length ≤ 300) := decide_eq_decide.mpr (by omega)
    show Q (.bl (decide ((l.length : Int) ≤ 300))) H
    rw [e2]; exact k
def okP (l : List Nat) : Bool := decide (l.length ≤ 64)
def sp_isStart : Sp := fun vs H Q _ => ∃ (a : Addr) (l : List Nat), vs = [.ref a] ∧ Tb H a l ∧ Q (.bl (okP l)) H
theorem d_isStart (D : Src K mg "is_start" s_is_start ["row"]) (hL : mg "len" = none) (c : GI mg "LONGEST_KEY" 64) : DefOk P w K mg base CX0 1 "is_start" sp_isStart := by
  refine D.ok sc_is_start (fun vs H Q E h => ?_) (fun f cdv A outer s H vs Q E hr h => ⟨_, pss_one (ps_ret (pe_cmpR op_le (pe_callB call_len (by rfl) hL PySem.boot_len (pa_cons (pv 0) pa_nil)) (pe_gi c) (nomark _))), ?_⟩)
  · obtain ⟨a, l, rfl, _⟩ := h
    rfl
  · obtain ⟨a, l, rfl, ha, k⟩ := h
    refine ⟨_, rfl, _, _, rfl, .inr ⟨_, SqT.of ha, rfl⟩, _, _, rfl, rfl, ?_⟩
    rw [vN_len]
    unfold okP at k
    have e2 : decide ((l.length : Int) ≤ 64) = decide (l.length ≤ 64) := decide_eq_decide.mpr (by omega)
    show Q (.bl (decide ((l.length : Int) ≤ 64))) H
    rw [e2]; exact k
/-! is_number -/
def sp_isNumber : Sp := fun vs H Q _ => ∃ n : Int, vs = [.int n] ∧ Gv05.wrap n = n ∧ Q (.bl true) H
theorem d_isNumber (D : Src K mg "is_number" s_is_number ["number"]) (cE : GI mg "COUNTS_END" 9223372036854775808) : DefOk P w K mg base CX0 1 "is_number" sp_isNumber := by
  refine D.ok sc_is_number (fun vs H Q E h => ?_) (fun f cdv A outer s H vs Q E hr h => ⟨_, pss_one (ps_ret (pe_chain op_le op_lt (pe_un un_neg (pe_gi cE)) (pv 0) (pe_gi cE))), ?_⟩)
  · obtain ⟨n, rfl, _⟩ := h
    rfl
  · obtain ⟨n, rfl, hw, k⟩ := h
    unfold Gv05.wrap at hw
    refine ⟨_, rfl, _, rfl, _, _, rfl, rfl, _, rfl, iteD (fun c1 => ⟨_, _, rfl, rfl, ?_⟩) (fun c1 => absurd (show -(9223372036854775808 : Int) ≤ n by omega) c1)⟩
    have e : decide (n < 9223372036854775808) = true := decide_eq_true (by omega)
    show Q (.bl (decide (n < 9223372036854775808))) H
    rw [e]; exact k
/-! value_after -/
def sp_after : Sp := fun vs H Q _ => ∃ (a : Addr) (v : V) (c : Gv05.Change) (o : Option (List Nat)), vs = [.ref a, v] ∧ Ch H a c ∧ Tv H v o ∧
  ∀ H' r, Same H H' → Tv H' r (Gv05.effect c o) → Q r H'
theorem d_after (D : Src K mg "value_after" s_value_after ["change", "value"]) (R : DefOk P w K mg base CX0 3 "count_raised" sp_raised) (c1 : GI mg "PUT" 1) (c2 : GI mg "REMOVE" 2) : DefOk P w K mg base CX0 4 "value_after" sp_after := by
  refine D.ok sc_value_after (fun vs H Q E h => ?_) (fun f cdv A outer s H vs Q E hr h => ⟨_,
      pss_cons (ps_if (pt_cmpR op_eq (pe_ix ix_tup (pv 0) pe_int (fun _ _ => rfl)) (pe_gi c1) (nomark _)) (pss_one (ps_ret (pe_ix ix_tup (pv 0) pe_int (fun _ _ => rfl)))) pss_nil)
      (pss_cons (ps_if (pt_cmpR op_eq (pe_ix ix_tup (pv 0) pe_int (fun _ _ => rfl)) (pe_gi c2) (nomark _)) (pss_one (ps_ret pe_non)) pss_nil)
      (pss_one (ps_ret (pe_cl R hr pass0 (pa_cons (pv 1) (pa_cons (pe_ix ix_tup (pv 0) pe_int (fun _ _ => rfl)) pa_nil)))))), ?_⟩)
  · obtain ⟨a, v, c, o, rfl, _⟩ := h
    rfl
  · obtain ⟨a, v, c, o, rfl, ⟨ka, x, hc, hk, h3⟩, hv, k⟩ := h
    refine ⟨_, rfl, _, _, _, _, rfl, rfl, SqT.of hc, tup0, rfl, _, rfl, iteD (fun n => ?_) (fun n => ?_)⟩
    · rw [int_eq] at n
      cases c with
      | put j v' =>
        obtain ⟨va, rfl, hva⟩ := h3
        exact ⟨_, rfl, _, _, _, _, rfl, rfl, SqT.of hc, tup2, k H _ (Same.refl H) hva⟩
      | remove j => cases n
      | add j m => cases n
    · rw [int_eq] at n
      refine ⟨_, rfl, _, _, _, _, rfl, rfl, SqT.of hc, tup0, rfl, _, rfl, iteD (fun n2 => ?_) (fun n2 => ?_)⟩
      · rw [int_eq] at n2
        cases c with
        | put j v' => cases n2
        | remove j => exact k H _ (Same.refl H) trivial
        | add j m => cases n2
      · rw [int_eq] at n2
        cases c with
        | put j v' => exact absurd rfl n
        | remove j => exact absurd rfl n2
        | add j m =>
          obtain rfl : x = .int m := h3
          refine ⟨_, rfl, _, rfl, _, _, _, _, rfl, rfl, SqT.of hc, tup2, v, o, m, rfl, hv, fun H' r sm hr => ?_⟩
          refine k H' r sm ?_
          rw [raised_effect]
          exact hr
/-! change_of_both -/
def sp_both : Sp := fun vs H Q _ => ∃ (a b : Addr) (e c : Gv05.Change), vs = [.ref a, .ref b] ∧ Ch H a e ∧ Ch H b c ∧
  ∀ H' r, Same H H' → Ch H' r (both e c) → Q (.ref r) H'
theorem kind_add (c : Gv05.Change) : kind c = 3 ↔ isAdd c = true := by cases c <;> simp [kind, isAdd]
theorem d_both (D : Src K mg "change_of_both" s_change_of_both ["earlier", "later"]) (R : DefOk P w K mg base CX0 4 "value_after" sp_after) (c1 : GI mg "PUT" 1) (c3 : GI mg "ADD" 3) : DefOk P w K mg base CX0 5 "change_of_both" sp_both := by
  refine D.ok sc_change_of_both (fun vs H Q E h => ?_) (fun f cdv A outer s H vs Q E hr h => ⟨_,
      pss_cons (ps_if (pt_cmpR op_ne (pe_ix ix_tup (pv 1) pe_int (fun _ _ => rfl)) (pe_gi c3) (nomark _)) (pss_one (ps_ret (pv 1))) pss_nil)
      (pss_cons (ps_if (pt_cmpR op_eq (pe_ix ix_tup (pv 0) pe_int (fun _ _ => rfl)) (pe_gi c3) (nomark _)) (pss_one (ps_ret (pe_tup (pa_cons (pe_gi c3) (pa_cons (pe_ix ix_tup (pv 1) pe_int (fun _ _ => rfl)) (pa_cons (pe_op op_add (pe_ix ix_tup (pv 0) pe_int (fun _ _ => rfl)) (pe_ix ix_tup (pv 1) pe_int (fun _ _ => rfl))) pa_nil)))))) pss_nil)
      (pss_one (ps_ret (pe_tup (pa_cons (pe_gi c1) (pa_cons (pe_ix ix_tup (pv 1) pe_int (fun _ _ => rfl)) (pa_cons (pe_cl R hr pass0 (pa_cons (pv 1) (pa_cons (pe_ix ix_tup (pv 0) pe_int (fun _ _ => rfl)) pa_nil))) pa_nil))))))), ?_⟩)
  · obtain ⟨a, b, e, c, rfl, _⟩ := h
    rfl
  · obtain ⟨a, b, e, c, rfl, ⟨ka, x, ha, hk, h3⟩, ⟨kb, y, hb, hkb, h4⟩, k⟩ := h
    refine ⟨_, rfl, _, _, _, _, rfl, rfl, SqT.of hb, tup0, rfl, _, rfl, iteDN (fun n => ?_) (fun n => ?_)⟩
    · rw [int_eq] at n
      refine ⟨_, rfl, k H b (Same.refl H) ?_⟩
      cases c with
      | put j v => exact ⟨kb, y, hb, hkb, h4⟩
      | remove j => exact ⟨kb, y, hb, hkb, h4⟩
      | add j m => exact absurd rfl n
    · rw [int_eq] at n
      cases c with
      | put j v => cases n
      | remove j => cases n
      | add j m =>
        obtain rfl : y = .int m := h4
        refine ⟨_, rfl, _, _, _, _, rfl, rfl, SqT.of ha, tup0, rfl, _, rfl, iteD (fun n2 => ?_) (fun n2 => ?_)⟩
        · rw [int_eq] at n2
          cases e with
          | put j' v => cases n2
          | remove j' => cases n2
          | add j' m' =>
            obtain rfl : x = .int m' := h3
            refine ⟨_, rfl, _, _, _, _, rfl, rfl, SqT.of hb, tup1, _, rfl, _, _, _, _, rfl, rfl, SqT.of ha, tup2, _, rfl, _, _, _, _, rfl, rfl, SqT.of hb, tup2, _, _, rfl, rfl, small_le (m := 100) (by simp), fun p hp => ?_⟩
            exact k _ p (same_upd hp) ⟨kb, .int (m' + m), upd_same, same_upd hp _ _ hkb, rfl⟩
        · rw [int_eq] at n2
          have h5 : ∃ o, Tv H x o ∧ both e (.add j m) = .put j (raised o m) := by
            cases e with
            | put j' v => obtain ⟨va, rfl, hva⟩ := h3; exact ⟨some v, hva, rfl⟩
            | remove j' => obtain rfl : x = .non := h3; exact ⟨none, trivial, rfl⟩
            | add j' m' => exact absurd rfl n2
          obtain ⟨o, ho, eo⟩ := h5
          refine ⟨_, rfl, _, _, _, _, rfl, rfl, SqT.of hb, tup1, _, rfl, _, rfl, _, _, _, _, rfl, rfl, SqT.of ha, tup2, b, x, .add j m, o, rfl, ⟨kb, .int m, hb, hkb, rfl⟩, ho, fun H1 r s1 hr1 => ?_⟩
          rw [raised_effect] at hr1
          obtain ⟨ra, rfl, hra⟩ := hr1.some_
          refine ⟨small_le (m := 100) (by simp), fun p hp => ?_⟩
          refine k _ p (Same.trans s1 (same_upd hp)) ?_
          rw [eo]
          exact ⟨kb, .ref ra, upd_same, same_upd hp _ _ (s1 _ _ hkb), ra, rfl, same_upd hp _ _ hra⟩
end
end Ks
namespace Ks
open PySem PySem.Spec PyProof.Rows L2
/-! ### maps in the heap -/
variable {β : Type}
/-- how what belongs to a key stands in the heap -/
abbrev Rl (β : Type) := Hp → Addr → β → Prop
/-- it leans on tuples alone -/
def Sb (R : Rl β) : Prop := ∀ H H', TS H H' → ∀ a x, R H a x → R H' a x
theorem sb_tb : Sb Tb := fun _ _ s _ _ h => s _ _ h
theorem sb_ch : Sb Ch := fun _ _ s _ _ h => h.ts s
def RO (R : Rl β) (H : Hp) : V → Option β → Prop
  | .non, none => True
  | .ref a, some x => R H a x
  | _, _ => False
theorem RO.none_ {R : Rl β} {H : Hp} {v : V} (h : RO R H v none) : v = .non := by
  cases v <;> first | rfl | exact False.elim h
theorem RO.some_ {R : Rl β} {H : Hp} {v : V} {x : β} (h : RO R H v (some x)) : ∃ a, v = .ref a ∧ R H a x := by
  cases v <;> first | exact False.elim h | exact ⟨_, rfl, h⟩
theorem RO.tv {H : Hp} {v : V} {o : Option (List Nat)} (h : RO Tb H v o) : Tv H v o := by
  cases o with
  | none => obtain rfl := h.none_; trivial
  | some l => obtain ⟨a, rfl, ha⟩ := h.some_; exact ha
theorem Tv.ro {H : Hp} {v : V} {o : Option (List Nat)} (h : Tv H v o) : RO Tb H v o := by
  cases o with
  | none => obtain rfl := h.none_; trivial
  | some l => obtain ⟨a, rfl, ha⟩ := h.some_; exact ha
theorem RO.ts {R : Rl β} (sb : Sb R) {H H' : Hp} (s : TS H H') {v : V} {o : Option β} (h : RO R H v o) : RO R H' v o := by
  cases o with
  | none => obtain rfl := h.none_; trivial
  | some l => obtain ⟨a, rfl, ha⟩ := h.some_; exact sb _ _ s _ _ ha
def Pr (R : Rl β) (H : Hp) (v : V) (x : List Nat × β) : Prop := ∃ p ka va, v = .ref p ∧ H p = some (.tup [.ref ka, .ref va]) ∧ Tb H ka x.1 ∧ R H va x.2
theorem Pr.ts {R : Rl β} (sb : Sb R) {H H' : Hp} (s : TS H H') {v : V} {x : List Nat × β} (h : Pr R H v x) : Pr R H' v x := by
  obtain ⟨p, ka, va, e, h1, h2, h3⟩ := h
  exact ⟨p, ka, va, e, s _ _ h1, s _ _ h2, sb _ _ s _ _ h3⟩
def Mp (R : Rl β) (H : Hp) (a : Addr) (m : G.GM β) : Prop := ∃ xs, H a = some (.lst xs) ∧ Paired (Pr R H) xs m
/-- the list itself stays, and the tuples -/
theorem Mp.stay {R : Rl β} (sb : Sb R) {H H' : Hp} (s : TS H H') {a : Addr} {m : G.GM β} (ha : ∀ o, H a = some o → H' a = some o) (h : Mp R H a m) : Mp R H' a m := by
  obtain ⟨xs, h1, h2⟩ := h
  exact ⟨xs, ha _ h1, paired_map (fun _ _ => Pr.ts sb s) h2⟩
theorem Mp.same {R : Rl β} (sb : Sb R) {H H' : Hp} (s : Same H H') {a : Addr} {m : G.GM β} (h : Mp R H a m) : Mp R H' a m := h.stay sb (TS.of s) fun o e => s _ _ e
section
variable {P : Program} {w : World} {K : PySem.W.Frag} {mg : Str → Option Value} {base : Heap}
/-! reply, value_reply -/
def sp_reply : Sp := fun vs H Q _ => ∃ n : Int, vs = [.int n] ∧ ∀ p, H p = none → Q (.ref p) (upd H p (.lst [.int n, .int 0]))
theorem d_reply (D : Src K mg "reply" s_reply ["number"]) : DefOk P w K mg base CX0 1 "reply" sp_reply := by
  refine D.ok sc_reply (fun vs H Q E h => ?_) (fun f cdv A outer s H vs Q E hr h => ⟨_, pss_one (ps_ret (pe_lst (pa_cons (pv 0) (pa_cons pe_int pa_nil)))), ?_⟩)
  · obtain ⟨n, rfl, _⟩ := h
    rfl
  · obtain ⟨n, rfl, k⟩ := h
    exact ⟨_, rfl, small_le (m := 100) (by simp), k⟩
/-- how a value is answered -/
def ansV : Option (List Nat) → List V
  | none => [.int (-2), .int 0]
  | some l => .int (l.length : Int) :: .int 0 :: vN l
def sp_valueReply : Sp := fun vs H Q _ => ∃ (v : V) (o : Option (List Nat)), vs = [v] ∧ Tv H v o ∧ (∀ l, o = some l → l.length ≤ 10000) ∧
  ∀ H' p, Same H H' → H p = none → H' p = some (.lst (ansV o)) → Q (.ref p) H'
theorem d_valueReply (D : Src K mg "value_reply" s_value_reply ["value"]) (R : DefOk P w K mg base CX0 1 "reply" sp_reply) (cA : GI mg "ABSENT" (-2)) (hL : mg "len" = none) (hl : mg "list" = none) : DefOk P w K mg base CX0 2 "value_reply" sp_valueReply := by
  refine D.ok sc_value_reply (fun vs H Q E h => ?_) (fun f cdv A outer s H vs Q E hr h => ⟨_,
      pss_cons (ps_if (pt_cmpR op_isN (pv 0) pe_non (nomark _)) (pss_one (ps_ret (pe_cl R hr pass0 (pa_cons (pe_gi cA) pa_nil)))) pss_nil)
      (pss_one (ps_ret (pe_op op_cat (pe_cl R hr pass0 (pa_cons (pe_callB call_len (by rfl) hL PySem.boot_len (pa_cons (pv 0) pa_nil)) pa_nil)) (pe_callTy call_list_of (by rfl) hl (by decide +kernel) (pa_cons (pv 0) pa_nil))))), ?_⟩)
  · obtain ⟨v, o, rfl, _⟩ := h
    rfl
  · obtain ⟨v, o, rfl, hv, hz, k⟩ := h
    cases o with
    | none =>
      obtain rfl := hv.none_
      refine ⟨_, rfl, rfl, _, rfl, iteD (fun _ => ?_) (fun c => absurd rfl c)⟩
      exact ⟨-2, rfl, fun p hp => k _ p (same_upd hp) hp upd_same⟩
    | some l =>
      obtain ⟨a, rfl, ha⟩ := hv.some_
      have hz := hz l rfl
      refine ⟨_, rfl, rfl, _, rfl, iteD (fun c => nomatch c) (fun c => ?_)⟩
      refine ⟨_, rfl, _, _, rfl, .inr ⟨_, SqT.of ha, rfl⟩, _, rfl, fun p hp => ?_⟩
      have ha1 : upd H p (.lst [.int ((vN l).length : Int), .int 0]) a = some (.tup (vN l)) := by rw [upd_ne (ne_of_none ha hp)]; exact ha
      refine ⟨_, rfl, _, _, rfl, .inr (SqT.of ha1), fun q hq => ?_⟩
      have hpq : p ≠ q := fun z => by rw [← z, upd_same] at hq; cases hq
      refine ⟨_, _, _, _, rfl, rfl, (by rw [upd_ne hpq]; exact upd_same), upd_same, ?_, fun r hr => ?_⟩
      · have := vN_len l
        refine small_le (m := 20000) ?_
        simp only [List.length_cons, List.length_nil]
        omega
      · have hr1 := hr
        have hrq : r ≠ q := fun z => by rw [z, upd_same] at hr; cases hr
        rw [upd_ne hrq] at hr
        have hrp : r ≠ p := fun z => by rw [z, upd_same] at hr; cases hr
        rw [upd_ne hrp] at hr
        refine k _ r (Same.trans (Same.trans (same_upd hp) (same_upd hq)) (same_upd hr1)) hr ?_
        rw [upd_same, vN_len]
        rfl
/-! key_reply, record_reply -/
def sp_keyReply : Sp := fun vs H Q _ => ∃ (a b : Addr) (k v : List Nat), vs = [.ref a, .ref b] ∧ Tb H a k ∧ Tb H b v ∧ k.length ≤ 10000 ∧ v.length ≤ 10000 ∧
  ∀ H' p, Same H H' → H p = none → H' p = some (.lst (.int (v.length : Int) :: .int (k.length : Int) :: (vN k ++ vN v))) → Q (.ref p) H'
theorem d_keyReply (D : Src K mg "key_reply" s_key_reply ["key", "value"]) (hL : mg "len" = none) (hl : mg "list" = none) : DefOk P w K mg base CX0 1 "key_reply" sp_keyReply := by
  refine D.ok sc_key_reply (fun vs H Q E h => ?_) (fun f cdv A outer s H vs Q E hr h => ⟨_,
      pss_one (ps_ret (pe_op op_cat (pe_op op_cat (pe_lst (pa_cons (pe_callB call_len (by rfl) hL PySem.boot_len (pa_cons (pv 1) pa_nil)) (pa_cons (pe_callB call_len (by rfl) hL PySem.boot_len (pa_cons (pv 0) pa_nil)) pa_nil))) (pe_callTy call_list_of (by rfl) hl (by decide +kernel) (pa_cons (pv 0) pa_nil))) (pe_callTy call_list_of (by rfl) hl (by decide +kernel) (pa_cons (pv 1) pa_nil)))), ?_⟩)
  · obtain ⟨a, b, k, v, rfl, _⟩ := h
    rfl
  · obtain ⟨a, b, k, v, rfl, ha, hb, zk, zv, q⟩ := h
    refine ⟨_, rfl, _, _, rfl, .inr ⟨_, SqT.of hb, rfl⟩, _, rfl, _, _, rfl, .inr ⟨_, SqT.of ha, rfl⟩, small_le (m := 100) (by simp), fun p1 h1 => ?_⟩
    rw [vN_len, vN_len] at *
    refine ⟨_, rfl, _, _, rfl, .inr (SqT.of (same_upd h1 _ _ ha)), fun p2 h2 => ?_⟩
    have s2 := Same.trans (same_upd (o := .lst [.int (v.length : Int), .int (k.length : Int)]) h1) (same_upd (o := .lst (vN k)) h2)
    refine ⟨_, _, _, _, rfl, rfl, same_upd h2 _ _ upd_same, upd_same, ?_, fun p3 h3 => ?_⟩
    · have := vN_len k
      refine small_le (m := 20000) ?_
      simp only [List.length_cons, List.length_nil]
      omega
    · have s3 := Same.trans s2 (same_upd (o := .lst ([.int (v.length : Int), .int (k.length : Int)] ++ vN k)) h3)
      refine ⟨_, rfl, _, _, rfl, .inr (SqT.of (s3 _ _ hb)), fun p4 h4 => ?_⟩
      have s4 := Same.trans s3 (same_upd (o := .lst (vN v)) h4)
      refine ⟨_, _, _, _, rfl, rfl, same_upd h4 _ _ upd_same, upd_same, ?_, fun p5 h5 => ?_⟩
      · have := vN_len k
        have := vN_len v
        refine small_le (m := 40000) ?_
        simp only [List.length_append, List.length_cons, List.length_nil]
        omega
      · refine q _ p5 (Same.trans s4 (same_upd h5)) (Same.free s4 h5) ?_
        rw [upd_same]; rfl
def sp_recReply : Sp := fun vs H Q _ => ∃ (n : Int) (b : Addr) (l : List Nat), vs = [.int n, .ref b] ∧ Tb H b l ∧ l.length ≤ 10000 ∧
  ∀ H' p, Same H H' → H p = none → H' p = some (.lst (.int n :: .int 0 :: vN l)) → Q (.ref p) H'
theorem d_recReply (D : Src K mg "record_reply" s_record_reply ["how_many", "record"]) (R : DefOk P w K mg base CX0 1 "reply" sp_reply) (hl : mg "list" = none) : DefOk P w K mg base CX0 2 "record_reply" sp_recReply := by
  refine D.ok sc_record_reply (fun vs H Q E h => ?_) (fun f cdv A outer s H vs Q E hr h => ⟨_,
      pss_one (ps_ret (pe_op op_cat (pe_cl R hr pass0 (pa_cons (pv 0) pa_nil)) (pe_callTy call_list_of (by rfl) hl (by decide +kernel) (pa_cons (pv 1) pa_nil)))), ?_⟩)
  · obtain ⟨n, b, l, rfl, _⟩ := h
    rfl
  · obtain ⟨n, b, l, rfl, hb, zl, q⟩ := h
    refine ⟨_, rfl, n, rfl, fun p1 h1 => ?_⟩
    refine ⟨_, rfl, _, _, rfl, .inr (SqT.of (same_upd h1 _ _ hb)), fun p2 h2 => ?_⟩
    have s2 := Same.trans (same_upd (o := .lst [.int n, .int 0]) h1) (same_upd (o := .lst (vN l)) h2)
    refine ⟨_, _, _, _, rfl, rfl, same_upd h2 _ _ upd_same, upd_same, ?_, fun p3 h3 => ?_⟩
    · have := vN_len l
      refine small_le (m := 20000) ?_
      simp only [List.length_cons, List.length_nil]
      omega
    · refine q _ p3 (Same.trans s2 (same_upd h3)) (Same.free s2 h3) ?_
      rw [upd_same]; rfl
/-! empty_map -/
def sp_empty : Sp := fun vs H Q _ => vs = [] ∧ ∀ p, H p = none → Q (.ref p) (upd H p (.lst []))
theorem d_empty (D : Src K mg "empty_map" s_empty_map []) : DefOk P w K mg base CX0 1 "empty_map" sp_empty := by
  refine D.ok sc_empty_map (fun vs H Q E h => ?_) (fun f cdv A outer s H vs Q E hr h => ⟨_, pss_one (ps_ret (pe_lst pa_nil)), ?_⟩)
  · obtain ⟨rfl, _⟩ := h
    rfl
  · obtain ⟨rfl, k⟩ := h
    exact ⟨small_le (m := 100) (by simp), k⟩
/-! place_of -/
def sp_place (K : PySem.W.Frag) (R : Rl β) : Sp := fun vs H Q _ => ∃ (a b : Addr) (m : G.GM β) (k : List Nat), vs = [.ref a, .ref b] ∧ Mp R H a m ∧ G.Srt m ∧ SqT K H b (vN k) ∧ Q (.int (G.place m k : Int)) H
def mu_place : L2.St → Hp → Nat := fun σ _ => match σ with
  | [_, _, some (.int lo), some (.int hi), _] => (hi - lo).toNat
  | _ => 0
theorem d_place {R : Rl β} (D : Src K mg "place_of" s_place_of ["pairs", "key"]) (hL : mg "len" = none) : DefOk P w K mg base CX0 1 "place_of" (sp_place K R) := by
  refine D.ok sc_place_of (fun vs H Q E h => ?_) (fun f cdv A outer s H vs Q E hr h => ⟨_,
      pss_cons (ps_set (i := 2) sc_place_of.nd rfl (.inl rfl) pe_int)
      (pss_cons (ps_set (i := 3) sc_place_of.nd rfl (.inl rfl) (pe_callB call_len (by rfl) hL PySem.boot_len (pa_cons (pv 0) pa_nil)))
      (pss_cons (ps_while PassesOwn.never (pt_cmpR op_lt (pv 2) (pv 3) (nomark _))
        (pss_cons (ps_set (i := 4) sc_place_of.nd rfl (.inl rfl) (pe_op op_fdiv (pe_op op_add (pv 2) (pv 3)) pe_int))
          (pss_one (ps_if (pt_cmpR (op_ltS hr.units0) (pe_ix ix_tup (pe_ix ix_list (pv 0) (pv 4) (fun _ _ => rfl)) pe_int (fun _ _ => rfl)) (pv 1) (nomark _))
            (pss_one (ps_set (i := 2) sc_place_of.nd rfl (.inl rfl) (pe_op op_add (pv 4) pe_int)))
            (pss_one (ps_set (i := 3) sc_place_of.nd rfl (.inl rfl) (pv 4)))))))
      (pss_one (ps_ret (pv 2))))), ?_⟩)
  · obtain ⟨a, b, m, k, rfl, _⟩ := h
    rfl
  · obtain ⟨a, b, m, k, rfl, ⟨xs, ha, hp⟩, hs, hb, q⟩ := h
    have hlen := paired_len hp
    refine ⟨_, rfl, _, _, rfl, .inl ⟨_, SqL.of ha, rfl⟩, ?_⟩
    refine while_by (fun σ H' => ∃ (lo hi : Nat) (v : Option V), σ = [some (.ref a), some (.ref b), some (.int (lo : Int)), some (.int (hi : Int)), v] ∧ H' = H ∧ lo ≤ G.place m k ∧ G.place m k ≤ hi ∧ hi ≤ m.length) mu_place ⟨0, xs.length, none, ?_, rfl, Nat.zero_le _, ?_, ?_⟩ ?_ ?_
    · simp [L2.start]
    · rw [hlen]; exact G.place_le m k
    · omega
    · rintro σ H' ⟨lo, hi, v, rfl, rfl, h1, h2, h3⟩
      refine ⟨_, rfl, _, rfl, _, _, rfl, rfl, _, rfl, iteD (fun c => ?_) (fun c => ?_)⟩
      · have c' : lo < hi := by omega
        have hm : (lo + hi) / 2 < m.length := by omega
        obtain ⟨x, hx, pa, ka, va, rfl, ht, hk, _⟩ := paired_get' hp (List.getElem?_eq_getElem hm)
        have e : ((lo : Int) + (hi : Int)) / 2 = (((lo + hi) / 2 : Nat) : Int) := by omega
        refine ⟨_, rfl, _, rfl, _, _, rfl, rfl, _, _, rfl, rfl, ⟨by decide, by decide⟩, ?_⟩
        refine ⟨_, rfl, _, rfl, _, _, _, _, rfl, rfl, SqL.of ha, (by show atI xs (((lo : Int) + (hi : Int)) / 2) = _; rw [e]; exact atI_nat hx), _, _, _, _, rfl, rfl, SqT.of ht, tup0, _, rfl, _, _, _, _, rfl, rfl, hk, hb, _, rfl, iteB (fun c2 => ?_) (fun c2 => ?_)⟩
        · have c3 := (G.at_place hs k (List.getElem?_eq_getElem hm)).mp c2
          refine ⟨_, rfl, _, _, rfl, rfl, ⟨(lo + hi) / 2 + 1, hi, some (.int (((lo : Int) + (hi : Int)) / 2)), ?_, rfl, by omega, h2, h3⟩, ?_⟩
          · show [_, _, some (V.int (((lo : Int) + (hi : Int)) / 2 + 1)), _, _] = _
            rw [e]; rfl
          · show ((hi : Int) - (((lo : Int) + (hi : Int)) / 2 + 1)).toNat < ((hi : Int) - (lo : Int)).toNat
            omega
        · have c3 : ¬ (lo + hi) / 2 < G.place m k := fun z => by
            rw [(G.at_place hs k (List.getElem?_eq_getElem hm)).mpr z] at c2; cases c2
          refine ⟨_, rfl, ⟨lo, (lo + hi) / 2, some (.int (((lo : Int) + (hi : Int)) / 2)), ?_, rfl, h1, by omega, by omega⟩, ?_⟩
          · show [_, _, _, some (V.int (((lo : Int) + (hi : Int)) / 2)), _] = _
            rw [e]; rfl
          · show ((((lo : Int) + (hi : Int)) / 2) - (lo : Int)).toNat < ((hi : Int) - (lo : Int)).toNat
            omega
      · have c' : lo = G.place m k := by omega
        subst c'
        exact ⟨_, rfl, q⟩
    · rintro σ H' Q1 Q2 hQ ⟨v, hv, u, hu, i, j, e1, e2, z, ez, q⟩
      exact ⟨v, hv, u, hu, i, j, e1, e2, z, ez, hQ _ _ q⟩
/-! stands_at -/
def standsB (m : G.GM β) (p : Nat) (k : List Nat) : Bool := match m[p]? with
  | some x => decide (x.1 = k)
  | none => false
def sp_stands (R : Rl β) : Sp := fun vs H Q _ => ∃ (a b : Addr) (p : Nat) (m : G.GM β) (k : List Nat), vs = [.ref a, .int (p : Int), .ref b] ∧ Mp R H a m ∧ Tb H b k ∧ Q (.bl (standsB m p k)) H
theorem d_stands {R : Rl β} (D : Src K mg "stands_at" s_stands_at ["pairs", "place", "key"]) (hL : mg "len" = none) : DefOk P w K mg base CX0 1 "stands_at" (sp_stands R) := by
  refine D.ok sc_stands_at (fun vs H Q E h => ?_) (fun f cdv A outer s H vs Q E hr h => ⟨_,
      pss_one (ps_ret (pe_and (pe_cmpR op_lt (pv 1) (pe_callB call_len (by rfl) hL PySem.boot_len (pa_cons (pv 0) pa_nil)) (nomark _))
        (pe_one (pe_cmpR (op_eqB hr.units) (pe_ix ix_tup (pe_ix ix_list (pv 0) (pv 1) (fun _ _ => rfl)) pe_int (fun _ _ => rfl)) (pv 2) (nomark _))))), ?_⟩)
  · obtain ⟨a, b, p, m, k, rfl, _⟩ := h
    rfl
  · obtain ⟨a, b, p, m, k, rfl, ⟨xs, ha, hp⟩, hb, q⟩ := h
    have hlen := paired_len hp
    refine ⟨_, rfl, _, rfl, _, _, rfl, .inl ⟨_, SqL.of ha, rfl⟩, _, _, rfl, rfl, _, rfl, iteD (fun c => ?_) (fun c => ?_)⟩
    · have hm : p < m.length := by omega
      obtain ⟨x, hx, pa, ka, va, rfl, ht, hk, _⟩ := paired_get' hp (List.getElem?_eq_getElem hm)
      refine ⟨_, rfl, _, rfl, _, _, _, _, rfl, rfl, SqL.of ha, atI_nat hx, _, _, _, _, rfl, rfl, SqT.of ht, tup0, _, rfl, some _, some k, hk, hb, ?_⟩
      unfold standsB at q
      rw [List.getElem?_eq_getElem hm] at q
      simpa using q
    · have hm : m[p]? = none := List.getElem?_eq_none_iff.mpr (by omega)
      unfold standsB at q
      rw [hm] at q
      exact q
theorem stands_yes {m : G.GM β} (h : G.Srt m) {k : List Nat} (z : standsB m (G.place m k) k = true) : ∃ x, m[G.place m k]? = some x ∧ G.lookup m k = some x.2 ∧ G.behind m k = G.place m k + 1 := by
  have hl := G.lookup_at h k
  unfold standsB at z
  unfold G.behind
  cases e : m[G.place m k]? with
  | none => rw [e] at z; cases z
  | some x =>
    rw [e] at z hl
    have c : x.1 = k := of_decide_eq_true z
    refine ⟨x, rfl, ?_, ?_⟩
    · rw [hl]; exact if_pos c
    · exact if_pos c
theorem stands_no {m : G.GM β} (h : G.Srt m) {k : List Nat} (z : standsB m (G.place m k) k = false) : G.lookup m k = none ∧ G.behind m k = G.place m k := by
  have hl := G.lookup_at h k
  unfold standsB at z
  unfold G.behind
  cases e : m[G.place m k]? with
  | none =>
    rw [e] at hl
    exact ⟨hl, rfl⟩
  | some x =>
    rw [e] at z hl
    have c : ¬ x.1 = k := of_decide_eq_false z
    refine ⟨?_, ?_⟩
    · rw [hl]; exact if_neg c
    · exact if_neg c
/-! value_at -/
def sp_valueAt (R : Rl β) : Sp := fun vs H Q _ => ∃ (a b : Addr) (m : G.GM β) (k : List Nat), vs = [.ref a, .ref b] ∧ Mp R H a m ∧ G.Srt m ∧ Tb H b k ∧ ∀ r, RO R H r (G.lookup m k) → Q r H
theorem d_valueAt {R : Rl β} (D : Src K mg "value_at" s_value_at ["pairs", "key"]) (A1 : DefOk P w K mg base CX0 1 "place_of" (sp_place K R)) (A2 : DefOk P w K mg base CX0 1 "stands_at" (sp_stands R)) : DefOk P w K mg base CX0 2 "value_at" (sp_valueAt R) := by
  refine D.ok sc_value_at (fun vs H Q E h => ?_) (fun f cdv A outer s H vs Q E hr h => ⟨_,
      pss_cons (ps_set (i := 2) sc_value_at.nd rfl (.inl rfl) (pe_cl A1 hr pass0 (pa_cons (pv 0) (pa_cons (pv 1) pa_nil))))
      (pss_cons (ps_if (pt_val (pe_cl A2 hr pass0 (pa_cons (pv 0) (pa_cons (pv 2) (pa_cons (pv 1) pa_nil))))) (pss_one (ps_ret (pe_ix ix_tup (pe_ix ix_list (pv 0) (pv 2) (fun _ _ => rfl)) pe_int (fun _ _ => rfl)))) pss_nil)
      (pss_one (ps_ret pe_non))), ?_⟩)
  · obtain ⟨a, b, m, k, rfl, _⟩ := h
    rfl
  · obtain ⟨a, b, m, k, rfl, ⟨xs, ha, hp⟩, hs, hb, q⟩ := h
    refine ⟨_, rfl, _, rfl, a, b, m, k, rfl, ⟨xs, ha, hp⟩, hs, SqT.of hb, ?_⟩
    refine ⟨_, rfl, _, rfl, _, rfl, a, b, G.place m k, m, k, rfl, ⟨xs, ha, hp⟩, hb, _, rfl, iteB (fun c => ?_) (fun c => ?_)⟩
    · obtain ⟨x, e1, e2, _⟩ := stands_yes hs c
      obtain ⟨y, hy, pa, ka, va, rfl, ht, _, hva⟩ := paired_get' hp e1
      refine ⟨_, rfl, _, rfl, _, _, _, _, rfl, rfl, SqL.of ha, atI_nat hy, _, _, _, _, rfl, rfl, SqT.of ht, tup1, q _ ?_⟩
      rw [e2]; exact hva
    · refine q _ ?_
      rw [(stands_no hs c).1]; trivial
end
end Ks
namespace Ks
open PySem PySem.Spec PyProof.Rows L2
theorem cut_to (xs : List V) (p : Nat) (h : p ≤ xs.length) : cutV xs none (some (p : Int)) = xs.take p := by
  unfold cutV
  rw [HT.sIx_none, HT.sIx_nat, Nat.min_eq_left h, List.drop_zero, Nat.sub_zero]
theorem cut_from (xs : List V) (p : Nat) (h : p ≤ xs.length) : cutV xs (some (p : Int)) none = xs.drop p := by
  unfold cutV
  rw [HT.sIx_none, HT.sIx_nat, Nat.min_eq_left h, List.take_of_length_le (by rw [List.length_drop]; exact Nat.le_refl _)]
theorem cut_mid (xs : List V) (p q : Nat) (h : p ≤ q) (h2 : q ≤ xs.length) : cutV xs (some (p : Int)) (some (q : Int)) = (xs.drop p).take (q - p) := by
  unfold cutV
  rw [HT.sIx_nat, HT.sIx_nat, Nat.min_eq_left h2, Nat.min_eq_left (Nat.le_trans h h2)]
theorem min_eq (n m : Nat) (h : n ≤ m) : min n m = n := Nat.min_eq_left h
variable {β : Type}
/-- a map with a key's value another -/
def setG (m : G.GM β) (k : List Nat) : Option β → G.GM β
  | some v => G.put m k v
  | none => G.remove m k
def pairO (k : List Nat) : Option β → G.GM β
  | some v => [(k, v)]
  | none => []
theorem setG_is {m : G.GM β} (h : G.Srt m) (k : List Nat) (o : Option β) : setG m k o = m.take (G.place m k) ++ pairO k o ++ m.drop (G.behind m k) := by
  cases o with
  | none => show G.remove m k = _; rw [G.remove_is h]; simp [pairO]
  | some v => show G.put m k v = _; rw [G.put_is h]; simp [pairO]
theorem setG_srt {m : G.GM β} (h : G.Srt m) (k : List Nat) (o : Option β) : G.Srt (setG m k o) := by
  cases o with
  | none => exact G.sorted_remove h k
  | some v => exact G.sorted_put h k v
theorem does_setG (m : Gv05.Map) (c : Gv05.Change) : Gv05.does m c = setG (β := List Nat) m c.key (Gv05.effect c (Gv05.lookup m c.key)) := by
  unfold Gv05.does setG
  cases Gv05.effect c (Gv05.lookup m c.key) <;> rfl
theorem behind_le {m : G.GM β} (h : G.Srt m) (k : List Nat) : G.behind m k ≤ m.length := by rw [G.behind_is h]; exact G.placeA_le m k
theorem place_behind (m : G.GM β) (k : List Nat) : G.place m k ≤ G.behind m k := by
  unfold G.behind
  cases m[G.place m k]? with
  | none => exact Nat.le_refl _
  | some x =>
    show G.place m k ≤ if x.1 = k then G.place m k + 1 else G.place m k
    split <;> omega
theorem setG_len {m : G.GM β} (h : G.Srt m) (k : List Nat) (o : Option β) : (setG m k o).length ≤ m.length + 1 := by
  rw [setG_is h]
  have := place_behind m k
  have := behind_le h k
  cases o <;> simp only [pairO, List.length_append, List.length_take, List.length_drop, List.length_cons, List.length_nil] <;> omega
section
variable {P : Program} {w : World} {K : PySem.W.Frag} {mg : Str → Option Value} {base : Heap} {R : Rl β}
/-! place_behind -/
def sp_behind (R : Rl β) : Sp := fun vs H Q _ => ∃ (a b : Addr) (m : G.GM β) (k : List Nat), vs = [.ref a, .ref b] ∧ Mp R H a m ∧ G.Srt m ∧ Tb H b k ∧ Q (.int (G.behind m k : Int)) H
theorem d_behind (D : Src K mg "place_behind" s_place_behind ["pairs", "key"]) (A1 : DefOk P w K mg base CX0 1 "place_of" (sp_place K R)) (A2 : DefOk P w K mg base CX0 1 "stands_at" (sp_stands R)) : DefOk P w K mg base CX0 2 "place_behind" (sp_behind R) := by
  refine D.ok sc_place_behind (fun vs H Q E h => ?_) (fun f cdv A outer s H vs Q E hr h => ⟨_,
      pss_cons (ps_set (i := 2) sc_place_behind.nd rfl (.inl rfl) (pe_cl A1 hr pass0 (pa_cons (pv 0) (pa_cons (pv 1) pa_nil))))
      (pss_cons (ps_if (pt_val (pe_cl A2 hr pass0 (pa_cons (pv 0) (pa_cons (pv 2) (pa_cons (pv 1) pa_nil))))) (pss_one (ps_ret (pe_op op_add (pv 2) pe_int))) pss_nil)
      (pss_one (ps_ret (pv 2)))), ?_⟩)
  · obtain ⟨a, b, m, k, rfl, _⟩ := h
    rfl
  · obtain ⟨a, b, m, k, rfl, ha, hs, hb, q⟩ := h
    refine ⟨_, rfl, _, rfl, a, b, m, k, rfl, ha, hs, SqT.of hb, ?_⟩
    refine ⟨_, rfl, _, rfl, _, rfl, a, b, G.place m k, m, k, rfl, ha, hb, _, rfl, iteB (fun c => ?_) (fun c => ?_)⟩
    · obtain ⟨x, _, _, e⟩ := stands_yes hs c
      rw [e] at q
      exact ⟨_, rfl, _, _, rfl, rfl, q⟩
    · rw [(stands_no hs c).2] at q
      exact ⟨_, rfl, q⟩
/-! map_with -/
def sp_with (R : Rl β) : Sp := fun vs H Q _ => ∃ (a b : Addr) (v : V) (m : G.GM β) (k : List Nat) (o : Option β), vs = [.ref a, .ref b, v] ∧ Mp R H a m ∧ G.Srt m ∧ Tb H b k ∧ RO R H v o ∧ m.length ≤ 10000000 ∧
  ∀ H' p, Same H H' → H p = none → Mp R H' p (setG m k o) → Q (.ref p) H'
theorem d_with (sb : Sb R) (D : Src K mg "map_with" s_map_with ["pairs", "key", "value"]) (A1 : DefOk P w K mg base CX0 1 "place_of" (sp_place K R)) (A2 : DefOk P w K mg base CX0 2 "place_behind" (sp_behind R)) : DefOk P w K mg base CX0 3 "map_with" (sp_with R) := by
  refine D.ok sc_map_with (fun vs H Q E h => ?_) (fun f cdv A outer s H vs Q E hr h => ⟨_,
      pss_cons (ps_set (i := 3) sc_map_with.nd rfl (.inl rfl) (pe_lst pa_nil))
      (C8.pss_cut (ps_if (pt_cmpR op_notN (pv 2) pe_non (nomark _)) (pss_one (ps_set (i := 3) sc_map_with.nd rfl (.inl rfl) (pe_lst (pa_cons (pe_tup (pa_cons (pv 1) (pa_cons (pv 2) pa_nil))) pa_nil)))) pss_nil)
      (pss_one (ps_ret (pe_op op_cat (pe_op op_cat (pe_slice sl_list (pv 0) po_none (po_some (pe_cl A1 (hr.mono (by decide)) pass0 (pa_cons (pv 0) (pa_cons (pv 1) pa_nil))))) (pv 3)) (pe_slice sl_list (pv 0) (po_some (pe_cl A2 hr pass0 (pa_cons (pv 0) (pa_cons (pv 1) pa_nil)))) po_none))))), ?_⟩)
  · obtain ⟨a, b, v, m, k, o, rfl, _⟩ := h
    rfl
  · obtain ⟨a, b, v, m, k, o, rfl, ⟨xs, ha, hp⟩, hs, hb, hv, hz, q⟩ := h
    have hlen := paired_len hp
    have l1 := place_behind m k
    have l2 := behind_le hs k
    refine ⟨small_le (m := 100) (by simp), fun l hl => ?_⟩
    refine ⟨fun σ H1 => ∃ (pl : Addr) (ps : List V), σ = [some (.ref a), some (.ref b), some v, some (.ref pl)] ∧ Same H H1 ∧ H1 pl = some (.lst ps) ∧ Paired (Pr R H1) ps (pairO k o), ?_, ?_⟩
    · cases o with
      | none =>
        obtain rfl := hv.none_
        refine ⟨_, rfl, rfl, _, rfl, iteDN (fun c => absurd rfl c) (fun c => ?_)⟩
        exact ⟨l, [], rfl, same_upd hl, upd_same, .nil⟩
      | some y =>
        obtain ⟨va, rfl, hva⟩ := hv.some_
        refine ⟨_, rfl, rfl, _, rfl, iteDN (fun c => ?_) (fun c => nomatch c)⟩
        refine ⟨_, rfl, _, rfl, small_le (m := 100) (by simp), fun t ht => ⟨small_le (m := 100) (by simp), fun p hp2 => ?_⟩⟩
        have sm := Same.trans (Same.trans (same_upd hl) (same_upd ht)) (same_upd (o := .lst [.ref t]) hp2)
        refine ⟨p, [.ref t], rfl, sm, upd_same, .cons ⟨t, b, va, rfl, ?_, sm _ _ hb, sb _ _ (TS.of sm) _ _ hva⟩ .nil⟩
        rw [upd_ne (fun z => by rw [← z, upd_same] at hp2; cases hp2)]
        exact upd_same
    · rintro σ H1 ⟨pl, ps, rfl, sm, hpl, hps⟩
      have ha1 := sm _ _ ha
      have hb1 := sm _ _ hb
      have hm1 : Mp R H1 a m := Mp.same sb sm ⟨xs, ha, hp⟩
      have lp := paired_len hps
      have lp1 : ps.length ≤ 1 := by rw [lp]; cases o <;> simp [pairO]
      refine ⟨_, rfl, _, rfl, _, rfl, a, b, m, k, rfl, hm1, hs, SqT.of hb1, _, rfl, _, _, rfl, SqL.of ha1, fun p1 h1 => ?_⟩
      have c1 : cutV xs none (some (G.place m k : Int)) = xs.take (G.place m k) := cut_to xs _ (by rw [hlen]; exact G.place_le m k)
      rw [c1]
      have hpl1 : upd H1 p1 (.lst (xs.take (G.place m k))) pl = some (.lst ps) := by rw [upd_ne (ne_of_none hpl h1)]; exact hpl
      refine ⟨_, rfl, _, _, _, _, rfl, rfl, upd_same, hpl1, small_le (m := 10000100) (by simp only [List.length_take]; omega), fun p2 h2 => ?_⟩
      have s2 := Same.trans (same_upd (o := .lst (xs.take (G.place m k))) h1) (same_upd (o := .lst (xs.take (G.place m k) ++ ps)) h2)
      refine ⟨_, rfl, _, rfl, _, rfl, a, b, m, k, rfl, Mp.same sb s2 hm1, hs, s2 _ _ hb1, _, rfl, _, _, rfl, SqL.of (s2 _ _ ha1), fun p3 h3 => ?_⟩
      have c2 : cutV xs (some (G.behind m k : Int)) none = xs.drop (G.behind m k) := cut_from xs _ (by rw [hlen]; exact l2)
      rw [c2]
      have h23 : p2 ≠ p3 := fun z => by rw [← z, upd_same] at h3; cases h3
      refine ⟨_, _, _, _, rfl, rfl, (by rw [upd_ne h23]; exact upd_same), upd_same, small_le (m := 10000100) (by simp only [List.length_append, List.length_take, List.length_drop]; omega), fun p4 h4 => ?_⟩
      have s4 := Same.trans (Same.trans s2 (same_upd (o := .lst (xs.drop (G.behind m k))) h3)) (same_upd (o := .lst (xs.take (G.place m k) ++ ps ++ xs.drop (G.behind m k))) h4)
      have s0 := Same.trans sm s4
      refine q _ p4 s0 (Same.free (Same.trans sm (Same.trans s2 (same_upd h3))) h4) ⟨_, upd_same, ?_⟩
      rw [setG_is hs]
      refine paired_app (paired_app (paired_take _ ?_) ?_) (paired_drop _ ?_)
      · exact paired_map (fun _ _ => Pr.ts sb (TS.of s0)) hp
      · exact paired_map (fun _ _ => Pr.ts sb (TS.of s4)) hps
      · exact paired_map (fun _ _ => Pr.ts sb (TS.of s0)) hp
/-! first_place -/
/-- whether the key itself is wanted, as 0, 1, False or True -/
def Wd : V → Bool → Prop := fun v w => v = .int (if w = true then 1 else 0) ∨ v = .bl w
theorem Wd.tru {v : V} {w : Bool} (h : Wd v w) (K : PySem.W.Frag) (H : Hp) : TruV K v H w := by
  rcases h with rfl | rfl
  · cases w <;> rfl
  · rfl
def wayI (back : Bool) : Int := if back = true then -1 else 1
def sp_first (R : Rl β) : Sp := fun vs H Q _ => ∃ (a b : Addr) (v : V) (m : G.GM β) (k : List Nat) (back w : Bool), vs = [.ref a, .ref b, v, .int (wayI back)] ∧ Wd v w ∧ Mp R H a m ∧ G.Srt m ∧ Tb H b k ∧ Q (.int (firstP back w m k)) H
theorem d_first (D : Src K mg "first_place" s_first_place ["pairs", "key", "itself", "way"]) (cU : GI mg "UP" 1) (A1 : DefOk P w K mg base CX0 1 "place_of" (sp_place K R)) (A2 : DefOk P w K mg base CX0 2 "place_behind" (sp_behind R)) : DefOk P w K mg base CX0 3 "first_place" (sp_first R) := by
  refine D.ok sc_first_place (fun vs H Q E h => ?_) (fun f cdv A outer s H vs Q E hr h => ⟨_,
      pss_cons (ps_if (PW.pt (pw_and (pt_cmpR op_eq (pv 3) (pe_gi cU) (nomark _)) (pw_and1 (pt_truth (pv 2) (by intro _; rfl))))) (pss_one (ps_ret (pe_cl A1 (hr.mono (by decide)) pass0 (pa_cons (pv 0) (pa_cons (pv 1) pa_nil))))) pss_nil)
      (pss_cons (ps_if (pt_cmpR op_eq (pv 3) (pe_gi cU) (nomark _)) (pss_one (ps_ret (pe_cl A2 hr pass0 (pa_cons (pv 0) (pa_cons (pv 1) pa_nil))))) pss_nil)
      (pss_cons (ps_if (pt_truth (pv 2) (by intro _; rfl)) (pss_one (ps_ret (pe_op op_sub (pe_cl A2 hr pass0 (pa_cons (pv 0) (pa_cons (pv 1) pa_nil))) pe_int))) pss_nil)
      (pss_one (ps_ret (pe_op op_sub (pe_cl A1 (hr.mono (by decide)) pass0 (pa_cons (pv 0) (pa_cons (pv 1) pa_nil))) pe_int))))), ?_⟩)
  · obtain ⟨a, b, v, m, k, back, w, rfl, _⟩ := h
    rfl
  · obtain ⟨a, b, v, m, k, back, w, rfl, hw, ha, hs, hb, q⟩ := h
    cases back with
    | false =>
      cases w with
      | true =>
        refine ⟨_, rfl, rfl, _, rfl, iteD (fun c => ?_) (fun c => absurd rfl c)⟩
        refine ⟨_, rfl, true, hw.tru K H, iteB (fun c => ?_) (fun c => nomatch c)⟩
        exact ⟨_, rfl, _, rfl, a, b, m, k, rfl, ha, hs, SqT.of hb, q⟩
      | false =>
        refine ⟨_, rfl, rfl, _, rfl, iteD (fun c => ?_) (fun c => absurd rfl c)⟩
        refine ⟨_, rfl, false, hw.tru K H, iteB (fun c => nomatch c) (fun c => ?_)⟩
        refine ⟨_, rfl, rfl, _, rfl, iteD (fun c => ?_) (fun c => absurd rfl c)⟩
        refine ⟨_, rfl, _, rfl, a, b, m, k, rfl, ha, hs, hb, ?_⟩
        rw [G.behind_is hs]; exact q
    | true =>
      have ne : ¬ (V.int (wayI true) = V.int 1) := by intro z; cases z
      refine ⟨_, rfl, rfl, _, rfl, iteD (fun c => absurd c ne) (fun c => ?_)⟩
      refine ⟨_, rfl, rfl, _, rfl, iteD (fun c => absurd c ne) (fun c => ?_)⟩
      refine ⟨_, rfl, w, hw.tru K H, ?_⟩
      cases w with
      | true =>
        refine iteB (fun c => ?_) (fun c => nomatch c)
        refine ⟨_, rfl, _, rfl, a, b, m, k, rfl, ha, hs, hb, _, _, rfl, rfl, ?_⟩
        rw [G.behind_is hs]; exact q
      | false =>
        refine iteB (fun c => nomatch c) (fun c => ?_)
        exact ⟨_, rfl, _, rfl, a, b, m, k, rfl, ha, hs, SqT.of hb, _, _, rfl, rfl, q⟩
/-! part_between -/
def partG (m : G.GM β) (lo : List Nat) : Option (List Nat) → G.GM β
  | none => m.drop (G.place m lo)
  | some hi => (m.drop (G.place m lo)).take (G.placeA m hi - G.place m lo)
def sp_part (K : PySem.W.Frag) (R : Rl β) : Sp := fun vs H Q _ => ∃ (a b : Addr) (v : V) (m : G.GM β) (lo : List Nat) (hi : Option (List Nat)), vs = [.ref a, .ref b, v] ∧ Mp R H a m ∧ G.Srt m ∧ SqT K H b (vN lo) ∧ Tv H v hi ∧
  ∀ H' p, Same H H' → H p = none → Mp R H' p (partG m lo hi) → Q (.ref p) H'
theorem cut_of (xs : List V) (p q : Nat) (h : p ≤ xs.length) (h2 : q ≤ xs.length) : cutV xs (some (p : Int)) (some (q : Int)) = (xs.drop p).take (q - p) := by
  unfold cutV
  rw [HT.sIx_nat, HT.sIx_nat, Nat.min_eq_left h2, Nat.min_eq_left h]
theorem d_part (sb : Sb R) (D : Src K mg "part_between" s_part_between ["pairs", "low", "high"]) (A1 : DefOk P w K mg base CX0 1 "place_of" (sp_place K R)) (A2 : DefOk P w K mg base CX0 2 "place_behind" (sp_behind R)) : DefOk P w K mg base CX0 3 "part_between" (sp_part K R) := by
  refine D.ok sc_part_between (fun vs H Q E h => ?_) (fun f cdv A outer s H vs Q E hr h => ⟨_,
      pss_cons (ps_set (i := 3) sc_part_between.nd rfl (.inl rfl) (pe_cl A1 (hr.mono (by decide)) pass0 (pa_cons (pv 0) (pa_cons (pv 1) pa_nil))))
      (pss_cons (ps_if (pt_cmpR op_isN (pv 2) pe_non (nomark _)) (pss_one (ps_ret (pe_slice sl_list (pv 0) (po_some (pv 3)) po_none))) pss_nil)
      (pss_one (ps_ret (pe_slice sl_list (pv 0) (po_some (pv 3)) (po_some (pe_cl A2 hr pass0 (pa_cons (pv 0) (pa_cons (pv 2) pa_nil)))))))), ?_⟩)
  · obtain ⟨a, b, v, m, lo, hi, rfl, _⟩ := h
    rfl
  · obtain ⟨a, b, v, m, lo, hi, rfl, ⟨xs, ha, hp⟩, hs, hb, hv, q⟩ := h
    have hlen := paired_len hp
    have lp := G.place_le m lo
    refine ⟨_, rfl, _, rfl, a, b, m, lo, rfl, ⟨xs, ha, hp⟩, hs, hb, ?_⟩
    cases hi with
    | none =>
      obtain rfl := hv.none_
      refine ⟨_, rfl, rfl, _, rfl, iteD (fun _ => ?_) (fun c => absurd rfl c)⟩
      refine ⟨_, rfl, _, rfl, _, rfl, _, _, rfl, SqL.of ha, fun p hp1 => ?_⟩
      rw [cut_from xs _ (by rw [hlen]; exact lp)]
      refine q _ p (same_upd hp1) hp1 ⟨_, upd_same, paired_drop _ (paired_map (fun _ _ => Pr.ts sb (TS.of (same_upd hp1))) hp)⟩
    | some h2 =>
      obtain ⟨va, rfl, hva⟩ := hv.some_
      refine ⟨_, rfl, rfl, _, rfl, iteD (fun c => nomatch c) (fun c => ?_)⟩
      refine ⟨_, rfl, _, rfl, _, rfl, _, rfl, _, rfl, a, va, m, h2, rfl, ⟨xs, ha, hp⟩, hs, hva, _, rfl, _, _, rfl, SqL.of ha, fun p hp1 => ?_⟩
      rw [G.behind_is hs, cut_of xs _ _ (by rw [hlen]; exact lp) (by rw [hlen]; exact G.placeA_le m h2)]
      exact q _ p (same_upd hp1) hp1 ⟨_, upd_same, paired_take _ (paired_drop _ (paired_map (fun _ _ => Pr.ts sb (TS.of (same_upd hp1))) hp))⟩
/-! state_after: the changes are a list, or a tuple -/
def sp_stAfterL : Sp := fun vs H Q _ => ∃ (a b : Addr) (m : Gv05.Map) (xs : List V) (cs : List Gv05.Change), vs = [.ref a, .ref b] ∧ Mp Tb H a m ∧ Gv05.Sorted m ∧ H b = some (.lst xs) ∧ Chs H xs cs ∧ m.length + cs.length ≤ 10000000 ∧
  ∀ H' p, (p = a ∨ H p = none) → Same H H' → Mp Tb H' p (cs.foldl Gv05.does m) → Q (.ref p) H'
def sp_stAfterT : Sp := fun vs H Q _ => ∃ (a b : Addr) (m : Gv05.Map) (xs : List V) (cs : List Gv05.Change), vs = [.ref a, .ref b] ∧ Mp Tb H a m ∧ Gv05.Sorted m ∧ H b = some (.tup xs) ∧ Chs H xs cs ∧ m.length + cs.length ≤ 10000000 ∧
  ∀ H' p, (p = a ∨ H p = none) → Same H H' → Mp Tb H' p (cs.foldl Gv05.does m) → Q (.ref p) H'
theorem fold_take {cs : List Gv05.Change} {i : Nat} {c : Gv05.Change} (h : cs[i]? = some c) (m : Gv05.Map) : (cs.take (i + 1)).foldl Gv05.does m = Gv05.does ((cs.take i).foldl Gv05.does m) c := by
  rw [List.take_add_one, h, List.foldl_append]; rfl
theorem fold_sorted (cs : List Gv05.Change) {m : Gv05.Map} (h : Gv05.Sorted m) : Gv05.Sorted (cs.foldl Gv05.does m) := by
  induction cs generalizing m with
  | nil => exact h
  | cons c cs ih => exact ih (sorted_does h c)
theorem fold_len (cs : List Gv05.Change) {m : Gv05.Map} (h : Gv05.Sorted m) : (cs.foldl Gv05.does m).length ≤ m.length + cs.length := by
  induction cs generalizing m with
  | nil => exact Nat.le_refl _
  | cons c cs ih =>
    have := ih (sorted_does h c)
    have l : (Gv05.does m c).length ≤ m.length + 1 := by rw [does_setG]; exact setG_len (β := List Nat) h _ _
    simp only [List.foldl_cons, List.length_cons]
    omega
theorem d_stAfterL (D : Src K mg "state_after" s_state_after ["state", "changes"]) (A1 : DefOk P w K mg base CX0 3 "map_with" (sp_with Tb)) (A2 : DefOk P w K mg base CX0 4 "value_after" sp_after) (A3 : DefOk P w K mg base CX0 2 "value_at" (sp_valueAt Tb)) : DefOk P w K mg base CX0 5 "state_after" sp_stAfterL := by
  refine D.ok sc_state_after (fun vs H Q E h => ?_) (fun f cdv A outer s H vs Q E hr h => ⟨_,
      pss_cons (ps_set (i := 2) sc_state_after.nd rfl (.inl rfl) (pv 0))
      (pss_cons (ps_for PassesOwn.never rfl (pi_list (pv 1)) (pg_name (i := 3) sc_state_after.nd rfl (.inl rfl))
        (pss_cons (ps_set (i := 4) sc_state_after.nd rfl (.inl rfl) (pe_ix ix_tup (pv 3) pe_int (fun _ _ => rfl)))
          (pss_one (ps_set (i := 2) sc_state_after.nd rfl (.inl rfl) (pe_cl A1 (hr.mono (by decide)) pass0 (pa_cons (pv 2) (pa_cons (pv 4) (pa_cons (pe_cl A2 hr pass0 (pa_cons (pv 3) (pa_cons (pe_cl A3 (hr.mono (by decide)) pass0 (pa_cons (pv 2) (pa_cons (pv 4) pa_nil))) pa_nil))) pa_nil))))))))
      (pss_one (ps_ret (pv 2)))), ?_⟩)
  · obtain ⟨a, b, m, xs, cs, rfl, _⟩ := h
    rfl
  · obtain ⟨a, b, m, xs, cs, rfl, ha, hs, hb, hcs, hz, q⟩ := h
    have hlen := paired_len hcs
    refine ⟨_, rfl, ?_⟩
    refine ⟨_, rfl, b, rfl, ⟨_, SqL.of hb⟩, for_list (K := K) (a := b) (xs := xs) (fun i σ H' => ∃ (p : Addr) (y z : Option V), σ = [some (.ref a), some (.ref b), some (.ref p), y, z] ∧ (p = a ∨ H p = none) ∧ Same H H' ∧ Mp Tb H' p ((cs.take i).foldl Gv05.does m)) ⟨a, none, none, ?_, .inl rfl, Same.refl H, ha⟩ ?_ ?_ ?_⟩
    · simp [L2.start]
    · rintro i σ H' _ ⟨p, y, z, _, _, sm, _⟩
      exact SqL.of (sm _ _ hb)
    · rintro i x σ H' hi ⟨p, y, z, rfl, hpa, sm, hp⟩
      obtain ⟨c, hc, ca, rfl, hca⟩ := paired_get hcs hi
      obtain ⟨ka, z, h1, h2, h3⟩ := hca.same sm
      have li : i < cs.length := (List.getElem?_eq_some_iff.mp hc).1
      have so := fold_sorted (cs.take i) hs
      have sl := fold_len (cs.take i) hs
      have ll : (cs.take i).length ≤ cs.length := List.length_take_le' i cs
      refine ⟨_, rfl, _, _, _, _, rfl, rfl, SqT.of h1, tup1, ?_⟩
      refine ⟨_, rfl, _, rfl, _, rfl, _, rfl, _, rfl, p, ka, _, _, rfl, hp, so, h2, fun r hr => ?_⟩
      refine ⟨ca, r, c, _, rfl, ⟨ka, z, h1, h2, h3⟩, hr.tv, fun H2 r2 sm2 hr2 => ?_⟩
      refine ⟨p, ka, r2, _, c.key, _, rfl, hp.same sb_tb sm2, so, sm2 _ _ h2, hr2.ro, by omega, fun H3 p3 sm3 n3 hp3 => ?_⟩
      refine ⟨p3, _, _, rfl, .inr (sm.free (sm2.free n3)), Same.trans sm (Same.trans sm2 sm3), ?_⟩
      rw [fold_take hc, does_setG]
      exact hp3
    · rintro σ H' ⟨p, y, z, rfl, hpa, sm, hp⟩
      rw [hlen, List.take_length] at hp
      exact ⟨_, rfl, q H' p hpa sm hp⟩
theorem d_stAfterT (D : Src K mg "state_after" s_state_after ["state", "changes"]) (A1 : DefOk P w K mg base CX0 3 "map_with" (sp_with Tb)) (A2 : DefOk P w K mg base CX0 4 "value_after" sp_after) (A3 : DefOk P w K mg base CX0 2 "value_at" (sp_valueAt Tb)) : DefOk P w K mg base CX0 5 "state_after" sp_stAfterT := by
  refine D.ok sc_state_after (fun vs H Q E h => ?_) (fun f cdv A outer s H vs Q E hr h => ⟨_,
      pss_cons (ps_set (i := 2) sc_state_after.nd rfl (.inl rfl) (pv 0))
      (pss_cons (ps_for PassesOwn.never rfl (pi_tup (pv 1)) (pg_name (i := 3) sc_state_after.nd rfl (.inl rfl))
        (pss_cons (ps_set (i := 4) sc_state_after.nd rfl (.inl rfl) (pe_ix ix_tup (pv 3) pe_int (fun _ _ => rfl)))
          (pss_one (ps_set (i := 2) sc_state_after.nd rfl (.inl rfl) (pe_cl A1 (hr.mono (by decide)) pass0 (pa_cons (pv 2) (pa_cons (pv 4) (pa_cons (pe_cl A2 hr pass0 (pa_cons (pv 3) (pa_cons (pe_cl A3 (hr.mono (by decide)) pass0 (pa_cons (pv 2) (pa_cons (pv 4) pa_nil))) pa_nil))) pa_nil))))))))
      (pss_one (ps_ret (pv 2)))), ?_⟩)
  · obtain ⟨a, b, m, xs, cs, rfl, _⟩ := h
    rfl
  · obtain ⟨a, b, m, xs, cs, rfl, ha, hs, hb, hcs, hz, q⟩ := h
    have hlen := paired_len hcs
    refine ⟨_, rfl, ?_⟩
    refine ⟨_, rfl, b, rfl, ⟨_, SqT.of hb⟩, for_tup (K := K) (a := b) (xs := xs) (fun i σ H' => ∃ (p : Addr) (y z : Option V), σ = [some (.ref a), some (.ref b), some (.ref p), y, z] ∧ (p = a ∨ H p = none) ∧ Same H H' ∧ Mp Tb H' p ((cs.take i).foldl Gv05.does m)) ⟨a, none, none, ?_, .inl rfl, Same.refl H, ha⟩ ?_ ?_ ?_⟩
    · simp [L2.start]
    · rintro i σ H' _ ⟨p, y, z, _, _, sm, _⟩
      exact SqT.of (sm _ _ hb)
    · rintro i x σ H' hi ⟨p, y, z, rfl, hpa, sm, hp⟩
      obtain ⟨c, hc, ca, rfl, hca⟩ := paired_get hcs hi
      obtain ⟨ka, z, h1, h2, h3⟩ := hca.same sm
      have li : i < cs.length := (List.getElem?_eq_some_iff.mp hc).1
      have so := fold_sorted (cs.take i) hs
      have sl := fold_len (cs.take i) hs
      have ll : (cs.take i).length ≤ cs.length := List.length_take_le' i cs
      refine ⟨_, rfl, _, _, _, _, rfl, rfl, SqT.of h1, tup1, ?_⟩
      refine ⟨_, rfl, _, rfl, _, rfl, _, rfl, _, rfl, p, ka, _, _, rfl, hp, so, h2, fun r hr => ?_⟩
      refine ⟨ca, r, c, _, rfl, ⟨ka, z, h1, h2, h3⟩, hr.tv, fun H2 r2 sm2 hr2 => ?_⟩
      refine ⟨p, ka, r2, _, c.key, _, rfl, hp.same sb_tb sm2, so, sm2 _ _ h2, hr2.ro, by omega, fun H3 p3 sm3 n3 hp3 => ?_⟩
      refine ⟨p3, _, _, rfl, .inr (sm.free (sm2.free n3)), Same.trans sm (Same.trans sm2 sm3), ?_⟩
      rw [fold_take hc, does_setG]
      exact hp3
    · rintro σ H' ⟨p, y, z, rfl, hpa, sm, hp⟩
      rw [hlen, List.take_length] at hp
      exact ⟨_, rfl, q H' p hpa sm hp⟩
end
end Ks
namespace Ks
open PySem PySem.Spec PyProof.Rows L2
/-! ### methods of own classes -/
structure MSrc (K : PySem.W.Frag) (C : Addr) (m qual : Str) (st : Stmt) (ps : List Str) : Prop where
  ex : ∃ (f : Addr) (fd : FuncData), Meth K C m f ∧ Fun K m qual st f fd ∧ Binds K fd ps []
structure MethOk (P : Program) (w : World) (K : PySem.W.Frag) (mg : Str → Option Value) (base : Heap) (CX : CXT) (k : Nat) (C : Addr) (m : Str) (sp : Sp) : Prop where
  ex : ∃ (f : Addr) (fd : FuncData) (ps : List Str), Meth K C m f ∧ FnOk P w K mg base CX k f fd ps sp ∧ Binds K fd ps []
/-- the class called: its __init__ -/
structure ISrc (K : PySem.W.Frag) (C : Addr) (qual : Str) (st : Stmt) (ps : List Str) : Prop where
  ex : ∃ (f : Addr) (fd : FuncData), Mk K C f ∧ Fun K "__init__" qual st f fd ∧ Binds K fd ps []
structure InitOk (P : Program) (w : World) (K : PySem.W.Frag) (mg : Str → Option Value) (base : Heap) (CX : CXT) (k : Nat) (C : Addr) (sp : Sp) : Prop where
  ex : ∃ (f : Addr) (fd : FuncData) (ps : List Str), Mk K C f ∧ FnOk P w K mg base CX k f fd ps sp ∧ Binds K fd ps []
section
variable {P : Program} {w : World} {K : PySem.W.Frag} {mg : Str → Option Value} {base : Heap} {C : Addr}
theorem MSrc.ok {m qual : Str} {st : Stmt} {N ps : List Str} {k : Nat} {sp : Sp} (D : MSrc K C m qual st ps) (S : FnScope N ps (defScope st)) (len : ∀ vs H Q E, sp vs H Q E → vs.length = ps.length)
    (hbody : ∀ (f : Addr) (cdv : Value) (A : Around) (outer : List Env) (s : Shared) (H : Hp) (vs : List V) (Q : VK) (E : XK), Room k (A.deeper (envOfC qual (defScope st) s.heap.objs.size f cdv)) → sp vs H Q E →
      ∃ t, PSs (cxOf CX0 P w K mg base N qual (defScope st) f cdv A outer s H E).nox (defBody st) t ∧ t { nx := fun _ H' => Q .non H', rt := Q } (L2.start N vs) H) : MethOk P w K mg base CX0 (k + 1) C m sp := by
  obtain ⟨f, fd, hm, F, b⟩ := D.ex
  exact ⟨f, fd, ps, hm, F.ok S len (fun cdv A outer s H vs Q E hr h => hbody f cdv A outer s H vs Q E hr h), b⟩
theorem MSrc.okX {m qual : Str} {st : Stmt} {N ps : List Str} {k : Nat} {sp : Sp} (D : MSrc K C m qual st ps) (S : FnScope N ps (defScope st)) (len : ∀ vs H Q E, sp vs H Q E → vs.length = ps.length)
    (hbody : ∀ (f : Addr) (cdv : Value) (A : Around) (outer : List Env) (s : Shared) (H : Hp) (vs : List V) (Q : VK) (E : XK), Room k (A.deeper (envOfC qual (defScope st) s.heap.objs.size f cdv)) → sp vs H Q E →
      ∃ t, PSs (cxOf (L2N.CX P w) P w K mg base N qual (defScope st) f cdv A outer s H E) (defBody st) t ∧ t { nx := fun _ H' => Q .non H', rt := Q } (L2.start N vs) H) : MethOk P w K mg base (L2N.CX P w) (k + 1) C m sp := by
  obtain ⟨f, fd, hm, F, b⟩ := D.ex
  exact ⟨f, fd, ps, hm, okN F S len (fun cdv A outer s H vs Q E hr h => hbody f cdv A outer s H vs Q E hr h), b⟩
theorem ISrc.ok {qual : Str} {st : Stmt} {N ps : List Str} {k : Nat} {sp : Sp} (D : ISrc K C qual st ps) (S : FnScope N ps (defScope st)) (len : ∀ vs H Q E, sp vs H Q E → vs.length = ps.length)
    (hbody : ∀ (f : Addr) (cdv : Value) (A : Around) (outer : List Env) (s : Shared) (H : Hp) (vs : List V) (Q : VK) (E : XK), Room k (A.deeper (envOfC qual (defScope st) s.heap.objs.size f cdv)) → sp vs H Q E →
      ∃ t, PSs (cxOf CX0 P w K mg base N qual (defScope st) f cdv A outer s H E).nox (defBody st) t ∧ t { nx := fun _ H' => Q .non H', rt := Q } (L2.start N vs) H) : InitOk P w K mg base CX0 (k + 1) C sp := by
  obtain ⟨f, fd, hm, F, b⟩ := D.ex
  exact ⟨f, fd, ps, hm, F.ok S len (fun cdv A outer s H vs Q E hr h => hbody f cdv A outer s H vs Q E hr h), b⟩
end
section
variable {X : Cx} {CX : CXT} {k : Nat} {sp : Sp} {E : XK} {x m : Str} {p pos apos : Pos} {e o : Expr} {es : List Expr} {t : TA} {ta : TE} {C : Addr}
/-- o.m(e, ..) -/
def tMt (C : Addr) (m : Str) (sp : Sp) (E : XK) (ta : TE) (t : TA) : TE := fun σ H Q => ta σ H fun x H1 => ∃ a dx fs, x = .ref a ∧ H1 a = some (.ins C dx fs) ∧ fs.lookup m = none ∧ t σ H1 fun vs H2 => sp (x :: vs) H2 Q E
theorem pe_mt {pl : Sem Bool} (he : PE X o ta) (c : Cls X.K C) (M : MethOk X.prog X.w X.K X.mg X.base CX k C m sp) (hr : Room k X.A) (hx : Passes CX X E) (ha : PA X (e :: es) t)
    (hst : starEach (e :: es) X.env = (false, eval e X.env) :: starEach es X.env := by rfl) (hpl : (backTo pos (starEach es X.env)).any (·.1) = false := by rfl)
    (ht : eval (.Call (.Attribute o m apos) (e :: es) [] pos) X.env = (do
      let ov ← eval o X.env
      standAt apos.atName
      let (f, first) ← holding [ov] (getMethod ov m pl)
      callWith pos f first (backTo pos (starEach (e :: es) X.env)) (backToKw pos (keywordEach [] X.env))) := by rfl) :
    PE X (.Call (.Attribute o m apos) (e :: es) [] pos) (tMt C m sp E ta t) := by
  obtain ⟨f, fd, ps, hm, F, hb⟩ := M.ex
  refine ⟨fun pins s σ H Q I h => (pe_meth (pl := pl) he c hm F hr hb .nil hx ha hst hpl ht).run pins s σ H Q I ?_⟩
  show tMeth C m sp [] E ta t σ H Q
  unfold tMeth
  simp only [List.append_nil]
  exact h
theorem pe_mt0 {pl : Sem Bool} (he : PE X o ta) (c : Cls X.K C) (M : MethOk X.prog X.w X.K X.mg X.base CX k C m sp) (hr : Room k X.A) (hx : Passes CX X E)
    (ht : eval (.Call (.Attribute o m apos) [] [] pos) X.env = (do
      let ov ← eval o X.env
      standAt apos.atName
      let (f, first) ← holding [ov] (getMethod ov m pl)
      callWith pos f first (backTo pos (starEach [] X.env)) (backToKw pos (keywordEach [] X.env))) := by rfl) :
    PE X (.Call (.Attribute o m apos) [] [] pos) (tMt C m sp E ta tNil) := by
  obtain ⟨f, fd, ps, hm, F, hb⟩ := M.ex
  refine ⟨fun pins s σ H Q I h => (pe_meth0 (pl := pl) he c hm F hr hb .nil hx ht).run pins s σ H Q I ?_⟩
  show tMeth C m sp [] E ta tNil σ H Q
  unfold tMeth
  simp only [List.append_nil]
  exact h
/-- C(e, ..) -/
def tMk (C : Addr) (sp : Sp) (E : XK) (t : TA) : TE := fun σ H Q => t σ H fun vs H1 => ∀ x dx, H1 x = none → H1 dx = none → dx ≠ x → sp (.ref x :: vs) (upd (upd H1 dx (.own x)) x (.ins C dx [])) (fun v H2 => v = .non ∧ Q (.ref x) H2) E
theorem pe_mk (M : InitOk X.prog X.w X.K X.mg X.base CX k C sp) (hr : Room (k + 1) X.A) (hm : X.mg x = some (.ref C)) (hx : Passes CX X E) (ha : PA X (e :: es) t) (hg : Gl X x := by rfl)
    (hdb : (x == ("__debug__" : Str)) = false := by decide) (he : starEach (e :: es) X.env = (false, eval e X.env) :: starEach es X.env := by rfl) (hpl : (backTo pos (starEach es X.env)).any (·.1) = false := by rfl) :
    PE X (.Call (.Name x p) (e :: es) [] pos) (tMk C sp E t) := by
  obtain ⟨f, fd, ps, mk, F, hb⟩ := M.ex
  refine ⟨fun pins s σ H Q I h => (pe_make (pos := pos) (p := p) mk F hr hg hm hb .nil hx ha hdb he hpl).run pins s σ H Q I ?_⟩
  show tMake C sp [] E t σ H Q
  unfold tMake
  simp only [List.append_nil]
  exact h
theorem pe_mk0 (M : InitOk X.prog X.w X.K X.mg X.base CX k C sp) (hr : Room (k + 1) X.A) (hm : X.mg x = some (.ref C)) (hx : Passes CX X E) (hg : Gl X x := by rfl)
    (hdb : (x == ("__debug__" : Str)) = false := by decide) :
    PE X (.Call (.Name x p) [] [] pos) (tMk C sp E tNil) := by
  obtain ⟨f, fd, ps, mk, F, hb⟩ := M.ex
  refine ⟨fun pins s σ H Q I h => (pe_make0 (pos := pos) (p := p) mk F hr hg hm hb .nil hx hdb).run pins s σ H Q I ?_⟩
  show tMake C sp [] E tNil σ H Q
  unfold tMake
  simp only [List.append_nil]
  exact h
end
/-! ### fields -/
theorem lk_here {k : Str} {v : V} {r : List (Str × V)} : List.lookup k ((k, v) :: r) = some v := by
  have e : (k == k) = true := beq_self_eq_true k
  simp only [List.lookup, e]
theorem lk_past {k g : Str} {v : V} {r : List (Str × V)} (h : (k == g) = false) : List.lookup k ((g, v) :: r) = List.lookup k r := by
  simp only [List.lookup, h]
theorem put_here {f : Str} {v x : V} {r : List (Str × V)} : putF f v ((f, x) :: r) = (f, v) :: r := if_pos rfl
theorem put_past {f g : Str} {v x : V} {r : List (Str × V)} (h : ¬ g = f) : putF f v ((g, x) :: r) = (g, x) :: putF f v r := if_neg h
/-! ### the own error -/
structure ErrTxt (K : PySem.W.Frag) (mg : Str → Option Value) (C : Addr) (x : Str) : Prop where
  g : mg x = some (.ref C)
  x : PySem.W.excIn K C [.type "ValueError", .type "Exception", .type "BaseException", .type "object"] "ValueError.__new__" = true
  k : PySem.W.keepIn K (.ref C) = true
  b : PySem.W.subIn K (.ref C) (.type "BaseException") = some true
  t : PySem.W.typeIn K (.ref C) = some (.type "type")
  e : PySem.W.exmOne K (.ref C) (.ref C) = some true
/-- only what stands at a may be another -/
def But (a : Addr) (H H' : Hp) : Prop := ∀ b o, H b = some o → b ≠ a → H' b = some o
theorem But.of {a : Addr} {H H' : Hp} (s : Same H H') : But a H H' := fun b o e _ => s b o e
theorem But.trans {a : Addr} {H H1 H2 : Hp} (s : But a H H1) (t : But a H1 H2) : But a H H2 := fun b o e n => t b o (s b o e n) n
theorem But.upd {a : Addr} {H : Hp} {o : HO} : But a H (upd H a o) := fun b u e n => by rw [upd_ne n]; exact e
theorem But.tup {a : Addr} {H H' : Hp} (s : But a H H') {C dx : Addr} {fs : List (Str × V)} (ha : H a = some (.ins C dx fs)) {b : Addr} {xs : List V} (h : H b = some (.tup xs)) : H' b = some (.tup xs) :=
  s b _ h (ne_of h ha (by intro z; cases z))
theorem But.ts {a : Addr} {H H' : Hp} (s : But a H H') {C dx : Addr} {fs : List (Str × V)} (ha : H a = some (.ins C dx fs)) : TS H H' := fun b xs h => s.tup ha h
end Ks
namespace Ks
open PySem PySem.Spec PyProof.Rows L2
/-! ### a reader in the heap -/
def rF (r : Addr) (p : Nat) : List (Str × V) := [("row", .ref r), ("place", .int (p : Int))]
def Rdr (C : Addr) (H : Hp) (a r : Addr) (p : Nat) : Prop := ∃ dx, H a = some (.ins C dx (rF r p))
theorem rF_row (r : Addr) (p : Nat) : (rF r p).lookup ("row" : Str) = some (.ref r) := lk_here
theorem rF_place (r : Addr) (p : Nat) : (rF r p).lookup ("place" : Str) = some (.int (p : Int)) := (lk_past (by decide +kernel)).trans lk_here
theorem rF_no {m : Str} (h1 : (m == ("row" : Str)) = false) (h2 : (m == ("place" : Str)) = false) (r : Addr) (p : Nat) : (rF r p).lookup m = none := (lk_past h1).trans ((lk_past h2).trans rfl)
theorem rF_put (r : Addr) (p q : Nat) : putF "place" (.int (q : Int)) (rF r p) = rF r q := (put_past (by decide +kernel)).trans (congrArg _ put_here)
theorem rF_new (r : Addr) : putF "place" (.int 0) (putF "row" (.ref r) []) = rF r 0 := (put_past (by decide +kernel)).trans rfl
/-- a row: a list or a tuple of whole numbers -/
def Row (K : PySem.W.Frag) (H : Hp) (r : Addr) (zs : List Int) : Prop := SqL K H r (zs.map V.int) ∨ H r = some (.tup (zs.map V.int))
theorem But.row {K : PySem.W.Frag} {a r : Addr} {H H' : Hp} (s : But a H H') {C dx : Addr} {fs : List (Str × V)} (ha : H a = some (.ins C dx fs)) {zs : List Int} (h : Row K H r zs) : Row K H' r zs := by
  rcases h with ((h | ⟨o, h⟩) | h) | h
  · exact .inl (.inl (.inl (s _ _ h (ne_of h ha (by intro z; cases z)))))
  · exact .inl (.inl (.inr ⟨o, s _ _ h (ne_of h ha (by intro z; cases z))⟩))
  · exact .inl (.inr h)
  · exact .inr (s _ _ h (ne_of h ha (by intro z; cases z)))
structure RTxt (K : PySem.W.Frag) (mg : Str → Option Value) (C : Addr) : Prop where
  cl : Cls K C
  nR : NoAttr K C "row"
  nP : NoAttr K C "place"
  g : mg "Reader" = some (.ref C)
section
variable {P : Program} {w : World} {K : PySem.W.Frag} {mg : Str → Option Value} {base : Heap} {C CW : Addr}
def sp_rInit (C : Addr) : Sp := fun vs H Q _ => ∃ (p dx r : Addr), vs = [.ref p, .ref r] ∧ H p = some (.ins C dx []) ∧ ∀ H', Rdr C H' p r 0 → But p H H' → Q .non H'
theorem d_rInit (T : RTxt K mg C) (D : ISrc K C "Reader.__init__" s_Reader_init ["self", "row"]) : InitOk P w K mg base CX0 1 C (sp_rInit C) := by
  refine D.ok sc_Reader_init (fun vs H Q E h => ?_) (fun f cdv A outer s H vs Q E hr h => ⟨_, pss_cons (ps_fld (pv 0) (pv 1) rfl) (pss_one (ps_fld (pv 0) pe_int rfl)), ?_⟩)
  · obtain ⟨p, dx, r, rfl, _⟩ := h
    rfl
  · obtain ⟨p, dx, r, rfl, hp, k⟩ := h
    refine ⟨_, rfl, _, rfl, p, C, dx, [], rfl, hp, T.cl, T.nR, (by show 0 < 1000; decide), ?_⟩
    refine ⟨_, rfl, p, C, dx, _, rfl, upd_same, T.cl, T.nP, (by show 1 < 1000; decide), ?_⟩
    refine k _ ⟨dx, Eq.trans upd_same (congrArg (fun q => some (HO.ins C dx q)) (rF_new r))⟩ fun b o e n => ?_
    rw [upd_ne n, upd_ne n]; exact e
def sp_rEnded (K : PySem.W.Frag) (C : Addr) : Sp := fun vs H Q _ => ∃ (a r : Addr) (p : Nat) (zs : List Int), vs = [.ref a] ∧ Rdr C H a r p ∧ Row K H r zs ∧ Q (.bl (decide (p = zs.length))) H
theorem d_rEnded (T : RTxt K mg C) (D : MSrc K C "ended" "Reader.ended" s_Reader_ended ["self"]) (hL : mg "len" = none) : MethOk P w K mg base CX0 1 C "ended" (sp_rEnded K C) := by
  refine D.ok sc_Reader_ended (fun vs H Q E h => ?_) (fun f cdv A outer s H vs Q E hr h => ⟨_, pss_one (ps_ret (pe_cmpR op_eq (pe_fld (pv 0) rfl) (pe_callB call_len (by rfl) hL PySem.boot_len (pa_cons (pe_fld (pv 0) rfl) pa_nil)) (nomark _))), ?_⟩)
  · obtain ⟨a, r, p, zs, rfl, _⟩ := h
    rfl
  · obtain ⟨a, r, p, zs, rfl, ⟨dx, ha⟩, hR, k⟩ := h
    have fin : ∀ n : Nat, n = zs.length → Q (.bl (decide (V.int (p : Int) = V.int (n : Int)))) H := fun n e => by
      have e2 : decide (V.int (p : Int) = V.int (n : Int)) = decide (p = zs.length) := decide_eq_decide.mpr (by rw [int_eq]; omega)
      rw [e2]; exact k
    refine ⟨_, rfl, a, C, dx, _, _, rfl, ha, T.cl, T.nP, rF_place r p, _, rfl, a, C, dx, _, _, rfl, ha, T.cl, T.nR, rF_row r p, ?_⟩
    rcases hR with hR | hR
    · exact ⟨_, _, rfl, .inl ⟨_, hR, rfl⟩, rfl, fin _ (by simp)⟩
    · exact ⟨_, _, rfl, .inr ⟨_, SqT.of hR, rfl⟩, rfl, fin _ (by simp)⟩
/-- take: so many numbers from the place on; or the error -/
def sp_rTake (K : PySem.W.Frag) (C CW : Addr) : Sp := fun vs H Q E => ∃ (a r : Addr) (p n : Nat) (zs : List Int), vs = [.ref a, .int (n : Int)] ∧ Rdr C H a r p ∧ Row K H r zs ∧
  (zs.length < p + n → ∀ H', But a H H' → E (.ref CW) none H') ∧
  (p + n ≤ zs.length → ∀ H' q, But a H H' → H' q = some (.tup (((zs.drop p).take n).map V.int)) → Rdr C H' a r (p + n) → Q (.ref q) H')
theorem d_rTake (T : RTxt K mg C) (W : ErrTxt K mg CW "WrongForm") (D : MSrc K C "take" "Reader.take" s_Reader_take ["self", "length"]) (hL : mg "len" = none) (hT : mg "tuple" = none) : MethOk P w K mg base (L2N.CX P w) 1 C "take" (sp_rTake K C CW) := by
  refine D.okX sc_Reader_take (fun vs H Q E h => ?_) (fun f cdv A outer s H vs Q E hr h => ?_)
  · obtain ⟨a, r, p, n, zs, rfl, _⟩ := h
    rfl
  · obtain ⟨a, r, p, n, zs, rfl, ⟨dx, ha⟩, hR, kE, kQ⟩ := h
    have cE : zs.length < p + n → ∀ H', But a H H' → E (.ref CW) none H' := kE
    have hF : (p : Int) + (n : Int) = ((p + n : Nat) : Int) := by omega
    rcases hR with hR | hR
    · refine ⟨_, pss_cons (ps_set (i := 2) sc_Reader_take.nd rfl (.inl rfl) (pe_op op_add (pe_fld (pv 0) rfl) (pv 1)))
        (pss_cons (ps_if (pt_cmpR op_gt (pv 2) (pe_callB call_len (by rfl) hL PySem.boot_len (pa_cons (pe_fld (pv 0) rfl) pa_nil)) (nomark _))
          (pss_one (L2N.ps_raise rfl (L2N.takes_of rfl rfl rfl rfl) (L2N.pmk_own PySem.F.excBase_ValueError W.x W.g W.k (raises_own W.b W.t) (by exact rfl)))) pss_nil)
        (pss_cons (ps_set (i := 3) sc_Reader_take.nd rfl (.inl rfl) (pe_callTy call_tuple_of (by rfl) hT (by decide +kernel) (pa_cons (pe_slice sl_list (pe_fld (pv 0) rfl) (po_some (pe_fld (pv 0) rfl)) (po_some (pv 2))) pa_nil)))
        (pss_cons (ps_fld (pv 0) (pv 2) rfl)
        (pss_one (ps_ret (pv 3)))))), ?_⟩
      refine ⟨_, rfl, a, C, dx, _, _, rfl, ha, T.cl, T.nP, rF_place r p, _, rfl, _, _, rfl, rfl, ?_⟩
      refine ⟨_, rfl, _, rfl, a, C, dx, _, _, rfl, ha, T.cl, T.nR, rF_row r p, _, _, rfl, .inl ⟨_, hR, rfl⟩, _, _, rfl, rfl, _, rfl, iteD (fun c => ?_) (fun c => ?_)⟩
      · rw [List.length_map] at c
        exact kE (by omega) H (But.of (Same.refl H))
      · rw [List.length_map] at c
        have c' : p + n ≤ zs.length := by omega
        refine ⟨_, rfl, a, C, dx, _, _, rfl, ha, T.cl, T.nR, rF_row r p, _, rfl, a, C, dx, _, _, rfl, ha, T.cl, T.nP, rF_place r p, _, rfl, _, rfl, _, rfl, _, _, rfl, hR, fun l hl => ?_⟩
        have ec : cutV (zs.map V.int) (some (p : Int)) (some ((p : Int) + (n : Int))) = ((zs.drop p).take n).map V.int := by
          rw [hF, cut_mid _ p (p + n) (by omega) (by rw [List.length_map]; exact c'), Nat.add_sub_cancel_left, List.map_take, List.map_drop]
        rw [ec]
        refine ⟨_, _, rfl, .inl ⟨SqL.of upd_same, fun q hq => ?_⟩⟩
        have s1 := Same.trans (same_upd (o := .lst (((zs.drop p).take n).map V.int)) hl) (same_upd (o := .tup (((zs.drop p).take n).map V.int)) hq)
        have ha1 := s1 _ _ ha
        refine ⟨_, rfl, _, rfl, a, C, dx, _, rfl, ha1, T.cl, T.nP, (by show 2 < 1000; decide), ?_⟩
        refine ⟨_, rfl, kQ c' _ q (But.trans (But.of s1) But.upd) ?_ ⟨dx, ?_⟩⟩
        · rw [upd_ne (Ne.symm (ne_of_none (same_upd hl _ _ ha) hq))]
          exact upd_same
        · rw [upd_same]
          show some (HO.ins C dx (putF "place" (.int ((p : Int) + (n : Int))) (rF r p))) = _
          rw [hF, rF_put]
    · refine ⟨_, pss_cons (ps_set (i := 2) sc_Reader_take.nd rfl (.inl rfl) (pe_op op_add (pe_fld (pv 0) rfl) (pv 1)))
        (pss_cons (ps_if (pt_cmpR op_gt (pv 2) (pe_callB call_len (by rfl) hL PySem.boot_len (pa_cons (pe_fld (pv 0) rfl) pa_nil)) (nomark _))
          (pss_one (L2N.ps_raise rfl (L2N.takes_of rfl rfl rfl rfl) (L2N.pmk_own PySem.F.excBase_ValueError W.x W.g W.k (raises_own W.b W.t) (by exact rfl)))) pss_nil)
        (pss_cons (ps_set (i := 3) sc_Reader_take.nd rfl (.inl rfl) (pe_callTy call_tuple_of (by rfl) hT (by decide +kernel) (pa_cons (pe_slice sl_tupA (pe_fld (pv 0) rfl) (po_some (pe_fld (pv 0) rfl)) (po_some (pv 2))) pa_nil)))
        (pss_cons (ps_fld (pv 0) (pv 2) rfl)
        (pss_one (ps_ret (pv 3)))))), ?_⟩
      refine ⟨_, rfl, a, C, dx, _, _, rfl, ha, T.cl, T.nP, rF_place r p, _, rfl, _, _, rfl, rfl, ?_⟩
      refine ⟨_, rfl, _, rfl, a, C, dx, _, _, rfl, ha, T.cl, T.nR, rF_row r p, _, _, rfl, .inr ⟨_, SqT.of hR, rfl⟩, _, _, rfl, rfl, _, rfl, iteD (fun c => ?_) (fun c => ?_)⟩
      · rw [List.length_map] at c
        exact kE (by omega) H (But.of (Same.refl H))
      · rw [List.length_map] at c
        have c' : p + n ≤ zs.length := by omega
        have ec : cutV (zs.map V.int) (some (p : Int)) (some ((p : Int) + (n : Int))) = ((zs.drop p).take n).map V.int := by
          rw [hF, cut_mid _ p (p + n) (by omega) (by rw [List.length_map]; exact c'), Nat.add_sub_cancel_left, List.map_take, List.map_drop]
        have fin : ∀ (H1 : Hp) (q : Addr), Same H H1 → H1 q = some (.tup (((zs.drop p).take n).map V.int)) → Q (.ref q) (upd H1 a (.ins C dx (putF "place" (.int ((p : Int) + (n : Int))) (rF r p)))) := fun H1 q s1 hq => by
          have ha1 := s1 _ _ ha
          refine kQ c' _ q (But.trans (But.of s1) But.upd) ?_ ⟨dx, ?_⟩
          · rw [upd_ne (ne_of hq ha1 (by intro z; cases z))]; exact hq
          · rw [upd_same, hF, rF_put]
        refine ⟨_, rfl, a, C, dx, _, _, rfl, ha, T.cl, T.nR, rF_row r p, _, rfl, a, C, dx, _, _, rfl, ha, T.cl, T.nP, rF_place r p, _, rfl, _, rfl, _, rfl, _, _, rfl, SqT.of hR, fun hw => ?_, fun hw l hl => ?_⟩
        · -- the whole of it: the tuple itself
          have e0 : ((zs.drop p).take n).map V.int = zs.map V.int := by
            rw [← ec]
            unfold cutV
            rw [hw.1, hw.2, List.drop_zero, Nat.sub_zero, List.take_length]
          refine ⟨_, _, rfl, .inr ⟨SqT.of hR, ?_⟩⟩
          refine ⟨_, rfl, _, rfl, a, C, dx, _, rfl, ha, T.cl, T.nP, (by show 2 < 1000; decide), ?_⟩
          refine ⟨_, rfl, fin H r (Same.refl H) ?_⟩
          rw [e0]; exact hR
        · rw [ec]
          refine ⟨_, _, rfl, .inr ⟨SqT.of upd_same, ?_⟩⟩
          have s1 := same_upd (o := .tup (((zs.drop p).take n).map V.int)) hl
          refine ⟨_, rfl, _, rfl, a, C, dx, _, rfl, s1 _ _ ha, T.cl, T.nP, (by show 2 < 1000; decide), ?_⟩
          exact ⟨_, rfl, fin _ l s1 upd_same⟩
/-- take_one -/
def sp_rOne (K : PySem.W.Frag) (C CW : Addr) : Sp := fun vs H Q E => ∃ (a r : Addr) (p : Nat) (zs : List Int), vs = [.ref a] ∧ Rdr C H a r p ∧ Row K H r zs ∧
  (zs.length < p + 1 → ∀ H', But a H H' → E (.ref CW) none H') ∧
  (∀ z, zs[p]? = some z → ∀ H', But a H H' → Rdr C H' a r (p + 1) → Q (.int z) H')
theorem take_one_at {zs : List Int} {p : Nat} {z : Int} (h : zs[p]? = some z) : ((zs.drop p).take 1).map V.int = [V.int z] := by
  obtain ⟨h1, h2⟩ := List.getElem?_eq_some_iff.mp h
  rw [List.drop_eq_getElem_cons h1, h2]; rfl
theorem d_rOne (T : RTxt K mg C) (M : MethOk P w K mg base (L2N.CX P w) 1 C "take" (sp_rTake K C CW)) (D : MSrc K C "take_one" "Reader.take_one" s_Reader_take_one ["self"]) : MethOk P w K mg base (L2N.CX P w) 2 C "take_one" (sp_rOne K C CW) := by
  refine D.okX sc_Reader_take_one (fun vs H Q E h => ?_) (fun f cdv A outer s H vs Q E hr h => ⟨_, pss_one (ps_ret (pe_ix ix_tup (pe_mt (pv 0) T.cl M hr (L2N.passes_call (L2N.takes_of rfl rfl rfl rfl) (fun _ _ _ _ h => h)) (pa_cons pe_int pa_nil)) pe_int (fun _ _ => rfl))), ?_⟩)
  · obtain ⟨a, r, p, zs, rfl, _⟩ := h
    rfl
  · obtain ⟨a, r, p, zs, rfl, ⟨dx, ha⟩, hR, kE, kQ⟩ := h
    refine ⟨_, rfl, a, dx, _, rfl, ha, rF_no (by decide +kernel) (by decide +kernel) r p, a, r, p, 1, zs, rfl, ⟨dx, ha⟩, hR, kE, fun c H' q b hq hr' => ?_⟩
    have hp : p < zs.length := by omega
    have e := List.getElem?_eq_getElem hp
    rw [take_one_at e] at hq
    exact ⟨_, _, _, _, rfl, rfl, SqT.of hq, tup0, kQ _ e H' b hr'⟩
/-- take_counted -/
def sp_rCounted (K : PySem.W.Frag) (C CW : Addr) : Sp := fun vs H Q E => ∃ (a r : Addr) (p : Nat) (zs : List Int), vs = [.ref a] ∧ Rdr C H a r p ∧ Row K H r zs ∧
  (∀ z, zs[p]? = some z → 0 ≤ z) ∧
  ((zs.length < p + 1 ∨ ∃ n : Nat, zs[p]? = some (n : Int) ∧ zs.length < p + 1 + n) → ∀ H', But a H H' → E (.ref CW) none H') ∧
  (∀ n : Nat, zs[p]? = some (n : Int) → p + 1 + n ≤ zs.length → ∀ H' q, But a H H' → H' q = some (.tup (((zs.drop (p + 1)).take n).map V.int)) → Rdr C H' a r (p + 1 + n) → Q (.ref q) H')
theorem d_rCounted (T : RTxt K mg C) (M : MethOk P w K mg base (L2N.CX P w) 1 C "take" (sp_rTake K C CW)) (M1 : MethOk P w K mg base (L2N.CX P w) 2 C "take_one" (sp_rOne K C CW)) (D : MSrc K C "take_counted" "Reader.take_counted" s_Reader_take_counted ["self"]) :
    MethOk P w K mg base (L2N.CX P w) 3 C "take_counted" (sp_rCounted K C CW) := by
  refine D.okX sc_Reader_take_counted (fun vs H Q E h => ?_) (fun f cdv A outer s H vs Q E hr h => ⟨_,
      pss_cons (ps_set (i := 1) sc_Reader_take_counted.nd rfl (.inl rfl) (pe_mt0 (pv 0) T.cl M1 hr (L2N.passes_call (L2N.takes_of rfl rfl rfl rfl) (fun _ _ _ _ h => h))))
      (pss_one (ps_ret (pe_mt (pv 0) T.cl M (hr.mono (by decide)) (L2N.passes_call (L2N.takes_of rfl rfl rfl rfl) (fun _ _ _ _ h => h)) (pa_cons (pv 1) pa_nil)))), ?_⟩)
  · obtain ⟨a, r, p, zs, rfl, _⟩ := h
    rfl
  · obtain ⟨a, r, p, zs, rfl, ⟨dx, ha⟩, hR, hz, kE, kQ⟩ := h
    refine ⟨_, rfl, a, dx, _, rfl, ha, rF_no (by decide +kernel) (by decide +kernel) r p, a, r, p, zs, rfl, ⟨dx, ha⟩, hR, fun c => kE (.inl c), fun z e H' b hr' => ?_⟩
    obtain ⟨n, rfl⟩ : ∃ n : Nat, z = (n : Int) := ⟨z.toNat, by have := hz z e; omega⟩
    obtain ⟨dx', ha'⟩ := hr'
    refine ⟨_, rfl, a, dx', _, rfl, ha', rF_no (by decide +kernel) (by decide +kernel) r (p + 1), _, rfl, a, r, p + 1, n, zs, rfl, ⟨dx', ha'⟩, b.row ha hR, fun c H2 b2 => kE (.inr ⟨n, e, c⟩) H2 (b.trans b2), fun c H2 q b2 hq hr2 => ?_⟩
    exact kQ n e c H2 q (b.trans b2) hq hr2
end
end Ks
namespace Ks
open PySem PySem.Spec PyProof.Rows L2
section
variable {X : Cx}
/-- t + u, t not empty -/
theorem op_catB : OpR X (binaryOp .Add) (fun x y H Q => ∃ a b xs ys, x = .ref a ∧ y = .ref b ∧ H a = some (.tup xs) ∧ H b = some (.tup ys) ∧ xs ≠ [] ∧ xs.length + ys.length ≤ 100000 ∧ ∀ H' r, Same H H' → H' r = some (.tup (xs ++ ys)) → Q (.ref r) H') := by
  intro pins s σ H x y v u Q I rx ry h
  obtain ⟨a, b, xs, ys, rfl, rfl, ha, hb, hx, hz, q⟩ := h
  refine op_catT pins s σ H _ _ v u Q I rx ry ⟨a, b, xs, ys, rfl, rfl, SqT.of ha, SqT.of hb, hx, small_le hz, fun e => ?_, fun _ p hp => q _ p (same_upd hp) upd_same⟩
  refine q H a (Same.refl H) ?_
  rw [e, List.append_nil]; exact ha
end
section
variable {P : Program} {w : World} {K : PySem.W.Frag} {mg : Str → Option Value} {base : Heap} {C CW : Addr}
/-! change_bytes -/
def headB (c : Gv05.Change) : List V := .int (kind c) :: .int (c.key.length : Int) :: vN c.key
theorem bytes_put (k v : List Nat) : vN (Gv05.Change.bytes (.put k v)) = (headB (.put k v) ++ vN (low (v.length : Int) 2)) ++ vN v := by
  rw [low_two]
  show vN (1 :: (k.length :: k ++ (Gv05.le 2 v.length ++ v))) = _
  unfold vN headB
  simp [vN, kind, Gv05.Change.key]
theorem bytes_add (k : List Nat) (n : Int) : vN (Gv05.Change.bytes (.add k n)) = headB (.add k n) ++ vN (low n 8) := by
  rw [low_count]
  show vN (3 :: (k.length :: k ++ Gv05.countBytes n)) = _
  unfold vN headB
  simp [vN, kind, Gv05.Change.key]
theorem bytes_remove (k : List Nat) : vN (Gv05.Change.bytes (.remove k)) = headB (.remove k) := by
  show vN (2 :: (k.length :: k)) = _
  unfold vN headB
  simp [vN, kind, Gv05.Change.key]
def sp_bytes : Sp := fun vs H Q _ => ∃ (a : Addr) (c : Gv05.Change), vs = [.ref a] ∧ Ch H a c ∧ okC c ∧ ∀ H' r, Same H H' → Tb H' r c.bytes → Q (.ref r) H'
theorem d_bytes (D : Src K mg "change_bytes" s_change_bytes ["change"]) (L : DefOk P w K mg base CX0 1 "low_first" sp_low) (hL : mg "len" = none) (c1 : GI mg "PUT" 1) (c3 : GI mg "ADD" 3) (c2 : GI mg "LENGTH_BYTES" 2) (c8 : GI mg "COUNT_LENGTH" 8) : DefOk P w K mg base CX0 2 "change_bytes" sp_bytes := by
  refine D.ok sc_change_bytes (fun vs H Q E h => ?_) (fun f cdv A outer s H vs Q E hr h => ⟨_,
      pss_cons (ps_set (i := 1) sc_change_bytes.nd rfl (.inl rfl) (pe_ix ix_tup (pv 0) pe_int (fun _ _ => rfl)))
      (pss_cons (ps_set (i := 2) sc_change_bytes.nd rfl (.inl rfl) (pe_op op_catB (pe_tup (pa_cons (pe_ix ix_tup (pv 0) pe_int (fun _ _ => rfl)) (pa_cons (pe_callB call_len (by rfl) hL PySem.boot_len (pa_cons (pv 1) pa_nil)) pa_nil))) (pv 1)))
      (pss_cons (ps_if (pt_cmpR op_eq (pe_ix ix_tup (pv 0) pe_int (fun _ _ => rfl)) (pe_gi c1) (nomark _))
        (pss_one (ps_ret (pe_op op_catB (pe_op op_catB (pv 2) (pe_cl L hr pass0 (pa_cons (pe_callB call_len (by rfl) hL PySem.boot_len (pa_cons (pe_ix ix_tup (pv 0) pe_int (fun _ _ => rfl)) pa_nil)) (pa_cons (pe_gi c2) pa_nil)))) (pe_ix ix_tup (pv 0) pe_int (fun _ _ => rfl))))) pss_nil)
      (pss_cons (ps_if (pt_cmpR op_eq (pe_ix ix_tup (pv 0) pe_int (fun _ _ => rfl)) (pe_gi c3) (nomark _))
        (pss_one (ps_ret (pe_op op_catB (pv 2) (pe_cl L hr pass0 (pa_cons (pe_ix ix_tup (pv 0) pe_int (fun _ _ => rfl)) (pa_cons (pe_gi c8) pa_nil)))))) pss_nil)
      (pss_one (ps_ret (pv 2)))))), ?_⟩)
  · obtain ⟨a, c, rfl, _⟩ := h
    rfl
  · obtain ⟨a, c, rfl, ⟨ka, x, hc, hk, h3⟩, ho, q⟩ := h
    have hkl : c.key.length ≤ 64 := by cases c <;> first | exact ho.1 | exact ho
    refine ⟨_, rfl, _, _, _, _, rfl, rfl, SqT.of hc, tup1, ?_⟩
    refine ⟨_, rfl, _, _, _, _, rfl, rfl, SqT.of hc, tup0, _, rfl, _, _, rfl, .inr ⟨_, SqT.of hk, rfl⟩, small_le (m := 100) (by simp), fun t ht => ?_⟩
    refine ⟨_, rfl, _, _, _, _, rfl, rfl, upd_same, (same_upd ht) _ _ hk, by simp, by rw [vN_len]; simp only [List.length_cons, List.length_nil]; omega, fun H1 hd s1 h1 => ?_⟩
    have sm : Same H H1 := Same.trans (same_upd ht) s1
    have hhead : H1 hd = some (.tup (headB c)) := by rw [h1, vN_len]; rfl
    have hc1 := sm _ _ hc
    have hhl : (headB c).length ≤ 66 := by unfold headB; simp only [List.length_cons, vN_len]; omega
    refine ⟨_, rfl, _, _, _, _, rfl, rfl, SqT.of hc1, tup0, rfl, _, rfl, iteD (fun n => ?_) (fun n => ?_)⟩
    · rw [int_eq] at n
      cases c with
      | remove j => cases n
      | add j m => cases n
      | put j v =>
        obtain ⟨va, rfl, hva⟩ := h3
        have hva1 := sm _ _ hva
        refine ⟨_, rfl, _, rfl, _, _, _, _, rfl, rfl, SqT.of hc1, tup2, _, _, rfl, .inr ⟨_, SqT.of hva1, rfl⟩, ((vN v).length : Int), 2, rfl, by decide, fun H2 p s2 _ hp => ?_⟩
        rw [vN_len] at hp
        refine ⟨_, _, _, _, rfl, rfl, s2 _ _ hhead, hp, by simp [headB], by rw [vN_len, low_length]; omega, fun H3 r s3 h3 => ?_⟩
        have s03 := Same.trans sm (Same.trans s2 s3)
        refine ⟨_, rfl, _, _, _, _, rfl, rfl, SqT.of (s03 _ _ hc), tup2, _, _, _, _, rfl, rfl, h3, s03 _ _ hva, by simp [headB], ?_, fun H4 r4 s4 h4 => ?_⟩
        · rw [List.length_append, vN_len, vN_len, low_length]
          have := ho.2
          omega
        · refine q H4 r4 (Same.trans s03 s4) ?_
          unfold Tb
          rw [bytes_put]; exact h4
    · rw [int_eq] at n
      refine ⟨_, rfl, _, _, _, _, rfl, rfl, SqT.of hc1, tup0, rfl, _, rfl, iteD (fun n2 => ?_) (fun n2 => ?_)⟩
      · rw [int_eq] at n2
        cases c with
        | put j v => cases n2
        | remove j => cases n2
        | add j m =>
          obtain rfl : x = .int m := h3
          refine ⟨_, rfl, _, rfl, _, _, _, _, rfl, rfl, SqT.of hc1, tup2, m, 8, rfl, by decide, fun H2 p s2 _ hp => ?_⟩
          refine ⟨_, _, _, _, rfl, rfl, s2 _ _ hhead, hp, by simp [headB], by rw [vN_len, low_length]; omega, fun H3 r s3 h3 => ?_⟩
          refine q H3 r (Same.trans sm (Same.trans s2 s3)) ?_
          unfold Tb
          rw [bytes_add]; exact h3
      · rw [int_eq] at n2
        cases c with
        | put j v => exact absurd rfl n
        | add j m => exact absurd rfl n2
        | remove j =>
          refine ⟨_, rfl, q H1 hd sm ?_⟩
          unfold Tb
          rw [bytes_remove]; exact hhead
/-! read_key -/
theorem Tb_of {H : Hp} {q : Addr} {bs : List Nat} {p n : Nat} (h : H q = some (.tup ((((zN bs).drop p).take n).map V.int))) : Tb H q ((bs.drop p).take n) := by
  unfold Tb
  rw [h]
  unfold zN vN
  rw [← List.map_drop, ← List.map_take, List.map_map]; rfl
theorem zN_len (bs : List Nat) : (zN bs).length = bs.length := by unfold zN; simp
theorem zN_get (bs : List Nat) (p : Nat) : (zN bs)[p]? = (bs[p]?).map fun (n : Nat) => (n : Int) := by unfold zN; rw [List.getElem?_map]
theorem drop_cons {α : Type} {l : List α} {p : Nat} {x : α} (h : l[p]? = some x) : l.drop p = x :: l.drop (p + 1) := by
  obtain ⟨h1, h2⟩ := List.getElem?_eq_some_iff.mp h
  rw [List.drop_eq_getElem_cons h1, h2]
/-- a record's reader: its row's bytes, how far -/
def RB (C : Addr) (H : Hp) (a r : Addr) (bs : List Nat) (p : Nat) : Prop := Rdr C H a r p ∧ Tb H r bs ∧ p ≤ bs.length
theorem RB.row {C : Addr} {H : Hp} {a r : Addr} {bs : List Nat} {p : Nat} (h : RB C H a r bs p) (K : PySem.W.Frag) : Row K H r (zN bs) := by
  refine .inr ?_
  rw [zN_v]; exact h.2.1
theorem RB.next {C : Addr} {H H' : Hp} {a r : Addr} {bs : List Nat} {p q : Nat} (h : RB C H a r bs p) (b : But a H H') (hr : Rdr C H' a r q) (hq : q ≤ bs.length) : RB C H' a r bs q := by
  obtain ⟨⟨dx, ha⟩, ht, _⟩ := h
  exact ⟨hr, b.tup ha ht, hq⟩
def sp_readKey (C CW : Addr) : Sp := fun vs H Q E => ∃ (a r : Addr) (bs : List Nat) (p : Nat), vs = [.ref a] ∧ RB C H a r bs p ∧
  (Gv05.takeKey (bs.drop p) = none → ∀ H', But a H H' → E (.ref CW) none H') ∧
  (∀ k n, Gv05.takeKey (bs.drop p) = some (k, bs.drop n) → n ≤ bs.length → ∀ H' q, But a H H' → Tb H' q k → k.length ≤ 64 → RB C H' a r bs n → Q (.ref q) H')
theorem d_readKey (T : RTxt K mg C) (W : ErrTxt K mg CW "WrongForm") (M : MethOk P w K mg base (L2N.CX P w) 3 C "take_counted" (sp_rCounted K C CW)) (I : DefOk P w K mg base CX0 1 "is_key" sp_isKey) (D : Src K mg "read_key" s_read_key ["reader"]) :
    DefOk P w K mg base (L2N.CX P w) 4 "read_key" (sp_readKey C CW) := by
  refine D.okX sc_read_key (fun vs H Q E h => ?_) (fun f cdv A outer s H vs Q E hr h => ⟨_,
      pss_cons (ps_set (i := 1) sc_read_key.nd rfl (.inl rfl) (pe_mt0 (pv 0) T.cl M hr (L2N.passes_call (L2N.takes_of rfl rfl rfl rfl) (fun _ _ _ _ h => h))))
      (pss_cons (ps_if (pt_not (pt_val (pe_cl I (hr.mono (by decide)) pass0 (pa_cons (pv 1) pa_nil))))
        (pss_one (L2N.ps_raise rfl (L2N.takes_of rfl rfl rfl rfl) (L2N.pmk_own PySem.F.excBase_ValueError W.x W.g W.k (raises_own W.b W.t) (by exact rfl)))) pss_nil)
      (pss_one (ps_ret (pv 1)))), ?_⟩)
  · obtain ⟨a, r, bs, p, rfl, _⟩ := h
    rfl
  · obtain ⟨a, r, bs, p, rfl, hB, kE, kQ⟩ := h
    obtain ⟨⟨dx, ha⟩, ht, hp⟩ := hB
    have hB : RB C H a r bs p := ⟨⟨dx, ha⟩, ht, hp⟩
    refine ⟨_, rfl, a, dx, _, rfl, ha, rF_no (by decide +kernel) (by decide +kernel) r p, a, r, p, zN bs, rfl, ⟨dx, ha⟩, hB.row K, fun z e => ?_, fun c H' b => ?_, fun n e c H' q b hq hr' => ?_⟩
    · rw [zN_get] at e
      obtain ⟨n, _, rfl⟩ := Option.map_eq_some_iff.mp e
      omega
    · refine kE ?_ H' b
      rw [zN_len] at c
      rcases c with c | ⟨n, e, c⟩
      · rw [List.drop_eq_nil_of_le (by omega)]; rfl
      · rw [zN_get] at e
        obtain ⟨n', e', h⟩ := Option.map_eq_some_iff.mp e
        have : n' = n := by omega
        subst this
        have hlt := (List.getElem?_eq_some_iff.mp e').1
        rw [drop_cons e']
        exact takeKey_no (.inr (.inr (by rw [List.length_drop]; omega)))
    · rw [zN_len] at c
      rw [zN_get] at e
      obtain ⟨n', e', h⟩ := Option.map_eq_some_iff.mp e
      have : n' = n := by omega
      subst this
      have hq := Tb_of hq
      have hl : ((bs.drop (p + 1)).take n').length = n' := by rw [List.length_take, List.length_drop]; omega
      have hB' := hB.next b hr' c
      refine ⟨_, rfl, _, _, rfl, hq, _, rfl, iteBN (fun o => ?_) (fun o => ?_)⟩
      · refine kE ?_ H' b
        rw [drop_cons e']
        refine takeKey_no ?_
        unfold okK at o
        rw [hl] at o
        simp at o
        omega
      · unfold okK at o
        rw [hl, Bool.and_eq_true, decide_eq_true_eq, decide_eq_true_eq] at o
        refine ⟨_, rfl, kQ _ (p + 1 + n') ?_ c H' q b hq (by rw [hl]; exact o.2) hB'⟩
        rw [drop_cons e', takeKey_yes (by omega) (by omega) (by rw [List.length_drop]; omega), List.drop_drop]
/-! read_value -/
/-- what stands behind a key of a put -/
def takeVal (b : List Nat) : Option (List Nat × List Nat) := if b.length < 2 ∨ 300 < Gv05.number (b.take 2) ∨ b.length < 2 + Gv05.number (b.take 2) then none else some ((b.drop 2).take (Gv05.number (b.take 2)), b.drop (2 + Gv05.number (b.take 2)))
def sp_readValue (C CW : Addr) : Sp := fun vs H Q E => ∃ (a r : Addr) (bs : List Nat) (p : Nat), vs = [.ref a] ∧ RB C H a r bs p ∧
  (takeVal (bs.drop p) = none → ∀ H', But a H H' → E (.ref CW) none H') ∧
  (∀ v n, takeVal (bs.drop p) = some (v, bs.drop n) → n ≤ bs.length → ∀ H' q, But a H H' → Tb H' q v → v.length ≤ 300 → RB C H' a r bs n → Q (.ref q) H')
theorem d_readValue (T : RTxt K mg C) (W : ErrTxt K mg CW "WrongForm") (M : MethOk P w K mg base (L2N.CX P w) 1 C "take" (sp_rTake K C CW)) (I : DefOk P w K mg base CX0 1 "is_value" sp_isValue) (N : DefOk P w K mg base CX0 1 "whole_number" sp_whole) (c2 : GI mg "LENGTH_BYTES" 2) (D : Src K mg "read_value" s_read_value ["reader"]) :
    DefOk P w K mg base (L2N.CX P w) 2 "read_value" (sp_readValue C CW) := by
  refine D.okX sc_read_value (fun vs H Q E h => ?_) (fun f cdv A outer s H vs Q E hr h => ⟨_,
      pss_cons (ps_set (i := 1) sc_read_value.nd rfl (.inl rfl) (pe_cl N hr pass0 (pa_cons (pe_mt (pv 0) T.cl M hr (L2N.passes_call (L2N.takes_of rfl rfl rfl rfl) (fun _ _ _ _ h => h)) (pa_cons (pe_gi c2) pa_nil)) pa_nil)))
      (pss_cons (ps_set (i := 2) sc_read_value.nd rfl (.inl rfl) (pe_mt (pv 0) T.cl M hr (L2N.passes_call (L2N.takes_of rfl rfl rfl rfl) (fun _ _ _ _ h => h)) (pa_cons (pv 1) pa_nil)))
      (pss_cons (ps_if (pt_not (pt_val (pe_cl I hr pass0 (pa_cons (pv 2) pa_nil))))
        (pss_one (L2N.ps_raise rfl (L2N.takes_of rfl rfl rfl rfl) (L2N.pmk_own PySem.F.excBase_ValueError W.x W.g W.k (raises_own W.b W.t) (by exact rfl)))) pss_nil)
      (pss_one (ps_ret (pv 2))))), ?_⟩)
  · obtain ⟨a, r, bs, p, rfl, _⟩ := h
    rfl
  · obtain ⟨a, r, bs, p, rfl, hB, kE, kQ⟩ := h
    obtain ⟨⟨dx, ha⟩, ht, hp⟩ := hB
    have hB : RB C H a r bs p := ⟨⟨dx, ha⟩, ht, hp⟩
    have hd : (bs.drop p).length = bs.length - p := List.length_drop
    refine ⟨_, rfl, a, dx, _, rfl, ha, rF_no (by decide +kernel) (by decide +kernel) r p, a, r, p, 2, zN bs, rfl, ⟨dx, ha⟩, hB.row K, fun c H' b => ?_, fun c H' q b hq hr' => ?_⟩
    · rw [zN_len] at c
      exact kE (if_pos (.inl (by omega))) H' b
    · rw [zN_len] at c
      have hq := Tb_of hq
      have hB1 := hB.next b hr' c
      obtain ⟨dx1, ha1⟩ := hr'
      refine ⟨_, _, rfl, hq, ?_⟩
      refine ⟨_, rfl, a, dx1, _, rfl, ha1, rF_no (by decide +kernel) (by decide +kernel) r (p + 2), _, rfl, a, r, p + 2, Gv05.number ((bs.drop p).take 2), zN bs, rfl, ⟨dx1, ha1⟩, hB1.row K, fun c2 H2 b2 => ?_, fun c2 H2 q2 b2 hq2 hr2 => ?_⟩
      · rw [zN_len] at c2
        exact kE (if_pos (.inr (.inr (by omega)))) H2 (b.trans b2)
      · rw [zN_len] at c2
        have hq2 := Tb_of hq2
        have hB2 := hB1.next b2 hr2 c2
        have hl : ((bs.drop (p + 2)).take (Gv05.number ((bs.drop p).take 2))).length = Gv05.number ((bs.drop p).take 2) := by rw [List.length_take, List.length_drop]; omega
        refine ⟨_, rfl, _, _, rfl, hq2, _, rfl, iteBN (fun o => ?_) (fun o => ?_)⟩
        · unfold okV at o
          rw [hl, decide_eq_false_iff_not] at o
          exact kE (if_pos (.inr (.inl (by omega)))) H2 (b.trans b2)
        · unfold okV at o
          rw [hl, decide_eq_true_eq] at o
          refine ⟨_, rfl, kQ _ (p + 2 + Gv05.number ((bs.drop p).take 2)) ?_ c2 H2 q2 (b.trans b2) hq2 (by rw [hl]; exact o) hB2⟩
          have e : takeVal (bs.drop p) = some (((bs.drop p).drop 2).take (Gv05.number ((bs.drop p).take 2)), (bs.drop p).drop (2 + Gv05.number ((bs.drop p).take 2))) := if_neg (by omega)
          rw [e, List.drop_drop, List.drop_drop, Nat.add_assoc]
/-! read_change -/
theorem takeChange_one' (r : List Nat) : Gv05.takeChange (1 :: r) = (Gv05.takeKey r).bind fun x => (takeVal x.2).map fun y => (.put x.1 y.1, y.2) := by
  rw [takeChange_one]
  congr 1
  funext x
  unfold takeVal
  split <;> rfl
theorem takeKey_drop {bs : List Nat} {p : Nat} {x : List Nat × List Nat} (h : Gv05.takeKey (bs.drop p) = some x) : ∃ n, n ≤ bs.length ∧ x.2 = bs.drop n ∧ p < n := by
  obtain ⟨m, r, e, h1, h2, h3, rfl⟩ := takeKey_some h
  have hp : p < bs.length := by
    by_cases c : p < bs.length
    · exact c
    · rw [List.drop_eq_nil_of_le (by omega)] at e; cases e
  have e' := drop_cons (List.getElem?_eq_getElem hp)
  rw [e'] at e
  injection e with e1 e2
  refine ⟨p + 1 + m, ?_, ?_, by omega⟩
  · rw [← e2, List.length_drop] at h3; omega
  · show r.drop m = _
    rw [← e2, List.drop_drop]
theorem takeVal_drop {bs : List Nat} {p : Nat} (hp : p ≤ bs.length) {x : List Nat × List Nat} (h : takeVal (bs.drop p) = some x) : ∃ n, n ≤ bs.length ∧ x.2 = bs.drop n := by
  unfold takeVal at h
  have hd : (bs.drop p).length = bs.length - p := List.length_drop
  split at h
  · cases h
  · rename_i c
    have e := Option.some.inj h
    subst e
    refine ⟨p + (2 + Gv05.number ((bs.drop p).take 2)), by omega, ?_⟩
    show (bs.drop p).drop _ = _
    rw [List.drop_drop]
/-- a change is read; or the error -/
def sp_readChange (C CW : Addr) : Sp := fun vs H Q E => ∃ (a r : Addr) (bs : List Nat) (p : Nat), vs = [.ref a] ∧ RB C H a r bs p ∧ (∀ x ∈ bs, x < 256) ∧
  (Gv05.takeChange (bs.drop p) = none → ∀ H', But a H H' → E (.ref CW) none H') ∧
  (∀ c n, Gv05.takeChange (bs.drop p) = some (c, bs.drop n) → n ≤ bs.length → ∀ H' q, But a H H' → Ch H' q c → okC c → RB C H' a r bs n → Q (.ref q) H')
theorem inV3 (n : Nat) : inV (.int (n : Int)) [.int 1, .int 2, .int 3] = decide (n = 1 ∨ n = 2 ∨ n = 3) := by
  show ((1 : Int) == (n : Int) || ((2 : Int) == (n : Int) || ((3 : Int) == (n : Int) || false))) = _
  by_cases h1 : n = 1
  · subst h1; rfl
  · by_cases h2 : n = 2
    · subst h2; rfl
    · by_cases h3 : n = 3
      · subst h3; rfl
      · have e1 : ((1 : Int) == (n : Int)) = false := beq_eq_false_iff_ne.mpr (by omega)
        have e2 : ((2 : Int) == (n : Int)) = false := beq_eq_false_iff_ne.mpr (by omega)
        have e3 : ((3 : Int) == (n : Int)) = false := beq_eq_false_iff_ne.mpr (by omega)
        rw [e1, e2, e3]
        simp [h1, h2, h3]
theorem d_readChange (T : RTxt K mg C) (W : ErrTxt K mg CW "WrongForm") (M : MethOk P w K mg base (L2N.CX P w) 1 C "take" (sp_rTake K C CW)) (M1 : MethOk P w K mg base (L2N.CX P w) 2 C "take_one" (sp_rOne K C CW))
    (A1 : DefOk P w K mg base (L2N.CX P w) 4 "read_key" (sp_readKey C CW)) (A2 : DefOk P w K mg base (L2N.CX P w) 2 "read_value" (sp_readValue C CW)) (A3 : DefOk P w K mg base CX0 2 "count_told" sp_told)
    (c1 : GI mg "PUT" 1) (c2 : GI mg "REMOVE" 2) (c3 : GI mg "ADD" 3) (c8 : GI mg "COUNT_LENGTH" 8) (D : Src K mg "read_change" s_read_change ["reader"]) :
    DefOk P w K mg base (L2N.CX P w) 5 "read_change" (sp_readChange C CW) := by
  refine D.okX sc_read_change (fun vs H Q E h => ?_) (fun f cdv A outer s H vs Q E hr h => ⟨_,
      pss_cons (ps_set (i := 1) sc_read_change.nd rfl (.inl rfl) (pe_mt0 (pv 0) T.cl M1 (hr.mono (by decide)) (L2N.passes_call (L2N.takes_of rfl rfl rfl rfl) (fun _ _ _ _ h => h))))
      (pss_cons (ps_if (pt_cmpR op_notIn_seq (pv 1) (pe_tup (pa_cons (pe_gi c1) (pa_cons (pe_gi c2) (pa_cons (pe_gi c3) pa_nil)))) (by rfl))
        (pss_one (L2N.ps_raise rfl (L2N.takes_of rfl rfl rfl rfl) (L2N.pmk_own PySem.F.excBase_ValueError W.x W.g W.k (raises_own W.b W.t) (by exact rfl)))) pss_nil)
      (pss_cons (ps_set (i := 2) sc_read_change.nd rfl (.inl rfl) (pe_cl A1 hr (L2N.passes_call (L2N.takes_of rfl rfl rfl rfl) (fun _ _ _ _ h => h)) (pa_cons (pv 0) pa_nil)))
      (pss_cons (ps_if (pt_cmpR op_eq (pv 1) (pe_gi c1) (nomark _))
        (pss_one (ps_ret (pe_tup (pa_cons (pe_gi c1) (pa_cons (pv 2) (pa_cons (pe_cl A2 (hr.mono (by decide)) (L2N.passes_call (L2N.takes_of rfl rfl rfl rfl) (fun _ _ _ _ h => h)) (pa_cons (pv 0) pa_nil)) pa_nil)))))) pss_nil)
      (pss_cons (ps_if (pt_cmpR op_eq (pv 1) (pe_gi c3) (nomark _))
        (pss_one (ps_ret (pe_tup (pa_cons (pe_gi c3) (pa_cons (pv 2) (pa_cons (pe_cl A3 (hr.mono (by decide)) pass0 (pa_cons (pe_mt (pv 0) T.cl M (hr.mono (by decide)) (L2N.passes_call (L2N.takes_of rfl rfl rfl rfl) (fun _ _ _ _ h => h)) (pa_cons (pe_gi c8) pa_nil)) pa_nil)) pa_nil)))))) pss_nil)
      (pss_one (ps_ret (pe_tup (pa_cons (pe_gi c2) (pa_cons (pv 2) (pa_cons pe_non pa_nil)))))))))), ?_⟩)
  · obtain ⟨a, r, bs, p, rfl, _⟩ := h
    rfl
  · obtain ⟨a, r, bs, p, rfl, hB, hby, kE, kQ⟩ := h
    obtain ⟨⟨dx, ha⟩, ht, hp⟩ := hB
    have hB : RB C H a r bs p := ⟨⟨dx, ha⟩, ht, hp⟩
    refine ⟨_, rfl, a, dx, _, rfl, ha, rF_no (by decide +kernel) (by decide +kernel) r p, a, r, p, zN bs, rfl, ⟨dx, ha⟩, hB.row K, fun c H' b => ?_, fun z e H' b hr' => ?_⟩
    · rw [zN_len] at c
      refine kE ?_ H' b
      rw [List.drop_eq_nil_of_le (by omega)]; rfl
    · rw [zN_get] at e
      obtain ⟨t, e', rfl⟩ := Option.map_eq_some_iff.mp e
      have hlt := (List.getElem?_eq_some_iff.mp e').1
      have hB1 := hB.next b hr' hlt
      rw [drop_cons e'] at kE kQ
      refine ⟨_, rfl, small_le (m := 100) (by simp), fun tp htp => ?_⟩
      have s1 : Same H' (upd H' tp (.tup [.int 1, .int 2, .int 3])) := same_upd htp
      have b1 := b.trans (But.of s1)
      have hB1 : RB C (upd H' tp (.tup [.int 1, .int 2, .int 3])) a r bs (p + 1) := by
        obtain ⟨⟨dx1, h1⟩, h2, h3⟩ := hB1
        exact ⟨⟨dx1, s1 _ _ h1⟩, s1 _ _ h2, h3⟩
      refine ⟨_, _, rfl, .inr (SqT.of upd_same), rfl, rfl, _, rfl, ?_⟩
      show if (!inV (.int (t : Int)) [.int 1, .int 2, .int 3]) = true then _ else _
      rw [inV3]
      refine iteDN (fun n => ?_) (fun n => ?_)
      · exact kE (takeChange_other (by omega) (by omega) (by omega)) _ b1
      · generalize upd H' tp (.tup [.int 1, .int 2, .int 3]) = H1 at hB1 b1
        clear s1 htp hr' b
        refine ⟨_, rfl, a, r, bs, p + 1, rfl, hB1, fun c H2 b2 => ?_, fun k m ek hm H2 q b2 hq hkl hB2 => ?_⟩
        · refine kE ?_ H2 (b1.trans b2)
          rcases n with rfl | rfl | rfl
          · rw [takeChange_one', c]; rfl
          · rw [takeChange_two, c]; rfl
          · rw [takeChange_three, c]; rfl
        · have b02 := b1.trans b2
          refine ⟨_, rfl, rfl, _, rfl, iteD (fun n1 => ?_) (fun n1 => ?_)⟩
          · rw [int_eq] at n1
            have n1 : t = 1 := by omega
            subst n1
            refine ⟨_, rfl, _, rfl, a, r, bs, m, rfl, hB2, fun c H3 b3 => ?_, fun v m' e' hm' H3 q3 b3 hq3 hvl hB3 => ?_⟩
            · refine kE ?_ H3 (b02.trans b3)
              rw [takeChange_one', ek]
              show (takeVal (bs.drop m)).map _ = none
              rw [c]; rfl
            · refine ⟨small_le (m := 100) (by simp), fun x hx => ?_⟩
              have s3 := same_upd (o := .tup [.int 1, .ref q, .ref q3]) hx
              obtain ⟨⟨dx2, ha2⟩, _, _⟩ := hB2
              refine kQ (.put k v) m' ?_ hm' _ x (b02.trans (b3.trans (But.of s3))) ⟨q, .ref q3, upd_same, s3 _ _ (b3.tup ha2 hq), q3, rfl, s3 _ _ hq3⟩ ⟨hkl, hvl⟩ ?_
              · rw [takeChange_one', ek]
                show (takeVal (bs.drop m)).map _ = _
                rw [e']; rfl
              · obtain ⟨⟨dx3, h1⟩, h2, h3⟩ := hB3
                exact ⟨⟨dx3, s3 _ _ h1⟩, s3 _ _ h2, h3⟩
          · rw [int_eq] at n1
            refine ⟨_, rfl, rfl, _, rfl, iteD (fun n3 => ?_) (fun n3 => ?_)⟩
            · rw [int_eq] at n3
              have n3 : t = 3 := by omega
              subst n3
              obtain ⟨⟨dx2, ha2⟩, ht2, hm2⟩ := hB2
              have hB2 : RB C H2 a r bs m := ⟨⟨dx2, ha2⟩, ht2, hm2⟩
              have hd : (bs.drop m).length = bs.length - m := List.length_drop
              refine ⟨_, rfl, _, rfl, a, dx2, _, rfl, ha2, rF_no (by decide +kernel) (by decide +kernel) r m, a, r, m, 8, zN bs, rfl, ⟨dx2, ha2⟩, hB2.row K, fun c H3 b3 => ?_, fun c H3 q3 b3 hq3 hr3 => ?_⟩
              · rw [zN_len] at c
                refine kE ?_ H3 (b02.trans b3)
                rw [takeChange_three, ek]
                exact if_pos (by show (bs.drop m).length < 8; omega)
              · rw [zN_len] at c
                have hq3 := Tb_of hq3
                have hB3 := hB2.next b3 hr3 c
                refine ⟨_, _, rfl, hq3, small_le (m := 100) (by simp), fun x hx => ?_⟩
                have s3 := same_upd (o := .tup [.int 3, .ref q, .int (toldN ((bs.drop m).take 8))]) hx
                have l8 : ((bs.drop m).take 8).length = 8 := by rw [List.length_take]; omega
                have tw := toldN_wrap (b := (bs.drop m).take 8) (fun y hy => hby y (List.mem_of_mem_drop (List.mem_of_mem_take hy))) l8
                refine kQ (.add k (toldN ((bs.drop m).take 8))) (m + 8) ?_ c _ x (b02.trans (b3.trans (But.of s3))) ⟨q, _, upd_same, s3 _ _ (b3.tup ha2 hq), rfl⟩ hkl ?_
                · rw [takeChange_three, ek]
                  show (if (bs.drop m).length < 8 then none else (Gv05.countOf ((bs.drop m).take 8)).map fun n => ((.add k n : Gv05.Change), (bs.drop m).drop 8)) = _
                  have ec : Gv05.countOf ((bs.drop m).take 8) = some (Gv05.wrap (Gv05.number ((bs.drop m).take 8) : Int)) := if_pos l8
                  rw [if_neg (by omega), ec, ← tw, List.drop_drop]; rfl
                · obtain ⟨⟨dx3, h1⟩, h2, h3⟩ := hB3
                  exact ⟨⟨dx3, s3 _ _ h1⟩, s3 _ _ h2, h3⟩
            · rw [int_eq] at n3
              have n2 : t = 2 := by omega
              subst n2
              refine ⟨_, rfl, small_le (m := 100) (by simp), fun x hx => ?_⟩
              have s3 := same_upd (o := .tup [.int 2, .ref q, .non]) hx
              refine kQ (.remove k) m ?_ hm _ x (b02.trans (But.of s3)) ⟨q, .non, upd_same, s3 _ _ hq, rfl⟩ hkl ?_
              · rw [takeChange_two, ek]; rfl
              · obtain ⟨⟨dx3, h1⟩, h2, h3⟩ := hB2
                exact ⟨⟨dx3, s3 _ _ h1⟩, s3 _ _ h2, h3⟩
/-! read_record -/
def placeAt (x : Addr) (n : Nat) (H : Hp) : Nat := match H x with
  | some (.ins _ _ fs) => (match fs.lookup ("place" : Str) with
    | some (.int p) => n - p.toNat
    | _ => 0)
  | _ => 0
theorem placeAt_is {C x r : Addr} {H : Hp} {p n : Nat} (h : Rdr C H x r p) : placeAt x n H = n - p := by
  obtain ⟨dx, h⟩ := h
  unfold placeAt
  rw [h]
  show (match (rF r p).lookup ("place" : Str) with
    | some (.int p) => n - p.toNat
    | _ => 0) = n - p
  rw [rF_place]
  show n - (p : Int).toNat = n - p
  rw [Int.toNat_natCast]
theorem takeChange_drop {bs : List Nat} {p : Nat} (hp : p ≤ bs.length) {x : Gv05.Change × List Nat} (h : Gv05.takeChange (bs.drop p) = some x) : ∃ n, n ≤ bs.length ∧ x.2 = bs.drop n ∧ p < n := by
  have sh := takeChange_short h
  have suf : ∃ n, n ≤ bs.length ∧ x.2 = bs.drop n := by
    have hlt : p < bs.length := by
      by_cases c : p < bs.length
      · exact c
      · rw [List.drop_eq_nil_of_le (by omega)] at h; cases h
    rw [drop_cons (List.getElem?_eq_getElem hlt)] at h
    generalize bs[p] = t at h
    by_cases c1 : t = 1
    · subst c1
      rw [takeChange_one'] at h
      obtain ⟨y, hy, h⟩ := Option.bind_eq_some_iff.mp h
      obtain ⟨n, hn, en, _⟩ := takeKey_drop hy
      rw [en] at h
      obtain ⟨z, hz, h⟩ := Option.map_eq_some_iff.mp h
      subst h
      exact takeVal_drop hn hz
    · by_cases c2 : t = 2
      · subst c2
        rw [takeChange_two] at h
        obtain ⟨y, hy, h⟩ := Option.map_eq_some_iff.mp h
        obtain ⟨n, hn, en, _⟩ := takeKey_drop hy
        subst h
        exact ⟨n, hn, en⟩
      · by_cases c3 : t = 3
        · subst c3
          rw [takeChange_three] at h
          obtain ⟨y, hy, h⟩ := Option.bind_eq_some_iff.mp h
          obtain ⟨n, hn, en, _⟩ := takeKey_drop hy
          rw [en] at h
          by_cases c : (bs.drop n).length < 8
          · rw [if_pos c] at h; cases h
          · rw [if_neg c] at h
            obtain ⟨z, _, e⟩ := Option.map_eq_some_iff.mp h
            subst e
            rw [List.length_drop] at c
            exact ⟨n + 8, by omega, by show (bs.drop n).drop 8 = _; rw [List.drop_drop]⟩
        · rw [takeChange_other c1 c2 c3] at h; cases h
  obtain ⟨n, hn, en⟩ := suf
  refine ⟨n, hn, en, ?_⟩
  rw [en, List.length_drop, List.length_drop] at sh
  omega
def sp_readRecord (CW : Addr) : Sp := fun vs H Q E => ∃ (r : Addr) (bs : List Nat), vs = [.ref r] ∧ Tb H r bs ∧ (∀ x ∈ bs, x < 256) ∧ bs.length ≤ 10000 ∧
  (Gv05.changes bs = none → ∀ H', Same H H' → E (.ref CW) none H') ∧
  (∀ cs, Gv05.changes bs = some cs → ∀ H' q xs, Same H H' → H q = none → H' q = some (.lst xs) → Chs H' xs cs → (∀ c ∈ cs, okC c) → cs.length ≤ bs.length → Q (.ref q) H')
theorem d_readRecord (T : RTxt K mg C) (I : InitOk P w K mg base CX0 1 C (sp_rInit C)) (M : MethOk P w K mg base CX0 1 C "ended" (sp_rEnded K C)) (A1 : DefOk P w K mg base (L2N.CX P w) 5 "read_change" (sp_readChange C CW)) (D : Src K mg "read_record" s_read_record ["row"]) :
    DefOk P w K mg base (L2N.CX P w) 6 "read_record" (sp_readRecord CW) := by
  refine D.okX sc_read_record (fun vs H Q E h => ?_) (fun f cdv A outer s H vs Q E hr h => ⟨_,
      pss_cons (ps_set (i := 1) sc_read_record.nd rfl (.inl rfl) (pe_mk I (hr.mono (by decide)) T.g pass0 (pa_cons (pv 0) pa_nil)))
      (pss_cons (ps_set (i := 2) sc_read_record.nd rfl (.inl rfl) (pe_lst pa_nil))
      (pss_cons (ps_while (passes_of rfl) (pt_not (pt_val (pe_mt0 (pv 1) T.cl M (hr.mono (by decide)) pass0)))
        (pss_one (ps_expr (pe_bm PySem.F.plainAttrs_list PySem.F.slot_list_append PySem.F.type_list_append mt_append (pv 2) (pa_cons (pe_cl A1 hr (L2N.passes_call (L2N.takes_of rfl rfl rfl rfl) (fun _ _ _ _ h => h)) (pa_cons (pv 1) pa_nil)) pa_nil)))))
      (pss_one (ps_ret (pv 2))))), ?_⟩)
  · obtain ⟨r, bs, rfl, _⟩ := h
    rfl
  · obtain ⟨r, bs, rfl, ht, hby, hz, kE, kQ⟩ := h
    refine ⟨_, rfl, fun x dx nx nd ne => ?_⟩
    refine ⟨x, dx, r, rfl, upd_same, fun H1 hR b1 => ⟨rfl, ?_⟩⟩
    have s1 : Same H H1 := fun b o e => b1 b o (by rw [upd_ne (ne_of_none e nx), upd_ne (ne_of_none e nd)]; exact e) (ne_of_none e nx)
    refine ⟨small_le (m := 100) (by simp), fun l hl => ?_⟩
    have s2 := same_upd (o := .lst []) hl
    refine while_by (fun σ H' => ∃ (p : Nat) (xs : List V) (acc : List Gv05.Change), σ = [some (.ref r), some (.ref x), some (.ref l)] ∧ Same H H' ∧ RB C H' x r bs p ∧ H' l = some (.lst xs) ∧ Chs H' xs acc ∧ (∀ c ∈ acc, okC c) ∧ acc.length ≤ p ∧ Gv05.changes bs = (Gv05.changes (bs.drop p)).map fun cs => acc ++ cs) (fun _ H' => placeAt x bs.length H') ⟨0, [], [], ?_, Same.trans s1 s2, ?_, upd_same, .nil, (fun _ h => by cases h), Nat.zero_le _, ?_⟩ ?_ ?_
    · simp [L2.start]
    · obtain ⟨dx1, h1⟩ := hR
      exact ⟨⟨dx1, s2 _ _ h1⟩, s2 _ _ (s1 _ _ ht), Nat.zero_le _⟩
    · simp
    · rintro σ H' ⟨p, xs, acc, rfl, sm, hB, hl', hcs, hok, hlen, hch⟩
      obtain ⟨⟨dx1, ha⟩, ht', hp⟩ := hB
      have hB : RB C H' x r bs p := ⟨⟨dx1, ha⟩, ht', hp⟩
      refine ⟨_, rfl, x, dx1, _, rfl, ha, rF_no (by decide +kernel) (by decide +kernel) r p, x, r, p, zN bs, rfl, ⟨dx1, ha⟩, hB.row K, _, rfl, iteDN (fun n => ?_) (fun n => ?_)⟩
      · rw [zN_len] at n
        have hlx : l ≠ x := ne_of hl' ha (by intro z; cases z)
        have hne : bs.drop p ≠ [] := fun z => by have := List.drop_eq_nil_iff.mp z; omega
        rw [changes_step hne] at hch
        refine ⟨_, rfl, .inl ⟨rfl, _, SqL.of hl'⟩, _, rfl, x, r, bs, p, rfl, hB, hby, fun c H2 b2 => ?_, fun c m e hm H2 q b2 hq hokc hB2 => ?_⟩
        · rw [c] at hch
          refine kE hch H2 fun b o e => b2 b o (sm b o e) ?_
          intro z
          subst z
          rw [nx] at e; cases e
        · rw [e] at hch
          have hm2 : p < m := by
            obtain ⟨m', h1, h2, h3⟩ := takeChange_drop hp e
            have h2' : bs.drop m = bs.drop m' := h2
            have := congrArg List.length h2'
            rw [List.length_drop, List.length_drop] at this
            omega
          have hl2 := b2 _ _ hl' hlx
          refine ⟨l, _, _, rfl, rfl, hl2, ?_, ⟨m, xs ++ [.ref q], acc ++ [c], rfl, ?_, ?_, upd_same, ?_, ?_, ?_, ?_⟩, ?_⟩
          · rw [paired_len hcs]
            exact small_lt (m := 20000) (by omega)
          · intro b o e'
            rw [upd_ne (fun z => by subst z; have := Same.free s1 hl; rw [this] at e'; cases e')]
            exact b2 b o (sm b o e') (fun z => by subst z; rw [nx] at e'; cases e')
          · obtain ⟨⟨dx2, h1⟩, h2, h3⟩ := hB2
            exact ⟨⟨dx2, by rw [upd_ne (Ne.symm hlx)]; exact h1⟩, TS.upd hl2 (by intro xs z; cases z) _ _ h2, h3⟩
          · have ts := TS.trans (b2.ts ha) (TS.upd (o := .lst (xs ++ [.ref q])) hl2 (by intro xs z; cases z))
            exact Paired.snoc (hcs.ts ts) ⟨q, rfl, hq.ts (TS.upd hl2 (by intro xs z; cases z))⟩
          · intro d hd
            rcases List.mem_append.mp hd with h | h
            · exact hok d h
            · rw [List.mem_singleton.mp h]; exact hokc
          · rw [List.length_append]
            show acc.length + 1 ≤ m
            omega
          · rw [hch]
            show ((Gv05.changes (bs.drop m)).map fun l => c :: l).map (fun cs => acc ++ cs) = _
            rw [Option.map_map]
            congr 1
            funext cs
            simp
          · obtain ⟨⟨dx2, h1⟩, _, _⟩ := hB2
            show placeAt x bs.length (upd H2 l (.lst (xs ++ [.ref q]))) < placeAt x bs.length H'
            rw [placeAt_is (C := C) (r := r) (p := m) ⟨dx2, by rw [upd_ne (Ne.symm hlx)]; exact h1⟩, placeAt_is (C := C) (r := r) (p := p) ⟨dx1, ha⟩]
            omega
      · rw [zN_len] at n
        rw [n, List.drop_length, changes_nil] at hch
        have hch : Gv05.changes bs = some acc := by rw [hch]; simp
        exact ⟨_, rfl, kQ acc hch H' l xs sm (Same.free s1 hl) hl' hcs hok (by omega)⟩
    · rintro σ H' Q1 Q2 hQ ⟨v, hv, a, dx, fs, e1, e2, e3, a', r', p', zs', e4, e5, e6, z, ez, q⟩
      exact ⟨v, hv, a, dx, fs, e1, e2, e3, a', r', p', zs', e4, e5, e6, z, ez, hQ _ _ q⟩
end
end Ks
namespace Ks
open PySem PySem.Spec PyProof.Rows L2
/-! ### a dict of the top whose keys are whole numbers -/
structure KInt (K : PySem.W.Frag) (d : Addr) (es : Array DictEntry) : Prop where
  ex : ∃ n, K.lookup d = some ⟨.type "dict", none, .dict es n, #[]⟩
  lit : ∀ e ∈ es.toList, ∃ k t, e.key = .int k t ∧ e.hash = hashInt k
  low : (d == sysModules) = false
theorem KInt.map {K : PySem.W.Frag} {d : Addr} {es : Array DictEntry} {h : Heap} {prog : Program} {w : World} (D : KInt K d es) (X : K.In h) : h.MapOf (intKind prog w) d (fun k => findBy Value.isInt es k) := by
  obtain ⟨n, hl⟩ := D.ex
  refine ⟨_, es, n, X _ _ hl, ⟨rfl, rfl, rfl⟩, rfl, fun e he => ?_, fun _ => rfl⟩
  obtain ⟨k, t, e1, e2⟩ := D.lit e (Array.mem_toList_iff.mpr he)
  exact ⟨k, by rw [e1]; exact intKind_is prog w k t, e2⟩
section
variable {X : Cx} {d : Addr} {es : Array DictEntry}
theorem op_in_ki (D : KInt X.K d es) : OpR X (compareOp .In) (fun x y H Q => ∃ k : Int, x = .int k ∧ y = .ref d ∧ Q (.bl (findBy Value.isInt es k).isSome) H) := by
  intro pins s σ H x y v u Q I rx ry h
  obtain ⟨k, rfl, rfl, q⟩ := h
  obtain ⟨t, rfl⟩ := rx
  cases ry
  exact wpAny_in_of (intKind_is X.prog X.w k t) D.low (D.map I.kIn) ⟨.bl _, H, I.tok _, rfl, q⟩
theorem ix_ki (D : KInt X.K d es) : IxR X (fun x y H Q => ∃ (k : Int) (u : Value) (v : V), x = .ref d ∧ y = .int k ∧ findBy Value.isInt es k = some u ∧ RelV v u ∧ Q v H) := by
  intro value slice pins s σ H x y v u Q I rx ry h hs
  obtain ⟨k, u0, v0, rfl, rfl, e, r, q⟩ := h
  cases rx
  obtain ⟨t, rfl⟩ := ry
  have hm : s.heap.MapOf (intKind X.prog X.w) d _ := D.map I.kIn
  exact tail_any hm.typeIs slot_dict_getitem.lookup (wpAny_getItem_of (intKind_is X.prog X.w k t) hm e ⟨v0, H, I.tok _, r, q⟩) hs
/-- a def held by its address -/
structure Held (P : Program) (w : World) (K : PySem.W.Frag) (mg : Str → Option Value) (base : Heap) (CX : CXT) (k : Nat) (f : Addr) (sp : Sp) : Prop where
  ex : ∃ (fd : FuncData) (ps : List Str), FnOk P w K mg base CX k f fd ps sp ∧ PySem.W.keepIn K (.ref f) = true ∧ Binds K fd ps []
/-- (an expression that gives a def)(e, ..): the promise goes with the address -/
def tCf (S : Addr → Sp → Prop) (E : XK) (tf : TE) (t : TA) : TE := fun σ H Q => tf σ H fun y H1 => ∃ f sp, y = .ref f ∧ S f sp ∧ t σ H1 fun vs H2 => sp vs H2 Q E
theorem pe_cf {CX : CXT} {k : Nat} {S : Addr → Sp → Prop} {E : XK} {fe e : Expr} {es : List Expr} {tf : TE} {t : TA} {pos : Pos} (hf : PE X fe tf) (A : ∀ f sp, S f sp → Held X.prog X.w X.K X.mg X.base CX k f sp) (hr : Room k X.A) (hx : Passes CX X E) (ha : PA X (e :: es) t)
    (ht : eval (.Call fe (e :: es) [] pos) X.env = (do callWith pos (← eval fe X.env) [] (backTo pos (starEach (e :: es) X.env)) (backToKw pos (keywordEach [] X.env))) := by rfl)
    (he : starEach (e :: es) X.env = (false, eval e X.env) :: starEach es X.env := by rfl) (hpl : (backTo pos (starEach es X.env)).any (·.1) = false := by rfl) : PE X (.Call fe (e :: es) [] pos) (tCf S E tf t) := by
  refine ⟨fun pins s σ H Q I h => ?_⟩
  refine Call_ (thn (hf.run pins s σ H _ I h) fun u s1 ⟨y, H1, I1, ry, f, sp, ey, hS, q⟩ => ?_) ht
  subst ey
  obtain rfl : u = Value.ref f := ry
  obtain ⟨fd, ps, F, hk, hb⟩ := (A f sp hS).ex
  refine PySem.W.callWith_K (h₀ := X.base) I1.ok.mod.kin hk (thn (ha.run pos pins s1 σ H1 _ I1 q) fun us s2 ⟨vs, H2, I2, r, q2⟩ => ⟨I2.kIn, ?_⟩) he hpl
  refine run_fn (dvs := []) (ds := []) F hr hb .nil hx I2 r ?_
  rw [List.append_nil]
  exact q2
/-- a name of the top that holds an object -/
theorem pe_gr {x : Str} {a : Addr} {pos : Pos} (hm : X.mg x = some (.ref a)) (hg : Gl X x := by rfl) (hdb : (x == ("__debug__" : Str)) = false := by decide) : PE X (.Name x pos) (tC (.ref a)) := pe_glob hg hm rfl hdb
end
/-! ### a def called where an error is handled -/
structure DefHot (P : Program) (w : World) (K : PySem.W.Frag) (mg : Str → Option Value) (base : Heap) (k : Nat) (x : Str) (sp : Sp) : Prop where
  ex : ∃ (f : Addr) (fd : FuncData) (ps : List Str), mg x = some (.ref f) ∧ L2H.FnH P w K mg base CX0 k f fd ps sp ∧ PySem.W.keepIn K (.ref f) = true ∧ Binds K fd ps []
section
variable {P : Program} {w : World} {K : PySem.W.Frag} {mg : Str → Option Value} {base : Heap}
theorem Src.hot {x : Str} {st : Stmt} {N ps : List Str} {k : Nat} {sp : Sp} (D : Src K mg x st ps) (S : FnScope N ps (defScope st)) (len : ∀ vs H Q E, sp vs H Q E → vs.length = ps.length)
    (hb : ∀ (f : Addr) (cdv : Value) (A : Around) (outer : List Env) (s : Shared) (H : Hp) (vs : List V) (Q : VK) (E : XK) (p : Addr × Obj), L2H.RoomH k (A.deeper (envOfC x (defScope st) s.heap.objs.size f cdv)) → sp vs H Q E →
      ∃ t, PSs (L2H.cxH CX0 P w K mg base N x (defScope st) f cdv A outer s H E p) (defBody st) t ∧ t { nx := fun _ H' => Q .non H', rt := Q } (L2.start N vs) H) : DefHot P w K mg base (k + 1) x sp := by
  obtain ⟨f, fd, hm, F, b⟩ := D.ex
  obtain ⟨oc, od, kV, doc, pm, an, cdv, ct, osl, rfl, lk, hcd⟩ := F.ex
  exact ⟨f, _, ps, hm, L2H.fn_ofH lk hcd S len (fun A outer s H vs Q E p _ hr h => hb f cdv A outer s H vs Q E p hr h), F.kp, b⟩
theorem h_reply (D : Src K mg "reply" s_reply ["number"]) : DefHot P w K mg base 1 "reply" sp_reply := by
  refine D.hot sc_reply (fun vs H Q E h => ?_) (fun f cdv A outer s H vs Q E p hr h => ⟨_, pss_one (ps_ret (pe_lst (pa_cons (pv 0) (pa_cons pe_int pa_nil)))), ?_⟩)
  · obtain ⟨n, rfl, _⟩ := h
    rfl
  · obtain ⟨n, rfl, k⟩ := h
    exact ⟨_, rfl, small_le (m := 100) (by simp), k⟩
end
section
variable {X : Cx} {k : Nat} {sp : Sp} {x : Str} {q pos : Pos} {e : Expr} {es : List Expr} {t : TA}
/-- f(e, ..) in an except suite -/
theorem pe_clH (D : DefHot X.prog X.w X.K X.mg X.base k x sp) (hr : L2H.RoomH k X.A) (hc : L2H.HotC X) (ha : PA X (e :: es) t) (hg : Gl X x := by rfl)
    (hdb : (x == ("__debug__" : Str)) = false := by decide) (he : starEach (e :: es) X.env = (false, eval e X.env) :: starEach es X.env := by rfl) (hpl : (backTo pos (starEach es X.env)).any (·.1) = false := by rfl) :
    PE X (.Call (.Name x q) (e :: es) [] pos) (tCallS sp (fun _ => E0) t) := by
  obtain ⟨f, fd, ps, hm, F, hk, hb⟩ := D.ex
  exact L2H.pe_callH F hr hc hg hm hk hb (fun _ _ _ _ _ _ _ z => z.elim) ha hdb he hpl
/-- the suite bears the handled error -/
theorem hotC_suite {X : Cx} {a : Addr} {oe : Obj} {cls : Value} {d : Option Addr} {pn : List (Addr × Obj)} (hz : L2N.Zn cls d oe) (hf : ∃ vs, oe.data = .fields vs) : L2H.HotC (X.suite a ((a, oe) :: pn)) := by
  obtain ⟨vs, hv⟩ := hf
  exact ⟨(a, oe), ⟨rfl, vs, hv, hz.2.2 vs hv⟩, List.mem_cons_self⟩
theorem roomH_suite {k : Nat} {X : Cx} {a : Addr} {pn : List (Addr × Obj)} (hr : Room k X.A) : L2H.RoomH k (X.suite a pn).A := ⟨hr.dp, hr.un⟩
end
end Ks
namespace Ks
open PySem PySem.Spec PyProof.Rows L2
section
variable {X : Cx}
/-- t + u -/
theorem op_catC : OpR X (binaryOp .Add) (fun x y H Q => ∃ a b xs ys, x = .ref a ∧ y = .ref b ∧ H a = some (.tup xs) ∧ H b = some (.tup ys) ∧ xs.length + ys.length ≤ 100000 ∧ ∀ H' r, Same H H' → H' r = some (.tup (xs ++ ys)) → Q (.ref r) H') := by
  intro pins s σ H x y v u Q I rx ry h
  obtain ⟨a, b, xs, ys, rfl, rfl, ha, hb, hz, q⟩ := h
  refine op_catA pins s σ H _ _ v u Q I rx ry ⟨a, b, xs, ys, rfl, rfl, SqT.of ha, SqT.of hb, small_le hz, fun e => ?_, fun _ e => ?_, fun _ _ p hp => q _ p (same_upd hp) upd_same⟩
  · refine q H b (Same.refl H) ?_
    rw [e]; exact hb
  · refine q H a (Same.refl H) ?_
    rw [e, List.append_nil]; exact ha
end
/-! ### what may be another, and what not -/
/-- who an object belongs to: 0 to 7 a transaction's own, 8 the desk's, 9 it never changes -/
abbrev Mu := Addr → Nat
def Gh (mu : Mu) (H : Hp) : Prop := ∀ b, H b = none → mu b = 9
/-- what never changes has stayed -/
structure Im (mu : Mu) (H H' : Hp) : Prop where
  ts : TS H H'
  im : ∀ b o, H b = some o → mu b = 9 → H' b = some o
theorem Im.of {mu : Mu} {H H' : Hp} (s : Same H H') : Im mu H H' := ⟨TS.of s, fun b o e _ => s b o e⟩
theorem Gh.same {mu : Mu} {H H' : Hp} (g : Gh mu H) (s : Same H H') : Gh mu H' := fun b e => g b (s.free e)
/-! ### a draft -/
def dF (ca ra ea : Addr) : List (Str × V) := [("changes", .ref ca), ("record", .ref ra), ("effects", .ref ea)]
theorem dF_c (ca ra ea : Addr) : (dF ca ra ea).lookup ("changes" : Str) = some (.ref ca) := lk_here
theorem dF_r (ca ra ea : Addr) : (dF ca ra ea).lookup ("record" : Str) = some (.ref ra) := (lk_past (by decide +kernel)).trans lk_here
theorem dF_e (ca ra ea : Addr) : (dF ca ra ea).lookup ("effects" : Str) = some (.ref ea) := (lk_past (by decide +kernel)).trans ((lk_past (by decide +kernel)).trans lk_here)
theorem dF_new (ca ra ea : Addr) : putF "effects" (.ref ea) (putF "record" (.ref ra) (putF "changes" (.ref ca) [])) = dF ca ra ea := by
  have e1 : putF "record" (.ref ra) ([("changes", .ref ca)] : List (Str × V)) = ([("changes", .ref ca), ("record", .ref ra)] : List (Str × V)) := put_past (by decide +kernel)
  have e0 : putF "changes" (.ref ca) [] = ([("changes", .ref ca)] : List (Str × V)) := rfl
  rw [e0, e1]
  exact (put_past (by decide +kernel)).trans (congrArg _ (put_past (by decide +kernel)))
structure DTxt (K : PySem.W.Frag) (mg : Str → Option Value) (C : Addr) : Prop where
  cl : Cls K C
  nC : NoAttr K C "changes"
  nR : NoAttr K C "record"
  nE : NoAttr K C "effects"
  g : mg "Draft" = some (.ref C)
def Dr (C : Addr) (mu : Mu) (H : Hp) (a : Addr) (l : List Gv05.Change) : Prop := ∃ dx ca ra ea cs, H a = some (.ins C dx (dF ca ra ea)) ∧ mu a = 9 ∧ H ca = some (.tup cs) ∧ Chs H cs l ∧ Tb H ra (Gv05.record l) ∧ Mp Ch H ea (effs l) ∧ mu ea = 9
theorem Dr.im {C : Addr} {mu : Mu} {H H' : Hp} (s : Im mu H H') {a : Addr} {l : List Gv05.Change} (h : Dr C mu H a l) : Dr C mu H' a l := by
  obtain ⟨dx, ca, ra, ea, cs, h1, h2, h3, h4, h5, h6, h7⟩ := h
  exact ⟨dx, ca, ra, ea, cs, s.im _ _ h1 h2, h2, s.ts _ _ h3, h4.ts s.ts, s.ts _ _ h5, h6.stay sb_ch s.ts (fun o e => s.im _ _ e h7), h7⟩
theorem Dr.same {C : Addr} {mu : Mu} {H H' : Hp} (s : Same H H') {a : Addr} {l : List Gv05.Change} (h : Dr C mu H a l) : Dr C mu H' a l := h.im (Im.of s)
section
variable {P : Program} {w : World} {K : PySem.W.Frag} {mg : Str → Option Value} {base : Heap} {C : Addr}
def sp_dInit (C : Addr) : Sp := fun vs H Q _ => ∃ (p dx ca ra ea : Addr), vs = [.ref p, .ref ca, .ref ra, .ref ea] ∧ H p = some (.ins C dx []) ∧ ∀ H', H' p = some (.ins C dx (dF ca ra ea)) → But p H H' → Q .non H'
theorem d_dInit (T : DTxt K mg C) (D : ISrc K C "Draft.__init__" s_Draft_init ["self", "changes", "record", "effects"]) : InitOk P w K mg base CX0 1 C (sp_dInit C) := by
  refine D.ok sc_Draft_init (fun vs H Q E h => ?_) (fun f cdv A outer s H vs Q E hr h => ⟨_, pss_cons (ps_fld (pv 0) (pv 1) rfl) (pss_cons (ps_fld (pv 0) (pv 2) rfl) (pss_one (ps_fld (pv 0) (pv 3) rfl))), ?_⟩)
  · obtain ⟨p, dx, ca, ra, ea, rfl, _⟩ := h
    rfl
  · obtain ⟨p, dx, ca, ra, ea, rfl, hp, k⟩ := h
    refine ⟨_, rfl, _, rfl, p, C, dx, [], rfl, hp, T.cl, T.nC, (by show 0 < 1000; decide), ?_⟩
    refine ⟨_, rfl, _, rfl, p, C, dx, _, rfl, upd_same, T.cl, T.nR, (by show 1 < 1000; decide), ?_⟩
    refine ⟨_, rfl, _, rfl, p, C, dx, _, rfl, upd_same, T.cl, T.nE, (by show 2 < 1000; decide), ?_⟩
    refine k _ (Eq.trans upd_same (congrArg (fun q => some (HO.ins C dx q)) (dF_new ca ra ea))) fun b o e n => ?_
    rw [upd_ne n, upd_ne n, upd_ne n]; exact e
/-- a new instance: what stood stays -/
theorem mk_same {H H' : Hp} {x dx : Addr} (hx : H x = none) (hd : H dx = none) {o : HO} (b : But x (upd (upd H dx (.own x)) x o) H') : Same H H' := fun c u e => by
  have n1 : c ≠ x := ne_of_none e hx
  have n2 : c ≠ dx := ne_of_none e hd
  refine b c u ?_ n1
  rw [upd_ne n1, upd_ne n2]; exact e
/-! empty_draft -/
def sp_emptyDraft (C : Addr) : Sp := fun vs H Q _ => vs = [] ∧ ∀ H' p, Same H H' → H p = none → (∀ mu, Gh mu H → Dr C mu H' p []) → Q (.ref p) H'
theorem d_emptyDraft (T : DTxt K mg C) (I : InitOk P w K mg base CX0 1 C (sp_dInit C)) (A1 : DefOk P w K mg base CX0 1 "empty_map" sp_empty) (D : Src K mg "empty_draft" s_empty_draft []) : DefOk P w K mg base CX0 3 "empty_draft" (sp_emptyDraft C) := by
  refine D.ok sc_empty_draft (fun vs H Q E h => ?_) (fun f cdv A outer s H vs Q E hr h => ⟨_,
      pss_one (ps_ret (pe_mk I hr T.g pass0 (pa_cons (pe_tup pa_nil) (pa_cons (pe_tup pa_nil) (pa_cons (pe_cl0 A1 (hr.mono (by decide)) pass0) pa_nil))))), ?_⟩)
  · obtain ⟨rfl, _⟩ := h
    rfl
  · obtain ⟨rfl, k⟩ := h
    refine ⟨small_le (m := 100) (by simp), fun p1 h1 => ⟨small_le (m := 100) (by simp), fun p2 h2 => ⟨rfl, fun p3 h3 x dx hx hd ne => ?_⟩⟩⟩
    refine ⟨x, dx, p1, p2, p3, rfl, upd_same, fun H' hp b => ⟨rfl, ?_⟩⟩
    have s1 := same_upd (o := .tup []) h1
    have s2 := same_upd (o := .tup []) h2
    have s3 := same_upd (o := .lst []) h3
    have s4 := mk_same hx hd b
    refine k H' x (Same.trans s1 (Same.trans s2 (Same.trans s3 s4))) (s1.free (s2.free (s3.free hx))) fun mu g => ?_
    refine ⟨dx, p1, p2, p3, [], hp, g _ (s1.free (s2.free (s3.free hx))), s4 _ _ (s3 _ _ (s2 _ _ upd_same)), .nil, s4 _ _ (s3 _ _ upd_same), ⟨[], s4 _ _ upd_same, .nil⟩, g _ (s1.free (s2.free h3))⟩
/-! effect_with -/
def sp_effWith (C : Addr) : Sp := fun vs H Q _ => ∃ (mu : Mu) (a b : Addr) (l : List Gv05.Change) (c : Gv05.Change), vs = [.ref a, .ref b] ∧ Dr C mu H a l ∧ Ch H b c ∧
  ∀ H' r, Same H H' → Ch H' r (effWith (effs l) c) → Q (.ref r) H'
theorem d_effWith (T : DTxt K mg C) (D : Src K mg "effect_with" s_effect_with ["draft", "change"]) (A1 : DefOk P w K mg base CX0 2 "value_at" (sp_valueAt Ch)) (A2 : DefOk P w K mg base CX0 5 "change_of_both" sp_both) : DefOk P w K mg base CX0 6 "effect_with" (sp_effWith C) := by
  refine D.ok sc_effect_with (fun vs H Q E h => ?_) (fun f cdv A outer s H vs Q E hr h => ⟨_,
      pss_cons (ps_set (i := 2) sc_effect_with.nd rfl (.inl rfl) (pe_cl A1 (hr.mono (by decide)) pass0 (pa_cons (pe_fld (pv 0) rfl) (pa_cons (pe_ix ix_tup (pv 1) pe_int (fun _ _ => rfl)) pa_nil))))
      (pss_cons (ps_if (pt_cmpR op_isN (pv 2) pe_non (nomark _)) (pss_one (ps_ret (pv 1))) pss_nil)
      (pss_one (ps_ret (pe_cl A2 hr pass0 (pa_cons (pv 2) (pa_cons (pv 1) pa_nil)))))), ?_⟩)
  · obtain ⟨mu, a, b, l, c, rfl, _⟩ := h
    rfl
  · obtain ⟨mu, a, b, l, c, rfl, ⟨dx, ca, ra, ea, cs, h1, h2, h3, h4, h5, h6, h7⟩, ⟨kb, y, hb, hkb, h8⟩, k⟩ := h
    refine ⟨_, rfl, a, C, dx, _, _, rfl, h1, T.cl, T.nE, dF_e ca ra ea, _, rfl, _, _, _, _, rfl, rfl, SqT.of hb, tup1, ea, kb, _, c.key, rfl, h6, effs_sorted l, hkb, fun r hr => ?_⟩
    unfold effWith at k
    cases e : G.lookup (effs l) c.key with
    | none =>
      rw [e] at hr k
      obtain rfl := hr.none_
      refine ⟨_, rfl, rfl, _, rfl, iteD (fun _ => ?_) (fun c => absurd rfl c)⟩
      exact ⟨_, rfl, k H b (Same.refl H) ⟨kb, y, hb, hkb, h8⟩⟩
    | some x =>
      rw [e] at hr k
      obtain ⟨va, rfl, hva⟩ := hr.some_
      refine ⟨_, rfl, rfl, _, rfl, iteD (fun c => nomatch c) (fun _ => ?_)⟩
      exact ⟨_, rfl, _, rfl, va, b, x, c, rfl, hva, ⟨kb, y, hb, hkb, h8⟩, k⟩
/-! is_settled, is_removed -/
def sp_settled (C : Addr) : Sp := fun vs H Q _ => ∃ (mu : Mu) (a b : Addr) (l : List Gv05.Change) (k : List Nat), vs = [.ref a, .ref b] ∧ Dr C mu H a l ∧ Tb H b k ∧ Q (.bl (Gv05.settled l k)) H
theorem kind_rem (c : Gv05.Change) : kind c = 2 ↔ isRem c = true := by cases c <;> simp [kind, isRem]
theorem d_settled (T : DTxt K mg C) (D : Src K mg "is_settled" s_is_settled ["draft", "key"]) (A1 : DefOk P w K mg base CX0 2 "value_at" (sp_valueAt Ch)) (c3 : GI mg "ADD" 3) : DefOk P w K mg base CX0 3 "is_settled" (sp_settled C) := by
  refine D.ok sc_is_settled (fun vs H Q E h => ?_) (fun f cdv A outer s H vs Q E hr h => ⟨_,
      pss_cons (ps_set (i := 2) sc_is_settled.nd rfl (.inl rfl) (pe_cl A1 hr pass0 (pa_cons (pe_fld (pv 0) rfl) (pa_cons (pv 1) pa_nil))))
      (pss_one (ps_ret (pe_and (pe_cmpR op_notN (pv 2) pe_non (nomark _)) (pe_one (pe_cmpR op_ne (pe_ix ix_tup (pv 2) pe_int (fun _ _ => rfl)) (pe_gi c3) (nomark _)))))), ?_⟩)
  · obtain ⟨mu, a, b, l, k, rfl, _⟩ := h
    rfl
  · obtain ⟨mu, a, b, l, k, rfl, ⟨dx, ca, ra, ea, cs, h1, h2, h3, h4, h5, h6, h7⟩, hb, q⟩ := h
    refine ⟨_, rfl, a, C, dx, _, _, rfl, h1, T.cl, T.nE, dF_e ca ra ea, _, rfl, ea, b, _, k, rfl, h6, effs_sorted l, hb, fun r hr => ?_⟩
    rw [settled_effs] at q
    cases e : G.lookup (effs l) k with
    | none =>
      rw [e] at hr q
      obtain rfl := hr.none_
      exact ⟨_, rfl, rfl, _, rfl, iteDN (fun c => absurd rfl c) (fun c => q)⟩
    | some x =>
      rw [e] at hr q
      obtain ⟨va, rfl, ka, y, hv, _, _⟩ := hr.some_
      refine ⟨_, rfl, rfl, _, rfl, iteDN (fun c => ?_) (fun c => nomatch c)⟩
      refine ⟨_, rfl, _, _, _, _, rfl, rfl, SqT.of hv, tup0, rfl, ?_⟩
      have e2 : (!decide (V.int (kind x) = V.int 3)) = !isAdd x := by
        cases x <;> rfl
      rw [e2]; exact q
def sp_removed (C : Addr) : Sp := fun vs H Q _ => ∃ (mu : Mu) (a b : Addr) (l : List Gv05.Change) (k : List Nat), vs = [.ref a, .ref b] ∧ Dr C mu H a l ∧ Tb H b k ∧ Q (.bl (remB l k)) H
theorem d_removed (T : DTxt K mg C) (D : Src K mg "is_removed" s_is_removed ["draft", "key"]) (A1 : DefOk P w K mg base CX0 2 "value_at" (sp_valueAt Ch)) (c2 : GI mg "REMOVE" 2) : DefOk P w K mg base CX0 3 "is_removed" (sp_removed C) := by
  refine D.ok sc_is_removed (fun vs H Q E h => ?_) (fun f cdv A outer s H vs Q E hr h => ⟨_,
      pss_cons (ps_set (i := 2) sc_is_removed.nd rfl (.inl rfl) (pe_cl A1 hr pass0 (pa_cons (pe_fld (pv 0) rfl) (pa_cons (pv 1) pa_nil))))
      (pss_one (ps_ret (pe_and (pe_cmpR op_notN (pv 2) pe_non (nomark _)) (pe_one (pe_cmpR op_eq (pe_ix ix_tup (pv 2) pe_int (fun _ _ => rfl)) (pe_gi c2) (nomark _)))))), ?_⟩)
  · obtain ⟨mu, a, b, l, k, rfl, _⟩ := h
    rfl
  · obtain ⟨mu, a, b, l, k, rfl, ⟨dx, ca, ra, ea, cs, h1, h2, h3, h4, h5, h6, h7⟩, hb, q⟩ := h
    refine ⟨_, rfl, a, C, dx, _, _, rfl, h1, T.cl, T.nE, dF_e ca ra ea, _, rfl, ea, b, _, k, rfl, h6, effs_sorted l, hb, fun r hr => ?_⟩
    unfold remB at q
    cases e : G.lookup (effs l) k with
    | none =>
      rw [e] at hr q
      obtain rfl := hr.none_
      exact ⟨_, rfl, rfl, _, rfl, iteDN (fun c => absurd rfl c) (fun c => q)⟩
    | some x =>
      rw [e] at hr q
      obtain ⟨va, rfl, ka, y, hv, _, _⟩ := hr.some_
      refine ⟨_, rfl, rfl, _, rfl, iteDN (fun c => ?_) (fun c => nomatch c)⟩
      refine ⟨_, rfl, _, _, _, _, rfl, rfl, SqT.of hv, tup0, rfl, ?_⟩
      have e2 : decide (V.int (kind x) = V.int 2) = isRem x := by
        cases x <;> rfl
      rw [e2]; exact q
/-! value_by -/
def sp_by (C : Addr) : Sp := fun vs H Q _ => ∃ (mu : Mu) (a b : Addr) (v : V) (l : List Gv05.Change) (k : List Nat) (o : Option (List Nat)), vs = [.ref a, .ref b, v] ∧ Dr C mu H a l ∧ Tb H b k ∧ Tv H v o ∧
  ∀ H' r, Same H H' → Tv H' r (Gv05.over l k o) → Q r H'
theorem d_by (T : DTxt K mg C) (D : Src K mg "value_by" s_value_by ["draft", "key", "value"]) (A1 : DefOk P w K mg base CX0 2 "value_at" (sp_valueAt Ch)) (A2 : DefOk P w K mg base CX0 4 "value_after" sp_after) : DefOk P w K mg base CX0 5 "value_by" (sp_by C) := by
  refine D.ok sc_value_by (fun vs H Q E h => ?_) (fun f cdv A outer s H vs Q E hr h => ⟨_,
      pss_cons (ps_set (i := 3) sc_value_by.nd rfl (.inl rfl) (pe_cl A1 (hr.mono (by decide)) pass0 (pa_cons (pe_fld (pv 0) rfl) (pa_cons (pv 1) pa_nil))))
      (pss_cons (ps_if (pt_cmpR op_isN (pv 3) pe_non (nomark _)) (pss_one (ps_ret (pv 2))) pss_nil)
      (pss_one (ps_ret (pe_cl A2 hr pass0 (pa_cons (pv 3) (pa_cons (pv 2) pa_nil)))))), ?_⟩)
  · obtain ⟨mu, a, b, v, l, k, o, rfl, _⟩ := h
    rfl
  · obtain ⟨mu, a, b, v, l, k, o, rfl, ⟨dx, ca, ra, ea, cs, h1, h2, h3, h4, h5, h6, h7⟩, hb, hv, q⟩ := h
    refine ⟨_, rfl, a, C, dx, _, _, rfl, h1, T.cl, T.nE, dF_e ca ra ea, _, rfl, ea, b, _, k, rfl, h6, effs_sorted l, hb, fun r hr => ?_⟩
    rw [over_effs] at q
    cases e : G.lookup (effs l) k with
    | none =>
      rw [e] at hr q
      obtain rfl := hr.none_
      refine ⟨_, rfl, rfl, _, rfl, iteD (fun _ => ?_) (fun c => absurd rfl c)⟩
      exact ⟨_, rfl, q H v (Same.refl H) hv⟩
    | some x =>
      rw [e] at hr q
      obtain ⟨va, rfl, hva⟩ := hr.some_
      refine ⟨_, rfl, rfl, _, rfl, iteD (fun c => nomatch c) (fun _ => ?_)⟩
      exact ⟨_, rfl, _, rfl, va, v, x, o, rfl, hva, hv, q⟩
/-! draft_with -/
theorem bytes_len {c : Gv05.Change} (h : okC c) : 1 ≤ c.bytes.length ∧ c.bytes.length ≤ 400 := by
  cases c with
  | put k v =>
    obtain ⟨h1, h2⟩ := h
    show 1 ≤ (1 :: (k.length :: k ++ (Gv05.le 2 v.length ++ v))).length ∧ (1 :: (k.length :: k ++ (Gv05.le 2 v.length ++ v))).length ≤ 400
    simp [Gv05.le]
    omega
  | remove k =>
    have h : k.length ≤ 64 := h
    show 1 ≤ (2 :: (k.length :: k)).length ∧ (2 :: (k.length :: k)).length ≤ 400
    simp
    omega
  | add k n =>
    have h : k.length ≤ 64 := h
    show 1 ≤ (3 :: (k.length :: k ++ Gv05.countBytes n)).length ∧ (3 :: (k.length :: k ++ Gv05.countBytes n)).length ≤ 400
    simp [Gv05.countBytes, Gv05.le]
    omega
def sp_draftWith (C : Addr) : Sp := fun vs H Q _ => ∃ (mu : Mu) (a b : Addr) (l : List Gv05.Change) (c : Gv05.Change), vs = [.ref a, .ref b] ∧ Gh mu H ∧ Dr C mu H a l ∧ Ch H b c ∧ okC c ∧ l.length ≤ 4000 ∧ (Gv05.record l).length ≤ 4000 ∧
  ∀ H' p, Same H H' → H p = none → Dr C mu H' p (l ++ [c]) → Q (.ref p) H'
theorem d_draftWith (T : DTxt K mg C) (I : InitOk P w K mg base CX0 1 C (sp_dInit C)) (D : Src K mg "draft_with" s_draft_with ["draft", "change"]) (A1 : DefOk P w K mg base CX0 2 "change_bytes" sp_bytes) (A2 : DefOk P w K mg base CX0 3 "map_with" (sp_with Ch)) (A3 : DefOk P w K mg base CX0 6 "effect_with" (sp_effWith C)) : DefOk P w K mg base CX0 7 "draft_with" (sp_draftWith C) := by
  refine D.ok sc_draft_with (fun vs H Q E h => ?_) (fun f cdv A outer s H vs Q E hr h => ⟨_,
      pss_cons (ps_set (i := 2) sc_draft_with.nd rfl (.inl rfl) (pe_op op_catC (pe_fld (pv 0) rfl) (pe_tup (pa_cons (pv 1) pa_nil))))
      (pss_cons (ps_set (i := 3) sc_draft_with.nd rfl (.inl rfl) (pe_op op_catC (pe_fld (pv 0) rfl) (pe_cl A1 (hr.mono (by decide)) pass0 (pa_cons (pv 1) pa_nil))))
      (pss_cons (ps_set (i := 4) sc_draft_with.nd rfl (.inl rfl) (pe_cl A2 (hr.mono (by decide)) pass0 (pa_cons (pe_fld (pv 0) rfl) (pa_cons (pe_ix ix_tup (pv 1) pe_int (fun _ _ => rfl)) (pa_cons (pe_cl A3 hr pass0 (pa_cons (pv 0) (pa_cons (pv 1) pa_nil))) pa_nil)))))
      (pss_one (ps_ret (pe_mk I (hr.mono (by decide)) T.g pass0 (pa_cons (pv 2) (pa_cons (pv 3) (pa_cons (pv 4) pa_nil)))))))), ?_⟩)
  · obtain ⟨mu, a, b, l, c, rfl, _⟩ := h
    rfl
  · obtain ⟨mu, a, b, l, c, rfl, g, ⟨dx, ca, ra, ea, cs, h1, h2, h3, h4, h5, h6, h7⟩, ⟨kb, y, hb, hkb, h8⟩, oc, zl, zr, k⟩ := h
    have hcs := paired_len h4
    refine ⟨_, rfl, a, C, dx, _, _, rfl, h1, T.cl, T.nC, dF_c ca ra ea, _, rfl, small_le (m := 100) (by simp), fun p1 n1 => ?_⟩
    have s1 := same_upd (o := .tup [.ref b]) n1
    refine ⟨ca, p1, cs, [.ref b], rfl, rfl, s1 _ _ h3, upd_same, by simp only [List.length_cons, List.length_nil]; omega, fun H2 r2 s2 hr2 => ?_⟩
    have s12 := Same.trans s1 s2
    refine ⟨_, rfl, a, C, dx, _, _, rfl, s12 _ _ h1, T.cl, T.nR, dF_r ca ra ea, _, rfl, b, c, rfl, ⟨kb, y, s12 _ _ hb, s12 _ _ hkb, h8.same s12⟩, oc, fun H3 r3 s3 hr3 => ?_⟩
    have s13 := Same.trans s12 s3
    have bl := bytes_len oc
    refine ⟨ra, r3, _, _, rfl, rfl, s13 _ _ h5, hr3, by rw [vN_len, vN_len]; omega, fun H4 r4 s4 hr4 => ?_⟩
    have s14 := Same.trans s13 s4
    have hd4 : Dr C mu H4 a l := Dr.same s14 ⟨dx, ca, ra, ea, cs, h1, h2, h3, h4, h5, h6, h7⟩
    have hb4 : Ch H4 b c := ⟨kb, y, s14 _ _ hb, s14 _ _ hkb, h8.same s14⟩
    refine ⟨_, rfl, a, C, dx, _, _, rfl, s14 _ _ h1, T.cl, T.nE, dF_e ca ra ea, _, rfl, _, _, _, _, rfl, rfl, SqT.of (s14 _ _ hb), tup1, _, rfl, _, rfl, mu, a, b, l, c, rfl, hd4, hb4, fun H5 r5 s5 hr5 => ?_⟩
    have s15 := Same.trans s14 s5
    have el := effs_len l
    refine ⟨ea, kb, .ref r5, effs l, c.key, some (effWith (effs l) c), rfl, h6.same sb_ch s15, effs_sorted l, s15 _ _ hkb, hr5, by omega, fun H6 p6 s6 n6 hp6 => ?_⟩
    have s16 := Same.trans s15 s6
    refine ⟨_, rfl, _, rfl, _, rfl, fun x dx' hx hd' ne => ?_⟩
    refine ⟨x, dx', r2, r4, p6, rfl, upd_same, fun H7 hp b7 => ⟨rfl, ?_⟩⟩
    have s7 := mk_same hx hd' b7
    have s17 := Same.trans s16 s7
    refine k H7 x s17 (s16.free hx) ?_
    refine ⟨dx', r2, r4, p6, _, hp, g _ (s16.free hx), s7 _ _ (s6 _ _ (s5 _ _ (s4 _ _ (s3 _ _ hr2)))), ?_, ?_, ?_, g _ (s15.free n6)⟩
    · refine paired_app (h4.same s17) (.cons ⟨b, rfl, kb, y, s17 _ _ hb, s17 _ _ hkb, h8.same s17⟩ .nil)
    · rw [record_append]
      show H7 r4 = some (.tup (vN (_ ++ _)))
      rw [vN_app]
      exact s7 _ _ (s6 _ _ (s5 _ _ hr4))
    · rw [effs_append]
      exact hp6.same sb_ch s7
end
end Ks
namespace Ks
open PySem PySem.Spec PyProof.Rows L2
variable {β : Type}
theorem srt_lt {m : G.GM β} (h : G.Srt m) {i j : Nat} {x y : List Nat × β} (hi : m[i]? = some x) (hj : m[j]? = some y) (l : Gv05.less y.1 x.1 = true) : j < i := by
  obtain ⟨a1, e1⟩ := List.getElem?_eq_some_iff.mp hi
  obtain ⟨a2, e2⟩ := List.getElem?_eq_some_iff.mp hj
  rcases Nat.lt_trichotomy j i with c | c | c
  · exact c
  · subst c
    rw [hi] at hj
    rw [Option.some.inj hj, less_irrefl] at l; cases l
  · have := (List.pairwise_iff_getElem.mp h) i j a1 a2 c
    rw [e1, e2] at this
    rw [less_asymm this] at l; cases l
theorem firstP_bound (back w : Bool) (m : G.GM β) (k : List Nat) : if back = true then firstP back w m k ≤ (m.length : Int) - 1 else 0 ≤ firstP back w m k := by
  have a := G.place_le m k
  have b := G.placeA_le m k
  cases back <;> cases w <;> simp only [firstP] <;> first | (show (0 : Int) ≤ _; omega) | (show _ ≤ (m.length : Int) - 1; omega)
/-- what the walk has passed by was removed -/
def Past (l : List Gv05.Change) (m : G.GM β) (back : Bool) (f p : Int) : Prop := (if back = true then p ≤ f else f ≤ p) ∧ ∀ (i : Nat) (x : List Nat × β), m[i]? = some x → (if back = true then (i : Int) ≤ f ∧ p < (i : Int) else f ≤ (i : Int) ∧ (i : Int) < p) → remB l x.1 = true
theorem past_none {l : List Gv05.Change} {m : G.GM β} (h : G.Srt m) {back w : Bool} {k : List Nat} {p : Int} (hp : Past l m back (firstP back w m k) p) (ho : ¬ (0 ≤ p ∧ p < (m.length : Int))) : NearO back (leftIn l m) k w none := by
  intro y hy ⟨hs, hr⟩
  obtain ⟨v, hv⟩ := Option.isSome_iff_exists.mp hs
  obtain ⟨i, hi⟩ := List.mem_iff_getElem?.mp (G.lookup_mem hv)
  have li := (List.getElem?_eq_some_iff.mp hi).1
  have side := (rng_at h back w k hi).mp hy
  have fb := firstP_bound back w m k
  have : remB l y = true := by
    refine hp.2 i (y, v) hi ?_
    have h1 := hp.1
    cases back with
    | true =>
      rw [if_pos rfl] at side fb h1 ⊢
      exact ⟨side, by omega⟩
    | false =>
      rw [if_neg (by decide)] at side fb h1 ⊢
      exact ⟨side, by omega⟩
  rw [this] at hr; cases hr
theorem past_found {l : List Gv05.Change} {m : G.GM β} (h : G.Srt m) {back w : Bool} {k : List Nat} {p : Nat} {x : List Nat × β} (hp : Past l m back (firstP back w m k) (p : Int)) (hx : m[p]? = some x) (hr : remB l x.1 = false) : NearO back (leftIn l m) k w (some x.1) := by
  refine ⟨(rng_at h back w k hx).mpr ?_, ⟨G.isSome_of_mem (v := x.2) (List.mem_of_getElem? hx), hr⟩, fun y hy ⟨hs, hry⟩ => ?_⟩
  · have h1 := hp.1
    cases back with
    | true => exact h1
    | false => exact h1
  · obtain ⟨v, hv⟩ := Option.isSome_iff_exists.mp hs
    obtain ⟨j, hj⟩ := List.mem_iff_getElem?.mp (G.lookup_mem hv)
    have side := (rng_at h back w k hj).mp hy
    cases q : dirL back y x.1 with
    | false => rfl
    | true =>
      exfalso
      have : remB l y = true := by
        refine hp.2 j (y, v) hj ?_
        cases back with
        | true =>
          have := srt_lt h hj hx (show Gv05.less x.1 y = true from q)
          rw [if_pos rfl] at side ⊢
          exact ⟨side, by omega⟩
        | false =>
          have := srt_lt h hx hj (show Gv05.less y x.1 = true from q)
          rw [if_neg (by decide)] at side ⊢
          exact ⟨side, by omega⟩
      rw [this] at hry; cases hry
theorem past_next {l : List Gv05.Change} {m : G.GM β} {back : Bool} {f : Int} {p : Nat} {x : List Nat × β} (hp : Past l m back f (p : Int)) (hx : m[p]? = some x) (hr : remB l x.1 = true) : Past l m back f ((p : Int) + wayI back) := by
  refine ⟨?_, fun i y hy z => ?_⟩
  · have h1 := hp.1
    cases back with
    | true => rw [if_pos rfl] at h1 ⊢; show (p : Int) + -1 ≤ f; omega
    | false => rw [if_neg (by decide)] at h1 ⊢; show f ≤ (p : Int) + 1; omega
  · by_cases c : i = p
    · subst c
      rw [hx] at hy
      rw [← Option.some.inj hy]; exact hr
    · refine hp.2 i y hy ?_
      cases back with
      | true =>
        rw [if_pos rfl] at z ⊢
        have z2 : (p : Int) + -1 < (i : Int) := z.2
        exact ⟨z.1, by omega⟩
      | false =>
        rw [if_neg (by decide)] at z ⊢
        have z2 : (i : Int) < (p : Int) + 1 := z.2
        exact ⟨z.1, by omega⟩
section
variable {P : Program} {w : World} {K : PySem.W.Frag} {mg : Str → Option Value} {base : Heap} {C : Addr} {R : Rl β}
def sp_left (C : Addr) (R : Rl β) : Sp := fun vs H Q _ => ∃ (mu : Mu) (a b c : Addr) (v : V) (l : List Gv05.Change) (m : G.GM β) (k : List Nat) (back w : Bool), vs = [.ref a, .ref b, .ref c, v, .int (wayI back)] ∧ Wd v w ∧ Dr C mu H a l ∧ Mp R H b m ∧ G.Srt m ∧ Tb H c k ∧
  ∀ r o, NearO back (leftIn l m) k w o → Tv H r o → Q r H
def mu_left (n : Nat) : L2.St → Hp → Nat := fun σ _ => match σ with
  | [_, _, _, _, some (.int y), some (.int p), _] => if y = 1 then ((n : Int) - p).toNat else (p + 1).toNat
  | _ => 0
theorem d_left (D : Src K mg "nearest_left" s_nearest_left ["draft", "pairs", "key", "itself", "way"]) (hL : mg "len" = none) (A1 : DefOk P w K mg base CX0 3 "first_place" (sp_first R)) (A2 : DefOk P w K mg base CX0 3 "is_removed" (sp_removed C)) : DefOk P w K mg base CX0 4 "nearest_left" (sp_left C R) := by
  refine D.ok sc_nearest_left (fun vs H Q E h => ?_) (fun f cdv A outer s H vs Q E hr h => ⟨_,
      pss_cons (ps_set (i := 5) sc_nearest_left.nd rfl (.inl rfl) (pe_cl A1 hr pass0 (pa_cons (pv 1) (pa_cons (pv 2) (pa_cons (pv 3) (pa_cons (pv 4) pa_nil))))))
      (pss_cons (ps_while PassesOwn.never (pt_chain op_le op_lt pe_int (pv 5) (pe_callB call_len (by rfl) hL PySem.boot_len (pa_cons (pv 1) pa_nil)))
        (pss_cons (ps_set (i := 6) sc_nearest_left.nd rfl (.inl rfl) (pe_ix ix_tup (pe_ix ix_list (pv 1) (pv 5) (fun _ _ => rfl)) pe_int (fun _ _ => rfl)))
        (pss_cons (ps_if (pt_not (pt_val (pe_cl A2 hr pass0 (pa_cons (pv 0) (pa_cons (pv 6) pa_nil))))) (pss_one (ps_ret (pv 6))) pss_nil)
        (pss_one (ps_aug (i := 5) sc_nearest_left.nd rfl (.inl rfl) (pv 4) ip_add)))))
      (pss_one (ps_ret pe_non))), ?_⟩)
  · obtain ⟨mu, a, b, c, v, l, m, k, back, w, rfl, _⟩ := h
    rfl
  · obtain ⟨mu, a, b, c, v, l, m, k, back, w, rfl, hw, hd, ⟨xs, hb, hp⟩, hs, hc, q⟩ := h
    have hlen := paired_len hp
    refine ⟨_, rfl, _, rfl, _, rfl, _, rfl, b, c, v, m, k, back, w, rfl, hw, ⟨xs, hb, hp⟩, hs, hc, ?_⟩
    refine while_by (fun σ H' => ∃ (p : Int) (y : Option V), σ = [some (.ref a), some (.ref b), some (.ref c), some v, some (.int (wayI back)), some (.int p), y] ∧ H' = H ∧ Past l m back (firstP back w m k) p) (mu_left m.length) ⟨firstP back w m k, none, ?_, rfl, ?_⟩ ?_ ?_
    · simp [L2.start]
    · refine ⟨?_, fun i x _ z => ?_⟩
      · cases back <;> exact Int.le_refl _
      · cases back with
        | true => rw [if_pos rfl] at z; omega
        | false => rw [if_neg (by decide)] at z; omega
    · rintro σ H' ⟨p, y, rfl, rfl, hpast⟩
      have out : ¬ (0 ≤ p ∧ p < (m.length : Int)) → Q .non H' := fun ho => q .non none (past_none hs hpast ho) trivial
      refine ⟨_, rfl, _, _, rfl, rfl, _, rfl, iteD (fun c1 => ?_) (fun c1 => ?_)⟩
      · refine ⟨_, rfl, _, _, rfl, .inl ⟨_, SqL.of hb, rfl⟩, _, _, rfl, rfl, _, rfl, iteD (fun c2 => ?_) (fun c2 => ?_)⟩
        · obtain ⟨n, rfl⟩ : ∃ n : Nat, p = (n : Int) := ⟨p.toNat, by omega⟩
          have hn : n < m.length := by omega
          have hx := List.getElem?_eq_getElem hn
          obtain ⟨z, hz, pa, ka, va, rfl, ht, hk, _⟩ := paired_get' hp hx
          refine ⟨_, rfl, _, rfl, _, _, _, _, rfl, rfl, SqL.of hb, atI_nat hz, _, _, _, _, rfl, rfl, SqT.of ht, tup0, ?_⟩
          refine ⟨_, rfl, _, rfl, mu, a, ka, l, _, rfl, hd, hk, _, rfl, iteBN (fun c3 => ?_) (fun c3 => ?_)⟩
          · exact ⟨_, rfl, q (.ref ka) (some _) (past_found hs hpast hx c3) hk⟩
          · refine ⟨_, rfl, _, rfl, _, _, rfl, rfl, ⟨(n : Int) + wayI back, some (.ref ka), rfl, rfl, past_next hpast hx c3⟩, ?_⟩
            show (if wayI back = 1 then ((m.length : Int) - ((n : Int) + wayI back)).toNat else ((n : Int) + wayI back + 1).toNat) < (if wayI back = 1 then ((m.length : Int) - (n : Int)).toNat else ((n : Int) + 1).toNat)
            cases back with
            | true =>
              have e : wayI true = -1 := rfl
              rw [e]
              rw [if_neg (by decide), if_neg (by decide)]
              omega
            | false =>
              have e : wayI false = 1 := rfl
              rw [e]
              rw [if_pos rfl, if_pos rfl]
              omega
        · exact out (by omega)
      · exact ⟨_, rfl, iteB (fun z => nomatch z) (fun _ => out (by omega))⟩
    · rintro σ H' Q1 Q2 hQ ⟨v, hv, i, j, e1, e2, z, ez, q⟩
      refine ⟨v, hv, i, j, e1, e2, z, ez, ?_⟩
      cases z with
      | true =>
        rw [if_pos rfl] at q ⊢
        obtain ⟨u, hu, a1, n1, r1, t1, i2, j2, e3, e4, z2, ez2, q2⟩ := q
        exact ⟨u, hu, a1, n1, r1, t1, i2, j2, e3, e4, z2, ez2, hQ _ _ q2⟩
      | false =>
        rw [if_neg Bool.false_ne_true] at q ⊢
        obtain ⟨z2, ez2, q2⟩ := q
        exact ⟨z2, ez2, hQ _ _ q2⟩
end
end Ks
namespace Ks
open PySem PySem.Spec PyProof.Rows L2
/-! ### the least, the greatest of some tuples of bytes, or None -/
def minB (y : List Nat) (ys : List (List Nat)) : List Nat := ys.foldl (fun a b => if Gv05.less b a = true then b else a) y
def maxB (y : List Nat) (ys : List (List Nat)) : List Nat := ys.foldl (fun a b => if Gv05.less a b = true then b else a) y
def tD (k : List Nat) : PyData := .tuple (dL k)
theorem dL_alike : ∀ a b : List Nat, PySem.W.alikeAll (dL a) (dL b) = true
  | [], _ => by unfold dL; rw [PySem.W.alikeAll]
  | _ :: _, [] => by unfold dL; rw [PySem.W.alikeAll]
  | x :: a, y :: b => by
    unfold dL
    rw [PySem.W.alikeAll, dL_alike a b, PySem.W.alike]; rfl
theorem tD_alike (a b : List Nat) : PySem.W.alike (tD a) (tD b) = true := by
  unfold tD
  rw [PySem.W.alike]; exact dL_alike a b
theorem dL_lt : ∀ a b : List Nat, PyProof.Rows.lexLt itemOrd (PySem.W.keyToksAll (dL a)) (PySem.W.keyToksAll (dL b)) = Gv05.less a b
  | [], [] => by
    unfold dL
    exact lex_irrefl _
  | [], y :: b => by
    unfold dL
    rw [PySem.W.toks_all_cons, PySem.W.keyToksAll, PySem.W.lex_atom (by decide), PySem.W.lex_one]; rfl
  | x :: a, [] => by
    unfold dL
    rw [PySem.W.toks_all_cons, PySem.W.keyToksAll, PySem.W.lex_atom (by decide), PySem.W.lex_one]; rfl
  | x :: a, y :: b => by
    unfold dL
    rw [PySem.W.dataLt_cons (by rw [PySem.W.alike]), dL_lt a b, PySem.W.dataLt_int, less_cons]
    have e : PyData.eqv (.int (x : Int)) (.int (y : Int)) = decide (x = y) := by
      show ((x : Int) == (y : Int)) = decide (x = y)
      by_cases h : x = y
      · subst h; simp
      · have : ¬ (x : Int) = (y : Int) := by omega
        simp [h, this]
    rw [e]
    by_cases h : x = y
    · subst h; simp
    · rw [if_neg (by simpa using h)]
      simp [h]
theorem tD_lt (a b : List Nat) : PySem.W.dataLt (tD a) (tD b) = Gv05.less a b := by
  unfold tD
  rw [PySem.W.dataLt_tuple, dL_lt]
theorem dL_inj : ∀ {a b : List Nat}, dL a = dL b → a = b
  | [], [], _ => rfl
  | [], _ :: _, h => by unfold dL at h; cases h
  | _ :: _, [], h => by unfold dL at h; cases h
  | x :: a, y :: b, h => by
    unfold dL at h
    injection h with h1 h2
    injection h1 with h3
    have : x = y := by omega
    rw [this, dL_inj h2]
theorem minD_is (ys : List (List Nat)) : ∀ y : List Nat, PySem.W.minD (tD y) (ys.map tD) = tD (minB y ys) := by
  induction ys with
  | nil => intro y; rfl
  | cons b ys ih =>
    intro y
    show PySem.W.minD (if PySem.W.dataLt (tD b) (tD y) = true then tD b else tD y) (ys.map tD) = tD (minB (if Gv05.less b y = true then b else y) ys)
    rw [tD_lt, ← ih]
    by_cases h : Gv05.less b y = true
    · rw [if_pos h, if_pos h]
    · rw [if_neg h, if_neg h]
theorem maxD_is (ys : List (List Nat)) : ∀ y : List Nat, PySem.W.maxD (tD y) (ys.map tD) = tD (maxB y ys) := by
  induction ys with
  | nil => intro y; rfl
  | cons b ys ih =>
    intro y
    show PySem.W.maxD (if PySem.W.dataLt (tD y) (tD b) = true then tD b else tD y) (ys.map tD) = tD (maxB (if Gv05.less y b = true then b else y) ys)
    rw [tD_lt, ← ih]
    by_cases h : Gv05.less y b = true
    · rw [if_pos h, if_pos h]
    · rw [if_neg h, if_neg h]
theorem tD_all (ks : List (List Nat)) : PySem.W.AlikeAll (ks.map tD) := by
  refine ⟨fun x hx y hy => ?_, fun x hx => ?_⟩
  · obtain ⟨a, _, rfl⟩ := List.mem_map.mp hx
    obtain ⟨b, _, rfl⟩ := List.mem_map.mp hy
    exact tD_alike a b
  · obtain ⟨a, _, rfl⟩ := List.mem_map.mp hx
    intro z; cases z
theorem tD_depth : ∀ ks : List (List Nat), PyData.depthAll (ks.map tD) ≤ 1
  | [] => Nat.zero_le _
  | k :: ks => by
    show max (PyData.depthAll (dL k) + 1) (PyData.depthAll (ks.map tD)) ≤ 1
    have := tD_depth ks
    rw [dL_depth]
    omega
/-- a row of keys -/
def Kys (H : Hp) : List V → List (List Nat) → Prop := Paired fun v k => ∃ a, v = .ref a ∧ Tb H a k
theorem Kys.dp {K : PySem.W.Frag} {H : Hp} : ∀ {xs : List V} {ks : List (List Nat)}, Kys H xs ks → DpAll K H xs (ks.map tD)
  | _, _, .nil => .nil
  | _, _, .cons ⟨_, e, h⟩ t => .cons (by rw [e]; exact .tup (SqT.of h) (dL_all _)) (Kys.dp t)
def rBest (best : List Nat → List (List Nat) → List Nat) : List V → List V → Hp → VK → Prop := fun vs zs H Q => ∃ (l : Addr) (xs : List V) (ks : List (List Nat)), vs = [.ref l] ∧ zs = [.non] ∧ H l = some (.lst xs) ∧ Kys H xs ks ∧
  (ks = [] → Q .non H) ∧ ∀ r y ys, ks = y :: ys → Tb H r (best y ys) → Q (.ref r) H
section
variable {X : Cx}
theorem cr_minO (hc : X.calm = true) (hu : X.A.units + 64 < cLine) : CallRK X (.builtin "min") ["default"] (rBest minB) := by
  intro pins s σ H vs zs us ws Q I rv rz h
  obtain ⟨l, xs, ks, rfl, rfl, hl, hk, q0, q1⟩ := h
  obtain ⟨its, rv', hl', _⟩ := I.list (SqL.of hl)
  obtain ⟨as, hr⟩ := Dp.readsAll I (ks.map tD) xs its hk.dp rv'
  obtain ⟨wv, rfl, rw⟩ := vals1 rz
  obtain rfl : wv = .none := rw
  rw [Vals.ref1 rv]
  have hd := tD_depth ks
  refine PySem.W.min_list_default (I.ok.hd hc) hl'.isList hr (tD_all ks) (by omega) (fun e h' tk hk' => ?_) (fun y ys i v h' tk bs e ei rd hk' => ?_)
  · exact ⟨.non, H, I.kept hk', rfl, q0 (List.map_eq_nil_iff.mp e)⟩
  · cases ks with
    | nil => cases e
    | cons k ks =>
      injection e with e1 e2
      subst e1; subst e2
      rw [minD_is] at rd
      obtain ⟨xv, hx, rx⟩ := paired_get' rv' (show its[i]? = some v by simpa using ei)
      obtain ⟨ki, hki, a, rfl, ha⟩ := paired_get hk hx
      obtain ⟨bs', rd'⟩ := Dp.reads I (tD ki) (.ref a) v (.tup (SqT.of ha) (dL_all ki)) rx
      have := PySem.W.alike_unique _ _ _ _ _ (tD_alike ki (minB k ks)) (PySem.W.reads_keeps hk' rd') rd
      have e3 : ki = minB k ks := dL_inj (PyData.tuple.inj this)
      rw [e3] at ha
      exact ⟨.ref a, H, I.kept hk', rx, q1 a k ks rfl ha⟩
theorem cr_maxO (hc : X.calm = true) (hu : X.A.units + 64 < cLine) : CallRK X (.builtin "max") ["default"] (rBest maxB) := by
  intro pins s σ H vs zs us ws Q I rv rz h
  obtain ⟨l, xs, ks, rfl, rfl, hl, hk, q0, q1⟩ := h
  obtain ⟨its, rv', hl', _⟩ := I.list (SqL.of hl)
  obtain ⟨as, hr⟩ := Dp.readsAll I (ks.map tD) xs its hk.dp rv'
  obtain ⟨wv, rfl, rw⟩ := vals1 rz
  obtain rfl : wv = .none := rw
  rw [Vals.ref1 rv]
  have hd := tD_depth ks
  refine PySem.W.max_list_default (I.ok.hd hc) hl'.isList hr (tD_all ks) (by omega) (fun e h' tk hk' => ?_) (fun y ys i v h' tk bs e ei rd hk' => ?_)
  · exact ⟨.non, H, I.kept hk', rfl, q0 (List.map_eq_nil_iff.mp e)⟩
  · cases ks with
    | nil => cases e
    | cons k ks =>
      injection e with e1 e2
      subst e1; subst e2
      rw [maxD_is] at rd
      obtain ⟨xv, hx, rx⟩ := paired_get' rv' (show its[i]? = some v by simpa using ei)
      obtain ⟨ki, hki, a, rfl, ha⟩ := paired_get hk hx
      obtain ⟨bs', rd'⟩ := Dp.reads I (tD ki) (.ref a) v (.tup (SqT.of ha) (dL_all ki)) rx
      have := PySem.W.alike_unique _ _ _ _ _ (tD_alike ki (maxB k ks)) (PySem.W.reads_keeps hk' rd') rd
      have e3 : ki = maxB k ks := dL_inj (PyData.tuple.inj this)
      rw [e3] at ha
      exact ⟨.ref a, H, I.kept hk', rx, q1 a k ks rfl ha⟩
end
end Ks
namespace Ks
open PySem PySem.Spec PyProof.Rows L2
section
variable {P : Program} {w : World} {K : PySem.W.Frag} {mg : Str → Option Value} {base : Heap}
theorem scN2 : FnScope ["one", "other", "way", "keys", "key"] ["one", "other", "way"] (defScope s_nearer) := ⟨rfl, rfl, rfl, by decide +kernel, rfl, by decide +kernel, by decide +kernel⟩
def notN (v : V) : Bool := !decide (v = .non)
theorem kys_one {H : Hp} {x : V} {o : Option (List Nat)} (h : Tv H x o) : Kys H ([x].filter notN) o.toList := by
  cases o with
  | none => obtain rfl := h.none_; exact .nil
  | some k => obtain ⟨a, rfl, ha⟩ := h.some_; exact .cons ⟨a, rfl, ha⟩ .nil
theorem kys_two {H : Hp} {x y : V} {o p : Option (List Nat)} (h : Tv H x o) (g : Tv H y p) : Kys H ([x, y].filter notN) (o.toList ++ p.toList) := by
  have e : [x, y].filter notN = [x].filter notN ++ [y].filter notN := by
    rw [← List.filter_append]; rfl
  rw [e]
  exact paired_app (kys_one h) (kys_one g)
def sp_nearer : Sp := fun vs H Q _ => ∃ (x y : V) (o p : Option (List Nat)) (back : Bool), vs = [x, y, .int (wayI back)] ∧ Tv H x o ∧ Tv H y p ∧ ∀ H' r, Same H H' → Tv H' r (pk back o p) → Q r H'
theorem d_nearer (D : Src K mg "nearer" s_nearer ["one", "other", "way"]) (cU : GI mg "UP" 1) (h1 : mg "min" = none) (h2 : mg "max" = none) : DefOk P w K mg base CX0 1 "nearer" sp_nearer := by
  refine D.ok scN2 (fun vs H Q E h => ?_) (fun f cdv A outer s H vs Q E hr h => ⟨_,
      pss_cons (ps_setLc (i := 3) (own := [("key", 4)]) (g := gName 4) rfl scN2.nd rfl rfl (sw_true rfl rfl rfl (by decide +kernel)) (pi_tup (pe_tup (pa_cons (pv 0) (pa_cons (pv 1) pa_nil)))) (blkOk_by (own := [("key", 4)]) (N := ["one", "other", "way", "keys", "key"]) (sc := defScope s_nearer) (by decide +kernel))
        (fun _ _ _ _ _ => pg_name (i := 4) scN2.nd rfl (Or.inl rfl)) (fun _ _ _ _ _ => pts_one (pt_cmpR op_notN (pv 4) pe_non (nomark _))) (fun _ _ _ _ _ => pv 4))
      (pss_cons (ps_if (pt_cmpR op_eq (pv 2) (pe_gi cU) (nomark _)) (pss_one (ps_ret (pe_callBK (cr_minO rfl hr.units) (by rfl) h1 (by decide +kernel) (pa_cons (pv 3) pa_nil) (pk_cons pe_non pk_nil)))) pss_nil)
      (pss_one (ps_ret (pe_callBK (cr_maxO rfl hr.units) (by rfl) h2 (by decide +kernel) (pa_cons (pv 3) pa_nil) (pk_cons pe_non pk_nil))))), ?_⟩)
  · obtain ⟨x, y, o, p, back, rfl, _⟩ := h
    rfl
  · obtain ⟨x, y, o, p, back, rfl, hx, hy, q⟩ := h
    refine ⟨_, rfl, _, rfl, small_le (m := 100) (by simp), fun T hT => ?_⟩
    refine ⟨T, rfl, ⟨_, SqT.of upd_same⟩, fun L hL => ?_⟩
    have s1 := same_upd (o := .tup [x, y]) hT
    have hTL : ∀ acc, upd (upd H T (.tup [x, y])) L (.lst acc) T = some (.tup [x, y]) := fun acc => by
      rw [upd_ne (fun z => by rw [← z, upd_same] at hL; cases hL)]; exact upd_same
    refine lc_tup (K := K) (a := T) (xs := [x, y]) (fun i H' => H' = upd (upd H T (.tup [x, y])) L (.lst (([x, y].take i).filter notN))) rfl ?_ ?_ ?_
    · rintro i H' _ rfl
      exact SqT.of (hTL _)
    · rintro i v H' hi rfl
      have et : ([x, y].take (i + 1)).filter notN = ([x, y].take i).filter notN ++ [v].filter notN := by
        rw [List.take_add_one, hi, List.filter_append]; rfl
      have li : i < 2 := (List.getElem?_eq_some_iff.mp hi).1
      refine ⟨rfl, _, rfl, rfl, _, rfl, iteDN (fun c => ?_) (fun c => ?_)⟩
      · have e2 : notN v = true := by unfold notN; rw [decide_eq_false c]; rfl
        refine ⟨_, rfl, _, upd_same, ?_, ?_⟩
        · have := List.length_filter_le notN ([x, y].take i)
          refine small_lt (m := 100) ?_
          simp only [List.length_take, List.length_cons, List.length_nil] at this
          omega
        · rw [upd_upd, et, List.filter_cons_of_pos e2]; rfl
      · have e2 : notN v = false := by unfold notN; rw [decide_eq_true c]; rfl
        rw [et, List.filter_cons_of_neg (by rw [e2]; exact Bool.false_ne_true), List.filter_nil, List.append_nil]
    · rintro H' rfl
      have s2 := Same.trans s1 (same_upd (o := .lst (([x, y].take 2).filter notN)) hL)
      have hk : Kys (upd (upd H T (.tup [x, y])) L (.lst (([x, y].take 2).filter notN))) ([x, y].filter notN) (o.toList ++ p.toList) := kys_two (hx.same s2) (hy.same s2)
      show tSeq _ _ _ _ _
      cases back with
      | false =>
        refine ⟨_, rfl, rfl, _, rfl, iteD (fun _ => ?_) (fun c => absurd rfl c)⟩
        refine ⟨_, rfl, L, _, _, rfl, rfl, upd_same, hk, fun e => ?_, fun r y' ys e hr => ?_⟩
        · refine q _ .non s2 ?_
          cases o with
          | some k => cases e
          | none => cases p with
            | some k => cases e
            | none => trivial
        · refine q _ (.ref r) s2 ?_
          cases o with
          | none =>
            cases p with
            | none => cases e
            | some k => cases e; exact hr
          | some a =>
            cases p with
            | none => cases e; exact hr
            | some b =>
              injection (show a :: [b] = y' :: ys from e) with e1 e2
              subst e1; subst e2
              have e3 : pk false (some a) (some b) = some (minB a [b]) := by
                show (if Gv05.less b a = true then some b else some a) = some (if Gv05.less b a = true then b else a)
                split <;> rfl
              rw [e3]; exact hr
      | true =>
        refine ⟨_, rfl, rfl, _, rfl, iteD (fun c => absurd c (by intro z; cases z)) (fun _ => ?_)⟩
        refine ⟨_, rfl, L, _, _, rfl, rfl, upd_same, hk, fun e => ?_, fun r y' ys e hr => ?_⟩
        · refine q _ .non s2 ?_
          cases o with
          | some k => cases e
          | none => cases p with
            | some k => cases e
            | none => trivial
        · refine q _ (.ref r) s2 ?_
          cases o with
          | none =>
            cases p with
            | none => cases e
            | some k => cases e; exact hr
          | some a =>
            cases p with
            | none => cases e; exact hr
            | some b =>
              injection (show a :: [b] = y' :: ys from e) with e1 e2
              subst e1; subst e2
              have e3 : pk true (some a) (some b) = some (maxB a [b]) := by
                show (if Gv05.less a b = true then some b else some a) = some (if Gv05.less a b = true then b else a)
                split <;> rfl
              rw [e3]; exact hr
end
end Ks
namespace Ks
open PySem PySem.Spec PyProof.Rows L2
/-! ### a dict whose keys are pairs: a tuple of bytes, and another or None; its values are True -/
def nb (l : List Nat) : NestedKey := .tup (l.map fun (n : Nat) => NestedKey.num (n : Int))
def nh : Option (List Nat) → NestedKey
  | none => .none
  | some l => nb l
/-- from a key, to a key (or without end) -/
abbrev Sch := List Nat × Option (List Nat)
def nk (k : Sch) : NestedKey := .tup [nb k.1, nh k.2]
theorem nb_inj {a b : List Nat} (h : nb a = nb b) : a = b := by
  have h' := NestedKey.tup.inj h
  induction a generalizing b with
  | nil => cases b with
    | nil => rfl
    | cons y b => cases h'
  | cons x a ih =>
    cases b with
    | nil => cases h'
    | cons y b =>
      injection h' with h1 h2
      injection h1 with h3
      have e : x = y := by omega
      rw [e, ih (congrArg NestedKey.tup h2) h2]
theorem nk_inj {a b : Sch} (h : nk a = nk b) : a = b := by
  obtain ⟨a1, a2⟩ := a
  obtain ⟨b1, b2⟩ := b
  have h' := NestedKey.tup.inj h
  injection h' with h1 h2
  injection h2 with h3 _
  have e1 : a1 = b1 := nb_inj h1
  have e2 : a2 = b2 := by
    cases a2 with
    | none => cases b2 with
      | none => rfl
      | some y => cases h3
    | some x => cases b2 with
      | none => cases h3
      | some y => exact congrArg some (nb_inj h3)
  rw [e1, e2]
theorem nb_depthAll : ∀ l : List Nat, NestedKey.depthAll (l.map fun (n : Nat) => NestedKey.num (n : Int)) = 0
  | [] => by simp [NestedKey.depthAll]
  | n :: l => by simp only [List.map_cons, NestedKey.depthAll, NestedKey.depth, nb_depthAll l]; rfl
theorem nk_depth (k : Sch) : (nk k).depth ≤ 8 := by
  obtain ⟨a, b⟩ := k
  have e1 : NestedKey.depth (nb a) = 1 := by unfold nb; rw [NestedKey.depth, nb_depthAll]
  have e2 : NestedKey.depth (nh b) ≤ 1 := by
    cases b with
    | none => show NestedKey.depth .none ≤ 1; simp [NestedKey.depth]
    | some l => show NestedKey.depth (nb l) ≤ 1; unfold nb; rw [NestedKey.depth, nb_depthAll]; exact Nat.le_refl _
  show NestedKey.depth (.tup [nb a, nh b]) ≤ 8
  simp only [NestedKey.depth, NestedKey.depthAll]
  omega
/-- a tuple of bytes, of the heap or of the top -/
def Lo (K : PySem.W.Frag) (H : Hp) (a : Addr) (l : List Nat) : Prop := Tb H a l ∨ ∀ H', SqT K H' a (vN l)
theorem Lo.sq {K : PySem.W.Frag} {H : Hp} {a : Addr} {l : List Nat} (h : Lo K H a l) : SqT K H a (vN l) := by
  rcases h with h | h
  · exact SqT.of h
  · exact h H
theorem Lo.ts {K : PySem.W.Frag} {H H' : Hp} (s : TS H H') {a : Addr} {l : List Nat} (h : Lo K H a l) : Lo K H' a l := by
  rcases h with h | h
  · exact .inl (s _ _ h)
  · exact .inr h
theorem Tv.ts {H H' : Hp} (s : TS H H') {v : V} {o : Option (List Nat)} (h : Tv H v o) : Tv H' v o := by
  cases o with
  | none => obtain rfl := h.none_; trivial
  | some l => obtain ⟨a, rfl, ha⟩ := h.some_; exact s _ _ ha
section
variable (P : Program) (w : World)
def SdP (a : Addr) (xs : List (NestedKey × Addr)) (h : Heap) : Prop := xs.length ≤ sizeLine ∧ (a == sysModules) = false ∧ ∃ o es ep, h.get? a = some o ∧ o.ExactDict ∧ o.data = .dict es ep ∧
  es.toList = (xs.map fun x => (x.1, x.2, Value.bool true)).map (entryOfKey (nestedKind P w)) ∧ (xs.map (·.1)).Nodup
def SdO (a : Addr) (xs : List (NestedKey × Addr)) : HO := .ext (SdP P w a xs)
end
section
variable {P : Program} {w : World} {a : Addr} {xs : List (NestedKey × Addr)} {h : Heap} {H : Hp}
theorem sd_ok (x : SdP P w a xs h) : ObjOk P w H h a (SdO P w a xs) := by
  refine ⟨x, ?_, fun h1 h2 y k => ?_⟩
  · obtain ⟨_, _, o, _, _, e, _⟩ := x
    exact ⟨o, e⟩
  · obtain ⟨y1, y2, o, es, ep, e, rest⟩ := y
    exact ⟨y1, y2, o, es, ep, k o e, rest⟩
theorem sd_of (ok : HOk P w H h) (e : Rd H a (SdO P w a xs)) : SdP P w a xs h := (e.ok ok).1
end
/-- a key of the dict stands in the heap -/
def SdR (K : PySem.W.Frag) (H : Hp) (x : NestedKey × Addr) (k : Sch) : Prop := x.1 = nk k ∧ ∃ la v, H x.2 = some (.tup [.ref la, v]) ∧ Lo K H la k.1 ∧ Tv H v k.2
theorem SdR.ts {K : PySem.W.Frag} {H H' : Hp} (s : TS H H') {x : NestedKey × Addr} {k : Sch} (h : SdR K H x k) : SdR K H' x k := by
  obtain ⟨e, la, v, h1, h2, h3⟩ := h
  exact ⟨e, la, v, s _ _ h1, h2.ts s, h3.ts s⟩
def Sds (P : Program) (w : World) (K : PySem.W.Frag) (H : Hp) (a : Addr) (ks : List Sch) : Prop := ∃ xs, H a = some (SdO P w a xs) ∧ Paired (SdR K H) xs ks
theorem Sds.stay {P : Program} {w : World} {K : PySem.W.Frag} {H H' : Hp} (s : TS H H') {a : Addr} {ks : List Sch} (ha : ∀ o, H a = some o → H' a = some o) (h : Sds P w K H a ks) : Sds P w K H' a ks := by
  obtain ⟨xs, h1, h2⟩ := h
  exact ⟨xs, ha _ h1, paired_map (fun _ _ => SdR.ts s) h2⟩
def addS (ks : List Sch) (k : Sch) : List Sch := if k ∈ ks then ks else ks ++ [k]
section
variable {X : Cx} {pins : List (Addr × Obj)} {σ : L2.St} {H : Hp} {s : Shared}
theorem nb_all {vs : List Value} : ∀ {l : List Nat} {its : List Value}, Vals (vN l) its → NestedAll s.heap (l.map fun (n : Nat) => NestedKey.num (n : Int)) its
  | [], _, r => by cases r; exact .nil
  | n :: l, _, r => by
    cases r with
    | cons r1 r2 =>
      obtain ⟨t, rfl⟩ := r1
      exact .cons (.int _ _) (nb_all (vs := vs) r2)
theorem nb_is (I : Inv X pins σ H s) {a : Addr} {l : List Nat} (h : SqT X.K H a (vN l)) : NestedIs s.heap (nb l) (.ref a) := by
  obtain ⟨its, r, ⟨o, e, c, n, d⟩, _⟩ := I.tuple h
  exact .tup e c d (nb_all (vs := []) (by simpa using r))
theorem nk_is (I : Inv X pins σ H s) {x : NestedKey × Addr} {k : Sch} (h : SdR X.K H x k) : (nestedKind X.prog X.w).is s.heap (nk k) x.2 := by
  obtain ⟨_, la, v, h1, h2, h3⟩ := h
  refine ⟨?_, nk_depth k⟩
  obtain ⟨its, r, ⟨o, e, c, n, d⟩, _⟩ := I.tuple (SqT.of h1)
  cases r with
  | cons r1 r2 =>
    cases r2 with
    | cons r3 r4 =>
      cases r4
      cases r1
      refine .tup e c d (.cons (nb_is I h2.sq) (.cons ?_ .nil))
      obtain ⟨k1, k2⟩ := k
      cases k2 with
      | none =>
        have h3 : Tv H v none := h3
        obtain rfl := h3.none_
        cases r3
        exact .none
      | some l =>
        have h3 : Tv H v (some l) := h3
        obtain ⟨b, rfl, hb⟩ := h3.some_
        cases r3
        exact nb_is I (SqT.of hb)
theorem sd_dict (I : Inv X pins σ H s) {a : Addr} {xs : List (NestedKey × Addr)} {ks : List Sch} (e : Rd H a (SdO X.prog X.w a xs)) (p : Paired (SdR X.K H) xs ks) : s.heap.DictOfH (nestedKind X.prog X.w) a (xs.map fun x => (x.1, x.2, Value.bool true)) := by
  obtain ⟨_, _, o, es, ep, h1, h2, h3, h4, h5⟩ := sd_of I.hok e
  refine ⟨o, es, ep, h1, h2, h3, h4, fun x hx => ?_, ?_⟩
  · obtain ⟨y, hy, rfl⟩ := List.mem_map.mp hx
    obtain ⟨i, hi⟩ := List.mem_iff_getElem?.mp hy
    obtain ⟨k, _, hk⟩ := paired_get p hi
    show (nestedKind X.prog X.w).is s.heap y.1 y.2
    rw [hk.1]
    exact nk_is I hk
  · rw [List.map_map]; exact h5
theorem sd_mem {K : PySem.W.Frag} {xs : List (NestedKey × Addr)} {ks : List Sch} (p : Paired (SdR K H) xs ks) (k : Sch) : nk k ∈ xs.map (·.1) ↔ k ∈ ks := by
  constructor
  · intro h
    obtain ⟨x, hx, e⟩ := List.mem_map.mp h
    obtain ⟨i, hi⟩ := List.mem_iff_getElem?.mp hx
    obtain ⟨j, hj, r⟩ := paired_get p hi
    rw [r.1] at e
    rw [← nk_inj e]
    exact List.mem_of_getElem? hj
  · intro h
    obtain ⟨i, hi⟩ := List.mem_iff_getElem?.mp h
    obtain ⟨x, hx, r⟩ := paired_get' p hi
    exact List.mem_map.mpr ⟨x, List.mem_of_getElem? hx, r.1⟩
theorem at_sd (xs : List (NestedKey × Addr)) (k : NestedKey) : (atKey (xs.map fun x => (x.1, x.2, Value.bool true)) k).isSome = true ↔ k ∈ xs.map (·.1) := by
  unfold atKey
  rw [Option.isSome_map, List.find?_isSome]
  constructor
  · rintro ⟨y, hy, e⟩
    obtain ⟨x, hx, rfl⟩ := List.mem_map.mp hy
    exact List.mem_map.mpr ⟨x, hx, of_decide_eq_true e⟩
  · intro h
    obtain ⟨x, hx, e⟩ := List.mem_map.mp h
    exact ⟨_, List.mem_map.mpr ⟨x, hx, rfl⟩, decide_eq_true e⟩
theorem put_sd (xs : List (NestedKey × Addr)) (k : NestedKey) : (xs.map fun x => (x.1, x.2, Value.bool true)).map (putAt k (Value.bool true)) = xs.map fun x => (x.1, x.2, Value.bool true) := by
  rw [List.map_map]
  refine List.map_congr_left fun x _ => ?_
  show putAt k (Value.bool true) (x.1, x.2, Value.bool true) = _
  unfold putAt
  split <;> rfl
/-- d[(low, high)] = True -/
theorem set_sd (hu : X.A.units + 64 < cLine) : PSet X (fun o i v H Q => ∃ (a q : Addr) (ks : List Sch) (k : Sch), o = .ref a ∧ i = .ref q ∧ v = .bl true ∧ Sds X.prog X.w X.K H a ks ∧ SdR X.K H (nk k, q) k ∧ ks.length ≤ 100000 ∧
    ∀ u, Sds X.prog X.w X.K (upd H a u) a (addS ks k) → Q (upd H a u)) := by
  intro pins s σ H o i v ov iv u Q I ro ri rv h
  obtain ⟨a, q, ks, k, rfl, rfl, rfl, ⟨xs, ha, hp⟩, hk, hz, hq⟩ := h
  cases ro; cases ri; cases rv
  have hlen := paired_len hp
  have hd := sd_dict I (.inl ha) hp
  obtain ⟨z1, z2, _⟩ := sd_of I.hok (.inl ha)
  have ts : ∀ o, TS H (upd H a o) := fun o => TS.upd ha (by intro xs e; cases e)
  refine wpAny_setItem_heap (knd := nestedKind X.prog X.w) (by show X.A.units + 1 + 8 < cLine; omega) (nk_is I hk) hd (fun h' hd' sb => ?_) (by rw [List.length_map, hlen]; exact small_le hz)
  -- the new entries
  have fin : ∀ xs', storedH (xs.map fun x => (x.1, x.2, Value.bool true)) (nk k) q (Value.bool true) = xs'.map (fun x => (x.1, x.2, Value.bool true)) → xs'.length ≤ 200000 → Paired (SdR X.K H) xs' (addS ks k) →
      ∃ H', Inv X pins σ H' { s with heap := h', toks := s.toks + (nestedKind X.prog X.w).draws (nk k) } ∧ Q H' := fun xs' e l p => by
    rw [e] at hd'
    obtain ⟨o, es, ep, h1, h2, h3, h4, h5, h6⟩ := hd'
    have new : SdP X.prog X.w a xs' h' := ⟨small_le l, z2, o, es, ep, h1, h2, h3, h4, by rw [List.map_map] at h6; exact h6⟩
    refine ⟨upd H a (SdO X.prog X.w a xs'), ?_, hq _ ⟨xs', upd_same, paired_map (fun _ _ => SdR.ts (ts _)) p⟩⟩
    exact I.write (by rw [ha]; trivial) (.inl rfl) (fun b ob hb e => (sb.2 b hb).trans e) ⟨o, h1⟩ (sd_ok new)
  by_cases c : k ∈ ks
  · have c2 := (at_sd xs (nk k)).mpr ((sd_mem hp k).mpr c)
    refine fin xs ?_ (by omega) (by unfold addS; rw [if_pos c]; exact hp)
    unfold storedH
    rw [if_pos c2, put_sd]
  · have c2 : ¬ (atKey (xs.map fun x => (x.1, x.2, Value.bool true)) (nk k)).isSome = true := fun y => c ((sd_mem hp k).mp ((at_sd xs (nk k)).mp y))
    refine fin (xs ++ [(nk k, q)]) ?_ (by simp only [List.length_append, List.length_cons, List.length_nil]; omega) (by unfold addS; rw [if_neg c]; exact paired_app hp (.cons hk .nil))
    unfold storedH
    rw [if_neg c2, List.map_append]; rfl
/-- {} -/
theorem pe_snew {pos : Pos} : PE X (.Dict [] [] pos) (fun _ H Q => ∀ p, H p = none → Q (.ref p) (upd H p (SdO X.prog X.w p []))) := by
  refine ⟨fun pins s σ H Q I h => wpAny_Dict_empty ?_⟩
  refine ⟨.ref s.heap.objs.size, _, I.laid (a := s.heap.objs.size) (o := SdO X.prog X.w s.heap.objs.size []) (t' := s.toks) (fun _ _ q => Heap.get?_push_of_some _ q) (Nat.le_refl _) ?_, rfl, h _ (I.hok.fresh (Nat.le_refl _))⟩
  refine sd_ok ⟨Nat.zero_le _, beq_eq_false_iff_ne.mpr (Ne.symm (Nat.ne_of_lt I.big)), _, #[], 0, Heap.get?_push_size _ rfl, ⟨rfl, rfl, rfl⟩, rfl, rfl, List.nodup_nil⟩
/-- len(d) -/
theorem call_len_sd : CallR X (.builtin "len") (fun vs H Q => ∃ (a : Addr) (ks : List Sch), vs = [.ref a] ∧ Sds X.prog X.w X.K H a ks ∧ Q (.int (ks.length : Int)) H) := by
  intro pins s σ H vs us Q I r h
  obtain ⟨a, ks, rfl, ⟨xs, ha, hp⟩, q⟩ := h
  rw [Vals.ref1 r]
  have hlen := paired_len hp
  have hd := sd_dict I (.inl ha) hp
  obtain ⟨z1, z2, _⟩ := sd_of I.hok (.inl ha)
  refine call_len_dictH z2 hd (by rw [List.length_map]; rw [sizeLine_eq] at z1; omega) ?_
  rw [List.length_map, hlen]
  exact ⟨.int (ks.length : Int), H, I.tok _, ⟨_, rfl⟩, q⟩
/-! its keys walked (it is locked) -/
def Its (P : Program) (w : World) (d : Addr) (o : Obj) (xs : List (NestedKey × Addr)) : It where
  go := fun i H => H d = some (.frz o (SdO P w d xs)) ∧ i < xs.length
  yld := fun i H x H' => H' = H ∧ ∃ y, xs[i]? = some y ∧ x = .ref y.2
  stop := fun i H => H d = some (.frz o (SdO P w d xs)) ∧ xs.length ≤ i
theorem sd_frz (I : Inv X pins σ H s) {d : Addr} {o : Obj} {xs : List (NestedKey × Addr)} (h : H d = some (.frz o (SdO X.prog X.w d xs))) :
    (d == sysModules) = false ∧ s.heap.get? d = some o ∧ o.ExactDict ∧ ∃ (es : Array DictEntry) (ep : Nat), o.data = .dict es ep ∧ es.size = xs.length ∧ ∀ (i : Nat) (y : NestedKey × Addr), xs[i]? = some y → ∃ en : DictEntry, es[i]? = some en ∧ en.key = .ref y.2 := by
  obtain ⟨hd, ⟨z1, z2, o', es, ep, h1, h2, h3, h4, h5⟩, _⟩ := I.hok d _ h
  rw [hd] at h1
  cases h1
  refine ⟨z2, hd, h2, es, ep, h3, ?_, fun i y hy => ?_⟩
  · rw [size_of_entries h4, List.length_map]
  · have e := entry_at h4 i
    rw [List.getElem?_map, hy] at e
    exact ⟨_, e, rfl⟩
end
theorem turn_sd {P : Program} {w : World} {K : PySem.W.Frag} {tg : Expr} {d : Addr} {o : Obj} {es : Array DictEntry} {ep : Nat} {xs : List (NestedKey × Addr)} (it : Addr) (hod : o.data = .dict es ep) :
    Turn P w K tg (Its P w d o xs) [it] it (fun i h => h.IsKeyIter it d i xs.length ep) := by
  refine ⟨List.mem_singleton.mpr rfl, fun i h st b hb => ?_, fun i h h' st k => st.at fun oi e => k it (List.mem_singleton.mpr rfl) oi e, ?_, ?_, fun A i s Q E st h => ?_⟩
  · obtain rfl := List.mem_singleton.mp hb
    obtain ⟨oi, e, _, dd⟩ := st
    exact ⟨oi, e, fun v z => by rw [dd] at z; cases z⟩
  · intro X eP ew eK hc i pins s σ H E I hf st hg
    subst eP ew eK
    obtain ⟨hd, hi⟩ := hg
    have F := hf it (List.mem_singleton.mpr rfl)
    obtain ⟨z2, hgd, hx, es', ep', hdt, hsz, ent⟩ := sd_frz I hd
    obtain ⟨rfl, rfl⟩ := dict_ep hod hdt
    have hy := List.getElem?_eq_getElem hi
    obtain ⟨en, hen, hkey⟩ := ent i _ hy
    refine next_key_item st hgd hdt hsz hen (fun h' st' sb => ?_)
    have I1 : Inv X pins σ H { s with heap := h' } := I.turned (t' := s.toks) (fun b ob hb e => Eq.trans (sb.2 b hb) e) F.1 F.2.1 F.2.2.2.1 F.2.2.2.2.1 F.2.2.2.2.2
    obtain ⟨oi, e, c, dd⟩ := id st'
    refine ⟨en.key, rfl, go_of (s := { s with heap := h' }) e c dd (by decide) ?_⟩
    exact ⟨.ref _, H, I1, hkey, ⟨rfl, _, hy, rfl⟩, st', fun b hb => (hf b hb).1⟩
  · intro X eP ew eK hc i pins s σ H E I hf st hg
    subst eP ew eK
    obtain ⟨hd, hi⟩ := hg
    have F := hf it (List.mem_singleton.mpr rfl)
    obtain ⟨z2, hgd, hx, es', ep', hdt, hsz, ent⟩ := sd_frz I hd
    obtain ⟨rfl, rfl⟩ := dict_ep hod hdt
    refine next_key_end (I.ok.hd hc) st hgd hdt hsz hi (fun h' eb => ⟨rfl, ?_⟩)
    exact I.turned (t' := s.toks) (fun b ob hb e => eb b ob hb e) F.1 F.2.1 F.2.2.2.1 F.2.2.2.2.1 F.2.2.2.2.2
  · exact wpAny_pyIter_keyiter st h
theorem pi_sd {X : Cx} {tg e : Expr} {td : TE} (he : PE X e td) : PI X tg e (fun σ H R => td σ H fun x H1 => ∃ d o xs, x = .ref d ∧ H1 d = some (.frz o (SdO X.prog X.w d xs)) ∧ R (Its X.prog X.w d o xs) H1) := by
  refine ⟨fun pins s σ H R I h => thn (he.run pins s σ H _ I h) fun u s1 ⟨x, H1, I1, rx, d, o, xs, ex, hd, q⟩ => ?_⟩
  subst ex
  obtain rfl : u = Value.ref d := rx
  obtain ⟨z2, hgd, hx, es, ep, hdt, hsz, _⟩ := sd_frz I1 hd
  refine iter_keys z2 hgd hx hdt (pi_one (tk := s1.toks) I1 _ (turn_sd _ hdt) ⟨_, Heap.get?_push_size _ rfl, rfl, ?_⟩ q)
  rw [hsz] <;> rfl
theorem walk_sd {P : Program} {w : World} {d : Addr} {o : Obj} {xs : List (NestedKey × Addr)} : Walk (Its P w d o xs) xs.length (fun H => H d = some (.frz o (SdO P w d xs))) (fun i H x H' => H' = H ∧ ∃ y, xs[i]? = some y ∧ x = .ref y.2) :=
  ⟨fun _ _ hi q => ⟨q, hi⟩, fun _ q => ⟨q, Nat.le_refl _⟩, fun _ _ _ _ _ _ y => y⟩
end Ks
namespace Ks
open PySem PySem.Spec PyProof.Rows L2
/-! ### maps compared -/
def pD (x : List Nat × List Nat) : PyData := .tuple [tD x.1, tD x.2]
def mD : List (List Nat × List Nat) → List PyData
  | [] => []
  | x :: m => pD x :: mD m
theorem mD_lay : ∀ m, PyData.canLayAll0 (mD m) = true
  | [] => rfl
  | x :: m => by
    show ((PyData.canLayAll0 (dL x.1) && (PyData.canLayAll0 (dL x.2) && true)) && PyData.canLayAll0 (mD m)) = true
    rw [dL_lay, dL_lay, mD_lay m]; rfl
theorem mD_depth : ∀ m, PyData.depthAll (mD m) ≤ 2
  | [] => Nat.zero_le _
  | x :: m => by
    show max (max (PyData.depthAll (dL x.1) + 1) (max (PyData.depthAll (dL x.2) + 1) 0) + 1) (PyData.depthAll (mD m)) ≤ 2
    have := mD_depth m
    rw [dL_depth, dL_depth]
    omega
theorem mD_shaped (m) : SeqAt.shaped (.list (mD m)) = true := by
  show (PyData.canLayAll0 (mD m) && decide (PyData.depthAll (mD m) + 1 ≤ 64)) = true
  have := mD_depth m
  rw [mD_lay, decide_eq_true (by omega)]; rfl
theorem mD_eqv : ∀ a b, PyData.eqvAll (mD a) (mD b) = decide (a = b)
  | [], [] => rfl
  | [], _ :: _ => rfl
  | _ :: _, [] => rfl
  | x :: a, y :: b => by
    show ((PyData.eqvAll (dL x.1) (dL y.1) && (PyData.eqvAll (dL x.2) (dL y.2) && true)) && PyData.eqvAll (mD a) (mD b)) = decide (x :: a = y :: b)
    rw [dL_eqv, dL_eqv, mD_eqv a b, Bool.and_true]
    obtain ⟨x1, x2⟩ := x
    obtain ⟨y1, y2⟩ := y
    by_cases h1 : x1 = y1
    · by_cases h2 : x2 = y2
      · by_cases h3 : a = b
        · simp [h1, h2, h3]
        · simp [h1, h2, h3]
      · simp [h1, h2]
    · simp [h1]
section
variable {K : PySem.W.Frag} {H : Hp}
theorem mD_all : ∀ {xs : List V} {m : G.GM (List Nat)}, Paired (Pr Tb H) xs m → DpAll K H xs (mD m)
  | _, _, .nil => .nil
  | _, _, .cons ⟨_, _, _, e, h1, h2, h3⟩ t => .cons (by rw [e]; exact .tup (SqT.of h1) (.cons (.tup (SqT.of h2) (dL_all _)) (.cons (.tup (SqT.of h3) (dL_all _)) .nil))) (mD_all t)
theorem Mp.dp {a : Addr} {m : G.GM (List Nat)} (h : Mp Tb H a m) : Dp K H (.ref a) (.list (mD m)) := by
  obtain ⟨xs, h1, h2⟩ := h
  exact .lst (SqL.of h1) (mD_all h2)
variable {X : Cx}
theorem op_eqM (hu : X.A.units + 64 < cLine) : OpR X (compareOp .Eq) (fun x y H Q => ∃ (a b : Addr) (m n : G.GM (List Nat)), x = .ref a ∧ y = .ref b ∧ Mp Tb H a m ∧ Mp Tb H b n ∧ Q (.bl (decide (m = n))) H) := by
  intro pins s σ H x y v u Q I rx ry h
  obtain ⟨a, b, m, n, rfl, rfl, ha, hb, q⟩ := h
  refine op_eqD hu pins s σ H _ _ v u Q I rx ry ⟨_, _, ha.dp, hb.dp, mD_shaped m, mD_shaped n, ?_⟩
  have e : PyData.eqv (.list (mD m)) (.list (mD n)) = decide (m = n) := mD_eqv m n
  rw [e]; exact q
theorem op_neM (hu : X.A.units + 64 < cLine) : OpR X (compareOp .NotEq) (fun x y H Q => ∃ (a b : Addr) (m n : G.GM (List Nat)), x = .ref a ∧ y = .ref b ∧ Mp Tb H a m ∧ Mp Tb H b n ∧ Q (.bl (!decide (m = n))) H) := by
  intro pins s σ H x y v u Q I rx ry h
  obtain ⟨a, b, m, n, rfl, rfl, ha, hb, q⟩ := h
  refine op_neD hu pins s σ H _ _ v u Q I rx ry ⟨_, _, ha.dp, hb.dp, mD_shaped m, mD_shaped n, ?_⟩
  have e : PyData.eqv (.list (mD m)) (.list (mD n)) = decide (m = n) := mD_eqv m n
  rw [e]; exact q
end
/-! ### what a step of i may change -/
structure Kp (mu : Mu) (i : Nat) (H H' : Hp) : Prop where
  ts : TS H H'
  kp : ∀ b o, H b = some o → mu b ≠ i → H' b = some o
  dm : ∀ b, H' b = none → H b = none
theorem Kp.of {mu : Mu} {i : Nat} {H H' : Hp} (s : Same H H') : Kp mu i H H' := ⟨TS.of s, fun b o e _ => s b o e, fun b e => s.free e⟩
theorem Kp.trans {mu : Mu} {i : Nat} {H H1 H2 : Hp} (a : Kp mu i H H1) (b : Kp mu i H1 H2) : Kp mu i H H2 :=
  ⟨a.ts.trans b.ts, fun c o e n => b.kp c o (a.kp c o e n) n, fun c e => a.dm c (b.dm c e)⟩
theorem Kp.upd {mu : Mu} {i : Nat} {H : Hp} {a : Addr} {u o : HO} (h : H a = some u) (n : ∀ xs, u ≠ .tup xs) (m : mu a = i) : Kp mu i H (L2.upd H a o) := by
  refine ⟨TS.upd h n, fun b v e ne => ?_, fun b e => ?_⟩
  · rw [upd_ne (fun z => ne (by rw [z]; exact m))]; exact e
  · by_cases c : b = a
    · subst c; rw [upd_same] at e; cases e
    · rw [upd_ne c] at e; exact e
theorem Kp.im {mu : Mu} {i : Nat} {H H' : Hp} (k : Kp mu i H H') (hi : i ≠ 9) : Im mu H H' := ⟨k.ts, fun b o e m => k.kp b o e (by rw [m]; exact Ne.symm hi)⟩
theorem Gh.kp {mu : Mu} {i : Nat} {H H' : Hp} (g : Gh mu H) (k : Kp mu i H H') : Gh mu H' := fun b e => g b (k.dm b e)
/-- no more than dicts of looks have changed -/
def Kd (H H' : Hp) : Prop := ∀ b o, H b = some o → (∀ kvs, o ≠ .dT kvs) → (∀ φ, o ≠ .ext φ) → H' b = some o
theorem Kd.of {H H' : Hp} (s : Same H H') : Kd H H' := fun b o e _ _ => s b o e
theorem Kd.trans {H H1 H2 : Hp} (a : Kd H H1) (b : Kd H1 H2) : Kd H H2 := fun c o e n m => b c o (a c o e n m) n m
theorem units1 {k : Nat} {A : Around} (r : Room k A) : A.units + 1 < cLine := by have := r.units; omega
/-! ### looks -/
def kk (k : List Nat) : List Key := k.map fun (n : Nat) => Sum.inl (n : Int)
theorem kk_v (k : List Nat) : (kk k).map kV = vN k := by unfold kk vN; rw [List.map_map]; rfl
theorem kk_inj {a b : List Nat} (h : kk a = kk b) : a = b := by
  induction a generalizing b with
  | nil => cases b with
    | nil => rfl
    | cons y b => cases h
  | cons x a ih =>
    cases b with
    | nil => cases h
    | cons y b =>
      injection h with h1 h2
      injection h1 with h3
      have e : x = y := by omega
      rw [e, ih h2]
def kvT (ks : List (List Nat)) : List (List Key × V) := ks.map fun k => (kk k, V.bl true)
theorem kvT_any (ks : List (List Nat)) (k : List Nat) : ((kvT ks).any fun kv => decide (kv.1 = kk k)) = decide (k ∈ ks) := by
  induction ks with
  | nil => rfl
  | cons j ks ih =>
    show (decide (kk j = kk k) || (kvT ks).any _) = decide (k ∈ j :: ks)
    rw [ih]
    by_cases e : j = k
    · subst e; simp
    · have : ¬ kk j = kk k := fun z => e (kk_inj z)
      simp [this, Ne.symm e]
theorem kvT_put (ks : List (List Nat)) (k : List Nat) : putK (kvT ks) (kk k) (.bl true) = kvT (if k ∈ ks then ks else ks ++ [k]) := by
  unfold putK
  rw [kvT_any]
  by_cases c : k ∈ ks
  · rw [if_pos (decide_eq_true c), if_pos c]
    unfold kvT
    rw [List.map_map]
    refine List.map_congr_left fun j _ => ?_
    show (if kk j = kk k then (kk j, V.bl true) else (kk j, V.bl true)) = _
    split <;> rfl
  · rw [if_neg (by rw [decide_eq_false c]; exact Bool.false_ne_true), if_neg c]
    unfold kvT
    rw [List.map_append]; rfl
def lF (sk st : Addr) : List (Str × V) := [("single_keys", .ref sk), ("stretches", .ref st)]
theorem lF_k (sk st : Addr) : (lF sk st).lookup ("single_keys" : Str) = some (.ref sk) := lk_here
theorem lF_s (sk st : Addr) : (lF sk st).lookup ("stretches" : Str) = some (.ref st) := (lk_past (by decide +kernel)).trans lk_here
theorem lF_no {m : Str} (h1 : (m == ("single_keys" : Str)) = false) (h2 : (m == ("stretches" : Str)) = false) (sk st : Addr) : (lF sk st).lookup m = none := (lk_past h1).trans ((lk_past h2).trans rfl)
theorem lF_new (sk st : Addr) : putF "stretches" (.ref st) (putF "single_keys" (.ref sk) []) = lF sk st := (put_past (by decide +kernel)).trans rfl
structure LTxt (K : PySem.W.Frag) (mg : Str → Option Value) (C : Addr) : Prop where
  cl : Cls K C
  nK : NoAttr K C "single_keys"
  nS : NoAttr K C "stretches"
  g : mg "Looks" = some (.ref C)
def Lk (P : Program) (w : World) (K : PySem.W.Frag) (C : Addr) (mu : Mu) (i : Nat) (H : Hp) (a : Addr) (lk : List Gv05.Look) : Prop :=
  ∃ dx sk st, H a = some (.ins C dx (lF sk st)) ∧ mu a = 9 ∧ H sk = some (.dT (kvT (keysL lk))) ∧ mu sk = i ∧ Sds P w K H st (strsL lk) ∧ mu st = i
theorem Lk.stay {P : Program} {w : World} {K : PySem.W.Frag} {C : Addr} {mu : Mu} {i : Nat} {H H' : Hp} (ts : TS H H') (k : ∀ b o, H b = some o → mu b = 9 ∨ mu b = i → H' b = some o) {a : Addr} {lk : List Gv05.Look} (h : Lk P w K C mu i H a lk) : Lk P w K C mu i H' a lk := by
  obtain ⟨dx, sk, st, h1, h2, h3, h4, h5, h6⟩ := h
  exact ⟨dx, sk, st, k _ _ h1 (.inl h2), h2, k _ _ h3 (.inr h4), h4, h5.stay ts (fun o e => k _ _ e (.inr h6)), h6⟩
section
variable {P : Program} {w : World} {K : PySem.W.Frag} {mg : Str → Option Value} {base : Heap} {C : Addr}
def sp_lInit (P : Program) (w : World) (C : Addr) : Sp := fun vs H Q _ => ∃ (p dx : Addr), vs = [.ref p] ∧ H p = some (.ins C dx []) ∧
  ∀ H' sk st, H sk = none → H st = none → st ≠ sk → H' p = some (.ins C dx (lF sk st)) → H' sk = some (.dT []) → H' st = some (SdO P w st []) → But p H H' → Q .non H'
theorem d_lInit (T : LTxt K mg C) (D : ISrc K C "Looks.__init__" s_Looks_init ["self"]) : InitOk P w K mg base CX0 1 C (sp_lInit P w C) := by
  refine D.ok sc_Looks_init (fun vs H Q E h => ?_) (fun f cdv A outer s H vs Q E hr h => ⟨_, pss_cons (ps_fld (pv 0) pe_dnewT rfl) (pss_one (ps_fld (pv 0) pe_snew rfl)), ?_⟩)
  · obtain ⟨p, dx, rfl, _⟩ := h
    rfl
  · obtain ⟨p, dx, rfl, hp, k⟩ := h
    intro sk hsk
    have s1 := same_upd (o := .dT []) hsk
    refine ⟨_, rfl, p, C, dx, [], rfl, s1 _ _ hp, T.cl, T.nK, (by show 0 < 1000; decide), ?_⟩
    intro st hst
    have n1 : st ≠ p := fun z => by rw [z, upd_same] at hst; cases hst
    have n3 : sk ≠ p := fun z => by rw [z, hp] at hsk; cases hsk
    rw [upd_ne n1] at hst
    have n2 : st ≠ sk := fun z => by rw [z, upd_same] at hst; cases hst
    refine ⟨_, rfl, p, C, dx, putF "single_keys" (.ref sk) [], rfl, ?_, T.cl, T.nS, (by show 1 < 1000; decide), ?_⟩
    · rw [upd_ne (Ne.symm n1)]; exact upd_same
    · refine k _ sk st hsk (s1.free hst) n2 (Eq.trans upd_same (congrArg (fun q => some (HO.ins C dx q)) (lF_new sk st))) ?_ ?_ fun b o e n => ?_
      · rw [upd_ne n3, upd_ne (Ne.symm n2), upd_ne n3]; exact upd_same
      · rw [upd_ne n1]; exact upd_same
      · rw [upd_ne n, upd_ne (fun z => by rw [z] at e; rw [s1 _ _ e] at hst; cases hst), upd_ne n, upd_ne (ne_of_none e hsk)]; exact e
def sp_room (P : Program) (w : World) (K : PySem.W.Frag) (C : Addr) : Sp := fun vs H Q _ => ∃ (mu : Mu) (i : Nat) (a : Addr) (n : Int) (lk : List Gv05.Look), vs = [.ref a, .int n] ∧ Lk P w K C mu i H a lk ∧ Q (.bl (decide ((lk.length : Int) + n ≤ 1000))) H
theorem d_room (T : LTxt K mg C) (D : MSrc K C "has_room" "Looks.has_room" s_Looks_has_room ["self", "more"]) (hL : mg "len" = none) (c : GI mg "MOST_LOOKS" 1000) : MethOk P w K mg base CX0 1 C "has_room" (sp_room P w K C) := by
  refine D.ok sc_Looks_has_room (fun vs H Q E h => ?_) (fun f cdv A outer s H vs Q E hr h => ⟨_,
      pss_one (ps_ret (pe_cmpR op_le (pe_op op_add (pe_op op_add (pe_callB call_len_dT (by rfl) hL PySem.boot_len (pa_cons (pe_fld (pv 0) rfl) pa_nil)) (pe_callB call_len_sd (by rfl) hL PySem.boot_len (pa_cons (pe_fld (pv 0) rfl) pa_nil))) (pv 1)) (pe_gi c) (nomark _))), ?_⟩)
  · obtain ⟨mu, i, a, n, lk, rfl, _⟩ := h
    rfl
  · obtain ⟨mu, i, a, n, lk, rfl, ⟨dx, sk, st, h1, h2, h3, h4, h5, h6⟩, q⟩ := h
    refine ⟨_, rfl, a, C, dx, _, _, rfl, h1, T.cl, T.nK, lF_k sk st, sk, _, rfl, h3, ?_⟩
    refine ⟨_, rfl, a, C, dx, _, _, rfl, h1, T.cl, T.nS, lF_s sk st, st, _, rfl, h5, _, _, rfl, rfl, _, rfl, _, _, rfl, rfl, _, _, rfl, rfl, ?_⟩
    have e : ((kvT (keysL lk)).length : Int) + ((strsL lk).length : Int) = (lk.length : Int) := by
      have := looks_len lk
      unfold kvT
      rw [List.length_map]
      omega
    show Q (.bl (decide (((kvT (keysL lk)).length : Int) + ((strsL lk).length : Int) + n ≤ 1000))) H
    rw [e]; exact q
def sp_lookKey (P : Program) (w : World) (K : PySem.W.Frag) (C : Addr) : Sp := fun vs H Q _ => ∃ (mu : Mu) (i : Nat) (a b : Addr) (k : List Nat) (lk : List Gv05.Look), vs = [.ref a, .ref b] ∧ i ≠ 9 ∧ Lk P w K C mu i H a lk ∧ Tb H b k ∧ lk.length ≤ 10000 ∧
  ∀ H', Kp mu i H H' → Kd H H' → Lk P w K C mu i H' a (lookedL lk (.key k)) → Q .non H'
theorem d_lookKey (T : LTxt K mg C) (D : MSrc K C "look_at_key" "Looks.look_at_key" s_Looks_look_at_key ["self", "key"]) : MethOk P w K mg base CX0 1 C "look_at_key" (sp_lookKey P w K C) := by
  refine D.ok sc_Looks_look_at_key (fun vs H Q E h => ?_) (fun f cdv A outer s H vs Q E hr h => ⟨_,
      pss_one (ps_dput (units1 hr) (pe_fld (pv 0) rfl) (pv 1) pe_bl rfl), ?_⟩)
  · obtain ⟨mu, i, a, b, k, lk, rfl, _⟩ := h
    rfl
  · obtain ⟨mu, i, a, b, k, lk, rfl, hi, ⟨dx, sk, st, h1, h2, h3, h4, ⟨xs, h5, h7⟩, h6⟩, hb, hz, q⟩ := h
    have hlen := looks_len lk
    refine ⟨_, rfl, a, C, dx, _, _, rfl, h1, T.cl, T.nK, lF_k sk st, _, rfl, sk, _, rfl, DPut.t (k := kk k) h3 (by rw [kk_v]; exact hb) ?_, ?_⟩
    · unfold kvT
      rw [List.length_map]
      exact small_lt (m := 20000) (by omega)
    · rw [kvT_put]
      have kp : Kp mu i H (upd H sk (.dT (kvT (if k ∈ keysL lk then keysL lk else keysL lk ++ [k])))) := Kp.upd h3 (by intro xs e; cases e) h4
      have n1 : st ≠ sk := fun z => by rw [z, h3] at h5; cases h5
      obtain ⟨e1, e2⟩ := lookedL_key lk k
      refine q _ kp (fun b o e n _ => by rw [upd_ne (ne_of e h3 (n _))]; exact e) ⟨dx, sk, st, kp.kp _ _ h1 (by rw [h2]; exact Ne.symm hi), h2, ?_, h4, ?_, h6⟩
      · rw [e1]; exact upd_same
      · rw [e2]
        exact Sds.stay kp.ts (fun o e => by rw [upd_ne n1]; exact e) ⟨xs, h5, h7⟩
def sp_lookStr (P : Program) (w : World) (K : PySem.W.Frag) (C : Addr) : Sp := fun vs H Q _ => ∃ (mu : Mu) (i : Nat) (a b : Addr) (v : V) (lo : List Nat) (hi : Option (List Nat)) (lk : List Gv05.Look), vs = [.ref a, .ref b, v] ∧ i ≠ 9 ∧ Lk P w K C mu i H a lk ∧ Lo K H b lo ∧ Tv H v hi ∧ lk.length ≤ 10000 ∧
  ∀ H', Kp mu i H H' → Kd H H' → Lk P w K C mu i H' a (lookedL lk (.stretch lo hi)) → Q .non H'
theorem d_lookStr (T : LTxt K mg C) (D : MSrc K C "look_at_stretch" "Looks.look_at_stretch" s_Looks_look_at_stretch ["self", "low", "high"]) : MethOk P w K mg base CX0 1 C "look_at_stretch" (sp_lookStr P w K C) := by
  refine D.ok sc_Looks_look_at_stretch (fun vs H Q E h => ?_) (fun f cdv A outer s H vs Q E hr h => ⟨_,
      pss_one (ps_asg pe_bl (pg_sub (pe_fld (pv 0) rfl) (pe_tup (pa_cons (pv 1) (pa_cons (pv 2) pa_nil))) (set_sd hr.units))), ?_⟩)
  · obtain ⟨mu, i, a, b, v, lo, hi, lk, rfl, _⟩ := h
    rfl
  · obtain ⟨mu, i, a, b, v, lo, hi, lk, rfl, ni, ⟨dx, sk, st, h1, h2, h3, h4, h5, h6⟩, hb, hv, hz, q⟩ := h
    have hlen := looks_len lk
    refine ⟨_, rfl, a, C, dx, _, _, rfl, h1, T.cl, T.nS, lF_s sk st, _, rfl, _, rfl, small_le (m := 100) (by simp), fun p hp => ?_⟩
    have s1 := same_upd (o := .tup [.ref b, v]) hp
    have t1 := TS.of s1
    have h5' : Sds P w K (upd H p (.tup [.ref b, v])) st (strsL lk) := h5.stay t1 (fun o e => s1 _ _ e)
    refine ⟨st, p, strsL lk, (lo, hi), rfl, rfl, rfl, h5', ⟨rfl, b, v, upd_same, hb.ts t1, hv.ts t1⟩, by omega, fun u hu => ?_⟩
    obtain ⟨xs, h5a, _⟩ := h5'
    have kp : Kp mu i H (upd (upd H p (.tup [.ref b, v])) st u) := (Kp.of s1).trans (Kp.upd h5a (by intro xs e; cases e) h6)
    have n1 : sk ≠ st := fun z => by rw [← z, s1 _ _ h3] at h5a; cases h5a
    obtain ⟨e1, e2⟩ := lookedL_str lk lo hi
    refine q _ kp (fun b o e _ n => by rw [upd_ne (ne_of (s1 _ _ e) h5a (n _))]; exact s1 _ _ e) ⟨dx, sk, st, kp.kp _ _ h1 (by rw [h2]; exact Ne.symm ni), h2, ?_, h4, ?_, h6⟩
    · rw [e1, upd_ne n1]; exact s1 _ _ h3
    · rw [e2]; exact hu
end
end Ks
namespace Ks
open PySem PySem.Spec PyProof.Rows L2
theorem part_sl {m : Gv05.Map} (h : Gv05.Sorted m) (lo : List Nat) (hi : Option (List Nat)) : partG (β := List Nat) m lo hi = sl m lo true hi := by
  rw [sl_places h]
  cases hi <;> rfl
theorem unlock {H H' : Hp} {d : Addr} {od : Obj} {u : HO} (hd : H d = some u) (s : Same (upd H d (.frz od u)) H') : Same H (upd H' d u) := fun b o e => by
  by_cases c : b = d
  · subst c
    rw [upd_same, ← hd, e]
  · rw [upd_ne c]
    refine s b o ?_
    rw [upd_ne c]; exact e
theorem lock_keep {H : Hp} {d b : Addr} {u o o' : HO} (hd : H d = some u) (hb : H b = some o) (n : o ≠ u) : upd H d o' b = some o := by
  rw [upd_ne (ne_of hb hd n)]; exact hb
section
variable {P : Program} {w : World} {K : PySem.W.Frag} {mg : Str → Option Value} {base : Heap} {C : Addr}
def sp_sdiff (K : PySem.W.Frag) : Sp := fun vs H Q _ => ∃ (a b c la : Addr) (v : V) (m n : G.GM (List Nat)) (lo : List Nat) (hi : Option (List Nat)), vs = [.ref a, .ref b, .ref c] ∧ Mp Tb H a m ∧ G.Srt m ∧ Mp Tb H b n ∧ G.Srt n ∧ H c = some (.tup [.ref la, v]) ∧ Lo K H la lo ∧ Tv H v hi ∧ m.length ≤ 99999 ∧
  ∀ H', Same H H' → Q (.bl (!decide (partG m lo hi = partG n lo hi))) H'
theorem part_len {m : G.GM (List Nat)} (lo : List Nat) (hi : Option (List Nat)) : (partG m lo hi).length ≤ m.length := by
  cases hi with
  | none => show (m.drop _).length ≤ _; rw [List.length_drop]; exact Nat.sub_le _ _
  | some z => show ((m.drop _).take _).length ≤ _; rw [List.length_take, List.length_drop]; omega
theorem d_sdiff (D : Src K mg "stretch_differs" s_stretch_differs ["one", "other", "stretch"]) (hL : mg "len" = none) (c : GI mg "MOST_COMPARED" 99999) (A1 : DefOk P w K mg base CX0 3 "part_between" (sp_part K Tb)) : DefOk P w K mg base CX0 4 "stretch_differs" (sp_sdiff K) := by
  refine D.ok sc_stretch_differs (fun vs H Q E h => ?_) (fun f cdv A outer s H vs Q E hr h => ⟨_,
      pss_cons (ps_set (i := 3) sc_stretch_differs.nd rfl (.inl rfl) (pe_cl A1 hr pass0 (pa_cons (pv 0) (pa_cons (pe_ix ix_tup (pv 2) pe_int (fun _ _ => rfl)) (pa_cons (pe_ix ix_tup (pv 2) pe_int (fun _ _ => rfl)) pa_nil)))))
      (pss_one (ps_ret (pe_or (pe_cmpR op_gt (pe_callB call_len (by rfl) hL PySem.boot_len (pa_cons (pv 3) pa_nil)) (pe_gi c) (nomark _)) (pe_one (pe_cmpR (op_neM hr.units) (pv 3) (pe_cl A1 hr pass0 (pa_cons (pv 1) (pa_cons (pe_ix ix_tup (pv 2) pe_int (fun _ _ => rfl)) (pa_cons (pe_ix ix_tup (pv 2) pe_int (fun _ _ => rfl)) pa_nil)))) (nomark _)))))), ?_⟩)
  · obtain ⟨a, b, c, la, v, m, n, lo, hi, rfl, _⟩ := h
    rfl
  · obtain ⟨a, b, c, la, v, m, n, lo, hi, rfl, ha, hsm, hb, hsn, hc, hlo, hhi, hz, q⟩ := h
    refine ⟨_, rfl, _, rfl, _, _, _, _, rfl, rfl, SqT.of hc, tup0, _, rfl, _, _, _, _, rfl, rfl, SqT.of hc, tup1, a, la, v, m, lo, hi, rfl, ha, hsm, hlo.sq, hhi, fun H1 p1 s1 n1 hp1 => ?_⟩
    obtain ⟨xs, hx, hp⟩ := id hp1
    have hl := paired_len hp
    have pl := part_len (m := m) lo hi
    refine ⟨_, rfl, _, _, rfl, .inl ⟨_, SqL.of hx, rfl⟩, _, _, rfl, rfl, _, rfl, iteD (fun z => ?_) (fun _ => ?_)⟩
    · exfalso
      omega
    · have hc1 := s1 _ _ hc
      refine ⟨_, rfl, _, rfl, _, rfl, _, _, _, _, rfl, rfl, SqT.of hc1, tup0, _, rfl, _, _, _, _, rfl, rfl, SqT.of hc1, tup1, b, la, v, n, lo, hi, rfl, hb.same sb_tb s1, hsn, (hlo.ts (TS.of s1)).sq, hhi.same s1, fun H2 p2 s2 n2 hp2 => ?_⟩
      exact ⟨p1, p2, _, _, rfl, rfl, hp1.same sb_tb s2, hp2, q H2 (Same.trans s1 s2)⟩
theorem scD2 : FnScope ["self", "one", "other", "key", "stretch"] ["self", "one", "other"] (defScope s_Looks_differ) := ⟨rfl, rfl, rfl, by decide +kernel, rfl, by decide +kernel, by decide +kernel⟩
def sp_differ (P : Program) (w : World) (K : PySem.W.Frag) (C : Addr) : Sp := fun vs H Q _ => ∃ (mu : Mu) (i : Nat) (a b c : Addr) (m n : Gv05.Map) (lk : List Gv05.Look), vs = [.ref a, .ref b, .ref c] ∧ Lk P w K C mu i H a lk ∧ Mp Tb H b m ∧ Gv05.Sorted m ∧ Mp Tb H c n ∧ Gv05.Sorted n ∧ m.length ≤ 99999 ∧ lk.length ≤ 10000 ∧
  ∀ H', Same H H' → Q (.bl (clashB m n lk)) H'
theorem d_differ (T : LTxt K mg C) (D : MSrc K C "differ" "Looks.differ" s_Looks_differ ["self", "one", "other"]) (hA : mg "any" = none) (A1 : DefOk P w K mg base CX0 2 "value_at" (sp_valueAt Tb)) (A2 : DefOk P w K mg base CX0 4 "stretch_differs" (sp_sdiff K)) :
    MethOk P w K mg base CX0 5 C "differ" (sp_differ P w K C) := by
  refine D.ok scD2 (fun vs H Q E h => ?_) (fun f cdv A outer s H vs Q E hr h => ⟨_,
      pss_cons (ps_if (pt_cmpR (op_eqM hr.units) (pv 1) (pv 2) (nomark _)) (pss_one (ps_ret pe_bl)) pss_nil)
      (pss_cons (ps_if (pt_val (pe_callB (cr_any rfl) (by rfl) hA (by decide +kernel) (pa_cons (pe_lock (pe_lc (own := [("key", 3)]) (g := gName 3) (tt := tYes) rfl scD2.nd (pi_keys (pe_fld (pv 0) rfl)) (blkOk_by (own := [("key", 3)]) (N := ["self", "one", "other", "key", "stretch"]) (sc := defScope s_Looks_differ) (by decide +kernel))
        (fun _ _ _ _ _ => pg_name (i := 3) scD2.nd rfl (Or.inl rfl)) (fun _ _ _ _ _ => pts_nil) (fun _ _ _ _ _ => pe_cmpR (op_neB hr.units) (pe_cl A1 (hr.mono (by decide)) pass0 (pa_cons (pv 1) (pa_cons (pv 3) pa_nil))) (pe_cl A1 (hr.mono (by decide)) pass0 (pa_cons (pv 2) (pa_cons (pv 3) pa_nil))) (nomark _)))) pa_nil))) (pss_one (ps_ret pe_bl)) pss_nil)
      (pss_one (ps_ret (pe_callB (cr_any rfl) (by rfl) hA (by decide +kernel) (pa_cons (pe_lock (pe_lc (own := [("stretch", 4)]) (g := gName 4) (tt := tYes) rfl scD2.nd (pi_sd (pe_fld (pv 0) rfl)) (blkOk_by (own := [("stretch", 4)]) (N := ["self", "one", "other", "key", "stretch"]) (sc := defScope s_Looks_differ) (by decide +kernel))
        (fun _ _ _ _ _ => pg_name (i := 4) scD2.nd rfl (Or.inl rfl)) (fun _ _ _ _ _ => pts_nil) (fun _ _ _ _ _ => pe_cl A2 hr pass0 (pa_cons (pv 1) (pa_cons (pv 2) (pa_cons (pv 4) pa_nil)))))) pa_nil))))), ?_⟩)
  · obtain ⟨mu, i, a, b, c, m, n, lk, rfl, _⟩ := h
    rfl
  · obtain ⟨mu, i, a, b, c, m, n, lk, rfl, ⟨dx, sk, st, h1, h2, h3, h4, h5, h6⟩, hb, hsm, hc, hsn, hz, hzl, q⟩ := h
    have ll := looks_len lk
    refine ⟨_, rfl, _, rfl, b, c, m, n, rfl, rfl, hb, hc, _, rfl, iteD (fun e => ?_) (fun e => ?_)⟩
    · refine q H (Same.refl H) |> fun z => ?_
      have e : m = n := e
      rw [e, clashB_same] at z
      exact z
    · have fin : ∀ H', Same H H' → Q (.bl ((keysL lk).any (fun k => decide (Gv05.lookup m k ≠ Gv05.lookup n k)) || (strsL lk).any (fun k => decide (sl m k.1 true k.2 ≠ sl n k.1 true k.2)))) H' := fun H' s' => by
        rw [← clash_apart]; exact q H' s'
      -- the keys
      refine ⟨sk, _, h3, trivial, fun od => ?_⟩
      have kA : upd H sk (.frz od (.dT (kvT (keysL lk)))) a = some (.ins C dx (lF sk st)) := lock_keep h3 h1 (by intro z; cases z)
      refine ⟨_, rfl, a, C, dx, _, _, rfl, kA, T.cl, T.nK, lF_k sk st, sk, od, rfl, .inr ⟨_, upd_same, fun L hL => ?_⟩⟩
      have tsL : TS H (upd H sk (.frz od (.dT (kvT (keysL lk))))) := TS.upd h3 (by intro xs e; cases e)
      refine lc_it walk_keysT (fun j H' => Same (upd H sk (.frz od (.dT (kvT (keysL lk))))) H' ∧ H' L = some (.lst ((((keysL lk).take j).map fun k => decide (Gv05.lookup m k ≠ Gv05.lookup n k)).map V.bl))) ⟨same_upd hL, upd_same⟩ ?_ ?_ ?_
      · rintro j H' _ ⟨s', _⟩
        exact s' _ _ upd_same
      · rintro j x H' H'' hj ⟨s', hl'⟩ ⟨rfl, kx, vx, qx, hkx, rfl, hq⟩
        have tsA := TS.trans tsL (TS.of s')
        have hkl : ∃ k, (keysL lk)[j]? = some k ∧ kx = kk k := by
          unfold kvT at hkx
          rw [List.getElem?_map] at hkx
          obtain ⟨k, e1, e2⟩ := Option.map_eq_some_iff.mp hkx
          injection e2 with e3 _
          exact ⟨k, e1, e3.symm⟩
        obtain ⟨k, hk, rfl⟩ := hkl
        rw [kk_v] at hq
        have hbA : Mp Tb H'' b m := hb.stay sb_tb tsA (fun o e => s' _ _ (by rw [upd_ne (fun z => by rw [z, h3] at e; cases e; obtain ⟨xs, hx, _⟩ := hb; rw [z, h3] at hx; cases hx)]; exact e))
        have hcA : Mp Tb H'' c n := hc.stay sb_tb tsA (fun o e => s' _ _ (by rw [upd_ne (fun z => by obtain ⟨xs, hx, _⟩ := hc; rw [z, h3] at hx; cases hx)]; exact e))
        refine ⟨rfl, _, rfl, _, rfl, b, qx, m, k, rfl, hbA, hsm, hq, fun r1 hr1 => ?_⟩
        refine ⟨_, rfl, _, rfl, c, qx, n, k, rfl, hcA, hsn, hq, fun r2 hr2 => ?_⟩
        refine ⟨_, _, hr1.tv, hr2.tv, _, hl', ?_, ?_⟩
        · refine small_lt (m := 20000) ?_
          simp only [List.length_map, List.length_take]
          omega
        · refine ⟨fun b' o e => ?_, ?_⟩
          · rw [upd_ne (ne_of_none e hL)]; exact s' _ _ e
          · rw [upd_same, List.take_add_one, hk, List.map_append, List.map_append]
            show some (HO.lst (_ ++ [V.bl (!decide (G.lookup m k = G.lookup n k))])) = some (HO.lst (_ ++ [V.bl (decide (Gv05.lookup m k ≠ Gv05.lookup n k))]))
            congr 4
            by_cases z : Gv05.lookup m k = Gv05.lookup n k
            · have z' : G.lookup m k = G.lookup n k := z
              rw [decide_eq_true z', decide_eq_false (by simpa using z)]; rfl
            · have z' : ¬ G.lookup m k = G.lookup n k := z
              rw [decide_eq_false z', decide_eq_true z]; rfl
      · rintro H' ⟨s', hl'⟩
        have s1 := unlock h3 s'
        have nL : L ≠ sk := fun z => by rw [z, upd_same] at hL; cases hL
        have e0 : (kvT (keysL lk)).length = (keysL lk).length := by unfold kvT; rw [List.length_map]
        rw [e0, List.take_length] at hl'
        refine ⟨s' _ _ upd_same, L, _, rfl, SqL.of (by rw [upd_ne nL]; exact hl'), _, rfl, ?_⟩
        have e1 : ((keysL lk).map fun k => decide (Gv05.lookup m k ≠ Gv05.lookup n k)).any id = (keysL lk).any fun k => decide (Gv05.lookup m k ≠ Gv05.lookup n k) := by
          rw [List.any_map]; rfl
        rw [e1]
        refine iteB (fun e => ?_) (fun e => ?_)
        · have := fin _ s1
          rw [e] at this
          exact this
        · -- the stretches
          have fin2 : ∀ H', Same H H' → Q (.bl ((strsL lk).any (fun k => decide (sl m k.1 true k.2 ≠ sl n k.1 true k.2)))) H' := fun H' s' => by
            have := fin H' s'
            rw [e] at this
            exact this
          obtain ⟨xs, h5a, h5b⟩ := h5
          have h5a' := s1 _ _ h5a
          generalize hG : upd H' sk (.dT (kvT (keysL lk))) = H1 at s1 h5a' ⊢
          refine ⟨st, _, h5a', trivial, fun od2 => ?_⟩
          have kA2 : upd H1 st (.frz od2 (SdO P w st xs)) a = some (.ins C dx (lF sk st)) := lock_keep h5a' (s1 _ _ h1) (by intro z; cases z)
          refine ⟨_, rfl, a, C, dx, _, _, rfl, kA2, T.cl, T.nS, lF_s sk st, st, od2, xs, rfl, upd_same, fun L2 hL2 => ?_⟩
          have tsL2 : TS H (upd H1 st (.frz od2 (SdO P w st xs))) := TS.trans (TS.of s1) (TS.upd h5a' (by intro xs e; cases e))
          have hlx := paired_len h5b
          refine lc_it walk_sd (fun j H' => Same (upd H1 st (.frz od2 (SdO P w st xs))) H' ∧ H' L2 = some (.lst ((((strsL lk).take j).map fun k => decide (sl m k.1 true k.2 ≠ sl n k.1 true k.2)).map V.bl))) ⟨same_upd hL2, upd_same⟩ ?_ ?_ ?_
          · rintro j H' _ ⟨s', _⟩
            exact s' _ _ upd_same
          · rintro j x H' H'' hj ⟨s2, hl2⟩ ⟨rfl, y, hy, rfl⟩
            have tsA := TS.trans tsL2 (TS.of s2)
            obtain ⟨k, hk, _, la, v, g1, g2, g3⟩ := paired_get h5b hy
            have hbA : Mp Tb H'' b m := hb.stay sb_tb tsA (fun o e => s2 _ _ (by rw [upd_ne (fun z => by obtain ⟨xs, hx, _⟩ := hb; rw [z, h5a] at hx; cases hx)]; exact s1 _ _ e))
            have hcA : Mp Tb H'' c n := hc.stay sb_tb tsA (fun o e => s2 _ _ (by rw [upd_ne (fun z => by obtain ⟨xs, hx, _⟩ := hc; rw [z, h5a] at hx; cases hx)]; exact s1 _ _ e))
            refine ⟨rfl, _, rfl, _, rfl, _, rfl, b, c, y.2, la, v, m, n, k.1, k.2, rfl, hbA, hsm, hcA, hsn, tsA _ _ g1, g2.ts tsA, g3.ts tsA, hz, fun H3 s3 => ?_⟩
            refine ⟨_, s3 _ _ hl2, ?_, ?_⟩
            · refine small_lt (m := 20000) ?_
              simp only [List.length_map, List.length_take]
              omega
            · refine ⟨fun b' o e => ?_, ?_⟩
              · rw [upd_ne (ne_of_none e hL2)]; exact s3 _ _ (s2 _ _ e)
              · rw [upd_same, List.take_add_one, hk, List.map_append, List.map_append, part_sl hsm, part_sl hsn]
                show some (HO.lst (_ ++ [V.bl (!decide (sl m k.1 true k.2 = sl n k.1 true k.2))])) = some (HO.lst (_ ++ [V.bl (decide (sl m k.1 true k.2 ≠ sl n k.1 true k.2))]))
                congr 4
                by_cases z : sl m k.1 true k.2 = sl n k.1 true k.2
                · rw [decide_eq_true z, decide_eq_false (by simpa using z)]; rfl
                · rw [decide_eq_false z, decide_eq_true z]; rfl
          · rintro H' ⟨s2, hl2⟩
            have s3 := Same.trans s1 (unlock h5a' s2)
            have nL2 : L2 ≠ st := fun z => by rw [z, upd_same] at hL2; cases hL2
            rw [hlx, List.take_length] at hl2
            refine ⟨s2 _ _ upd_same, L2, _, rfl, SqL.of (by rw [upd_ne nL2]; exact hl2), ?_⟩
            have e1 : ((strsL lk).map fun k => decide (sl m k.1 true k.2 ≠ sl n k.1 true k.2)).any id = (strsL lk).any fun k => decide (sl m k.1 true k.2 ≠ sl n k.1 true k.2) := by
              rw [List.any_map]; rfl
            rw [e1]
            exact fin2 _ s3
end
end Ks
namespace Ks
open PySem PySem.Spec PyProof.Rows L2
/-- t > u, of bytes -/
theorem op_gtB {X : Cx} (hu : X.A.units + 64 < cLine) : OpR X (compareOp .Gt) (fun x y H Q => ∃ (a b : Addr) (l m : List Nat), x = .ref a ∧ y = .ref b ∧ Tb H a l ∧ Tb H b m ∧ Q (.bl (Gv05.less m l)) H) := by
  intro pins s σ H x y v u Q I rx ry h
  obtain ⟨a, b, l, m, rfl, rfl, ha, hb, q⟩ := h
  obtain ⟨as, r1⟩ := Dp.reads I (tD l) (.ref a) v (.tup (SqT.of ha) (dL_all l)) rx
  obtain ⟨bs, r2⟩ := Dp.reads I (tD m) (.ref b) u (.tup (SqT.of hb) (dL_all m)) ry
  have hd : min (tD l).depth (tD m).depth ≤ 1 := by
    have : (tD l).depth = PyData.depthAll (dL l) + 1 := rfl
    rw [dL_depth] at this
    omega
  refine PySem.W.rcGt_alike (tD l) (tD m) X.A s v u as bs r1 r2 (tD_alike l m) (by intro z; cases z) (by omega) X.prog X.w X.xe _ ?_
  rw [tD_lt]
  exact ⟨.bl (Gv05.less m l), H, I, rfl, q⟩
/-! ### a transaction in the heap -/
def tF (st dr sv lk : Addr) : List (Str × V) := [("beginning", .ref st), ("draft", .ref dr), ("savepoints", .ref sv), ("looks", .ref lk)]
section
variable (st dr sv lk : Addr)
theorem tF_b : (tF st dr sv lk).lookup ("beginning" : Str) = some (.ref st) := lk_here
theorem tF_d : (tF st dr sv lk).lookup ("draft" : Str) = some (.ref dr) := (lk_past (by decide +kernel)).trans lk_here
theorem tF_s : (tF st dr sv lk).lookup ("savepoints" : Str) = some (.ref sv) := (lk_past (by decide +kernel)).trans ((lk_past (by decide +kernel)).trans lk_here)
theorem tF_l : (tF st dr sv lk).lookup ("looks" : Str) = some (.ref lk) := (lk_past (by decide +kernel)).trans ((lk_past (by decide +kernel)).trans ((lk_past (by decide +kernel)).trans lk_here))
theorem tF_no {m : Str} (h1 : (m == ("beginning" : Str)) = false) (h2 : (m == ("draft" : Str)) = false) (h3 : (m == ("savepoints" : Str)) = false) (h4 : (m == ("looks" : Str)) = false) : (tF st dr sv lk).lookup m = none :=
  (lk_past h1).trans ((lk_past h2).trans ((lk_past h3).trans ((lk_past h4).trans rfl)))
theorem tF_putd (d : Addr) : putF "draft" (.ref d) (tF st dr sv lk) = tF st d sv lk := (put_past (by decide +kernel)).trans (congrArg _ put_here)
theorem tF_puts (d : Addr) : putF "savepoints" (.ref d) (tF st dr sv lk) = tF st dr d lk := (put_past (by decide +kernel)).trans (congrArg _ ((put_past (by decide +kernel)).trans (congrArg _ put_here)))
theorem tF_n1 : putF "beginning" (.ref st) [] = ([("beginning", .ref st)] : List (Str × V)) := rfl
theorem tF_n2 : putF "draft" (.ref dr) ([("beginning", .ref st)] : List (Str × V)) = ([("beginning", .ref st), ("draft", .ref dr)] : List (Str × V)) := put_past (by decide +kernel)
theorem tF_n3 : putF "savepoints" (.ref sv) ([("beginning", .ref st), ("draft", .ref dr)] : List (Str × V)) = ([("beginning", .ref st), ("draft", .ref dr), ("savepoints", .ref sv)] : List (Str × V)) :=
  (put_past (by decide +kernel)).trans (congrArg _ (put_past (by decide +kernel)))
theorem tF_n4 : putF "looks" (.ref lk) ([("beginning", .ref st), ("draft", .ref dr), ("savepoints", .ref sv)] : List (Str × V)) = tF st dr sv lk :=
  (put_past (by decide +kernel)).trans (congrArg _ ((put_past (by decide +kernel)).trans (congrArg _ (put_past (by decide +kernel)))))
end
structure TTxt (K : PySem.W.Frag) (mg : Str → Option Value) (C : Addr) : Prop where
  cl : Cls K C
  nB : NoAttr K C "beginning"
  nD : NoAttr K C "draft"
  nS : NoAttr K C "savepoints"
  nL : NoAttr K C "looks"
  g : mg "Transaction" = some (.ref C)
/-- the classes' addresses -/
structure Cs where
  T : Addr
  D : Addr
  L : Addr
  S : Addr
def SvR (C : Addr) (mu : Mu) (H : Hp) (l : List Gv05.Change) (v : V) (n : Nat) : Prop := ∃ d, v = .ref d ∧ Dr C mu H d (l.take n)
section
variable (P : Program) (w : World) (K : PySem.W.Frag) (C : Cs)
def Tx (mu : Mu) (i : Nat) (H : Hp) (a : Addr) (t : TM) : Prop :=
  ∃ dx st dr sv lk svs, H a = some (.ins C.T dx (tF st dr sv lk)) ∧ mu a = i ∧ Mp Tb H st t.root ∧ mu st = 9 ∧ Dr C.D mu H dr t.list ∧ H sv = some (.lst svs) ∧ mu sv = i ∧
    Paired (SvR C.D mu H t.list) svs t.saves ∧ Lk P w K C.L mu i H lk t.looks ∧ TOk t
end
/-- the ghost, another but as it was where something stands -/
def MuE (H : Hp) (mu mu' : Mu) : Prop := ∀ b, H b ≠ none → mu' b = mu b
theorem MuE.refl (H : Hp) (mu : Mu) : MuE H mu mu := fun _ _ => rfl
theorem MuE.at {H : Hp} {mu mu' : Mu} (e : MuE H mu mu') {b : Addr} {o : HO} (h : H b = some o) : mu' b = mu b := e b (by rw [h]; intro z; cases z)
section
variable {P : Program} {w : World} {K : PySem.W.Frag} {C : Cs} {mu mu' : Mu} {i : Nat} {H H' : Hp}
theorem Dr.remu {CD : Addr} (e : MuE H mu mu') {a : Addr} {l : List Gv05.Change} (h : Dr CD mu H a l) : Dr CD mu' H a l := by
  obtain ⟨dx, ca, ra, ea, cs, h1, h2, h3, h4, h5, ⟨xs, h6, h6b⟩, h7⟩ := h
  exact ⟨dx, ca, ra, ea, cs, h1, by rw [e.at h1]; exact h2, h3, h4, h5, ⟨xs, h6, h6b⟩, by rw [e.at h6]; exact h7⟩
theorem Lk.remu {CL : Addr} (e : MuE H mu mu') {a : Addr} {lk : List Gv05.Look} (h : Lk P w K CL mu i H a lk) : Lk P w K CL mu' i H a lk := by
  obtain ⟨dx, sk, st, h1, h2, h3, h4, ⟨xs, h5, h5b⟩, h6⟩ := h
  exact ⟨dx, sk, st, h1, by rw [e.at h1]; exact h2, h3, by rw [e.at h3]; exact h4, ⟨xs, h5, h5b⟩, by rw [e.at h5]; exact h6⟩
theorem Tx.remu (e : MuE H mu mu') {a : Addr} {t : TM} (h : Tx P w K C mu i H a t) : Tx P w K C mu' i H a t := by
  obtain ⟨dx, st, dr, sv, lk, svs, h1, h2, ⟨ys, h3, h3b⟩, h4, h5, h6, h7, h8, h9, h10⟩ := h
  exact ⟨dx, st, dr, sv, lk, svs, h1, by rw [e.at h1]; exact h2, ⟨ys, h3, h3b⟩, by rw [e.at h3]; exact h4, h5.remu e, h6, by rw [e.at h6]; exact h7, paired_map (fun _ _ ⟨d, z, y⟩ => ⟨d, z, y.remu e⟩) h8, h9.remu e, h10⟩
/-- what is not of i, and what never changes, has stayed -/
theorem Tx.stay (ts : TS H H') (k : ∀ b o, H b = some o → mu b = 9 ∨ mu b = i → H' b = some o) {a : Addr} {t : TM} (h : Tx P w K C mu i H a t) : Tx P w K C mu i H' a t := by
  obtain ⟨dx, st, dr, sv, lk, svs, h1, h2, h3, h4, h5, h6, h7, h8, h9, h10⟩ := h
  have im : Im mu H H' := ⟨ts, fun b o e m => k b o e (.inl m)⟩
  exact ⟨dx, st, dr, sv, lk, svs, k _ _ h1 (.inr h2), h2, h3.stay sb_tb ts (fun o e => k _ _ e (.inl h4)), h4, h5.im im, k _ _ h6 (.inr h7), h7, paired_map (fun _ _ ⟨d, z, y⟩ => ⟨d, z, y.im im⟩) h8, h9.stay ts k, h10⟩
theorem Tx.same (s : Same H H') {a : Addr} {t : TM} (h : Tx P w K C mu i H a t) : Tx P w K C mu i H' a t := h.stay (TS.of s) fun b o e _ => s b o e
theorem Tx.ok {a : Addr} {t : TM} (h : Tx P w K C mu i H a t) : TOk t := by
  obtain ⟨dx, st, dr, sv, lk, svs, h1, h2, h3, h4, h5, h6, h7, h8, h9, h10⟩ := h
  exact h10
end
section
variable {P : Program} {w : World} {K : PySem.W.Frag} {mg : Str → Option Value} {base : Heap} {C : Cs}
/-! __init__ -/
def sp_tInit (P : Program) (w : World) (K : PySem.W.Frag) (C : Cs) : Sp := fun vs H Q _ => ∃ (p dx st : Addr) (m : Gv05.Map), vs = [.ref p, .ref st] ∧ H p = some (.ins C.T dx []) ∧ Mp Tb H st m ∧ Gv05.Sorted m ∧ m.length ≤ 99999 ∧ VOk m ∧
  ∀ H', But p H H' → (∀ mu i, Gh mu H → mu st = 9 → ∃ mu', (∀ b, H b ≠ none → b ≠ p → mu' b = mu b) ∧ Gh mu' H' ∧ Tx P w K C mu' i H' p (Gv05.begin_ m)) → Q .non H'
theorem d_tInit (T : TTxt K mg C.T) (TL : LTxt K mg C.L) (D : ISrc K C.T "Transaction.__init__" s_Transaction_init ["self", "state"]) (A1 : DefOk P w K mg base CX0 3 "empty_draft" (sp_emptyDraft C.D)) (I : InitOk P w K mg base CX0 1 C.L (sp_lInit P w C.L)) :
    InitOk P w K mg base CX0 4 C.T (sp_tInit P w K C) := by
  refine D.ok sc_Transaction_init (fun vs H Q E h => ?_) (fun f cdv A outer s H vs Q E hr h => ⟨_,
      pss_cons (ps_fld (pv 0) (pv 1) rfl) (pss_cons (ps_fld (pv 0) (pe_cl0 A1 hr pass0) rfl) (pss_cons (ps_fld (pv 0) (pe_lst pa_nil) rfl) (pss_one (ps_fld (pv 0) (pe_mk0 I (hr.mono (by decide)) TL.g pass0) rfl)))), ?_⟩)
  · obtain ⟨p, dx, st, m, rfl, _⟩ := h
    rfl
  · obtain ⟨p, dx, st, m, rfl, hp, hm, hs, hz, hv, k⟩ := h
    refine ⟨_, rfl, _, rfl, p, C.T, dx, [], rfl, hp, T.cl, T.nB, (by show 0 < 1000; decide), ?_⟩
    have b1 : But p H (upd H p (.ins C.T dx (putF "beginning" (.ref st) []))) := But.upd
    have f1 : ∀ b, upd H p (.ins C.T dx (putF "beginning" (.ref st) [])) b = none → H b = none := fun b e => by
      by_cases c : b = p
      · subst c; rw [upd_same] at e; cases e
      · rw [upd_ne c] at e; exact e
    have hp1 : upd H p (.ins C.T dx (putF "beginning" (.ref st) [])) p = some (.ins C.T dx (putF "beginning" (.ref st) [])) := upd_same
    generalize hG1 : upd H p (.ins C.T dx (putF "beginning" (.ref st) [])) = H1 at b1 f1 hp1 ⊢
    refine ⟨rfl, fun H2 dr s2 n2 hd2 => ?_⟩
    refine ⟨_, rfl, p, C.T, dx, _, rfl, s2 _ _ hp1, T.cl, T.nD, (by show 1 < 1000; decide), ?_⟩
    rw [tF_n1, tF_n2]
    have ndp : dr ≠ p := fun z => by rw [z, hp1] at n2; cases n2
    have b3 : But p H (upd H2 p (.ins C.T dx ([("beginning", .ref st), ("draft", .ref dr)] : List (Str × V)))) := (b1.trans (But.of s2)).trans But.upd
    have b23 : But p H2 (upd H2 p (.ins C.T dx ([("beginning", .ref st), ("draft", .ref dr)] : List (Str × V)))) := But.upd
    have f3 : ∀ b, upd H2 p (.ins C.T dx ([("beginning", .ref st), ("draft", .ref dr)] : List (Str × V))) b = none → H b = none := fun b e => by
      by_cases c : b = p
      · subst c; rw [upd_same] at e; cases e
      · rw [upd_ne c] at e; exact f1 b (s2.free e)
    have hp3 : upd H2 p (.ins C.T dx ([("beginning", .ref st), ("draft", .ref dr)] : List (Str × V))) p = some (.ins C.T dx ([("beginning", .ref st), ("draft", .ref dr)] : List (Str × V))) := upd_same
    generalize hG3 : upd H2 p (.ins C.T dx ([("beginning", .ref st), ("draft", .ref dr)] : List (Str × V))) = H3 at b3 b23 f3 hp3 ⊢
    refine ⟨small_le (m := 100) (by simp), fun sv n4 => ?_⟩
    have s4 := same_upd (o := .lst []) n4
    refine ⟨_, rfl, p, C.T, dx, _, rfl, s4 _ _ hp3, T.cl, T.nS, (by show 2 < 1000; decide), ?_⟩
    rw [tF_n3]
    have nsp : sv ≠ p := fun z => by rw [z, hp3] at n4; cases n4
    have b5 : But p H3 (upd (upd H3 sv (.lst [])) p (.ins C.T dx ([("beginning", .ref st), ("draft", .ref dr), ("savepoints", .ref sv)] : List (Str × V)))) := (But.of s4).trans But.upd
    have hsv5 : upd (upd H3 sv (.lst [])) p (.ins C.T dx ([("beginning", .ref st), ("draft", .ref dr), ("savepoints", .ref sv)] : List (Str × V))) sv = some (.lst []) := by rw [upd_ne nsp]; exact upd_same
    have f5 : ∀ b, upd (upd H3 sv (.lst [])) p (.ins C.T dx ([("beginning", .ref st), ("draft", .ref dr), ("savepoints", .ref sv)] : List (Str × V))) b = none → H3 b = none := fun b e => by
      by_cases c : b = p
      · subst c; rw [upd_same] at e; cases e
      · rw [upd_ne c] at e; exact s4.free e
    have hp5 : upd (upd H3 sv (.lst [])) p (.ins C.T dx ([("beginning", .ref st), ("draft", .ref dr), ("savepoints", .ref sv)] : List (Str × V))) p = some (.ins C.T dx ([("beginning", .ref st), ("draft", .ref dr), ("savepoints", .ref sv)] : List (Str × V))) := upd_same
    generalize hG5 : upd (upd H3 sv (.lst [])) p (.ins C.T dx ([("beginning", .ref st), ("draft", .ref dr), ("savepoints", .ref sv)] : List (Str × V))) = H5 at b5 hsv5 f5 hp5 ⊢
    intro lk ldx nlk nldx neld
    refine ⟨lk, ldx, rfl, upd_same, fun H6 sk str nsk nstr nss hlk6 hsk6 hstr6 b6 => ⟨rfl, ?_⟩⟩
    have s56 := mk_same nlk nldx b6
    refine ⟨_, rfl, p, C.T, dx, _, rfl, s56 _ _ hp5, T.cl, T.nL, (by show 3 < 1000; decide), ?_⟩
    rw [tF_n4]
    -- the end
    have nlkp : lk ≠ p := fun z => by rw [z, hp5] at nlk; cases nlk
    have hsk0 : H5 sk = none := by
      have z1 : sk ≠ lk := fun z => by rw [z, upd_same] at nsk; cases nsk
      rw [upd_ne z1] at nsk
      have z2 : sk ≠ ldx := fun z => by rw [z, upd_same] at nsk; cases nsk
      rw [upd_ne z2] at nsk; exact nsk
    have hstr0 : H5 str = none := by
      have z1 : str ≠ lk := fun z => by rw [z, upd_same] at nstr; cases nstr
      rw [upd_ne z1] at nstr
      have z2 : str ≠ ldx := fun z => by rw [z, upd_same] at nstr; cases nstr
      rw [upd_ne z2] at nstr; exact nstr
    have nskp : sk ≠ p := fun z => by rw [z, hp5] at hsk0; cases hsk0
    have nstrp : str ≠ p := fun z => by rw [z, hp5] at hstr0; cases hstr0
    have nsksv : sk ≠ sv := fun z => by rw [z, hsv5] at hsk0; cases hsk0
    have nstrsv : str ≠ sv := fun z => by rw [z, hsv5] at hstr0; cases hstr0
    have nlksv : lk ≠ sv := fun z => by rw [z, hsv5] at nlk; cases nlk
    have b7 : But p H (upd H6 p (.ins C.T dx (tF st dr sv lk))) := ((b3.trans b5).trans (But.of s56)).trans But.upd
    have keep : ∀ b o, H5 b = some o → b ≠ p → upd H6 p (.ins C.T dx (tF st dr sv lk)) b = some o := fun b o e n => by rw [upd_ne n]; exact s56 _ _ e
    refine k _ b7 fun mu i g hst9 => ?_
    refine ⟨fun b => if b = p ∨ b = sv ∨ b = sk ∨ b = str then i else mu b, fun b hb n => ?_, fun b e => ?_, ?_⟩
    · show (if b = p ∨ b = sv ∨ b = sk ∨ b = str then i else mu b) = mu b
      rw [if_neg]
      rintro (z | z | z | z)
      · exact n z
      · rw [z] at hb; exact hb (f3 _ n4)
      · rw [z] at hb; exact hb (f3 _ (f5 _ hsk0))
      · rw [z] at hb; exact hb (f3 _ (f5 _ hstr0))
    · have n1 : b ≠ p := fun z => by rw [z, upd_same] at e; cases e
      have e' := e
      rw [upd_ne n1] at e'
      show (if b = p ∨ b = sv ∨ b = sk ∨ b = str then i else mu b) = 9
      rw [if_neg]
      · exact g b (f3 b (f5 b (s56.free e')))
      · rintro (z | z | z | z)
        · exact n1 z
        · rw [z, s56 _ _ hsv5] at e'; cases e'
        · rw [z, hsk6] at e'; cases e'
        · rw [z, hstr6] at e'; cases e'
    · have m9 : ∀ b, mu b = 9 → b ≠ p → b ≠ sv → b ≠ sk → b ≠ str → (if b = p ∨ b = sv ∨ b = sk ∨ b = str then i else mu b) = 9 := fun b e a1 a2 a3 a4 => by
        rw [if_neg]
        · exact e
        · rintro (z | z | z | z)
          · exact a1 z
          · exact a2 z
          · exact a3 z
          · exact a4 z
      obtain ⟨xs, hx, hpx⟩ := hm
      have nstp : st ≠ p := fun z => by rw [z, hp] at hx; cases hx
      have hst3 : H3 st = some (.lst xs) := b3 _ _ hx nstp
      have hst5 : H5 st = some (.lst xs) := b5 _ _ hst3 nstp
      have nstsv : st ≠ sv := fun z => by rw [z, n4] at hst3; cases hst3
      have nstsk : st ≠ sk := fun z => by rw [z, hsk0] at hst5; cases hst5
      have nststr : st ≠ str := fun z => by rw [z, hstr0] at hst5; cases hst5
      have ts : TS H (upd H6 p (.ins C.T dx (tF st dr sv lk))) := b7.ts hp
      refine ⟨dx, st, dr, sv, lk, [], upd_same, if_pos (.inl rfl), ⟨xs, keep _ _ hst5 nstp, paired_map (fun _ _ => Pr.ts sb_tb ts) hpx⟩, m9 st hst9 nstp nstsv nstsk nststr, ?_, keep _ _ hsv5 nsp, if_pos (.inr (.inl rfl)), .nil, ?_, TOk.begin_ hs hz hv⟩
      · -- the draft
        have g1 : Gh mu H1 := fun b e => g b (f1 b e)
        obtain ⟨dx', ca, ra, ea, cs, q1, q2, q3, q4, q5, ⟨ys, q6, q6b⟩, q7⟩ := hd2 mu g1
        have nep : ea ≠ p := fun z => by rw [z, s2 _ _ hp1] at q6; cases q6
        have qd3 := b23 _ _ q1 ndp
        have qd5 := b5 _ _ qd3 ndp
        have qe3 := b23 _ _ q6 nep
        have qe5 := b5 _ _ qe3 nep
        have ts2 : TS H2 (upd H6 p (.ins C.T dx (tF st dr sv lk))) := fun b zs e => by
          have n : b ≠ p := fun z => by rw [z, s2 _ _ hp1] at e; cases e
          exact keep _ _ (b5 _ _ (b23 _ _ e n) n) n
        refine ⟨dx', ca, ra, ea, cs, keep _ _ qd5 ndp, m9 dr q2 ndp (fun z => by rw [z, n4] at qd3; cases qd3) (fun z => by rw [z, hsk0] at qd5; cases qd5) (fun z => by rw [z, hstr0] at qd5; cases qd5), ts2 _ _ q3, q4.ts ts2, ts2 _ _ q5, ⟨ys, keep _ _ qe5 nep, paired_map (fun _ _ => Pr.ts sb_ch ts2) q6b⟩, m9 ea q7 nep (fun z => by rw [z, n4] at qe3; cases qe3) (fun z => by rw [z, hsk0] at qe5; cases qe5) (fun z => by rw [z, hstr0] at qe5; cases qe5)⟩
      · -- the looks
        refine ⟨ldx, sk, str, ?_, m9 lk (g lk (f3 _ (f5 _ nlk))) nlkp nlksv (fun z => by rw [← z, upd_same] at nsk; cases nsk) (fun z => by rw [← z, upd_same] at nstr; cases nstr), ?_, if_pos (.inr (.inr (.inl rfl))), ⟨[], ?_, .nil⟩, if_pos (.inr (.inr (.inr rfl)))⟩
        · rw [upd_ne nlkp]; exact hlk6
        · rw [upd_ne nskp]; exact hsk6
        · rw [upd_ne nstrp]; exact hstr6
end
end Ks
namespace Ks
open PySem PySem.Spec PyProof.Rows L2
def Byt (l : List Nat) : Prop := ∀ x ∈ l, x < 256
theorem all_byt {l : List Nat} (h : Byt l) : (l.all fun x => decide (x < 256)) = true := List.all_eq_true.mpr fun x hx => decide_eq_true (h x hx)
theorem isKey_ok {l : List Nat} (h : Byt l) : Gv05.isKey l = okK l := by
  unfold Gv05.isKey okK
  rw [all_byt h, Bool.and_true]; rfl
theorem isValue_ok {l : List Nat} (h : Byt l) : Gv05.isValue l = okV l := by
  unfold Gv05.isValue okV
  rw [all_byt h, Bool.and_true]; rfl
theorem isPlace_ok {l : List Nat} (h : Byt l) : Gv05.isPlace l = okP l := by
  unfold Gv05.isPlace
  rw [isKey_ok h]
  unfold okK okP
  cases l with
  | nil => rfl
  | cons x l => simp
section
variable (P : Program) (w : World) (K : PySem.W.Frag) (C : Cs)
/-- how a step comes back -/
def Ret (mu : Mu) (i : Nat) (H : Hp) (a : Addr) (r : TM × Gv05.Ans) (Q : VK) : Prop := ∀ mu' H' p, H p = none → MuE H mu mu' → Gh mu' H' → Kp mu i H H' → Tx P w K C mu' i H' a r.1 → H' p = some (.lst ((encA r.2).map V.int)) → Q (.ref p) H'
end
section
variable {P : Program} {w : World} {K : PySem.W.Frag} {C : Cs} {mu mu' : Mu} {i : Nat} {H H1 : Hp} {a : Addr} {Q : VK}
theorem Ret.only {t : TM} {n : Int} (R : Ret P w K C mu i H a (t, Gv05.only n) Q) (e : MuE H mu mu') (g : Gh mu' H1) (k : Kp mu i H H1) (x : Tx P w K C mu' i H1 a t) (p : Addr) (hp : H1 p = none) : Q (.ref p) (upd H1 p (.lst [.int n, .int 0])) :=
  R mu' _ p (k.dm p hp) e (g.same (same_upd hp)) (k.trans (Kp.of (same_upd hp))) (x.same (same_upd hp)) upd_same
theorem Ret.bare {t : TM} {n : Int} (R : Ret P w K C mu i H a (t, Gv05.only n) Q) (g : Gh mu H) (x : Tx P w K C mu i H a t) (p : Addr) (hp : H p = none) : Q (.ref p) (upd H p (.lst [.int n, .int 0])) :=
  R.only (MuE.refl H mu) g (Kp.of (Same.refl H)) x p hp
theorem Tx.look {t : TM} {x : Gv05.Look} {dx st dr sv lk : Addr} (h : Tx P w K C mu i H a t) (hi : i ≠ 9) (ha : H a = some (.ins C.T dx (tF st dr sv lk))) (kp : Kp mu i H H1) (kd : Kd H H1) (hl : Lk P w K C.L mu i H1 lk (lookedL t.looks x)) (ok : TOk (t.looked x)) : Tx P w K C mu i H1 a (t.looked x) := by
  obtain ⟨dx', st', dr', sv', lk', svs, h1, h2, h3, h4, h5, h6, h7, h8, h9, h10⟩ := h
  rw [h1] at ha
  injection ha with ha
  injection ha with _ _ ha
  injection ha with a1 ha
  injection ha with a2 ha
  injection ha with a3 ha
  injection ha with a4 _
  injection a4 with _ a4
  injection a4 with a4
  subst a4
  have im := kp.im hi
  rw [looked_is] at ok ⊢
  exact ⟨dx', st', dr', sv', lk', svs, kd _ _ h1 (by intro _ z; cases z) (by intro _ z; cases z), h2, h3.stay sb_tb kp.ts (fun o e => im.im _ _ e h4), h4, h5.im im, kd _ _ h6 (by intro _ z; cases z) (by intro _ z; cases z), h7, paired_map (fun _ _ ⟨d, z, y⟩ => ⟨d, z, y.im im⟩) h8, hl, ok⟩
theorem ints_v (l : List Nat) : (Gv05Neutral.ints l).map V.int = vN l := by
  unfold Gv05Neutral.ints vN
  rw [List.map_map]; rfl
theorem ansO_enc (o : Option (List Nat)) : (encA (ansO o)).map V.int = ansV o := by
  cases o with
  | none => rfl
  | some l =>
    show V.int (l.length : Int) :: V.int 0 :: ((Gv05Neutral.ints [] ++ Gv05Neutral.ints l).map V.int) = _
    rw [show Gv05Neutral.ints [] = [] from rfl, List.nil_append, ints_v]; rfl
end
section
variable {P : Program} {w : World} {K : PySem.W.Frag} {mg : Str → Option Value} {base : Heap} {C : Cs}
/-! value_seen -/
def sp_seen (P : Program) (w : World) (K : PySem.W.Frag) (C : Cs) : Sp := fun vs H Q _ => ∃ (mu : Mu) (i : Nat) (a b : Addr) (t : TM) (k : List Nat), vs = [.ref a, .ref b] ∧ Tx P w K C mu i H a t ∧ Tb H b k ∧
  ∀ H' r, Same H H' → Tv H' r (seen t k) → Q r H'
theorem d_seen (T : TTxt K mg C.T) (D : MSrc K C.T "value_seen" "Transaction.value_seen" s_Transaction_value_seen ["self", "key"]) (A1 : DefOk P w K mg base CX0 5 "value_by" (sp_by C.D)) (A2 : DefOk P w K mg base CX0 2 "value_at" (sp_valueAt Tb)) :
    MethOk P w K mg base CX0 6 C.T "value_seen" (sp_seen P w K C) := by
  refine D.ok sc_Transaction_value_seen (fun vs H Q E h => ?_) (fun f cdv A outer s H vs Q E hr h => ⟨_,
      pss_one (ps_ret (pe_cl A1 hr pass0 (pa_cons (pe_fld (pv 0) rfl) (pa_cons (pv 1) (pa_cons (pe_cl A2 (hr.mono (by decide)) pass0 (pa_cons (pe_fld (pv 0) rfl) (pa_cons (pv 1) pa_nil))) pa_nil))))), ?_⟩)
  · obtain ⟨mu, i, a, b, t, k, rfl, _⟩ := h
    rfl
  · obtain ⟨mu, i, a, b, t, k, rfl, ⟨dx, st, dr, sv, lk, svs, h1, h2, h3, h4, h5, h6, h7, h8, h9, h10⟩, hb, q⟩ := h
    refine ⟨_, rfl, a, C.T, dx, _, _, rfl, h1, T.cl, T.nD, tF_d st dr sv lk, _, rfl, _, rfl, a, C.T, dx, _, _, rfl, h1, T.cl, T.nB, tF_b st dr sv lk, _, rfl, st, b, t.root, k, rfl, h3, h10.srt, hb, fun r hr => ?_⟩
    exact ⟨mu, dr, b, r, t.list, k, _, rfl, h5, hb, hr.tv, q⟩
/-! get -/
def sp_get (P : Program) (w : World) (K : PySem.W.Frag) (C : Cs) : Sp := fun vs H Q _ => ∃ (mu : Mu) (i : Nat) (a b : Addr) (t : TM) (k : List Nat), vs = [.ref a, .ref b] ∧ i ≠ 9 ∧ Gh mu H ∧ Tx P w K C mu i H a t ∧ Tb H b k ∧ Byt k ∧
  Ret P w K C mu i H a (stepP t (.get k)) Q
theorem d_get (T : TTxt K mg C.T) (TL : LTxt K mg C.L) (D : MSrc K C.T "get" "Transaction.get" s_Transaction_get ["self", "key"]) (cW : GI mg "WRONG" (-1)) (cF : GI mg "FULL" (-5)) (A1 : DefOk P w K mg base CX0 1 "is_key" sp_isKey) (A2 : DefOk P w K mg base CX0 1 "reply" sp_reply)
    (A3 : DefOk P w K mg base CX0 3 "is_settled" (sp_settled C.D)) (M1 : MethOk P w K mg base CX0 1 C.L "has_room" (sp_room P w K C.L)) (M2 : MethOk P w K mg base CX0 1 C.L "look_at_key" (sp_lookKey P w K C.L)) (M3 : MethOk P w K mg base CX0 6 C.T "value_seen" (sp_seen P w K C)) (A4 : DefOk P w K mg base CX0 2 "value_reply" sp_valueReply) :
    MethOk P w K mg base CX0 7 C.T "get" (sp_get P w K C) := by
  refine D.ok sc_Transaction_get (fun vs H Q E h => ?_) (fun f cdv A outer s H vs Q E hr h => ⟨_,
      pss_cons (ps_if (pt_not (pt_val (pe_cl A1 (hr.mono (by decide)) pass0 (pa_cons (pv 1) pa_nil)))) (pss_one (ps_ret (pe_cl A2 (hr.mono (by decide)) pass0 (pa_cons (pe_gi cW) pa_nil)))) pss_nil)
      (C8.pss_cut (ps_if (pt_not (pt_val (pe_cl A3 (hr.mono (by decide)) pass0 (pa_cons (pe_fld (pv 0) rfl) (pa_cons (pv 1) pa_nil)))))
        (pss_cons (ps_if (pt_not (pt_val (pe_mt (pe_fld (pv 0) rfl) TL.cl M1 (hr.mono (by decide)) pass0 (pa_cons pe_int pa_nil)))) (pss_one (ps_ret (pe_cl A2 (hr.mono (by decide)) pass0 (pa_cons (pe_gi cF) pa_nil)))) pss_nil)
          (pss_one (ps_expr (pe_mt (pe_fld (pv 0) rfl) TL.cl M2 (hr.mono (by decide)) pass0 (pa_cons (pv 1) pa_nil))))) pss_nil)
      (pss_one (ps_ret (pe_cl A4 (hr.mono (by decide)) pass0 (pa_cons (pe_mt (pv 0) T.cl M3 hr pass0 (pa_cons (pv 1) pa_nil)) pa_nil))))), ?_⟩)
  · obtain ⟨mu, i, a, b, t, k, rfl, _⟩ := h
    rfl
  · obtain ⟨mu, i, a, b, t, k, rfl, hi, g, hT, hb, hk, R⟩ := h
    obtain ⟨dx, st, dr, sv, lk, svs, h1, h2, h3, h4, h5, h6, h7, h8, h9, h10⟩ := id hT
    have e0 : stepP t (.get k) = if Gv05.isKey k = false then (t, Gv05.only Gv05.BAD) else if Gv05.settled t.list k = false ∧ Gv05.LOOKS ≤ t.looks.length then (t, Gv05.only Gv05.FULL) else ((getP t k).1, ansO (getP t k).2) := rfl
    rw [e0, isKey_ok hk] at R
    refine ⟨_, rfl, b, k, rfl, hb, _, rfl, iteBN (fun c => ?_) (fun c => ?_)⟩
    · rw [if_pos c] at R
      exact ⟨-1, rfl, R.bare g hT⟩
    · rw [if_neg (by rw [c]; decide)] at R
      have es : (getP t k).2 = seen t k := by unfold getP; split <;> rfl
      refine ⟨fun σ H1 => σ = [some (.ref a), some (.ref b)] ∧ Kp mu i H H1 ∧ Tx P w K C mu i H1 a (getP t k).1 ∧ ¬ (Gv05.settled t.list k = false ∧ Gv05.LOOKS ≤ t.looks.length), ?_, ?_⟩
      · refine ⟨_, rfl, a, C.T, dx, _, _, rfl, h1, T.cl, T.nD, tF_d st dr sv lk, _, rfl, mu, dr, b, t.list, k, rfl, h5, hb, _, rfl, iteBN (fun c2 => ?_) (fun c2 => ?_)⟩
        · obtain ⟨ldx, sk, str, l1, l2, l3, l4, l5, l6⟩ := id h9
          refine ⟨_, rfl, a, C.T, dx, _, _, rfl, h1, T.cl, T.nL, tF_l st dr sv lk, lk, ldx, _, rfl, l1, lF_no (by decide +kernel) (by decide +kernel) sk str, mu, i, lk, 1, t.looks, rfl, h9, _, rfl, iteDN (fun c3 => ?_) (fun c3 => ?_)⟩
          · rw [if_pos ⟨c2, show 1000 ≤ t.looks.length by omega⟩] at R
            exact ⟨-5, rfl, R.bare g hT⟩
          · have c4 : t.looks.length < 1000 := by omega
            refine ⟨_, rfl, a, C.T, dx, _, _, rfl, h1, T.cl, T.nL, tF_l st dr sv lk, lk, ldx, _, rfl, l1, lF_no (by decide +kernel) (by decide +kernel) sk str, _, rfl, mu, i, lk, b, k, t.looks, rfl, hi, h9, hb, by omega, fun H1 kp kd hl1 => ?_⟩
            refine ⟨rfl, kp, ?_, fun z => by have : (1000 : Nat) ≤ t.looks.length := z.2; omega⟩
            have eg : (getP t k).1 = t.looked (.key k) := by unfold getP; rw [if_neg (by rw [c2]; decide)]
            rw [eg]
            exact hT.look hi h1 kp kd hl1 (h10.looked _ c4)
        · refine ⟨rfl, Kp.of (Same.refl H), ?_, fun z => by rw [c2] at z; cases z.1⟩
          have eg : (getP t k).1 = t := by unfold getP; rw [if_pos c2]
          rw [eg]; exact hT
      · rintro σ H1 ⟨rfl, kp, hT1, hn⟩
        rw [if_neg hn, es] at R
        obtain ⟨dx1, st1, dr1, sv1, lk1, svs1, g1, _⟩ := id hT1
        refine ⟨_, rfl, a, dx1, _, rfl, g1, tF_no _ _ _ _ (by decide +kernel) (by decide +kernel) (by decide +kernel) (by decide +kernel), _, rfl, mu, i, a, b, _, k, rfl, hT1, kp.ts _ _ hb, fun H2 r s2 hr2 => ?_⟩
        have es2 : seen (getP t k).1 k = seen t k := by
          unfold getP
          split
          · rfl
          · unfold seen; rw [looked_list, looked_root]
        rw [es2] at hr2
        refine ⟨r, seen t k, rfl, hr2, fun l hl => Nat.le_trans (h10.seen k l hl) (by decide), fun H3 p s3 n3 hp => ?_⟩
        refine R mu H3 p (kp.dm p (s2.free n3)) (MuE.refl H mu) ((g.kp kp).same (Same.trans s2 s3)) (kp.trans (Kp.of (Same.trans s2 s3))) (hT1.same (Same.trans s2 s3)) ?_
        rw [ansO_enc]; exact hp
end
end Ks
namespace Ks
open PySem PySem.Spec PyProof.Rows L2
theorem Lk.kept {P : Program} {w : World} {K : PySem.W.Frag} {C : Addr} {mu : Mu} {i : Nat} {H H' : Hp} (im : Im mu H H') (k2 : ∀ b kvs, H b = some (.dT kvs) → H' b = some (.dT kvs)) (k3 : ∀ b φ, H b = some (.ext φ) → H' b = some (.ext φ)) {a : Addr} {lk : List Gv05.Look} (h : Lk P w K C mu i H a lk) : Lk P w K C mu i H' a lk := by
  obtain ⟨dx, sk, st, h1, h2, h3, h4, ⟨xs, h5, h5b⟩, h6⟩ := h
  exact ⟨dx, sk, st, im.im _ _ h1 h2, h2, k2 _ _ h3, h4, ⟨xs, k3 _ _ h5, paired_map (fun _ _ => SdR.ts im.ts) h5b⟩, h6⟩
theorem sv_take {C : Addr} {mu : Mu} {H H' : Hp} (im : Im mu H H') {l l' : List Gv05.Change} {svs : List V} {ns : List Nat} (h : Paired (SvR C mu H l) svs ns) (e : ∀ n ∈ ns, l'.take n = l.take n) : Paired (SvR C mu H' l') svs ns := by
  induction h with
  | nil => exact .nil
  | @cons v n vs ns r t ih =>
    refine .cons ?_ (ih fun m hm => e m (List.mem_cons_of_mem _ hm))
    obtain ⟨d, ed, hd⟩ := r
    refine ⟨d, ed, ?_⟩
    rw [e n List.mem_cons_self]
    exact hd.im im
section
variable {P : Program} {w : World} {K : PySem.W.Frag} {mg : Str → Option Value} {base : Heap} {C : Cs}
/-! change_more -/
def sp_more (P : Program) (w : World) (K : PySem.W.Frag) (C : Cs) : Sp := fun vs H Q _ => ∃ (mu : Mu) (i : Nat) (a b : Addr) (t : TM) (c : Gv05.Change), vs = [.ref a, .ref b] ∧ i ≠ 9 ∧ Gh mu H ∧ Tx P w K C mu i H a t ∧ Ch H b c ∧ okC c ∧
  Ret P w K C mu i H a (t.changed c) Q
theorem d_more (T : TTxt K mg C.T) (TD : DTxt K mg C.D) (D : MSrc K C.T "change_more" "Transaction.change_more" s_Transaction_change_more ["self", "change"]) (hL : mg "len" = none) (c4 : GI mg "LONGEST_RECORD" 4000) (cF : GI mg "FULL" (-5)) (cD : GI mg "DONE" 0)
    (A1 : DefOk P w K mg base CX0 7 "draft_with" (sp_draftWith C.D)) (A2 : DefOk P w K mg base CX0 1 "reply" sp_reply) : MethOk P w K mg base CX0 8 C.T "change_more" (sp_more P w K C) := by
  refine D.ok sc_Transaction_change_more (fun vs H Q E h => ?_) (fun f cdv A outer s H vs Q E hr h => ⟨_,
      pss_cons (ps_set (i := 2) sc_Transaction_change_more.nd rfl (.inl rfl) (pe_cl A1 hr pass0 (pa_cons (pe_fld (pv 0) rfl) (pa_cons (pv 1) pa_nil))))
      (pss_cons (ps_if (pt_cmpR op_gt (pe_callB call_len (by rfl) hL PySem.boot_len (pa_cons (pe_fld (pv 2) rfl) pa_nil)) (pe_gi c4) (nomark _)) (pss_one (ps_ret (pe_cl A2 (hr.mono (by decide)) pass0 (pa_cons (pe_gi cF) pa_nil)))) pss_nil)
      (pss_cons (ps_fld (pv 0) (pv 2) rfl)
      (pss_one (ps_ret (pe_cl A2 (hr.mono (by decide)) pass0 (pa_cons (pe_gi cD) pa_nil)))))), ?_⟩)
  · obtain ⟨mu, i, a, b, t, c, rfl, _⟩ := h
    rfl
  · obtain ⟨mu, i, a, b, t, c, rfl, hi, g, hT, hc, oc, R⟩ := h
    obtain ⟨dx, st, dr, sv, lk, svs, h1, h2, h3, h4, h5, h6, h7, h8, h9, h10⟩ := id hT
    refine ⟨_, rfl, a, C.T, dx, _, _, rfl, h1, T.cl, T.nD, tF_d st dr sv lk, _, rfl, mu, dr, b, t.list, c, rfl, g, h5, hc, oc, h10.list, h10.rec_, fun H1 p s1 np hd => ?_⟩
    obtain ⟨dx2, ca, ra, ea, cs, q1, q2, q3, q4, q5, q6, q7⟩ := id hd
    have e0 : t.changed c = if Gv05.RECORD < (Gv05.record (t.list ++ [c])).length then (t, Gv05.only Gv05.FULL) else ({ t with list := t.list ++ [c] }, Gv05.only 0) := rfl
    rw [e0] at R
    refine ⟨_, rfl, p, C.D, dx2, _, _, rfl, q1, TD.cl, TD.nR, dF_r ca ra ea, _, _, rfl, .inr ⟨_, SqT.of q5, rfl⟩, _, _, rfl, rfl, _, rfl, iteD (fun z => ?_) (fun z => ?_)⟩
    · rw [vN_len] at z
      have z' : Gv05.RECORD < (Gv05.record (t.list ++ [c])).length := by show 4000 < _; omega
      rw [if_pos z'] at R
      exact ⟨-5, rfl, R.only (MuE.refl H mu) (g.same s1) (Kp.of s1) (hT.same s1)⟩
    · rw [vN_len] at z
      have z' : ¬ (Gv05.RECORD < (Gv05.record (t.list ++ [c])).length) := by show ¬ (4000 < _); omega
      have z2 : (Gv05.record (t.list ++ [c])).length ≤ 4000 := by omega
      rw [if_neg z'] at R
      have h1' := s1 _ _ h1
      refine ⟨_, rfl, _, rfl, a, C.T, dx, _, rfl, h1', T.cl, T.nD, (by show 4 < 1000; decide), ?_⟩
      rw [tF_putd]
      have kp : Kp mu i H (upd H1 a (.ins C.T dx (tF st p sv lk))) := (Kp.of s1).trans (Kp.upd h1' (by intro xs e; cases e) h2)
      have kp1 : Kp mu i H1 (upd H1 a (.ins C.T dx (tF st p sv lk))) := Kp.upd h1' (by intro xs e; cases e) h2
      have im := kp.im hi
      have hT' : Tx P w K C mu i (upd H1 a (.ins C.T dx (tF st p sv lk))) a { t with list := t.list ++ [c] } := by
        refine ⟨dx, st, p, sv, lk, svs, upd_same, h2, h3.stay sb_tb kp.ts (fun o e => im.im _ _ e h4), h4, hd.im (kp1.im hi), ?_, h7, sv_take im h8 (fun n hn => ?_), h9.kept im ?_ ?_, h10.more oc z2⟩
        · rw [upd_ne (ne_of h6 h1 (by intro z; cases z))]; exact s1 _ _ h6
        · have := h10.sle n hn
          exact List.take_append_of_le_length this
        · intro b' kvs e
          rw [upd_ne (ne_of e h1 (by intro z; cases z))]; exact s1 _ _ e
        · intro b' φ e
          rw [upd_ne (ne_of e h1 (by intro z; cases z))]; exact s1 _ _ e
      exact ⟨0, rfl, R.only (MuE.refl H mu) (g.kp kp) kp hT'⟩
/-! put, remove, add -/
def sp_put (P : Program) (w : World) (K : PySem.W.Frag) (C : Cs) : Sp := fun vs H Q _ => ∃ (mu : Mu) (i : Nat) (a b c : Addr) (t : TM) (k v : List Nat), vs = [.ref a, .ref b, .ref c] ∧ i ≠ 9 ∧ Gh mu H ∧ Tx P w K C mu i H a t ∧ Tb H b k ∧ Byt k ∧ Tb H c v ∧ Byt v ∧
  Ret P w K C mu i H a (stepP t (.put k v)) Q
theorem okK_le {k : List Nat} (h : okK k = true) : k.length ≤ 64 := by
  unfold okK at h
  simp at h
  omega
theorem d_put (T : TTxt K mg C.T) (D : MSrc K C.T "put" "Transaction.put" s_Transaction_put ["self", "key", "value"]) (cW : GI mg "WRONG" (-1)) (c1 : GI mg "PUT" 1) (A1 : DefOk P w K mg base CX0 1 "is_key" sp_isKey) (A3 : DefOk P w K mg base CX0 1 "is_value" sp_isValue) (A2 : DefOk P w K mg base CX0 1 "reply" sp_reply)
    (M : MethOk P w K mg base CX0 8 C.T "change_more" (sp_more P w K C)) : MethOk P w K mg base CX0 9 C.T "put" (sp_put P w K C) := by
  refine D.ok sc_Transaction_put (fun vs H Q E h => ?_) (fun f cdv A outer s H vs Q E hr h => ⟨_,
      pss_cons (ps_if (pt_not (PW.pt (pw_and (pt_val (pe_cl A1 (hr.mono (by decide)) pass0 (pa_cons (pv 1) pa_nil))) (pw_and1 (pt_val (pe_cl A3 (hr.mono (by decide)) pass0 (pa_cons (pv 2) pa_nil))))))) (pss_one (ps_ret (pe_cl A2 (hr.mono (by decide)) pass0 (pa_cons (pe_gi cW) pa_nil)))) pss_nil)
      (pss_one (ps_ret (pe_mt (pv 0) T.cl M hr pass0 (pa_cons (pe_tup (pa_cons (pe_gi c1) (pa_cons (pv 1) (pa_cons (pv 2) pa_nil)))) pa_nil)))), ?_⟩)
  · obtain ⟨mu, i, a, b, c, t, k, v, rfl, _⟩ := h
    rfl
  · obtain ⟨mu, i, a, b, c, t, k, v, rfl, hi, g, hT, hb, hk, hc, hv, R⟩ := h
    obtain ⟨dx, st, dr, sv, lk, svs, h1, _⟩ := id hT
    have e0 : stepP t (.put k v) = if Gv05.isKey k = false ∨ Gv05.isValue v = false then (t, Gv05.only Gv05.BAD) else t.changed (.put k v) := rfl
    rw [e0, isKey_ok hk, isValue_ok hv] at R
    have bad : okK k = false ∨ okV v = false → ∀ p, H p = none → Q (.ref p) (upd H p (.lst [.int (-1), .int 0])) := fun z => by
      rw [if_pos z] at R
      exact R.bare g hT
    refine ⟨_, rfl, b, k, rfl, hb, _, rfl, iteB (fun c1 => ?_) (fun c1 => ?_)⟩
    · refine ⟨_, rfl, c, v, rfl, hc, _, rfl, iteBN (fun c2 => ?_) (fun c2 => ?_)⟩
      · exact ⟨-1, rfl, bad (.inr c2)⟩
      · rw [if_neg (by rw [c1, c2]; simp)] at R
        have lk' := okK_le c1
        have lv : v.length ≤ 300 := of_decide_eq_true c2
        refine ⟨_, rfl, a, dx, _, rfl, h1, tF_no _ _ _ _ (by decide +kernel) (by decide +kernel) (by decide +kernel) (by decide +kernel), _, rfl, _, rfl, small_le (m := 100) (by simp), fun p hp => ?_⟩
        have s1 := same_upd (o := .tup [.int 1, .ref b, .ref c]) hp
        refine ⟨mu, i, a, p, t, .put k v, rfl, hi, g.same s1, hT.same s1, ⟨b, .ref c, upd_same, s1 _ _ hb, c, rfl, s1 _ _ hc⟩, ⟨lk', lv⟩, fun mu' H' p' n' e g' kp hx hp' => ?_⟩
        exact R mu' H' p' (s1.free n') (fun b' hb' => e b' (fun z => hb' (s1.free z))) g' ((Kp.of s1).trans kp) hx hp'
    · exact iteBN (fun _ => ⟨-1, rfl, bad (.inl c1)⟩) (fun z => nomatch z)
def sp_rem (P : Program) (w : World) (K : PySem.W.Frag) (C : Cs) : Sp := fun vs H Q _ => ∃ (mu : Mu) (i : Nat) (a b : Addr) (t : TM) (k : List Nat), vs = [.ref a, .ref b] ∧ i ≠ 9 ∧ Gh mu H ∧ Tx P w K C mu i H a t ∧ Tb H b k ∧ Byt k ∧
  Ret P w K C mu i H a (stepP t (.remove k)) Q
theorem d_rem (T : TTxt K mg C.T) (D : MSrc K C.T "remove" "Transaction.remove" s_Transaction_remove ["self", "key"]) (cW : GI mg "WRONG" (-1)) (c2 : GI mg "REMOVE" 2) (A1 : DefOk P w K mg base CX0 1 "is_key" sp_isKey) (A2 : DefOk P w K mg base CX0 1 "reply" sp_reply)
    (M : MethOk P w K mg base CX0 8 C.T "change_more" (sp_more P w K C)) : MethOk P w K mg base CX0 9 C.T "remove" (sp_rem P w K C) := by
  refine D.ok sc_Transaction_remove (fun vs H Q E h => ?_) (fun f cdv A outer s H vs Q E hr h => ⟨_,
      pss_cons (ps_if (pt_not (pt_val (pe_cl A1 (hr.mono (by decide)) pass0 (pa_cons (pv 1) pa_nil)))) (pss_one (ps_ret (pe_cl A2 (hr.mono (by decide)) pass0 (pa_cons (pe_gi cW) pa_nil)))) pss_nil)
      (pss_one (ps_ret (pe_mt (pv 0) T.cl M hr pass0 (pa_cons (pe_tup (pa_cons (pe_gi c2) (pa_cons (pv 1) (pa_cons pe_non pa_nil)))) pa_nil)))), ?_⟩)
  · obtain ⟨mu, i, a, b, t, k, rfl, _⟩ := h
    rfl
  · obtain ⟨mu, i, a, b, t, k, rfl, hi, g, hT, hb, hk, R⟩ := h
    obtain ⟨dx, st, dr, sv, lk, svs, h1, _⟩ := id hT
    have e0 : stepP t (.remove k) = if Gv05.isKey k = false then (t, Gv05.only Gv05.BAD) else t.changed (.remove k) := rfl
    rw [e0, isKey_ok hk] at R
    refine ⟨_, rfl, b, k, rfl, hb, _, rfl, iteBN (fun c1 => ?_) (fun c1 => ?_)⟩
    · rw [if_pos c1] at R
      exact ⟨-1, rfl, R.bare g hT⟩
    · rw [if_neg (by rw [c1]; decide)] at R
      refine ⟨_, rfl, a, dx, _, rfl, h1, tF_no _ _ _ _ (by decide +kernel) (by decide +kernel) (by decide +kernel) (by decide +kernel), _, rfl, small_le (m := 100) (by simp), fun p hp => ?_⟩
      have s1 := same_upd (o := .tup [.int 2, .ref b, .non]) hp
      refine ⟨mu, i, a, p, t, .remove k, rfl, hi, g.same s1, hT.same s1, ⟨b, .non, upd_same, s1 _ _ hb, rfl⟩, okK_le c1, fun mu' H' p' n' e g' kp hx hp' => ?_⟩
      exact R mu' H' p' (s1.free n') (fun b' hb' => e b' (fun z => hb' (s1.free z))) g' ((Kp.of s1).trans kp) hx hp'
def sp_addT (P : Program) (w : World) (K : PySem.W.Frag) (C : Cs) : Sp := fun vs H Q _ => ∃ (mu : Mu) (i : Nat) (a b : Addr) (t : TM) (k : List Nat) (n : Int), vs = [.ref a, .ref b, .int n] ∧ i ≠ 9 ∧ Gh mu H ∧ Tx P w K C mu i H a t ∧ Tb H b k ∧ Byt k ∧ Gv05.wrap n = n ∧
  Ret P w K C mu i H a (stepP t (.add k n)) Q
theorem d_addT (T : TTxt K mg C.T) (D : MSrc K C.T "add" "Transaction.add" s_Transaction_add ["self", "key", "number"]) (cW : GI mg "WRONG" (-1)) (c3 : GI mg "ADD" 3) (A1 : DefOk P w K mg base CX0 1 "is_key" sp_isKey) (A3 : DefOk P w K mg base CX0 1 "is_number" sp_isNumber) (A2 : DefOk P w K mg base CX0 1 "reply" sp_reply)
    (M : MethOk P w K mg base CX0 8 C.T "change_more" (sp_more P w K C)) : MethOk P w K mg base CX0 9 C.T "add" (sp_addT P w K C) := by
  refine D.ok sc_Transaction_add (fun vs H Q E h => ?_) (fun f cdv A outer s H vs Q E hr h => ⟨_,
      pss_cons (ps_if (pt_not (PW.pt (pw_and (pt_val (pe_cl A1 (hr.mono (by decide)) pass0 (pa_cons (pv 1) pa_nil))) (pw_and1 (pt_val (pe_cl A3 (hr.mono (by decide)) pass0 (pa_cons (pv 2) pa_nil))))))) (pss_one (ps_ret (pe_cl A2 (hr.mono (by decide)) pass0 (pa_cons (pe_gi cW) pa_nil)))) pss_nil)
      (pss_one (ps_ret (pe_mt (pv 0) T.cl M hr pass0 (pa_cons (pe_tup (pa_cons (pe_gi c3) (pa_cons (pv 1) (pa_cons (pv 2) pa_nil)))) pa_nil)))), ?_⟩)
  · obtain ⟨mu, i, a, b, t, k, n, rfl, _⟩ := h
    rfl
  · obtain ⟨mu, i, a, b, t, k, n, rfl, hi, g, hT, hb, hk, hn, R⟩ := h
    obtain ⟨dx, st, dr, sv, lk, svs, h1, _⟩ := id hT
    have e0 : stepP t (.add k n) = if Gv05.isKey k = false ∨ Gv05.wrap n ≠ n then (t, Gv05.only Gv05.BAD) else t.changed (.add k n) := rfl
    rw [e0, isKey_ok hk] at R
    refine ⟨_, rfl, b, k, rfl, hb, _, rfl, iteB (fun c1 => ?_) (fun c1 => ?_)⟩
    · rw [if_neg (by rw [c1]; simp [hn])] at R
      refine ⟨_, rfl, n, rfl, hn, _, rfl, iteBN (fun z => nomatch z) (fun _ => ?_)⟩
      refine ⟨_, rfl, a, dx, _, rfl, h1, tF_no _ _ _ _ (by decide +kernel) (by decide +kernel) (by decide +kernel) (by decide +kernel), _, rfl, _, rfl, small_le (m := 100) (by simp), fun p hp => ?_⟩
      have s1 := same_upd (o := .tup [.int 3, .ref b, .int n]) hp
      refine ⟨mu, i, a, p, t, .add k n, rfl, hi, g.same s1, hT.same s1, ⟨b, .int n, upd_same, s1 _ _ hb, rfl⟩, okK_le c1, fun mu' H' p' n' e g' kp hx hp' => ?_⟩
      exact R mu' H' p' (s1.free n') (fun b' hb' => e b' (fun z => hb' (s1.free z))) g' ((Kp.of s1).trans kp) hx hp'
    · rw [if_pos (.inl c1)] at R
      exact iteBN (fun _ => ⟨-1, rfl, R.bare g hT⟩) (fun z => nomatch z)
/-! save -/
def sp_save (P : Program) (w : World) (K : PySem.W.Frag) (C : Cs) : Sp := fun vs H Q _ => ∃ (mu : Mu) (i : Nat) (a : Addr) (t : TM), vs = [.ref a] ∧ i ≠ 9 ∧ Gh mu H ∧ Tx P w K C mu i H a t ∧ Ret P w K C mu i H a (stepP t .save) Q
theorem d_save (T : TTxt K mg C.T) (D : MSrc K C.T "save" "Transaction.save" s_Transaction_save ["self"]) (hL : mg "len" = none) (c8 : GI mg "MOST_SAVEPOINTS" 8) (cF : GI mg "FULL" (-5)) (A2 : DefOk P w K mg base CX0 1 "reply" sp_reply) : MethOk P w K mg base CX0 2 C.T "save" (sp_save P w K C) := by
  refine D.ok sc_Transaction_save (fun vs H Q E h => ?_) (fun f cdv A outer s H vs Q E hr h => ⟨_,
      pss_cons (ps_if (pt_cmpR op_eq (pe_callB call_len (by rfl) hL PySem.boot_len (pa_cons (pe_fld (pv 0) rfl) pa_nil)) (pe_gi c8) (nomark _)) (pss_one (ps_ret (pe_cl A2 hr pass0 (pa_cons (pe_gi cF) pa_nil)))) pss_nil)
      (pss_cons (ps_expr (pe_bm PySem.F.plainAttrs_list PySem.F.slot_list_append PySem.F.type_list_append mt_append (pe_fld (pv 0) rfl) (pa_cons (pe_fld (pv 0) rfl) pa_nil)))
      (pss_one (ps_ret (pe_cl A2 hr pass0 (pa_cons (pe_callB call_len (by rfl) hL PySem.boot_len (pa_cons (pe_fld (pv 0) rfl) pa_nil)) pa_nil))))), ?_⟩)
  · obtain ⟨mu, i, a, t, rfl, _⟩ := h
    rfl
  · obtain ⟨mu, i, a, t, rfl, hi, g, hT, R⟩ := h
    obtain ⟨dx, st, dr, sv, lk, svs, h1, h2, h3, h4, h5, h6, h7, h8, h9, h10⟩ := id hT
    have hl := paired_len h8
    have e0 : stepP t .save = if Gv05.SAVES ≤ t.saves.length then (t, Gv05.only Gv05.FULL) else ({ t with saves := t.saves ++ [t.list.length] }, Gv05.only (((t.saves.length + 1 : Nat) : Int))) := rfl
    rw [e0] at R
    have h8' := h10.s8
    refine ⟨_, rfl, a, C.T, dx, _, _, rfl, h1, T.cl, T.nS, tF_s st dr sv lk, _, _, rfl, .inl ⟨_, SqL.of h6, rfl⟩, rfl, _, rfl, iteD (fun c => ?_) (fun c => ?_)⟩
    · rw [int_eq] at c
      have z' : Gv05.SAVES ≤ t.saves.length := by show 8 ≤ _; omega
      rw [if_pos z'] at R
      exact ⟨-5, rfl, R.bare g hT⟩
    · rw [int_eq] at c
      have c' : t.saves.length < 8 := by omega
      have z' : ¬ Gv05.SAVES ≤ t.saves.length := by show ¬ 8 ≤ _; omega
      rw [if_neg z'] at R
      refine ⟨_, rfl, a, C.T, dx, _, _, rfl, h1, T.cl, T.nS, tF_s st dr sv lk, .inl ⟨rfl, _, SqL.of h6⟩, _, rfl, a, C.T, dx, _, _, rfl, h1, T.cl, T.nD, tF_d st dr sv lk, sv, _, _, rfl, rfl, h6, small_lt (m := 100) (by omega), ?_⟩
      have kp : Kp mu i H (upd H sv (.lst (svs ++ [.ref dr]))) := Kp.upd h6 (by intro xs e; cases e) h7
      have im := kp.im hi
      have h1' : upd H sv (.lst (svs ++ [.ref dr])) a = some (.ins C.T dx (tF st dr sv lk)) := by rw [upd_ne (ne_of h1 h6 (by intro z; cases z))]; exact h1
      have hT' : Tx P w K C mu i (upd H sv (.lst (svs ++ [.ref dr]))) a { t with saves := t.saves ++ [t.list.length] } := by
        refine ⟨dx, st, dr, sv, lk, svs ++ [.ref dr], h1', h2, h3.stay sb_tb kp.ts (fun o e => im.im _ _ e h4), h4, h5.im im, upd_same, h7, paired_app (sv_take im h8 fun _ _ => rfl) (.cons ⟨dr, rfl, ?_⟩ .nil), h9.kept im ?_ ?_, h10.save c'⟩
        · rw [List.take_length]; exact h5.im im
        · intro b' kvs e
          rw [upd_ne (ne_of e h6 (by intro z; cases z))]; exact e
        · intro b' φ e
          rw [upd_ne (ne_of e h6 (by intro z; cases z))]; exact e
      refine ⟨_, rfl, a, C.T, dx, _, _, rfl, h1', T.cl, T.nS, tF_s st dr sv lk, _, _, rfl, .inl ⟨_, SqL.of upd_same, rfl⟩, _, rfl, ?_⟩
      have e1 : ((svs ++ [V.ref dr]).length : Int) = ((t.saves.length + 1 : Nat) : Int) := by
        simp only [List.length_append, List.length_cons, List.length_nil]
        omega
      rw [e1]
      exact R.only (MuE.refl H mu) (g.kp kp) kp hT'
/-! list -/
def sp_list (P : Program) (w : World) (K : PySem.W.Frag) (C : Cs) : Sp := fun vs H Q _ => ∃ (mu : Mu) (i : Nat) (a : Addr) (t : TM), vs = [.ref a] ∧ i ≠ 9 ∧ Gh mu H ∧ Tx P w K C mu i H a t ∧ Ret P w K C mu i H a (stepP t .list) Q
theorem d_list (T : TTxt K mg C.T) (TD : DTxt K mg C.D) (D : MSrc K C.T "list_changes" "Transaction.list_changes" s_Transaction_list_changes ["self"]) (hL : mg "len" = none) (A2 : DefOk P w K mg base CX0 2 "record_reply" sp_recReply) : MethOk P w K mg base CX0 3 C.T "list_changes" (sp_list P w K C) := by
  refine D.ok sc_Transaction_list_changes (fun vs H Q E h => ?_) (fun f cdv A outer s H vs Q E hr h => ⟨_,
      pss_one (ps_ret (pe_cl A2 hr pass0 (pa_cons (pe_callB call_len (by rfl) hL PySem.boot_len (pa_cons (pe_fld (pe_fld (pv 0) rfl) rfl) pa_nil)) (pa_cons (pe_fld (pe_fld (pv 0) rfl) rfl) pa_nil)))), ?_⟩)
  · obtain ⟨mu, i, a, t, rfl, _⟩ := h
    rfl
  · obtain ⟨mu, i, a, t, rfl, hi, g, hT, R⟩ := h
    obtain ⟨dx, st, dr, sv, lk, svs, h1, h2, h3, h4, h5, h6, h7, h8, h9, h10⟩ := id hT
    obtain ⟨dx2, ca, ra, ea, cs, q1, q2, q3, q4, q5, q6, q7⟩ := id h5
    have hl := paired_len q4
    refine ⟨_, rfl, a, C.T, dx, _, _, rfl, h1, T.cl, T.nD, tF_d st dr sv lk, dr, C.D, dx2, _, _, rfl, q1, TD.cl, TD.nC, dF_c ca ra ea, _, _, rfl, .inr ⟨_, SqT.of q3, rfl⟩, ?_⟩
    refine ⟨_, rfl, a, C.T, dx, _, _, rfl, h1, T.cl, T.nD, tF_d st dr sv lk, dr, C.D, dx2, _, _, rfl, q1, TD.cl, TD.nR, dF_r ca ra ea, _, ra, _, rfl, q5, Nat.le_trans h10.rec_ (by decide), fun H' p s1 np hp => ?_⟩
    refine R mu H' p np (MuE.refl H mu) (g.same s1) (Kp.of s1) (hT.same s1) ?_
    rw [hp, hl]
    show some (HO.lst (.int (t.list.length : Int) :: .int 0 :: vN (Gv05.record t.list))) = some (HO.lst (.int (t.list.length : Int) :: .int 0 :: (Gv05Neutral.ints [] ++ Gv05Neutral.ints (Gv05.record t.list)).map V.int))
    rw [show Gv05Neutral.ints [] = [] from rfl, List.nil_append, ints_v]
/-! clashes_with -/
def sp_clash (P : Program) (w : World) (K : PySem.W.Frag) (C : Cs) : Sp := fun vs H Q _ => ∃ (mu : Mu) (i : Nat) (a b : Addr) (t : TM) (n : Gv05.Map), vs = [.ref a, .ref b] ∧ Tx P w K C mu i H a t ∧ Mp Tb H b n ∧ Gv05.Sorted n ∧
  ∀ H', Same H H' → Q (.bl (clashB t.root n t.looks)) H'
theorem d_clash (T : TTxt K mg C.T) (TL : LTxt K mg C.L) (D : MSrc K C.T "clashes_with" "Transaction.clashes_with" s_Transaction_clashes_with ["self", "state"]) (M : MethOk P w K mg base CX0 5 C.L "differ" (sp_differ P w K C.L)) : MethOk P w K mg base CX0 6 C.T "clashes_with" (sp_clash P w K C) := by
  refine D.ok sc_Transaction_clashes_with (fun vs H Q E h => ?_) (fun f cdv A outer s H vs Q E hr h => ⟨_,
      pss_one (ps_ret (pe_mt (pe_fld (pv 0) rfl) TL.cl M hr pass0 (pa_cons (pe_fld (pv 0) rfl) (pa_cons (pv 1) pa_nil)))), ?_⟩)
  · obtain ⟨mu, i, a, b, t, n, rfl, _⟩ := h
    rfl
  · obtain ⟨mu, i, a, b, t, n, rfl, hT, hb, hs, q⟩ := h
    obtain ⟨dx, st, dr, sv, lk, svs, h1, h2, h3, h4, h5, h6, h7, h8, h9, h10⟩ := id hT
    obtain ⟨ldx, sk, str, l1, l2, l3, l4, l5, l6⟩ := id h9
    exact ⟨_, rfl, a, C.T, dx, _, _, rfl, h1, T.cl, T.nL, tF_l st dr sv lk, lk, ldx, _, rfl, l1, lF_no (by decide +kernel) (by decide +kernel) sk str, _, rfl, a, C.T, dx, _, _, rfl, h1, T.cl, T.nB, tF_b st dr sv lk, _, rfl, mu, i, lk, st, b, t.root, n, t.looks, rfl, h9, h3, h10.srt, hb, hs, h10.few, by have := h10.lks; omega, q⟩
end
end Ks
namespace Ks
open PySem PySem.Spec PyProof.Rows L2
section
variable {P : Program} {w : World} {K : PySem.W.Frag} {mg : Str → Option Value} {base : Heap} {C : Cs}
/-! back -/
def sp_back (P : Program) (w : World) (K : PySem.W.Frag) (C : Cs) : Sp := fun vs H Q _ => ∃ (mu : Mu) (i : Nat) (a : Addr) (t : TM) (n : Int), vs = [.ref a, .int n] ∧ i ≠ 9 ∧ Gh mu H ∧ Tx P w K C mu i H a t ∧ Ret P w K C mu i H a (stepP t (.back n)) Q
theorem d_back (T : TTxt K mg C.T) (D : MSrc K C.T "back" "Transaction.back" s_Transaction_back ["self", "number"]) (hL : mg "len" = none) (cA : GI mg "ABSENT" (-2)) (cD : GI mg "DONE" 0) (A2 : DefOk P w K mg base CX0 1 "reply" sp_reply) : MethOk P w K mg base CX0 2 C.T "back" (sp_back P w K C) := by
  refine D.ok sc_Transaction_back (fun vs H Q E h => ?_) (fun f cdv A outer s H vs Q E hr h => ⟨_,
      pss_cons (ps_if (pt_not (pt_chain op_le op_le pe_int (pv 1) (pe_callB call_len (by rfl) hL PySem.boot_len (pa_cons (pe_fld (pv 0) rfl) pa_nil)))) (pss_one (ps_ret (pe_cl A2 hr pass0 (pa_cons (pe_gi cA) pa_nil)))) pss_nil)
      (pss_cons (ps_fld (pv 0) (pe_ix ix_list (pe_fld (pv 0) rfl) (pe_op op_sub (pv 1) pe_int) (fun _ _ => rfl)) rfl)
      (pss_cons (ps_fld (pv 0) (pe_slice sl_list (pe_fld (pv 0) rfl) po_none (po_some (pv 1))) rfl)
      (pss_one (ps_ret (pe_cl A2 hr pass0 (pa_cons (pe_gi cD) pa_nil)))))), ?_⟩)
  · obtain ⟨mu, i, a, t, n, rfl, _⟩ := h
    rfl
  · obtain ⟨mu, i, a, t, n, rfl, hi, g, hT, R⟩ := h
    obtain ⟨dx, st, dr, sv, lk, svs, h1, h2, h3, h4, h5, h6, h7, h8, h9, h10⟩ := id hT
    have hl := paired_len h8
    have e0 : stepP t (.back n) = if n < 1 ∨ (t.saves.length : Int) < n then (t, Gv05.only Gv05.ABSENT) else ({ t with list := t.list.take (t.saves.getD (n.toNat - 1) 0), saves := t.saves.take n.toNat }, Gv05.only 0) := rfl
    rw [e0] at R
    have bad : (n < 1 ∨ (t.saves.length : Int) < n) → ∀ p, H p = none → Q (.ref p) (upd H p (.lst [.int (-2), .int 0])) := fun z => by
      rw [if_pos z] at R
      exact R.bare g hT
    refine ⟨_, rfl, _, _, rfl, rfl, _, rfl, iteD (fun c1 => ?_) (fun c1 => ?_)⟩
    · refine ⟨_, rfl, a, C.T, dx, _, _, rfl, h1, T.cl, T.nS, tF_s st dr sv lk, _, _, rfl, .inl ⟨_, SqL.of h6, rfl⟩, _, _, rfl, rfl, _, rfl, iteDN (fun c2 => ?_) (fun c2 => ?_)⟩
      · exact ⟨-2, rfl, bad (.inr (by omega))⟩
      · rw [if_neg (by omega)] at R
        obtain ⟨m, rfl⟩ : ∃ m : Nat, n = ((m + 1 : Nat) : Int) := ⟨n.toNat - 1, by omega⟩
        have hm : m < t.saves.length := by omega
        have em := List.getElem?_eq_getElem hm
        have e1 : ((m + 1 : Nat) : Int).toNat - 1 = m := by omega
        have e2 : ((m + 1 : Nat) : Int).toNat = m + 1 := by omega
        rw [e1, e2, List.getD_eq_getElem?_getD, em, Option.getD_some] at R
        obtain ⟨dv, hdv, d, rfl, hd⟩ := paired_get' h8 em
        have e3 : ((m + 1 : Nat) : Int) - 1 = (m : Int) := by omega
        refine ⟨_, rfl, a, C.T, dx, _, _, rfl, h1, T.cl, T.nS, tF_s st dr sv lk, _, rfl, _, _, rfl, rfl, _, _, _, _, rfl, rfl, SqL.of h6, (by show atI svs (((m + 1 : Nat) : Int) - 1) = _; rw [e3]; exact atI_nat hdv), _, rfl, a, C.T, dx, _, rfl, h1, T.cl, T.nD, (by show 4 < 1000; decide), ?_⟩
        rw [tF_putd]
        have kp1 : Kp mu i H (upd H a (.ins C.T dx (tF st d sv lk))) := Kp.upd h1 (by intro xs e; cases e) h2
        have h6' : upd H a (.ins C.T dx (tF st d sv lk)) sv = some (.lst svs) := by rw [upd_ne (ne_of h6 h1 (by intro z; cases z))]; exact h6
        refine ⟨_, rfl, a, C.T, dx, _, _, rfl, upd_same, T.cl, T.nS, tF_s st d sv lk, _, rfl, _, rfl, _, _, rfl, SqL.of h6', fun p hp => ?_⟩
        rw [cut_to svs (m + 1) (by omega)]
        have npa : p ≠ a := fun z => by rw [z, upd_same] at hp; cases hp
        have hp0 : H p = none := by rw [upd_ne npa] at hp; exact hp
        refine ⟨_, rfl, a, C.T, dx, tF st d sv lk, rfl, ?_, T.cl, T.nS, (by show 4 < 1000; decide), ?_⟩
        · rw [upd_ne (Ne.symm npa)]; exact upd_same
        · rw [tF_puts]
          have kp : Kp mu i H (upd (upd (upd H a (.ins C.T dx (tF st d sv lk))) p (.lst (svs.take (m + 1)))) a (.ins C.T dx (tF st d p lk))) := by
            refine (kp1.trans (Kp.of (same_upd hp))).trans (Kp.upd (u := .ins C.T dx (tF st d sv lk)) ?_ (by intro xs e; cases e) h2)
            rw [upd_ne (Ne.symm npa)]; exact upd_same
          have im := kp.im hi
          have e : MuE H mu (fun b => if b = p then i else mu b) := fun b hb => if_neg (fun z => hb (by rw [z]; exact hp0))
          have hother : ∀ b o, H b = some o → b ≠ a → upd (upd (upd H a (.ins C.T dx (tF st d sv lk))) p (.lst (svs.take (m + 1)))) a (.ins C.T dx (tF st d p lk)) b = some o := fun b o eb n => by
            rw [upd_ne n, upd_ne (ne_of_none eb hp0), upd_ne n]; exact eb
          have tt : ∀ x ∈ t.saves.take (m + 1), (t.list.take t.saves[m]).take x = t.list.take x := fun x hx => by
            rw [List.take_take, Nat.min_eq_left (take_le h10 em x hx)]
          have im' : Im (fun b => if b = p then i else mu b) H (upd (upd (upd H a (.ins C.T dx (tF st d sv lk))) p (.lst (svs.take (m + 1)))) a (.ins C.T dx (tF st d p lk))) := ⟨kp.ts, fun b o eb m9 => by
            rw [e.at eb] at m9
            exact im.im b o eb m9⟩
          refine ⟨0, rfl, R.only e ?_ kp ?_⟩
          · intro b eb
            show (if b = p then i else mu b) = 9
            have n1 : b ≠ p := fun z => by rw [z, upd_ne npa, upd_same] at eb; cases eb
            rw [if_neg n1]
            exact g b (kp.dm b eb)
          · refine ⟨dx, st, d, p, lk, svs.take (m + 1), upd_same, (by show (if a = p then i else mu a) = i; rw [if_neg (Ne.symm npa)]; exact h2), h3.stay sb_tb kp.ts (fun o eo => im.im _ _ eo h4), ?_, (hd.remu e).im im', ?_, if_pos rfl, sv_take im' (paired_take (m + 1) (paired_map (fun _ _ ⟨d', z, y⟩ => ⟨d', z, y.remu e⟩) h8)) tt, (h9.remu e).kept im' ?_ ?_, h10.back em⟩
            · obtain ⟨xs, hx, _⟩ := h3
              exact (e.at hx).trans h4
            · rw [upd_ne npa]; exact upd_same
            · intro b' kvs eb
              exact hother _ _ eb (ne_of eb h1 (by intro z; cases z))
            · intro b' φ eb
              exact hother _ _ eb (ne_of eb h1 (by intro z; cases z))
    · exact ⟨_, rfl, iteBN (fun _ => ⟨-2, rfl, bad (.inl (by omega))⟩) (fun z => nomatch z)⟩
/-! look_from -/
def sp_lookFrom (P : Program) (w : World) (K : PySem.W.Frag) (C : Cs) : Sp := fun vs H Q _ => ∃ (mu : Mu) (i : Nat) (a b : Addr) (v : V) (t : TM) (k : List Nat) (back wd : Bool), vs = [.ref a, .ref b, v, .int (wayI back)] ∧ i ≠ 9 ∧ Wd v wd ∧ Tx P w K C mu i H a t ∧ Tb H b k ∧ t.looks.length < 1000 ∧
  ∀ H' r, Kp mu i H H' → Tx P w K C mu i H' a (t.looked (stretchOf back k (near back (visible t) k wd))) → Tv H' r ((near back (visible t) k wd).map Prod.fst) → Q r H'
theorem d_lookFrom {nB : Addr} (T : TTxt K mg C.T) (TD : DTxt K mg C.D) (TL : LTxt K mg C.L) (D : MSrc K C.T "look_from" "Transaction.look_from" s_Transaction_look_from ["self", "key", "itself", "way"]) (cU : GI mg "UP" 1) (gN : mg "NO_BYTES" = some (.ref nB)) (hN : ∀ H', SqT K H' nB (vN []))
    (A1 : DefOk P w K mg base CX0 4 "nearest_left" (sp_left C.D Tb)) (A2 : DefOk P w K mg base CX0 4 "nearest_left" (sp_left C.D Ch)) (A3 : DefOk P w K mg base CX0 1 "nearer" sp_nearer) (M : MethOk P w K mg base CX0 1 C.L "look_at_stretch" (sp_lookStr P w K C.L)) :
    MethOk P w K mg base CX0 5 C.T "look_from" (sp_lookFrom P w K C) := by
  refine D.ok sc_Transaction_look_from (fun vs H Q E h => ?_) (fun f cdv A outer s H vs Q E hr h => ⟨_,
      pss_cons (ps_set (i := 4) sc_Transaction_look_from.nd rfl (.inl rfl) (pe_cl A1 hr pass0 (pa_cons (pe_fld (pv 0) rfl) (pa_cons (pe_fld (pv 0) rfl) (pa_cons (pv 1) (pa_cons (pv 2) (pa_cons (pv 3) pa_nil)))))))
      (pss_cons (ps_set (i := 5) sc_Transaction_look_from.nd rfl (.inl rfl) (pe_cl A2 hr pass0 (pa_cons (pe_fld (pv 0) rfl) (pa_cons (pe_fld (pe_fld (pv 0) rfl) rfl) (pa_cons (pv 1) (pa_cons (pv 2) (pa_cons (pv 3) pa_nil)))))))
      (pss_cons (ps_set (i := 6) sc_Transaction_look_from.nd rfl (.inl rfl) (pe_cl A3 (hr.mono (by decide)) pass0 (pa_cons (pv 4) (pa_cons (pv 5) (pa_cons (pv 3) pa_nil)))))
      (C8.pss_cut (ps_if (pt_cmpR op_eq (pv 3) (pe_gi cU) (nomark _)) (pss_one (ps_expr (pe_mt (pe_fld (pv 0) rfl) TL.cl M (hr.mono (by decide)) pass0 (pa_cons (pv 1) (pa_cons (pv 6) pa_nil)))))
        (pss_one (ps_if (pt_cmpR op_isN (pv 6) pe_non (nomark _)) (pss_one (ps_expr (pe_mt (pe_fld (pv 0) rfl) TL.cl M (hr.mono (by decide)) pass0 (pa_cons (pe_gr gN) (pa_cons (pv 1) pa_nil)))))
          (pss_one (ps_expr (pe_mt (pe_fld (pv 0) rfl) TL.cl M (hr.mono (by decide)) pass0 (pa_cons (pv 6) (pa_cons (pv 1) pa_nil))))))))
      (pss_one (ps_ret (pv 6)))))), ?_⟩)
  · obtain ⟨mu, i, a, b, v, t, k, back, wd, rfl, _⟩ := h
    rfl
  · obtain ⟨mu, i, a, b, v, t, k, back, wd, rfl, hi, hw, hT, hb, hz, q⟩ := h
    obtain ⟨dx, st, dr, sv, lk, svs, h1, h2, h3, h4, h5, h6, h7, h8, h9, h10⟩ := id hT
    obtain ⟨dx2, ca, ra, ea, cs, q1, q2, q3, q4, q5, q6, q7⟩ := id h5
    refine ⟨_, rfl, a, C.T, dx, _, _, rfl, h1, T.cl, T.nD, tF_d st dr sv lk, _, rfl, a, C.T, dx, _, _, rfl, h1, T.cl, T.nB, tF_b st dr sv lk, _, rfl, _, rfl, _, rfl, mu, dr, st, b, v, t.list, t.root, k, back, wd, rfl, hw, h5, h3, h10.srt, hb, fun r1 o1 n1 t1 => ?_⟩
    refine ⟨_, rfl, a, C.T, dx, _, _, rfl, h1, T.cl, T.nD, tF_d st dr sv lk, _, rfl, a, C.T, dx, _, _, rfl, h1, T.cl, T.nD, tF_d st dr sv lk, dr, C.D, dx2, _, _, rfl, q1, TD.cl, TD.nE, dF_e ca ra ea, _, rfl, _, rfl, _, rfl, mu, dr, ea, b, v, t.list, effs t.list, k, back, wd, rfl, hw, h5, q6, effs_sorted t.list, hb, fun r2 o2 n2 t2 => ?_⟩
    refine ⟨_, rfl, _, rfl, _, rfl, r1, r2, o1, o2, back, rfl, t1, t2, fun H1 r s1 hr1 => ?_⟩
    have en := near_pk t h10.srt n1 n2
    have em : (near back (visible t) k wd).map Prod.fst = pk back o1 o2 := by
      rw [en]
      cases pk back o1 o2 <;> rfl
    rw [em] at q
    have hT1 := hT.same s1
    have h1' := s1 _ _ h1
    have h9' : Lk P w K C.L mu i H1 lk t.looks := h9.stay (TS.of s1) fun b o e _ => s1 b o e
    obtain ⟨ldx, sk, str, l1, l2, l3, l4, l5, l6⟩ := id h9'
    have hb1 := s1 _ _ hb
    refine ⟨fun σ H2 => σ = [some (.ref a), some (.ref b), some v, some (.int (wayI back)), some r1, some r2, some r] ∧ Kp mu i H H2 ∧ Tx P w K C mu i H2 a (t.looked (stretchOf back k (near back (visible t) k wd))) ∧ Tv H2 r (pk back o1 o2), ?_, ?_⟩
    · have fin : ∀ (lo : List Nat) (hi' : Option (List Nat)), stretchOf back k (near back (visible t) k wd) = .stretch lo hi' → ∀ H2, Kp mu i H1 H2 → Kd H1 H2 → Lk P w K C.L mu i H2 lk (lookedL t.looks (.stretch lo hi')) →
          Kp mu i H H2 ∧ Tx P w K C mu i H2 a (t.looked (stretchOf back k (near back (visible t) k wd))) ∧ Tv H2 r (pk back o1 o2) := fun lo hi' es H2 kp kd hl2 => by
        rw [es]
        exact ⟨(Kp.of s1).trans kp, hT1.look hi h1' kp kd hl2 (h10.looked _ hz), hr1.ts kp.ts⟩
      cases back with
      | false =>
        refine ⟨_, rfl, rfl, _, rfl, iteD (fun _ => ?_) (fun c => absurd rfl c)⟩
        refine ⟨_, rfl, a, C.T, dx, _, _, rfl, h1', T.cl, T.nL, tF_l st dr sv lk, lk, ldx, _, rfl, l1, lF_no (by decide +kernel) (by decide +kernel) sk str, _, rfl, _, rfl, mu, i, lk, b, r, k, pk false o1 o2, t.looks, rfl, hi, h9', .inl hb1, hr1, by omega, fun H2 kp kd hl2 => ⟨rfl, fin k (pk false o1 o2) ?_ H2 kp kd hl2⟩⟩
        rw [en]
        cases pk false o1 o2 <;> rfl
      | true =>
        refine ⟨_, rfl, rfl, _, rfl, iteD (fun c => absurd c (by intro z; cases z)) (fun _ => ?_)⟩
        cases eo : pk true o1 o2 with
        | none =>
          rw [eo] at hr1
          obtain rfl := hr1.none_
          refine ⟨_, rfl, rfl, _, rfl, iteD (fun _ => ?_) (fun c => absurd rfl c)⟩
          refine ⟨_, rfl, a, C.T, dx, _, _, rfl, h1', T.cl, T.nL, tF_l st dr sv lk, lk, ldx, _, rfl, l1, lF_no (by decide +kernel) (by decide +kernel) sk str, _, rfl, mu, i, lk, nB, .ref b, [], some k, t.looks, rfl, hi, h9', .inr hN, hb1, by omega, fun H2 kp kd hl2 => ⟨rfl, ?_⟩⟩
          rw [eo] at fin
          refine fin [] (some k) ?_ H2 kp kd hl2
          rw [en, eo]; rfl
        | some x =>
          rw [eo] at hr1
          obtain ⟨xa, rfl, hxa⟩ := hr1.some_
          refine ⟨_, rfl, rfl, _, rfl, iteD (fun c => nomatch c) (fun _ => ?_)⟩
          refine ⟨_, rfl, a, C.T, dx, _, _, rfl, h1', T.cl, T.nL, tF_l st dr sv lk, lk, ldx, _, rfl, l1, lF_no (by decide +kernel) (by decide +kernel) sk str, _, rfl, _, rfl, mu, i, lk, xa, .ref b, x, some k, t.looks, rfl, hi, h9', .inl hxa, hb1, by omega, fun H2 kp kd hl2 => ⟨rfl, ?_⟩⟩
          rw [eo] at fin
          refine fin x (some k) ?_ H2 kp kd hl2
          rw [en, eo]; rfl
    · rintro σ H2 ⟨rfl, kp, hT2, hr2⟩
      exact ⟨_, rfl, q H2 r kp hT2 hr2⟩
/-! nearest -/
def stN (back : Bool) (k : List Nat) (z : Int) : Gv05.Step := if back = true then .before k (z != 0) else .next k (z != 0)
def sp_near (P : Program) (w : World) (K : PySem.W.Frag) (C : Cs) : Sp := fun vs H Q _ => ∃ (mu : Mu) (i : Nat) (a b : Addr) (t : TM) (k : List Nat) (back : Bool) (z : Int), vs = [.ref a, .ref b, .int z, .int (wayI back)] ∧ i ≠ 9 ∧ Gh mu H ∧ Tx P w K C mu i H a t ∧ Tb H b k ∧ Byt k ∧ (z = 0 ∨ z = 1) ∧
  Ret P w K C mu i H a (stepP t (stN back k z)) Q
theorem stepP_near (t : TM) (back : Bool) (k : List Nat) (z : Int) : stepP t (stN back k z) = if Gv05.isPlace k = false then (t, Gv05.only Gv05.BAD) else if Gv05.LOOKS ≤ t.looks.length then (t, Gv05.only Gv05.FULL) else (t.looked (stretchOf back k (near back (visible t) k (z != 0))), ansP (near back (visible t) k (z != 0))) := by
  cases back <;> rfl
theorem d_near (T : TTxt K mg C.T) (TL : LTxt K mg C.L) (D : MSrc K C.T "nearest" "Transaction.nearest" s_Transaction_nearest ["self", "key", "itself", "way"]) (cW : GI mg "WRONG" (-1)) (cF : GI mg "FULL" (-5)) (cA : GI mg "ABSENT" (-2)) (A1 : DefOk P w K mg base CX0 1 "is_start" sp_isStart) (A2 : DefOk P w K mg base CX0 1 "reply" sp_reply)
    (M1 : MethOk P w K mg base CX0 1 C.L "has_room" (sp_room P w K C.L)) (M2 : MethOk P w K mg base CX0 5 C.T "look_from" (sp_lookFrom P w K C)) (M3 : MethOk P w K mg base CX0 6 C.T "value_seen" (sp_seen P w K C)) (A4 : DefOk P w K mg base CX0 1 "key_reply" sp_keyReply) :
    MethOk P w K mg base CX0 7 C.T "nearest" (sp_near P w K C) := by
  refine D.ok sc_Transaction_nearest (fun vs H Q E h => ?_) (fun f cdv A outer s H vs Q E hr h => ⟨_,
      pss_cons (ps_if (pt_not (PW.pt (pw_and (pt_val (pe_cl A1 (hr.mono (by decide)) pass0 (pa_cons (pv 1) pa_nil))) (pw_and1 (pt_cmpR op_in_seq (pv 2) (pe_tup (pa_cons pe_int (pa_cons pe_int pa_nil))) (by rfl)))))) (pss_one (ps_ret (pe_cl A2 (hr.mono (by decide)) pass0 (pa_cons (pe_gi cW) pa_nil)))) pss_nil)
      (pss_cons (ps_if (pt_not (pt_val (pe_mt (pe_fld (pv 0) rfl) TL.cl M1 (hr.mono (by decide)) pass0 (pa_cons pe_int pa_nil)))) (pss_one (ps_ret (pe_cl A2 (hr.mono (by decide)) pass0 (pa_cons (pe_gi cF) pa_nil)))) pss_nil)
      (pss_cons (ps_set (i := 4) sc_Transaction_nearest.nd rfl (.inl rfl) (pe_mt (pv 0) T.cl M2 (hr.mono (by decide)) pass0 (pa_cons (pv 1) (pa_cons (pv 2) (pa_cons (pv 3) pa_nil)))))
      (pss_cons (ps_if (pt_cmpR op_isN (pv 4) pe_non (nomark _)) (pss_one (ps_ret (pe_cl A2 (hr.mono (by decide)) pass0 (pa_cons (pe_gi cA) pa_nil)))) pss_nil)
      (pss_one (ps_ret (pe_cl A4 (hr.mono (by decide)) pass0 (pa_cons (pv 4) (pa_cons (pe_mt (pv 0) T.cl M3 hr pass0 (pa_cons (pv 4) pa_nil)) pa_nil)))))))), ?_⟩)
  · obtain ⟨mu, i, a, b, t, k, back, z, rfl, _⟩ := h
    rfl
  · obtain ⟨mu, i, a, b, t, k, back, z, rfl, hi, g, hT, hb, hk, hz, R⟩ := h
    rw [stepP_near, isPlace_ok hk] at R
    refine ⟨_, rfl, b, k, rfl, hb, _, rfl, iteB (fun c => ?_) (fun c => ?_)⟩
    · rw [if_neg (by rw [c]; decide)] at R
      refine ⟨_, rfl, small_le (m := 100) (by simp), fun tp htp => ?_⟩
      have s1 := same_upd (o := .tup [.int 0, .int 1]) htp
      have e1 : inV (.int z) [.int 0, .int 1] = true := by
        rcases hz with rfl | rfl <;> rfl
      refine ⟨_, _, rfl, .inr (SqT.of upd_same), rfl, rfl, _, rfl, ?_⟩
      show if (!inV (.int z) [.int 0, .int 1]) = true then _ else _
      rw [e1]
      refine iteBN (fun z => nomatch z) (fun _ => ?_)
      have hT1 := hT.same s1
      have hb1 := s1 _ _ hb
      generalize upd H tp (.tup [.int 0, .int 1]) = H1 at s1 hT1 hb1
      obtain ⟨dx, st, dr, sv, lk, svs, h1, h2, h3, h4, h5, h6, h7, h8, h9, h10⟩ := id hT1
      obtain ⟨ldx, sk, str, l1, l2, l3, l4, l5, l6⟩ := id h9
      refine ⟨_, rfl, a, C.T, dx, _, _, rfl, h1, T.cl, T.nL, tF_l st dr sv lk, lk, ldx, _, rfl, l1, lF_no (by decide +kernel) (by decide +kernel) sk str, mu, i, lk, 1, t.looks, rfl, h9, _, rfl, iteDN (fun c3 => ?_) (fun c3 => ?_)⟩
      · have z' : Gv05.LOOKS ≤ t.looks.length := by show 1000 ≤ _; omega
        rw [if_pos z'] at R
        exact ⟨-5, rfl, R.only (MuE.refl H mu) (g.same s1) (Kp.of s1) hT1⟩
      · have z' : ¬ Gv05.LOOKS ≤ t.looks.length := by show ¬ 1000 ≤ _; omega
        rw [if_neg z'] at R
        have wdz : Wd (.int z) (z != 0) := by
          rcases hz with rfl | rfl
          · exact .inl rfl
          · exact .inl rfl
        refine ⟨_, rfl, a, dx, _, rfl, h1, tF_no _ _ _ _ (by decide +kernel) (by decide +kernel) (by decide +kernel) (by decide +kernel), _, rfl, _, rfl, _, rfl, mu, i, a, b, .int z, t, k, back, z != 0, rfl, hi, wdz, hT1, hb1, by omega, fun H2 r kp hT2 hr2 => ?_⟩
        have kp0 := (Kp.of (mu := mu) (i := i) s1).trans kp
        cases en : near back (visible t) k (z != 0) with
        | none =>
          rw [en] at hr2 R hT2
          have hr2 : Tv H2 r none := hr2
          obtain rfl := hr2.none_
          refine ⟨_, rfl, rfl, _, rfl, iteD (fun _ => ?_) (fun c => absurd rfl c)⟩
          exact ⟨-2, rfl, R.only (MuE.refl H mu) (g.kp kp0) kp0 hT2⟩
        | some y =>
          rw [en] at hr2 R hT2
          have hr2 : Tv H2 r (some y.1) := hr2
          obtain ⟨ya, rfl, hya⟩ := hr2.some_
          have ly := near_len h10 en
          refine ⟨_, rfl, rfl, _, rfl, iteD (fun c => nomatch c) (fun _ => ?_)⟩
          obtain ⟨dx2, st2, dr2, sv2, lk2, svs2, g1, _⟩ := id hT2
          refine ⟨_, rfl, _, rfl, a, dx2, _, rfl, g1, tF_no _ _ _ _ (by decide +kernel) (by decide +kernel) (by decide +kernel) (by decide +kernel), _, rfl, mu, i, a, ya, _, y.1, rfl, hT2, hya, fun H3 r3 s3 hr3 => ?_⟩
          have es : seen (t.looked (stretchOf back k (some y))) y.1 = some y.2 := by
            have e2 : seen (t.looked (stretchOf back k (some y))) y.1 = seen t y.1 := by unfold seen; rw [looked_list, looked_root]
            rw [e2, seen_is]
            exact (near_is (sorted_fold t.list h10.srt) en).2
          rw [es] at hr3
          obtain ⟨va, rfl, hva⟩ := hr3.some_
          refine ⟨ya, va, y.1, y.2, rfl, s3 _ _ hya, hva, by omega, by omega, fun H4 p s4 n4 hp => ?_⟩
          have s34 := Same.trans s3 s4
          refine R mu H4 p (kp0.dm p (s3.free n4)) (MuE.refl H mu) ((g.kp kp0).same s34) (kp0.trans (Kp.of s34)) (hT2.same s34) ?_
          rw [hp]
          show _ = some (HO.lst (.int (y.2.length : Int) :: .int (y.1.length : Int) :: (Gv05Neutral.ints y.1 ++ Gv05Neutral.ints y.2).map V.int))
          rw [List.map_append, ints_v, ints_v]
    · rw [if_pos c] at R
      exact iteBN (fun _ => ⟨-1, rfl, R.bare g hT⟩) (fun z => nomatch z)
/-! how_many -/
def mu_many (n : Nat) : L2.St → Hp → Nat := fun σ _ => match σ with
  | [_, _, _, _, some (.int c), _] => ((n : Int) - c).toNat
  | _ => 0
def sp_many (P : Program) (w : World) (K : PySem.W.Frag) (C : Cs) : Sp := fun vs H Q _ => ∃ (mu : Mu) (i : Nat) (a b c : Addr) (t : TM) (lo hi : List Nat) (n : Nat), vs = [.ref a, .ref b, .ref c, .int (n : Int)] ∧ i ≠ 9 ∧ Tx P w K C mu i H a t ∧ Tb H b lo ∧ Tb H c hi ∧ t.looks.length + n ≤ 1000 ∧
  ∀ H', Kp mu i H H' → Tx P w K C mu i H' a (countP hi n t lo true).1 → Q (.int (((countP hi n t lo true).2 : Nat) : Int)) H'
theorem looked_len (t : TM) (x : Gv05.Look) : (t.looked x).looks.length ≤ t.looks.length + 1 := by
  rw [looked_looks]; exact lookedL_len _ _
theorem d_many (T : TTxt K mg C.T) (D : MSrc K C.T "how_many" "Transaction.how_many" s_Transaction_how_many ["self", "one", "another", "most"]) (cU : GI mg "UP" 1) (M2 : MethOk P w K mg base CX0 5 C.T "look_from" (sp_lookFrom P w K C)) :
    MethOk P w K mg base CX0 6 C.T "how_many" (sp_many P w K C) := by
  refine D.ok sc_Transaction_how_many (fun vs H Q E h => ?_) (fun f cdv A outer s H vs Q E hr h => ⟨_,
      pss_cons (ps_set (i := 4) sc_Transaction_how_many.nd rfl (.inl rfl) pe_int)
      (pss_cons (ps_set (i := 5) sc_Transaction_how_many.nd rfl (.inl rfl) (pv 1))
      (pss_cons (ps_while PassesOwn.never (pt_cmpR op_lt (pv 4) (pv 3) (nomark _))
        (pss_cons (ps_set (i := 5) sc_Transaction_how_many.nd rfl (.inl rfl) (pe_mt (pv 0) T.cl M2 hr pass0 (pa_cons (pv 5) (pa_cons (pe_cmpR op_eq (pv 4) pe_int (nomark _)) (pa_cons (pe_gi cU) pa_nil)))))
        (pss_cons (ps_if (PW.pt (pw_or (pt_cmpR op_isN (pv 5) pe_non (nomark _)) (pw_or1 (pt_cmpR (op_gtB hr.units) (pv 5) (pv 2) (nomark _))))) (pss_one ps_break) pss_nil)
        (pss_one (ps_aug (i := 4) sc_Transaction_how_many.nd rfl (.inl rfl) pe_int ip_add)))))
      (pss_one (ps_ret (pv 4))))), ?_⟩)
  · obtain ⟨mu, i, a, b, c, t, lo, hi, n, rfl, _⟩ := h
    rfl
  · obtain ⟨mu, i, a, b, c, t, lo, hi, n, rfl, ni, hT, hb, hc, hz, q⟩ := h
    refine ⟨_, rfl, ?_⟩
    refine while_by (fun σ H' => ∃ (d : Nat) (fa : Addr) (k : List Nat) (t' : TM), σ = [some (.ref a), some (.ref b), some (.ref c), some (.int (n : Int)), some (.int (d : Int)), some (.ref fa)] ∧ Kp mu i H H' ∧ Tx P w K C mu i H' a t' ∧ Tb H' fa k ∧ d ≤ n ∧ t'.looks.length + (n - d) ≤ 1000 ∧
      countP hi n t lo true = ((countP hi (n - d) t' k (decide (d = 0))).1, (countP hi (n - d) t' k (decide (d = 0))).2 + d)) (mu_many n) ⟨0, b, lo, t, ?_, Kp.of (Same.refl H), hT, hb, Nat.zero_le _, by omega, rfl⟩ ?_ ?_
    · simp [L2.start]
    · rintro σ H' ⟨d, fa, k, t', rfl, kp, hT', hfa, hd, hz', ec⟩
      refine ⟨_, rfl, _, rfl, _, _, rfl, rfl, _, rfl, iteD (fun c1 => ?_) (fun c1 => ?_)⟩
      · obtain ⟨m, hm⟩ : ∃ m, n - d = m + 1 := ⟨n - d - 1, by omega⟩
        obtain ⟨dx, st, dr, sv, lk, svs, h1, _⟩ := id hT'
        have hw : Wd (V.bl (decide (V.int (d : Int) = V.int 0))) (decide (d = 0)) := by
          refine .inr (congrArg V.bl (decide_eq_decide.mpr ?_))
          rw [int_eq]; omega
        refine ⟨_, rfl, a, dx, _, rfl, h1, tF_no _ _ _ _ (by decide +kernel) (by decide +kernel) (by decide +kernel) (by decide +kernel), _, rfl, _, rfl, rfl, mu, i, a, fa, _, t', k, false, decide (d = 0), rfl, ni, hw, hT', hfa, by omega, fun H2 r kp2 hT2 hr2 => ?_⟩
        have kp0 := kp.trans kp2
        have hc2 := kp0.ts _ _ hc
        have lt2 := looked_len t' (stretchOf false k (near false (visible t') k (decide (d = 0))))
        rw [hm] at ec
        have e1 : countP hi (m + 1) t' k (decide (d = 0)) = match near false (visible t') k (decide (d = 0)) with
          | none => (t'.looked (stretchOf false k none), 0)
          | some y => if Gv05.upTo y.1 hi = false then (t'.looked (stretchOf false k (some y)), 0) else
            ((countP hi m (t'.looked (stretchOf false k (some y))) y.1 false).1, (countP hi m (t'.looked (stretchOf false k (some y))) y.1 false).2 + 1) := rfl
        rw [e1] at ec
        have stop : ∀ t2, countP hi n t lo true = (t2, 0 + d) → Tx P w K C mu i H2 a t2 → Q (.int (d : Int)) H2 := fun t2 e2 x2 => by
          have := q H2 kp0
          rw [e2] at this
          have e3 : ((0 + d : Nat) : Int) = (d : Int) := by omega
          rw [← e3]
          exact this x2
        cases en : near false (visible t') k (decide (d = 0)) with
        | none =>
          rw [en] at hr2 ec hT2
          have hr2 : Tv H2 r none := hr2
          obtain rfl := hr2.none_
          refine ⟨_, rfl, rfl, _, rfl, iteD (fun _ => ?_) (fun c => absurd rfl c)⟩
          exact ⟨_, rfl, stop _ ec hT2⟩
        | some y =>
          rw [en] at hr2 ec hT2 lt2
          have hr2 : Tv H2 r (some y.1) := hr2
          obtain ⟨ya, rfl, hya⟩ := hr2.some_
          have ec : countP hi n t lo true = ((if Gv05.upTo y.1 hi = false then (t'.looked (stretchOf false k (some y)), 0) else
            ((countP hi m (t'.looked (stretchOf false k (some y))) y.1 false).1, (countP hi m (t'.looked (stretchOf false k (some y))) y.1 false).2 + 1)).1, (if Gv05.upTo y.1 hi = false then (t'.looked (stretchOf false k (some y)), 0) else
            ((countP hi m (t'.looked (stretchOf false k (some y))) y.1 false).1, (countP hi m (t'.looked (stretchOf false k (some y))) y.1 false).2 + 1)).2 + d) := ec
          refine ⟨_, rfl, rfl, _, rfl, iteD (fun c => nomatch c) (fun _ => ?_)⟩
          refine ⟨_, rfl, _, rfl, ya, c, y.1, hi, rfl, rfl, hya, hc2, _, rfl, iteB (fun c2 => ?_) (fun c2 => ?_)⟩
          · have u : Gv05.upTo y.1 hi = false := by unfold Gv05.upTo; rw [c2]; rfl
            rw [if_pos u] at ec
            exact ⟨_, rfl, stop _ ec hT2⟩
          · have u : ¬ Gv05.upTo y.1 hi = false := by unfold Gv05.upTo; rw [c2]; decide
            rw [if_neg u] at ec
            refine ⟨_, rfl, _, _, rfl, rfl, ⟨d + 1, ya, y.1, _, rfl, kp0, hT2, hya, by omega, ?_, ?_⟩, ?_⟩
            · have : n - (d + 1) = m := by omega
              omega
            · have e2 : n - (d + 1) = m := by omega
              rw [ec, e2, decide_eq_false (Nat.succ_ne_zero d)]
              show ((countP hi m (t'.looked (stretchOf false k (some y))) y.1 false).1, (countP hi m (t'.looked (stretchOf false k (some y))) y.1 false).2 + 1 + d) = _
              congr 1
              omega
            · show ((n : Int) - ((d : Int) + 1)).toNat < ((n : Int) - (d : Int)).toNat
              omega
      · have e1 : n - d = 0 := by omega
        rw [e1] at ec
        have ec : countP hi n t lo true = (t', 0 + d) := ec
        have := q H' kp
        rw [ec] at this
        have e3 : ((0 + d : Nat) : Int) = (d : Int) := by omega
        rw [e3] at this
        exact ⟨_, rfl, this hT'⟩
    · rintro σ H' Q1 Q2 hQ ⟨v, hv, u, hu, i', j, e1, e2, z, ez, q'⟩
      exact ⟨v, hv, u, hu, i', j, e1, e2, z, ez, hQ _ _ q'⟩
/-! count -/
def sp_count (P : Program) (w : World) (K : PySem.W.Frag) (C : Cs) : Sp := fun vs H Q _ => ∃ (mu : Mu) (i : Nat) (a b c : Addr) (t : TM) (lo hi : List Nat) (n : Int), vs = [.ref a, .ref b, .ref c, .int n] ∧ i ≠ 9 ∧ Gh mu H ∧ Tx P w K C mu i H a t ∧ Tb H b lo ∧ Byt lo ∧ Tb H c hi ∧ Byt hi ∧
  Ret P w K C mu i H a (stepP t (.count lo hi n)) Q
theorem d_count (T : TTxt K mg C.T) (TL : LTxt K mg C.L) (D : MSrc K C.T "count" "Transaction.count" s_Transaction_count ["self", "one", "another", "most"]) (cW : GI mg "WRONG" (-1)) (cF : GI mg "FULL" (-5)) (cM : GI mg "MOST_COUNTED" 1000) (A1 : DefOk P w K mg base CX0 1 "is_start" sp_isStart) (A3 : DefOk P w K mg base CX0 1 "is_key" sp_isKey) (A2 : DefOk P w K mg base CX0 1 "reply" sp_reply)
    (M1 : MethOk P w K mg base CX0 1 C.L "has_room" (sp_room P w K C.L)) (M2 : MethOk P w K mg base CX0 6 C.T "how_many" (sp_many P w K C)) : MethOk P w K mg base CX0 7 C.T "count" (sp_count P w K C) := by
  refine D.ok sc_Transaction_count (fun vs H Q E h => ?_) (fun f cdv A outer s H vs Q E hr h => ⟨_,
      pss_cons (ps_if (pt_not (PW.pt (pw_and (pt_val (pe_cl A1 (hr.mono (by decide)) pass0 (pa_cons (pv 1) pa_nil))) (pw_and (pt_val (pe_cl A3 (hr.mono (by decide)) pass0 (pa_cons (pv 2) pa_nil))) (pw_and1 (pt_chain op_le op_le pe_int (pv 3) (pe_gi cM))))))) (pss_one (ps_ret (pe_cl A2 (hr.mono (by decide)) pass0 (pa_cons (pe_gi cW) pa_nil)))) pss_nil)
      (pss_cons (ps_if (pt_not (pt_val (pe_mt (pe_fld (pv 0) rfl) TL.cl M1 (hr.mono (by decide)) pass0 (pa_cons (pv 3) pa_nil)))) (pss_one (ps_ret (pe_cl A2 (hr.mono (by decide)) pass0 (pa_cons (pe_gi cF) pa_nil)))) pss_nil)
      (pss_one (ps_ret (pe_cl A2 (hr.mono (by decide)) pass0 (pa_cons (pe_mt (pv 0) T.cl M2 hr pass0 (pa_cons (pv 1) (pa_cons (pv 2) (pa_cons (pv 3) pa_nil)))) pa_nil))))), ?_⟩)
  · obtain ⟨mu, i, a, b, c, t, lo, hi, n, rfl, _⟩ := h
    rfl
  · obtain ⟨mu, i, a, b, c, t, lo, hi, n, rfl, ni, g, hT, hb, hlo, hc, hhi, R⟩ := h
    obtain ⟨dx, st, dr, sv, lk, svs, h1, h2, h3, h4, h5, h6, h7, h8, h9, h10⟩ := id hT
    obtain ⟨ldx, sk, str, l1, l2, l3, l4, l5, l6⟩ := id h9
    have e0 : stepP t (.count lo hi n) = if Gv05.isPlace lo = false ∨ Gv05.isKey hi = false ∨ n < 0 ∨ 1000 < n then (t, Gv05.only Gv05.BAD) else if Gv05.LOOKS < t.looks.length + n.toNat then (t, Gv05.only Gv05.FULL) else ((countP hi n.toNat t lo true).1, Gv05.only (((countP hi n.toNat t lo true).2 : Nat) : Int)) := rfl
    rw [e0, isPlace_ok hlo, isKey_ok hhi] at R
    have bad : (okP lo = false ∨ okK hi = false ∨ n < 0 ∨ 1000 < n) → ∀ p, H p = none → Q (.ref p) (upd H p (.lst [.int (-1), .int 0])) := fun z => by
      rw [if_pos z] at R
      exact R.bare g hT
    refine ⟨_, rfl, b, lo, rfl, hb, _, rfl, iteB (fun c1 => ?_) (fun c1 => ?_)⟩
    · refine ⟨_, rfl, c, hi, rfl, hc, _, rfl, iteB (fun c2 => ?_) (fun c2 => ?_)⟩
      · refine ⟨_, rfl, _, _, rfl, rfl, _, rfl, iteD (fun c3 => ?_) (fun c3 => ?_)⟩
        · refine ⟨_, _, rfl, rfl, _, rfl, iteDN (fun c4 => ?_) (fun c4 => ?_)⟩
          · exact ⟨-1, rfl, bad (.inr (.inr (.inr (by omega))))⟩
          · rw [if_neg (by rw [c1, c2]; simp; omega)] at R
            obtain ⟨m, rfl⟩ : ∃ m : Nat, n = (m : Int) := ⟨n.toNat, by omega⟩
            rw [Int.toNat_natCast] at R
            refine ⟨_, rfl, a, C.T, dx, _, _, rfl, h1, T.cl, T.nL, tF_l st dr sv lk, lk, ldx, _, rfl, l1, lF_no (by decide +kernel) (by decide +kernel) sk str, _, rfl, mu, i, lk, (m : Int), t.looks, rfl, h9, _, rfl, iteDN (fun c5 => ?_) (fun c5 => ?_)⟩
            · have z' : Gv05.LOOKS < t.looks.length + m := by show 1000 < _; omega
              rw [if_pos z'] at R
              exact ⟨-5, rfl, R.bare g hT⟩
            · have z' : ¬ Gv05.LOOKS < t.looks.length + m := by show ¬ 1000 < _; omega
              rw [if_neg z'] at R
              refine ⟨_, rfl, a, dx, _, rfl, h1, tF_no _ _ _ _ (by decide +kernel) (by decide +kernel) (by decide +kernel) (by decide +kernel), _, rfl, _, rfl, _, rfl, mu, i, a, b, c, t, lo, hi, m, rfl, ni, hT, hb, hc, by omega, fun H2 kp hT2 => ?_⟩
              exact ⟨_, rfl, R.only (MuE.refl H mu) (g.kp kp) kp hT2⟩
        · exact ⟨_, rfl, iteBN (fun _ => ⟨-1, rfl, bad (.inr (.inr (.inl (by omega))))⟩) (fun z => nomatch z)⟩
      · exact iteBN (fun _ => ⟨-1, rfl, bad (.inr (.inl c2))⟩) (fun z => nomatch z)
    · exact iteBN (fun _ => ⟨-1, rfl, bad (.inl c1)⟩) (fun z => nomatch z)
end
end Ks
namespace Ks
open PySem PySem.Spec PyProof.Rows L2
theorem passN {X : Cx} : Passes (L2N.CX X.prog X.w) X E0 := fun _ _ _ _ _ _ _ h => by
  obtain ⟨_, _, _, _, _, _, _, _, _, _, _, _, z⟩ := h
  exact z.elim
theorem valV_drop (kvs : List (Key × V)) (k j : Key) : valV (dropK kvs k) j = if j = k then none else valV kvs j := by
  induction kvs with
  | nil => unfold dropK; simp [valV]
  | cons p r ih =>
    unfold dropK at ih ⊢
    by_cases c : p.1 = k
    · rw [List.filter_cons_of_neg (by simp [c]), ih]
      by_cases d : j = k
      · rw [if_pos d, if_pos d]
      · rw [if_neg d, if_neg d, valV_neg (fun z => d (by rw [← z, c]))]
    · rw [List.filter_cons_of_pos (by simp [c])]
      by_cases d : p.1 = j
      · rw [valV_pos d, valV_pos d, if_neg (fun z => c (by rw [d, z]))]
      · rw [valV_neg d, valV_neg d, ih]
/-! ### the desk in the heap -/
def kF (p od td : Addr) : List (Str × V) := [("present", .ref p), ("older_states", .ref od), ("transactions", .ref td)]
section
variable (p od td : Addr)
theorem kF_p : (kF p od td).lookup ("present" : Str) = some (.ref p) := lk_here
theorem kF_o : (kF p od td).lookup ("older_states" : Str) = some (.ref od) := (lk_past (by decide +kernel)).trans lk_here
theorem kF_t : (kF p od td).lookup ("transactions" : Str) = some (.ref td) := (lk_past (by decide +kernel)).trans ((lk_past (by decide +kernel)).trans lk_here)
theorem kF_putp (q : Addr) : putF "present" (.ref q) (kF p od td) = kF q od td := put_here
theorem kF_n1 : putF "present" (.ref p) [] = ([("present", .ref p)] : List (Str × V)) := rfl
theorem kF_n2 : putF "older_states" (.ref od) ([("present", .ref p)] : List (Str × V)) = ([("present", .ref p), ("older_states", .ref od)] : List (Str × V)) := put_past (by decide +kernel)
theorem kF_n3 : putF "transactions" (.ref td) ([("present", .ref p), ("older_states", .ref od)] : List (Str × V)) = kF p od td := (put_past (by decide +kernel)).trans (congrArg _ (put_past (by decide +kernel)))
end
structure KTxt (K : PySem.W.Frag) (mg : Str → Option Value) (C : Addr) : Prop where
  cl : Cls K C
  nP : NoAttr K C "present"
  nO : NoAttr K C "older_states"
  nT : NoAttr K C "transactions"
  g : mg "Desk" = some (.ref C)
def OldR (mu : Mu) (H : Hp) (kv : List (Key × V)) (olds : List (Option Gv05.Map)) : Prop := ∀ j : Nat, j < 8 → match olds.getD j none with
  | some r => ∃ s, valV kv (Sum.inl (j : Int)) = some (.ref s) ∧ Mp Tb H s r ∧ mu s = 9 ∧ VOk r
  | none => valV kv (Sum.inl (j : Int)) = none
section
variable (P : Program) (w : World) (K : PySem.W.Frag) (C : Cs)
def TxR (mu : Mu) (H : Hp) (kv : List (Key × V)) (txns : List (Option TM)) : Prop := ∀ j : Nat, j < 8 → match txns.getD j none with
  | some t => ∃ ta, valV kv (Sum.inl (j : Int)) = some (.ref ta) ∧ Tx P w K C mu j H ta t
  | none => valV kv (Sum.inl (j : Int)) = none
structure DkA (mu : Mu) (n : Nat) (H : Hp) (a : Addr) (d : DM) (dx p od td : Addr) (okv tkv : List (Key × V)) : Prop where
  ins : H a = some (.ins C.S dx (kF p od td))
  ma : mu a = 8
  st : Mp Tb H p d.root
  mp : mu p = 9
  hod : H od = some (.dK okv)
  mod : mu od = 8
  lo : okv.length ≤ n
  olds : OldR mu H okv d.olds
  htd : H td = some (.dK tkv)
  mtd : mu td = 8
  lt : tkv.length ≤ n
  txs : TxR P w K C mu H tkv d.txns
  vok : VOk d.root
  ne : od ≠ td
def Dk (mu : Mu) (n : Nat) (H : Hp) (a : Addr) (d : DM) : Prop := ∃ dx p od td okv tkv, DkA P w K C mu n H a d dx p od td okv tkv
end
/-- a call changes no more than the desk's own, and its transactions' -/
structure KpD (mu : Mu) (H H' : Hp) : Prop where
  ts : TS H H'
  kp : ∀ b o, H b = some o → 9 ≤ mu b → H' b = some o
  dm : ∀ b, H' b = none → H b = none
theorem KpD.of {mu : Mu} {H H' : Hp} (s : Same H H') : KpD mu H H' := ⟨TS.of s, fun b o e _ => s b o e, fun b e => s.free e⟩
theorem KpD.trans {mu : Mu} {H H1 H2 : Hp} (a : KpD mu H H1) (b : KpD mu H1 H2) : KpD mu H H2 :=
  ⟨a.ts.trans b.ts, fun c o e n => b.kp c o (a.kp c o e n) n, fun c e => a.dm c (b.dm c e)⟩
theorem KpD.kp_ {mu : Mu} {i : Nat} {H H' : Hp} (k : Kp mu i H H') (hi : i < 9) : KpD mu H H' := ⟨k.ts, fun b o e n => k.kp b o e (by omega), k.dm⟩
theorem KpD.upd {mu : Mu} {H : Hp} {a : Addr} {u o : HO} (h : H a = some u) (n : ∀ xs, u ≠ .tup xs) (m : mu a = 8) : KpD mu H (L2.upd H a o) := KpD.kp_ (Kp.upd h n m) (by decide)
theorem KpD.muE {mu mu' : Mu} {H H' : Hp} (e : MuE H mu mu') (k : KpD mu' H H') : KpD mu H H' := ⟨k.ts, fun b o eb n => k.kp b o eb (by rw [e.at eb]; exact n), k.dm⟩
theorem Gh.kpD {mu : Mu} {H H' : Hp} (g : Gh mu H) (k : KpD mu H H') : Gh mu H' := fun b e => g b (k.dm b e)
section
variable {P : Program} {w : World} {K : PySem.W.Frag} {C : Cs} {mu mu' : Mu} {n : Nat} {H H' : Hp}
theorem OldR.stay (e : MuE H mu mu') (ts : TS H H') (k : ∀ b o, H b = some o → mu b = 9 → H' b = some o) {kv : List (Key × V)} {olds : List (Option Gv05.Map)} (h : OldR mu H kv olds) : OldR mu' H' kv olds := fun j hj => by
  have := h j hj
  revert this
  cases olds.getD j none with
  | none => exact fun z => z
  | some r =>
    rintro ⟨s, h1, h2, h3, h4⟩
    obtain ⟨xs, hx, _⟩ := id h2
    exact ⟨s, h1, h2.stay sb_tb ts (fun o eo => k _ _ eo h3), by rw [e.at hx]; exact h3, h4⟩
theorem TxR.stay (e : MuE H mu mu') (ts : TS H H') (k : ∀ b o, H b = some o → mu b ≤ 7 ∨ mu b = 9 → H' b = some o) {kv : List (Key × V)} {txns : List (Option TM)} (h : TxR P w K C mu H kv txns) : TxR P w K C mu' H' kv txns := fun j hj => by
  have := h j hj
  revert this
  cases txns.getD j none with
  | none => exact fun z => z
  | some t =>
    rintro ⟨ta, h1, h2⟩
    refine ⟨ta, h1, (h2.remu e).stay ts fun b o eb m => k b o eb ?_⟩
    rw [e.at eb] at m
    rcases m with m | m
    · exact .inr m
    · exact .inl (by omega)
theorem getD_set {α : Type} (l : List (Option α)) (i j : Nat) (u : Option α) (h : i < l.length) : (l.set i u).getD j none = if j = i then u else l.getD j none := by
  rw [List.getD_eq_getElem?_getD, List.getElem?_set]
  by_cases c : i = j
  · subst c
    rw [if_pos rfl, if_pos h, if_pos rfl]; rfl
  · rw [if_neg c, if_neg (Ne.symm c), List.getD_eq_getElem?_getD]
theorem key_ne {i j : Nat} (h : j ≠ i) : ¬ ((Sum.inl (j : Int) : Key) = Sum.inl (i : Int)) := fun z => by
  injection z with z
  omega
/-- slot i of the transactions is another -/
theorem TxR.set {i : Nat} (e : MuE H mu mu') (ts : TS H H') (k : ∀ b o, H b = some o → (mu b ≤ 7 ∧ mu b ≠ i) ∨ mu b = 9 → H' b = some o) {kv kv' : List (Key × V)} {txns : List (Option TM)} (h : TxR P w K C mu H kv txns) (hl : i < txns.length) (u : Option TM)
    (hk : ∀ j : Nat, j ≠ i → valV kv' (Sum.inl (j : Int)) = valV kv (Sum.inl (j : Int))) (hu : match u with
      | some t => ∃ ta, valV kv' (Sum.inl (i : Int)) = some (.ref ta) ∧ Tx P w K C mu' i H' ta t
      | none => valV kv' (Sum.inl (i : Int)) = none) : TxR P w K C mu' H' kv' (txns.set i u) := fun j hj => by
  rw [getD_set _ _ _ _ hl]
  by_cases c : j = i
  · subst c
    rw [if_pos rfl]; exact hu
  · rw [if_neg c, hk j c]
    have := h j hj
    revert this
    cases txns.getD j none with
    | none => exact fun z => z
    | some t =>
      rintro ⟨ta, h1, h2⟩
      refine ⟨ta, h1, (h2.remu e).stay ts fun b o eb m => k b o eb ?_⟩
      rw [e.at eb] at m
      rcases m with m | m
      · exact .inr m
      · exact .inl ⟨by omega, by omega⟩
theorem OldR.set {i : Nat} (e : MuE H mu mu') (ts : TS H H') (k : ∀ b o, H b = some o → mu b = 9 → H' b = some o) {kv kv' : List (Key × V)} {olds : List (Option Gv05.Map)} (h : OldR mu H kv olds) (hl : i < olds.length) (u : Option Gv05.Map)
    (hk : ∀ j : Nat, j ≠ i → valV kv' (Sum.inl (j : Int)) = valV kv (Sum.inl (j : Int))) (hu : match u with
      | some r => ∃ s, valV kv' (Sum.inl (i : Int)) = some (.ref s) ∧ Mp Tb H' s r ∧ mu' s = 9 ∧ VOk r
      | none => valV kv' (Sum.inl (i : Int)) = none) : OldR mu' H' kv' (olds.set i u) := fun j hj => by
  rw [getD_set _ _ _ _ hl]
  by_cases c : j = i
  · subst c
    rw [if_pos rfl]; exact hu
  · rw [if_neg c, hk j c]
    exact h.stay e ts k j hj
theorem DkA.stay (e : MuE H mu mu') (ts : TS H H') (k : ∀ b o, H b = some o → mu b ≤ 9 → H' b = some o) {a : Addr} {d : DM} {dx p od td : Addr} {okv tkv : List (Key × V)} (h : DkA P w K C mu n H a d dx p od td okv tkv) : DkA P w K C mu' n H' a d dx p od td okv tkv := by
  obtain ⟨xs, hx, _⟩ := id h.st
  exact ⟨k _ _ h.ins (by rw [h.ma]; decide), by rw [e.at h.ins]; exact h.ma, h.st.stay sb_tb ts (fun o eo => k _ _ eo (by rw [h.mp]; exact Nat.le_refl _)), by rw [e.at hx]; exact h.mp, k _ _ h.hod (by rw [h.mod]; decide), by rw [e.at h.hod]; exact h.mod, h.lo,
    h.olds.stay e ts (fun b o eb m => k b o eb (by omega)), k _ _ h.htd (by rw [h.mtd]; decide), by rw [e.at h.htd]; exact h.mtd, h.lt, h.txs.stay e ts (fun b o eb m => k b o eb (by omega)), h.vok, h.ne⟩
theorem Dk.stay (e : MuE H mu mu') (ts : TS H H') (k : ∀ b o, H b = some o → mu b ≤ 9 → H' b = some o) {a : Addr} {d : DM} (h : Dk P w K C mu n H a d) : Dk P w K C mu' n H' a d := by
  obtain ⟨dx, p, od, td, okv, tkv, h⟩ := h
  exact ⟨dx, p, od, td, okv, tkv, h.stay e ts k⟩
theorem DkA.same (s : Same H H') {a : Addr} {d : DM} {dx p od td : Addr} {okv tkv : List (Key × V)} (h : DkA P w K C mu n H a d dx p od td okv tkv) : DkA P w K C mu n H' a d dx p od td okv tkv := h.stay (MuE.refl H mu) (TS.of s) fun b o e _ => s b o e
theorem Dk.same (s : Same H H') {a : Addr} {d : DM} (h : Dk P w K C mu n H a d) : Dk P w K C mu n H' a d := h.stay (MuE.refl H mu) (TS.of s) fun b o e _ => s b o e
theorem DkA.mono {m : Nat} (hm : n ≤ m) {a : Addr} {d : DM} {dx p od td : Addr} {okv tkv : List (Key × V)} (h : DkA P w K C mu n H a d dx p od td okv tkv) : DkA P w K C mu m H a d dx p od td okv tkv :=
  ⟨h.ins, h.ma, h.st, h.mp, h.hod, h.mod, Nat.le_trans h.lo hm, h.olds, h.htd, h.mtd, Nat.le_trans h.lt hm, h.txs, h.vok, h.ne⟩
end
section
variable (P : Program) (w : World) (K : PySem.W.Frag) (C : Cs)
/-- how a call comes back -/
def RetD (mu : Mu) (n : Nat) (H : Hp) (a : Addr) (r : Gv05.Ans × DM) (Q : VK) : Prop := ∀ mu' H' p, H p = none → MuE H mu mu' → Gh mu' H' → KpD mu H H' → Dk P w K C mu' (n + 1) H' a r.2 → H' p = some (.lst ((encA r.1).map V.int)) → Q (.ref p) H'
end
section
variable {P : Program} {w : World} {K : PySem.W.Frag} {C : Cs} {mu mu' : Mu} {n : Nat} {H H1 : Hp} {a : Addr} {Q : VK}
theorem RetD.only {d : DM} {v : Int} (R : RetD P w K C mu n H a (Gv05.only v, d) Q) (e : MuE H mu mu') (g : Gh mu' H1) (k : KpD mu H H1) (x : Dk P w K C mu' (n + 1) H1 a d) (p : Addr) (hp : H1 p = none) : Q (.ref p) (upd H1 p (.lst [.int v, .int 0])) :=
  R mu' _ p (k.dm p hp) e (g.same (same_upd hp)) (k.trans (KpD.of (same_upd hp))) (x.same (same_upd hp)) upd_same
theorem RetD.bare {d : DM} {v : Int} (R : RetD P w K C mu n H a (Gv05.only v, d) Q) (g : Gh mu H) (x : Dk P w K C mu n H a d) (p : Addr) (hp : H p = none) : Q (.ref p) (upd H p (.lst [.int v, .int 0])) := by
  obtain ⟨dx, q, od, td, okv, tkv, x⟩ := x
  exact R.only (MuE.refl H mu) g (KpD.of (Same.refl H)) ⟨dx, q, od, td, okv, tkv, x.mono (Nat.le_succ n)⟩ p hp
end
/-! ### its small defs -/
section
variable {P : Program} {w : World} {K : PySem.W.Frag} {mg : Str → Option Value} {base : Heap} {C : Cs}
def sp_slot : Sp := fun vs H Q _ => ∃ n : Int, vs = [.int n] ∧ Q (.bl (Gv05.eight n)) H
theorem d_slot (D : Src K mg "is_slot" s_is_slot ["number"]) (c8 : GI mg "SLOTS" 8) : DefOk P w K mg base CX0 1 "is_slot" sp_slot := by
  refine D.ok sc_is_slot (fun vs H Q E h => ?_) (fun f cdv A outer s H vs Q E hr h => ⟨_, pss_one (ps_ret (pe_chain op_le op_lt pe_int (pv 0) (pe_gi c8))), ?_⟩)
  · obtain ⟨n, rfl, _⟩ := h
    rfl
  · obtain ⟨n, rfl, k⟩ := h
    unfold Gv05.eight at k
    refine ⟨_, rfl, _, _, rfl, rfl, _, rfl, iteD (fun c1 => ⟨_, _, rfl, rfl, ?_⟩) (fun c1 => ?_)⟩
    · rw [decide_eq_true c1, Bool.true_and] at k
      exact k
    · rw [decide_eq_false c1, Bool.false_and] at k
      exact k
/-- what refusal says -/
def code (kv : List (Key × V)) (n : Int) : Int := if Gv05.eight n = false then -1 else if (valV kv (Sum.inl n)).isSome = true then 0 else -2
def sp_refusal : Sp := fun vs H Q _ => ∃ (n : Int) (fa : Addr) (kv : List (Key × V)), vs = [.int n, .ref fa] ∧ H fa = some (.dK kv) ∧ Q (.int (code kv n)) H
theorem d_refusal (D : Src K mg "refusal" s_refusal ["number", "filled"]) (cW : GI mg "WRONG" (-1)) (cA : GI mg "ABSENT" (-2)) (cD : GI mg "DONE" 0) (A1 : DefOk P w K mg base CX0 1 "is_slot" sp_slot) : DefOk P w K mg base CX0 2 "refusal" sp_refusal := by
  refine D.ok sc_refusal (fun vs H Q E h => ?_) (fun f cdv A outer s H vs Q E hr h => ⟨_,
      pss_cons (ps_if (pt_not (pt_val (pe_cl A1 hr pass0 (pa_cons (pv 0) pa_nil)))) (pss_one (ps_ret (pe_gi cW))) pss_nil)
      (pss_cons (ps_if (pt_cmp (pc_dnotin (units1 hr) (pv 0) (pv 1))) (pss_one (ps_ret (pe_gi cA))) pss_nil)
      (pss_one (ps_ret (pe_gi cD)))), ?_⟩)
  · obtain ⟨n, fa, kv, rfl, _⟩ := h
    rfl
  · obtain ⟨n, fa, kv, rfl, hf, k⟩ := h
    unfold code at k
    refine ⟨_, rfl, n, rfl, _, rfl, iteBN (fun c => ?_) (fun c => ?_)⟩
    · rw [if_pos c] at k
      exact k
    · rw [if_neg (by rw [c]; decide)] at k
      refine ⟨_, rfl, _, rfl, fa, _, rfl, DGet.k (k := Sum.inl n) hf, _, rfl, iteBN (fun c2 => ?_) (fun c2 => ?_)⟩
      · rw [if_neg (by rw [c2]; decide)] at k
        exact k
      · rw [if_pos c2] at k
        exact k
def sp_emptySlot : Sp := fun vs H Q _ => ∃ (n : Int) (fa : Addr) (kv : List (Key × V)), vs = [.int n, .ref fa] ∧ H fa = some (.dK kv) ∧
  (code kv n ≠ 0 → ∀ p, H p = none → Q (.ref p) (upd H p (.lst [.int (code kv n), .int 0]))) ∧
  (code kv n = 0 → ∀ p, upd H fa (.dK (dropK kv (Sum.inl n))) p = none → Q (.ref p) (upd (upd H fa (.dK (dropK kv (Sum.inl n)))) p (.lst [.int 0, .int 0])))
theorem code_zero {kv : List (Key × V)} {n : Int} (h : code kv n = 0) : ∃ i : Nat, n = (i : Int) ∧ i < 8 ∧ ∃ v, valV kv (Sum.inl (i : Int)) = some v := by
  unfold code at h
  by_cases c : Gv05.eight n = false
  · rw [if_pos c] at h; cases h
  · rw [if_neg c] at h
    unfold Gv05.eight at c
    simp at c
    by_cases c2 : (valV kv (Sum.inl n)).isSome = true
    · obtain ⟨v, hv⟩ := Option.isSome_iff_exists.mp c2
      refine ⟨n.toNat, by omega, by omega, v, ?_⟩
      have e : ((n.toNat : Nat) : Int) = n := by omega
      rw [e]; exact hv
    · rw [if_neg c2] at h; cases h
theorem d_emptySlot (D : Src K mg "empty_slot" s_empty_slot ["number", "filled"]) (cD : GI mg "DONE" 0) (A1 : DefOk P w K mg base CX0 2 "refusal" sp_refusal) (A2 : DefOk P w K mg base CX0 1 "reply" sp_reply) : DefOk P w K mg base CX0 3 "empty_slot" sp_emptySlot := by
  refine D.ok sc_empty_slot (fun vs H Q E h => ?_) (fun f cdv A outer s H vs Q E hr h => ⟨_,
      pss_cons (ps_set (i := 2) sc_empty_slot.nd rfl (.inl rfl) (pe_cl A1 hr pass0 (pa_cons (pv 0) (pa_cons (pv 1) pa_nil))))
      (pss_cons (ps_if (pt_cmpR op_eq (pv 2) (pe_gi cD) (nomark _)) (pss_one (ps_expr (pe_dpop1 (pv 1) (pv 0) ⟨rfl, rfl, rfl, rfl⟩))) pss_nil)
      (pss_one (ps_ret (pe_cl A2 (hr.mono (by decide)) pass0 (pa_cons (pv 2) pa_nil))))), ?_⟩)
  · obtain ⟨n, fa, kv, rfl, _⟩ := h
    rfl
  · obtain ⟨n, fa, kv, rfl, hf, k1, k2⟩ := h
    refine ⟨_, rfl, _, rfl, n, fa, kv, rfl, hf, ?_⟩
    refine ⟨_, rfl, rfl, _, rfl, iteD (fun c => ?_) (fun c => ?_)⟩
    · rw [int_eq] at c
      obtain ⟨i, rfl, hi, v, hv⟩ := code_zero c
      refine ⟨_, rfl, fa, rfl, .inl ⟨_, .inl hf⟩, _, rfl, kv, Sum.inl (i : Int), v, hf, rfl, hv, ?_⟩
      refine ⟨_, rfl, _, rfl, ?_⟩
      rw [c]
      exact k2 c
    · rw [int_eq] at c
      exact ⟨_, rfl, _, rfl, k1 c⟩
end
end Ks
namespace Ks
open PySem PySem.Spec PyProof.Rows L2
section
variable {P : Program} {w : World} {K : PySem.W.Frag} {C : Cs} {mu mu' : Mu} {n : Nat} {H H1 : Hp} {a : Addr} {d : DM} {dx p od td : Addr} {okv tkv : List (Key × V)}
theorem putK_more (kv : List (Key × V)) (k : Key) (v : V) : (putK kv k v).length ≤ kv.length + 1 := by
  unfold putK
  split
  · rw [List.length_map]; exact Nat.le_succ _
  · simp
theorem TxR.code {kv : List (Key × V)} {txns : List (Option TM)} (h : TxR P w K C mu H kv txns) (i : Int) : (Gv05.eight i = false ∧ Ks.code kv i = -1) ∨ (∃ m : Nat, i = (m : Int) ∧ m < 8 ∧ txns.getD m none = none ∧ Ks.code kv i = -2) ∨
    ∃ (m : Nat) (t : TM) (ta : Addr), i = (m : Int) ∧ m < 8 ∧ txns.getD m none = some t ∧ valV kv (Sum.inl (m : Int)) = some (.ref ta) ∧ Tx P w K C mu m H ta t ∧ Ks.code kv i = 0 := by
  by_cases c : Gv05.eight i = false
  · exact .inl ⟨c, by unfold Ks.code; rw [if_pos c]⟩
  · have c' := c
    unfold Gv05.eight at c
    simp at c
    obtain ⟨m, rfl⟩ : ∃ m : Nat, i = (m : Int) := ⟨i.toNat, by omega⟩
    have hm : m < 8 := by omega
    have := h m hm
    cases e : txns.getD m none with
    | none =>
      rw [e] at this
      have this : valV kv (Sum.inl (m : Int)) = none := this
      refine .inr (.inl ⟨m, rfl, hm, e, ?_⟩)
      unfold Ks.code
      rw [if_neg c', this]; rfl
    | some t =>
      rw [e] at this
      obtain ⟨ta, h1, h2⟩ := this
      refine .inr (.inr ⟨m, t, ta, rfl, hm, e, h1, h2, ?_⟩)
      unfold Ks.code
      rw [if_neg c', h1]; rfl
theorem OldR.code {kv : List (Key × V)} {olds : List (Option Gv05.Map)} (h : OldR mu H kv olds) (i : Int) : (Gv05.eight i = false ∧ Ks.code kv i = -1) ∨ (∃ m : Nat, i = (m : Int) ∧ m < 8 ∧ olds.getD m none = none ∧ Ks.code kv i = -2) ∨
    ∃ (m : Nat) (r : Gv05.Map) (s : Addr), i = (m : Int) ∧ m < 8 ∧ olds.getD m none = some r ∧ valV kv (Sum.inl (m : Int)) = some (.ref s) ∧ Mp Tb H s r ∧ mu s = 9 ∧ VOk r ∧ Ks.code kv i = 0 := by
  by_cases c : Gv05.eight i = false
  · exact .inl ⟨c, by unfold Ks.code; rw [if_pos c]⟩
  · have c' := c
    unfold Gv05.eight at c
    simp at c
    obtain ⟨m, rfl⟩ : ∃ m : Nat, i = (m : Int) := ⟨i.toNat, by omega⟩
    have hm : m < 8 := by omega
    have := h m hm
    cases e : olds.getD m none with
    | none =>
      rw [e] at this
      have this : valV kv (Sum.inl (m : Int)) = none := this
      refine .inr (.inl ⟨m, rfl, hm, e, ?_⟩)
      unfold Ks.code
      rw [if_neg c', this]; rfl
    | some r =>
      rw [e] at this
      obtain ⟨s, h1, h2, h3, h4⟩ := this
      refine .inr (.inr ⟨m, r, s, rfl, hm, e, h1, h2, h3, h4, ?_⟩)
      unfold Ks.code
      rw [if_neg c', h1]; rfl
theorem eight_nat {m : Nat} (h : m < 8) : ¬ Gv05.eight (m : Int) = false := by
  unfold Gv05.eight
  simp
  omega
theorem eight_some {i : Int} (c : ¬ Gv05.eight i = false) : ∃ m : Nat, i = (m : Int) ∧ m < 8 := by
  unfold Gv05.eight at c
  simp at c
  exact ⟨i.toNat, by omega, by omega⟩
theorem onP_no {i : Int} (h : Gv05.eight i = false) (f : TM → Gv05.Ans × DM) : onP d i f = (Gv05.only Gv05.BAD, d) := by unfold onP; rw [if_pos h]
theorem onP_none {m : Nat} (hm : m < 8) (h : d.txns.getD m none = none) (f : TM → Gv05.Ans × DM) : onP d (m : Int) f = (Gv05.only Gv05.ABSENT, d) := by
  unfold onP
  rw [if_neg (eight_nat hm), Int.toNat_natCast, h]
theorem onP_some {m : Nat} (hm : m < 8) {t : TM} (h : d.txns.getD m none = some t) (f : TM → Gv05.Ans × DM) : onP d (m : Int) f = f t := by
  unfold onP
  rw [if_neg (eight_nat hm), Int.toNat_natCast, h]
theorem putT_nat (m : Nat) (u : Option TM) : putT d (m : Int) u = { d with txns := d.txns.set m u } := by unfold putT; rw [Int.toNat_natCast]
/-! what becomes of the desk -/
theorem DkA.begun {i : Nat} (hi : i < 8) (x : DkA P w K C mu n H a d dx p od td okv tkv) (t8 : d.txns.length = 8) (s : Same H H1) (e : MuE H mu mu') {ta : Addr} {t : TM} (hT : Tx P w K C mu' i H1 ta t) :
    Dk P w K C mu' (n + 1) (upd H1 td (.dK (putK tkv (Sum.inl (i : Int)) (.ref ta)))) a (putT d (i : Int) (some t)) := by
  have htd1 := s _ _ x.htd
  have ts : TS H (upd H1 td (.dK (putK tkv (Sum.inl (i : Int)) (.ref ta)))) := TS.trans (TS.of s) (TS.upd htd1 (by intro xs z; cases z))
  have k : ∀ b o, H b = some o → b ≠ td → upd H1 td (.dK (putK tkv (Sum.inl (i : Int)) (.ref ta))) b = some o := fun b o eb nb => by rw [upd_ne nb]; exact s _ _ eb
  have k9 : ∀ b o, H b = some o → mu b ≠ 8 → upd H1 td (.dK (putK tkv (Sum.inl (i : Int)) (.ref ta))) b = some o := fun b o eb nb => k b o eb (fun z => nb (by rw [z]; exact x.mtd))
  obtain ⟨xs, hx, _⟩ := id x.st
  rw [putT_nat]
  refine ⟨dx, p, od, td, okv, putK tkv (Sum.inl (i : Int)) (.ref ta), ⟨k _ _ x.ins (ne_of x.ins x.htd (by intro z; cases z)), (e.at x.ins).trans x.ma, x.st.stay sb_tb ts (fun o eo => k9 _ _ eo (by rw [x.mp]; decide)), (e.at hx).trans x.mp, k _ _ x.hod x.ne, (e.at x.hod).trans x.mod, Nat.le_trans x.lo (Nat.le_succ n), x.olds.stay e ts (fun b o eb m => k9 b o eb (by omega)), upd_same, (e.at x.htd).trans x.mtd, ?_, ?_, x.vok, x.ne⟩⟩
  · have := putK_more tkv (Sum.inl (i : Int)) (.ref ta)
    have := x.lt
    omega
  · refine x.txs.set e ts (fun b o eb m => k9 b o eb (by omega)) (by rw [t8]; exact hi) _ (fun j hj => ?_) ⟨ta, ?_, hT.stay (TS.upd htd1 (by intro xs z; cases z)) (fun b o eb m => ?_)⟩
    · rw [valV_put, if_neg (key_ne hj)]
    · rw [valV_put, if_pos rfl]
    · rw [upd_ne (fun z => by rw [z, e.at x.htd, x.mtd] at m; omega)]; exact eb
theorem DkA.stepped {i : Nat} (hi : i < 8) (x : DkA P w K C mu n H a d dx p od td okv tkv) (t8 : d.txns.length = 8) (kp : Kp mu i H H1) (e : MuE H mu mu') {ta : Addr} (hv : valV tkv (Sum.inl (i : Int)) = some (.ref ta)) {t : TM} (hT : Tx P w K C mu' i H1 ta t) :
    Dk P w K C mu' (n + 1) H1 a (putT d (i : Int) (some t)) := by
  obtain ⟨xs, hx, _⟩ := id x.st
  rw [putT_nat]
  refine ⟨dx, p, od, td, okv, tkv, ⟨kp.kp _ _ x.ins (by rw [x.ma]; omega), (e.at x.ins).trans x.ma, x.st.stay sb_tb kp.ts (fun o eo => kp.kp _ _ eo (by rw [x.mp]; omega)), (e.at hx).trans x.mp, kp.kp _ _ x.hod (by rw [x.mod]; omega), (e.at x.hod).trans x.mod, Nat.le_trans x.lo (Nat.le_succ n), x.olds.stay e kp.ts (fun b o eb m => kp.kp b o eb (by omega)), kp.kp _ _ x.htd (by rw [x.mtd]; omega), (e.at x.htd).trans x.mtd, Nat.le_trans x.lt (Nat.le_succ n), ?_, x.vok, x.ne⟩⟩
  exact x.txs.set e kp.ts (fun b o eb m => kp.kp b o eb (by omega)) (by rw [t8]; exact hi) _ (fun j hj => rfl) ⟨ta, hv, hT⟩
theorem DkA.popped {i : Nat} (hi : i < 8) (x : DkA P w K C mu n H a d dx p od td okv tkv) (t8 : d.txns.length = 8) :
    DkA P w K C mu (n + 1) (upd H td (.dK (dropK tkv (Sum.inl (i : Int))))) a (putT d (i : Int) none) dx p od td okv (dropK tkv (Sum.inl (i : Int))) := by
  have ts : TS H (upd H td (.dK (dropK tkv (Sum.inl (i : Int))))) := TS.upd x.htd (by intro xs z; cases z)
  have k : ∀ b o, H b = some o → b ≠ td → upd H td (.dK (dropK tkv (Sum.inl (i : Int)))) b = some o := fun b o eb nb => by rw [upd_ne nb]; exact eb
  have k9 : ∀ b o, H b = some o → mu b ≠ 8 → upd H td (.dK (dropK tkv (Sum.inl (i : Int)))) b = some o := fun b o eb nb => k b o eb (fun z => nb (by rw [z]; exact x.mtd))
  rw [putT_nat]
  refine ⟨k _ _ x.ins (ne_of x.ins x.htd (by intro z; cases z)), x.ma, x.st.stay sb_tb ts (fun o eo => k9 _ _ eo (by rw [x.mp]; decide)), x.mp, k _ _ x.hod x.ne, x.mod, Nat.le_trans x.lo (Nat.le_succ n), x.olds.stay (MuE.refl H mu) ts (fun b o eb m => k9 b o eb (by omega)), upd_same, x.mtd, Nat.le_trans (dropK_le _ _) (Nat.le_trans x.lt (Nat.le_succ n)), ?_, x.vok, x.ne⟩
  refine x.txs.set (MuE.refl H mu) ts (fun b o eb m => k9 b o eb (by omega)) (by rw [t8]; exact hi) _ (fun j hj => ?_) ?_
  · rw [valV_drop, if_neg (key_ne hj)]
  · show valV (dropK tkv (Sum.inl (i : Int))) (Sum.inl (i : Int)) = none
    rw [valV_drop, if_pos rfl]
theorem DkA.kept {i : Nat} (hi : i < 8) (x : DkA P w K C mu n H a d dx p od td okv tkv) (o8 : d.olds.length = 8) :
    Dk P w K C mu (n + 1) (upd H od (.dK (putK okv (Sum.inl (i : Int)) (.ref p)))) a { d with olds := d.olds.set i (some d.root) } := by
  have ts : TS H (upd H od (.dK (putK okv (Sum.inl (i : Int)) (.ref p)))) := TS.upd x.hod (by intro xs z; cases z)
  have k : ∀ b o, H b = some o → b ≠ od → upd H od (.dK (putK okv (Sum.inl (i : Int)) (.ref p))) b = some o := fun b o eb nb => by rw [upd_ne nb]; exact eb
  have k9 : ∀ b o, H b = some o → mu b ≠ 8 → upd H od (.dK (putK okv (Sum.inl (i : Int)) (.ref p))) b = some o := fun b o eb nb => k b o eb (fun z => nb (by rw [z]; exact x.mod))
  have st' := x.st.stay sb_tb ts (fun o eo => k9 _ _ eo (by rw [x.mp]; decide))
  refine ⟨dx, p, od, td, putK okv (Sum.inl (i : Int)) (.ref p), tkv, ⟨k _ _ x.ins (ne_of x.ins x.hod (by intro z; cases z)), x.ma, st', x.mp, upd_same, x.mod, ?_, ?_, k _ _ x.htd (Ne.symm x.ne), x.mtd, Nat.le_trans x.lt (Nat.le_succ n), x.txs.stay (MuE.refl H mu) ts (fun b o eb m => k9 b o eb (by omega)), x.vok, x.ne⟩⟩
  · have := putK_more okv (Sum.inl (i : Int)) (.ref p)
    have := x.lo
    omega
  · refine x.olds.set (MuE.refl H mu) ts (fun b o eb m => k9 b o eb (by omega)) (by rw [o8]; exact hi) _ (fun j hj => ?_) ⟨p, ?_, st', x.mp, x.vok⟩
    · rw [valV_put, if_neg (key_ne hj)]
    · rw [valV_put, if_pos rfl]
theorem DkA.forgot {i : Nat} (hi : i < 8) (x : DkA P w K C mu n H a d dx p od td okv tkv) (o8 : d.olds.length = 8) :
    Dk P w K C mu (n + 1) (upd H od (.dK (dropK okv (Sum.inl (i : Int))))) a { d with olds := d.olds.set i none } := by
  have ts : TS H (upd H od (.dK (dropK okv (Sum.inl (i : Int))))) := TS.upd x.hod (by intro xs z; cases z)
  have k : ∀ b o, H b = some o → b ≠ od → upd H od (.dK (dropK okv (Sum.inl (i : Int)))) b = some o := fun b o eb nb => by rw [upd_ne nb]; exact eb
  have k9 : ∀ b o, H b = some o → mu b ≠ 8 → upd H od (.dK (dropK okv (Sum.inl (i : Int)))) b = some o := fun b o eb nb => k b o eb (fun z => nb (by rw [z]; exact x.mod))
  refine ⟨dx, p, od, td, dropK okv (Sum.inl (i : Int)), tkv, ⟨k _ _ x.ins (ne_of x.ins x.hod (by intro z; cases z)), x.ma, x.st.stay sb_tb ts (fun o eo => k9 _ _ eo (by rw [x.mp]; decide)), x.mp, upd_same, x.mod, Nat.le_trans (dropK_le _ _) (Nat.le_trans x.lo (Nat.le_succ n)), ?_, k _ _ x.htd (Ne.symm x.ne), x.mtd, Nat.le_trans x.lt (Nat.le_succ n), x.txs.stay (MuE.refl H mu) ts (fun b o eb m => k9 b o eb (by omega)), x.vok, x.ne⟩⟩
  refine x.olds.set (MuE.refl H mu) ts (fun b o eb m => k9 b o eb (by omega)) (by rw [o8]; exact hi) _ (fun j hj => ?_) ?_
  · rw [valV_drop, if_neg (key_ne hj)]
  · show valV (dropK okv (Sum.inl (i : Int))) (Sum.inl (i : Int)) = none
    rw [valV_drop, if_pos rfl]
/-- the present state is another -/
theorem DkA.rooted (x : DkA P w K C mu n H a d dx p od td okv tkv) (s : Same H H1) {q : Addr} {m : Gv05.Map} (hq : Mp Tb H1 q m) (mq : mu q = 9) (hv : VOk m) :
    DkA P w K C mu n (upd H1 a (.ins C.S dx (kF q od td))) a { d with root := m } dx q od td okv tkv := by
  have x1 := x.same s
  have ts : TS H1 (upd H1 a (.ins C.S dx (kF q od td))) := TS.upd x1.ins (by intro xs z; cases z)
  have k : ∀ b o, H1 b = some o → b ≠ a → upd H1 a (.ins C.S dx (kF q od td)) b = some o := fun b o eb nb => by rw [upd_ne nb]; exact eb
  have k9 : ∀ b o, H1 b = some o → mu b ≠ 8 → upd H1 a (.ins C.S dx (kF q od td)) b = some o := fun b o eb nb => k b o eb (fun z => nb (by rw [z]; exact x.ma))
  exact ⟨upd_same, x.ma, hq.stay sb_tb ts (fun o eo => k9 _ _ eo (by rw [mq]; decide)), mq, k _ _ x1.hod (ne_of x1.hod x1.ins (by intro z; cases z)), x.mod, x.lo, x1.olds.stay (MuE.refl H1 mu) ts (fun b o eb m => k9 b o eb (by omega)), k _ _ x1.htd (ne_of x1.htd x1.ins (by intro z; cases z)), x.mtd, x.lt, x1.txs.stay (MuE.refl H1 mu) ts (fun b o eb m => k9 b o eb (by omega)), hv, x.ne⟩
end
section
variable {P : Program} {w : World} {K : PySem.W.Frag} {mg : Str → Option Value} {base : Heap} {C : Cs}
/-! Desk.__init__ -/
def sp_kInit (C : Addr) : Sp := fun vs H Q _ => ∃ (p dx : Addr), vs = [.ref p] ∧ H p = some (.ins C dx []) ∧
  ∀ H' st od td, H st = none → H od = none → H td = none → od ≠ td → H' p = some (.ins C dx (kF st od td)) → H' st = some (.lst []) → H' od = some (.dK []) → H' td = some (.dK []) → But p H H' → Q .non H'
theorem d_kInit {CK : Addr} (T : KTxt K mg CK) (D : ISrc K CK "Desk.__init__" s_Desk_init ["self"]) (A1 : DefOk P w K mg base CX0 1 "empty_map" sp_empty) : InitOk P w K mg base CX0 2 CK (sp_kInit CK) := by
  refine D.ok sc_Desk_init (fun vs H Q E h => ?_) (fun f cdv A outer s H vs Q E hr h => ⟨_, pss_cons (ps_fld (pv 0) (pe_cl0 A1 hr pass0) rfl) (pss_cons (ps_fld (pv 0) pe_dnewK rfl) (pss_one (ps_fld (pv 0) pe_dnewK rfl))), ?_⟩)
  · obtain ⟨p, dx, rfl, _⟩ := h
    rfl
  · obtain ⟨p, dx, rfl, hp, k⟩ := h
    refine ⟨rfl, fun st hst => ?_⟩
    have s1 := same_upd (o := .lst []) hst
    have n1 : st ≠ p := fun z => by rw [z, hp] at hst; cases hst
    refine ⟨_, rfl, p, CK, dx, [], rfl, s1 _ _ hp, T.cl, T.nP, (by show 0 < 1000; decide), ?_⟩
    intro od hod
    rw [kF_n1] at hod ⊢
    have n2 : od ≠ p := fun z => by rw [z, upd_same] at hod; cases hod
    rw [upd_ne n2] at hod
    have n2b : od ≠ st := fun z => by rw [z, upd_same] at hod; cases hod
    refine ⟨_, rfl, p, CK, dx, ([("present", .ref st)] : List (Str × V)), rfl, ?_, T.cl, T.nO, (by show 1 < 1000; decide), ?_⟩
    · rw [upd_ne (Ne.symm n2)]; exact upd_same
    · intro td htd
      rw [kF_n2] at htd ⊢
      have n3 : td ≠ p := fun z => by rw [z, upd_same] at htd; cases htd
      rw [upd_ne n3] at htd
      have n3b : td ≠ od := fun z => by rw [z, upd_same] at htd; cases htd
      rw [upd_ne n3b, upd_ne n3] at htd
      have n3c : td ≠ st := fun z => by rw [z, upd_same] at htd; cases htd
      refine ⟨_, rfl, p, CK, dx, ([("present", .ref st), ("older_states", .ref od)] : List (Str × V)), rfl, ?_, T.cl, T.nT, (by show 2 < 1000; decide), ?_⟩
      · rw [upd_ne (Ne.symm n3)]; exact upd_same
      · refine k _ st od td hst (s1.free hod) (s1.free htd) (Ne.symm n3b) (Eq.trans upd_same (congrArg (fun q => some (HO.ins CK dx q)) (kF_n3 st od td))) ?_ ?_ ?_ fun b o e nb => ?_
        · rw [upd_ne n1, upd_ne (Ne.symm n3c), upd_ne n1, upd_ne (Ne.symm n2b), upd_ne n1]; exact upd_same
        · rw [upd_ne n2, upd_ne (Ne.symm n3b), upd_ne n2]; exact upd_same
        · rw [upd_ne n3]; exact upd_same
        · rw [upd_ne nb, upd_ne (fun z => by rw [z] at e; rw [s1 _ _ e] at htd; cases htd), upd_ne nb, upd_ne (fun z => by rw [z] at e; rw [s1 _ _ e] at hod; cases hod), upd_ne nb]
          exact s1 _ _ e
/-! begin -/
def sp_call (P : Program) (w : World) (K : PySem.W.Frag) (C : Cs) (G : Hp → List V → Gv05.Call → Prop) : Sp := fun vs H Q _ => ∃ (mu : Mu) (n nn : Nat) (a gv : Addr) (given : List V) (d : DM) (x : Gv05.Call), vs = [.ref a, .ref gv] ∧ Gh mu H ∧ Dk P w K C mu n H a d ∧ DOk nn d ∧ nn ≤ 99999 ∧ n ≤ 10000 ∧ H gv = some (.lst given) ∧ G H given x ∧
  RetD P w K C mu n H a (deskP d x) Q
theorem root_len {nn : Nat} {d : DM} (h : DOk nn d) : d.root.length ≤ nn := Nat.le_trans (Nat.le_add_right _ _) h.few
/-- a transaction is made and put into its slot -/
theorem made {mu : Mu} {H : Hp} {x dx : Addr} (g : Gh mu H) (hx : H x = none) (hd : H dx = none) {o : HO} : Gh mu (upd (upd H dx (.own x)) x o) := fun b e => by
  have n1 : b ≠ x := fun z => by rw [z, upd_same] at e; cases e
  rw [upd_ne n1] at e
  have n2 : b ≠ dx := fun z => by rw [z, upd_same] at e; cases e
  rw [upd_ne n2] at e
  exact g b e
theorem made_ne {H : Hp} {x dx b : Addr} (hx : H x = none) (hd : H dx = none) {o : HO} (h : H b ≠ none) : upd (upd H dx (.own x)) x o b ≠ none ∧ b ≠ x := by
  have n1 : b ≠ x := fun z => h (by rw [z]; exact hx)
  have n2 : b ≠ dx := fun z => h (by rw [z]; exact hd)
  refine ⟨?_, n1⟩
  rw [upd_ne n1, upd_ne n2]; exact h
def g_begin : Hp → List V → Gv05.Call → Prop := fun _ gs x => ∃ i, gs = [.int i] ∧ x = .begin_ i
theorem d_begin (TK : KTxt K mg C.S) (T : TTxt K mg C.T) (D : Src K mg "begin" s_begin ["desk", "given"]) (cW : GI mg "WRONG" (-1)) (cD : GI mg "DONE" 0) (A1 : DefOk P w K mg base CX0 1 "is_slot" sp_slot) (A2 : DefOk P w K mg base CX0 1 "reply" sp_reply) (I : InitOk P w K mg base CX0 4 C.T (sp_tInit P w K C)) :
    DefOk P w K mg base CX0 6 "begin" (sp_call P w K C g_begin) := by
  refine D.ok sc_begin (fun vs H Q E h => ?_) (fun f cdv A outer s H vs Q E hr h => ⟨_,
      pss_cons (ps_if (pt_not (pt_val (pe_cl A1 (hr.mono (by decide)) pass0 (pa_cons (pe_ix ix_list (pv 1) pe_int (fun _ _ => rfl)) pa_nil)))) (pss_one (ps_ret (pe_cl A2 (hr.mono (by decide)) pass0 (pa_cons (pe_gi cW) pa_nil)))) pss_nil)
      (pss_cons (ps_dput (units1 hr) (pe_fld (pv 0) rfl) (pe_ix ix_list (pv 1) pe_int (fun _ _ => rfl)) (pe_mk I hr T.g pass0 (pa_cons (pe_fld (pv 0) rfl) pa_nil)) rfl)
      (pss_one (ps_ret (pe_cl A2 (hr.mono (by decide)) pass0 (pa_cons (pe_gi cD) pa_nil))))), ?_⟩)
  · obtain ⟨mu, n, nn, a, gv, given, d, x, rfl, _⟩ := h
    rfl
  · obtain ⟨mu, n, nn, a, gv, given, d, _, rfl, g, hD, ok, hnn, hn, hg, ⟨i, rfl, rfl⟩, R⟩ := h
    obtain ⟨dx, p, od, td, okv, tkv, x⟩ := id hD
    have e0 : deskP d (.begin_ i) = if Gv05.eight i = false then (Gv05.only Gv05.BAD, d) else (Gv05.only 0, putT d i (some (Gv05.begin_ d.root))) := rfl
    rw [e0] at R
    refine ⟨_, rfl, _, _, _, _, rfl, rfl, SqL.of hg, tup0, i, rfl, _, rfl, iteBN (fun c => ?_) (fun c => ?_)⟩
    · rw [if_pos c] at R
      exact ⟨-1, rfl, R.bare g hD⟩
    · have c' : ¬ Gv05.eight i = false := by rw [c]; decide
      rw [if_neg c'] at R
      obtain ⟨m, rfl, hm⟩ := eight_some c'
      refine ⟨_, rfl, a, C.S, dx, _, _, rfl, x.ins, TK.cl, TK.nP, kF_p p od td, fun ta tdx hta htdx ne => ?_⟩
      have rl := root_len ok
      have sH0 : Same H (upd (upd H tdx (.own ta)) ta (.ins C.T tdx [])) := Same.trans (same_upd htdx) (same_upd (by rw [upd_ne (Ne.symm ne)]; exact hta))
      refine ⟨ta, tdx, p, d.root, rfl, upd_same, x.st.same sb_tb sH0, ok.root, by omega, x.vok, fun H1 b1 hmk => ⟨rfl, ?_⟩⟩
      have s1 := mk_same hta htdx b1
      obtain ⟨mu', m1, g', hT⟩ := hmk mu m (made g hta htdx) x.mp
      have e : MuE H mu mu' := fun b hb => (made_ne (o := .ins C.T tdx []) hta htdx hb).elim fun z1 z2 => m1 b z1 z2
      have x1 := x.same s1
      refine ⟨_, rfl, a, C.S, dx, _, _, rfl, x1.ins, TK.cl, TK.nT, kF_t p od td, _, rfl, _, _, _, _, rfl, rfl, SqL.of (s1 _ _ hg), tup0, td, _, rfl, DPut.k (k := Sum.inl (m : Int)) x1.htd (small_lt (m := 20000) (by have := x.lt; omega)), ?_⟩
      have kd : KpD mu H (upd H1 td (.dK (putK tkv (Sum.inl (m : Int)) (.ref ta)))) := (KpD.of s1).trans (KpD.upd x1.htd (by intro xs z; cases z) x.mtd)
      refine ⟨0, rfl, R.only e ?_ kd (x.begun hm ok.t8 s1 e hT)⟩
      intro b eb
      have n1 : b ≠ td := fun z => by rw [z, upd_same] at eb; cases eb
      rw [upd_ne n1] at eb
      exact g' b eb
/-! older -/
def g_older : Hp → List V → Gv05.Call → Prop := fun _ gs x => ∃ i j, gs = [.int i, .int j] ∧ x = .older i j
theorem d_older (TK : KTxt K mg C.S) (T : TTxt K mg C.T) (D : Src K mg "older" s_older ["desk", "given"]) (cW : GI mg "WRONG" (-1)) (cD : GI mg "DONE" 0) (A1 : DefOk P w K mg base CX0 1 "is_slot" sp_slot) (A2 : DefOk P w K mg base CX0 1 "reply" sp_reply) (A3 : DefOk P w K mg base CX0 2 "refusal" sp_refusal) (I : InitOk P w K mg base CX0 4 C.T (sp_tInit P w K C)) :
    DefOk P w K mg base CX0 6 "older" (sp_call P w K C g_older) := by
  refine D.ok sc_older (fun vs H Q E h => ?_) (fun f cdv A outer s H vs Q E hr h => ⟨_,
      pss_cons (ps_if (pt_not (pt_val (pe_cl A1 (hr.mono (by decide)) pass0 (pa_cons (pe_ix ix_list (pv 1) pe_int (fun _ _ => rfl)) pa_nil)))) (pss_one (ps_ret (pe_cl A2 (hr.mono (by decide)) pass0 (pa_cons (pe_gi cW) pa_nil)))) pss_nil)
      (pss_cons (ps_set (i := 2) sc_older.nd rfl (.inl rfl) (pe_cl A3 (hr.mono (by decide)) pass0 (pa_cons (pe_ix ix_list (pv 1) pe_int (fun _ _ => rfl)) (pa_cons (pe_fld (pv 0) rfl) pa_nil))))
      (pss_cons (ps_if (pt_cmpR op_ne (pv 2) (pe_gi cD) (nomark _)) (pss_one (ps_ret (pe_cl A2 (hr.mono (by decide)) pass0 (pa_cons (pv 2) pa_nil)))) pss_nil)
      (pss_cons (ps_dput (units1 hr) (pe_fld (pv 0) rfl) (pe_ix ix_list (pv 1) pe_int (fun _ _ => rfl)) (pe_mk I hr T.g pass0 (pa_cons (pe_dget (units1 hr) (pe_fld (pv 0) rfl) (pe_ix ix_list (pv 1) pe_int (fun _ _ => rfl)) (fun _ _ => rfl)) pa_nil)) rfl)
      (pss_one (ps_ret (pe_cl A2 (hr.mono (by decide)) pass0 (pa_cons (pe_gi cD) pa_nil))))))), ?_⟩)
  · obtain ⟨mu, n, nn, a, gv, given, d, x, rfl, _⟩ := h
    rfl
  · obtain ⟨mu, n, nn, a, gv, given, d, _, rfl, g, hD, ok, hnn, hn, hg, ⟨i, j, rfl, rfl⟩, R⟩ := h
    obtain ⟨dx, p, od, td, okv, tkv, x⟩ := id hD
    have e0 : deskP d (.older i j) = if Gv05.eight i = false ∨ Gv05.eight j = false then (Gv05.only Gv05.BAD, d) else match d.olds.getD j.toNat none with
      | some r => (Gv05.only 0, putT d i (some (Gv05.begin_ r)))
      | none => (Gv05.only Gv05.ABSENT, d) := rfl
    rw [e0] at R
    refine ⟨_, rfl, _, _, _, _, rfl, rfl, SqL.of hg, tup0, i, rfl, _, rfl, iteBN (fun c => ?_) (fun c => ?_)⟩
    · rw [if_pos (.inl c)] at R
      exact ⟨-1, rfl, R.bare g hD⟩
    · have c' : ¬ Gv05.eight i = false := by rw [c]; decide
      obtain ⟨m, rfl, hm⟩ := eight_some c'
      refine ⟨_, rfl, _, _, _, _, rfl, rfl, SqL.of hg, tup1, _, rfl, a, C.S, dx, _, _, rfl, x.ins, TK.cl, TK.nO, kF_o p od td, j, od, okv, rfl, x.hod, ?_⟩
      refine ⟨_, rfl, rfl, _, rfl, ?_⟩
      rcases x.olds.code j with ⟨c2, ec⟩ | ⟨q, rfl, hq, eo, ec⟩ | ⟨q, r, st, rfl, hq, eo, hv, hst, m9, vr, ec⟩
      · rw [ec]
        refine iteDN (fun _ => ?_) (fun z => by cases z)
        rw [if_pos (.inr c2)] at R
        exact ⟨_, rfl, -1, rfl, R.bare g hD⟩
      · rw [ec]
        refine iteDN (fun _ => ?_) (fun z => by cases z)
        rw [if_neg (by rintro (z | z); exact c' z; exact eight_nat hq z), Int.toNat_natCast, eo] at R
        exact ⟨_, rfl, -2, rfl, R.bare g hD⟩
      · rw [ec]
        refine iteDN (fun z => absurd rfl z) (fun _ => ?_)
        rw [if_neg (by rintro (z | z); exact c' z; exact eight_nat hq z), Int.toNat_natCast, eo] at R
        have R : RetD P w K C mu n H a (Gv05.only 0, putT d (m : Int) (some (Gv05.begin_ r))) Q := R
        refine ⟨_, rfl, a, C.S, dx, _, _, rfl, x.ins, TK.cl, TK.nO, kF_o p od td, _, rfl, _, _, _, _, rfl, rfl, SqL.of hg, tup1, od, .ref st, rfl, (by rw [← hv]; exact DGet.k (k := Sum.inl (q : Int)) x.hod), fun ta tdx hta htdx ne => ?_⟩
        have oq : d.olds[q]? = some (some r) := getD_some eo
        obtain ⟨sr, lr⟩ := ok.olds q r oq
        have sH0 : Same H (upd (upd H tdx (.own ta)) ta (.ins C.T tdx [])) := Same.trans (same_upd htdx) (same_upd (by rw [upd_ne (Ne.symm ne)]; exact hta))
        refine ⟨ta, tdx, st, r, rfl, upd_same, hst.same sb_tb sH0, sr, by omega, vr, fun H1 b1 hmk => ⟨rfl, ?_⟩⟩
        have s1 := mk_same hta htdx b1
        obtain ⟨mu', m1, g', hT⟩ := hmk mu m (made g hta htdx) m9
        have e : MuE H mu mu' := fun b hb => (made_ne (o := .ins C.T tdx []) hta htdx hb).elim fun z1 z2 => m1 b z1 z2
        have x1 := x.same s1
        refine ⟨_, rfl, a, C.S, dx, _, _, rfl, x1.ins, TK.cl, TK.nT, kF_t p od td, _, rfl, _, _, _, _, rfl, rfl, SqL.of (s1 _ _ hg), tup0, td, _, rfl, DPut.k (k := Sum.inl (m : Int)) x1.htd (small_lt (m := 20000) (by have := x.lt; omega)), ?_⟩
        have kd : KpD mu H (upd H1 td (.dK (putK tkv (Sum.inl (m : Int)) (.ref ta)))) := (KpD.of s1).trans (KpD.upd x1.htd (by intro xs z; cases z) x.mtd)
        refine ⟨0, rfl, R.only e ?_ kd (x.begun hm ok.t8 s1 e hT)⟩
        intro b eb
        have n1 : b ≠ td := fun z => by rw [z, upd_same] at eb; cases eb
        rw [upd_ne n1] at eb
        exact g' b eb
end
end Ks
namespace Ks
open PySem PySem.Spec PyProof.Rows L2
section
variable {P : Program} {w : World} {K : PySem.W.Frag} {mg : Str → Option Value} {base : Heap} {C : Cs}
/-! drop, forget -/
def g_drop : Hp → List V → Gv05.Call → Prop := fun _ gs x => ∃ i, gs = [.int i] ∧ x = .drop i
theorem d_drop (TK : KTxt K mg C.S) (D : Src K mg "drop" s_drop ["desk", "given"]) (A1 : DefOk P w K mg base CX0 3 "empty_slot" sp_emptySlot) : DefOk P w K mg base CX0 4 "drop" (sp_call P w K C g_drop) := by
  refine D.ok sc_drop (fun vs H Q E h => ?_) (fun f cdv A outer s H vs Q E hr h => ⟨_,
      pss_one (ps_ret (pe_cl A1 hr pass0 (pa_cons (pe_ix ix_list (pv 1) pe_int (fun _ _ => rfl)) (pa_cons (pe_fld (pv 0) rfl) pa_nil)))), ?_⟩)
  · obtain ⟨mu, n, nn, a, gv, given, d, x, rfl, _⟩ := h
    rfl
  · obtain ⟨mu, n, nn, a, gv, given, d, _, rfl, g, hD, ok, hnn, hn, hg, ⟨i, rfl, rfl⟩, R⟩ := h
    obtain ⟨dx, p, od, td, okv, tkv, x⟩ := id hD
    have e0 : deskP d (.drop i) = onP d i fun _ => (Gv05.only 0, putT d i none) := rfl
    rw [e0] at R
    refine ⟨_, rfl, _, _, _, _, rfl, rfl, SqL.of hg, tup0, _, rfl, a, C.S, dx, _, _, rfl, x.ins, TK.cl, TK.nT, kF_t p od td, i, td, tkv, rfl, x.htd, fun c => ?_, fun c => ?_⟩
    · rcases x.txs.code i with ⟨c2, ec⟩ | ⟨m, rfl, hm, eo, ec⟩ | ⟨m, t, ta, rfl, hm, eo, hv, hT, ec⟩
      · rw [onP_no c2] at R
        rw [ec]; exact R.bare g hD
      · rw [onP_none hm eo] at R
        rw [ec]; exact R.bare g hD
      · exact absurd ec c
    · rcases x.txs.code i with ⟨c2, ec⟩ | ⟨m, rfl, hm, eo, ec⟩ | ⟨m, t, ta, rfl, hm, eo, hv, hT, ec⟩
      · rw [ec] at c; cases c
      · rw [ec] at c; cases c
      · rw [onP_some hm eo] at R
        have kd : KpD mu H (upd H td (.dK (dropK tkv (Sum.inl (m : Int))))) := KpD.upd x.htd (by intro xs z; cases z) x.mtd
        exact R.only (MuE.refl H mu) (g.kpD kd) kd ⟨dx, p, od, td, okv, _, x.popped hm ok.t8⟩
def g_forget : Hp → List V → Gv05.Call → Prop := fun _ gs x => ∃ i, gs = [.int i] ∧ x = .forget i
theorem d_forget (TK : KTxt K mg C.S) (D : Src K mg "forget" s_forget ["desk", "given"]) (A1 : DefOk P w K mg base CX0 3 "empty_slot" sp_emptySlot) : DefOk P w K mg base CX0 4 "forget" (sp_call P w K C g_forget) := by
  refine D.ok sc_forget (fun vs H Q E h => ?_) (fun f cdv A outer s H vs Q E hr h => ⟨_,
      pss_one (ps_ret (pe_cl A1 hr pass0 (pa_cons (pe_ix ix_list (pv 1) pe_int (fun _ _ => rfl)) (pa_cons (pe_fld (pv 0) rfl) pa_nil)))), ?_⟩)
  · obtain ⟨mu, n, nn, a, gv, given, d, x, rfl, _⟩ := h
    rfl
  · obtain ⟨mu, n, nn, a, gv, given, d, _, rfl, g, hD, ok, hnn, hn, hg, ⟨i, rfl, rfl⟩, R⟩ := h
    obtain ⟨dx, p, od, td, okv, tkv, x⟩ := id hD
    have e0 : deskP d (.forget i) = if Gv05.eight i = false then (Gv05.only Gv05.BAD, d) else if (d.olds.getD i.toNat none).isNone = true then (Gv05.only Gv05.ABSENT, d) else (Gv05.only 0, { d with olds := d.olds.set i.toNat none }) := rfl
    rw [e0] at R
    refine ⟨_, rfl, _, _, _, _, rfl, rfl, SqL.of hg, tup0, _, rfl, a, C.S, dx, _, _, rfl, x.ins, TK.cl, TK.nO, kF_o p od td, i, od, okv, rfl, x.hod, fun c => ?_, fun c => ?_⟩
    · rcases x.olds.code i with ⟨c2, ec⟩ | ⟨m, rfl, hm, eo, ec⟩ | ⟨m, r, st, rfl, hm, eo, hv, _, _, _, ec⟩
      · rw [if_pos c2] at R
        rw [ec]; exact R.bare g hD
      · rw [if_neg (eight_nat hm), Int.toNat_natCast, eo] at R
        rw [ec]; exact R.bare g hD
      · exact absurd ec c
    · rcases x.olds.code i with ⟨c2, ec⟩ | ⟨m, rfl, hm, eo, ec⟩ | ⟨m, r, st, rfl, hm, eo, hv, _, _, _, ec⟩
      · rw [ec] at c; cases c
      · rw [ec] at c; cases c
      · rw [if_neg (eight_nat hm), Int.toNat_natCast, eo] at R
        have kd : KpD mu H (upd H od (.dK (dropK okv (Sum.inl (m : Int))))) := KpD.upd x.hod (by intro xs z; cases z) x.mod
        exact R.only (MuE.refl H mu) (g.kpD kd) kd (x.forgot hm ok.o8)
/-! keep -/
def g_keep : Hp → List V → Gv05.Call → Prop := fun _ gs x => ∃ i, gs = [.int i] ∧ x = .keep i
theorem d_keep (TK : KTxt K mg C.S) (D : Src K mg "keep" s_keep ["desk", "given"]) (cW : GI mg "WRONG" (-1)) (cD : GI mg "DONE" 0) (A1 : DefOk P w K mg base CX0 1 "is_slot" sp_slot) (A2 : DefOk P w K mg base CX0 1 "reply" sp_reply) : DefOk P w K mg base CX0 2 "keep" (sp_call P w K C g_keep) := by
  refine D.ok sc_keep (fun vs H Q E h => ?_) (fun f cdv A outer s H vs Q E hr h => ⟨_,
      pss_cons (ps_if (pt_not (pt_val (pe_cl A1 hr pass0 (pa_cons (pe_ix ix_list (pv 1) pe_int (fun _ _ => rfl)) pa_nil)))) (pss_one (ps_ret (pe_cl A2 hr pass0 (pa_cons (pe_gi cW) pa_nil)))) pss_nil)
      (pss_cons (ps_dput (units1 hr) (pe_fld (pv 0) rfl) (pe_ix ix_list (pv 1) pe_int (fun _ _ => rfl)) (pe_fld (pv 0) rfl) rfl)
      (pss_one (ps_ret (pe_cl A2 hr pass0 (pa_cons (pe_gi cD) pa_nil))))), ?_⟩)
  · obtain ⟨mu, n, nn, a, gv, given, d, x, rfl, _⟩ := h
    rfl
  · obtain ⟨mu, n, nn, a, gv, given, d, _, rfl, g, hD, ok, hnn, hn, hg, ⟨i, rfl, rfl⟩, R⟩ := h
    obtain ⟨dx, p, od, td, okv, tkv, x⟩ := id hD
    have e0 : deskP d (.keep i) = if Gv05.eight i = false then (Gv05.only Gv05.BAD, d) else (Gv05.only 0, { d with olds := d.olds.set i.toNat (some d.root) }) := rfl
    rw [e0] at R
    refine ⟨_, rfl, _, _, _, _, rfl, rfl, SqL.of hg, tup0, i, rfl, _, rfl, iteBN (fun c => ?_) (fun c => ?_)⟩
    · rw [if_pos c] at R
      exact ⟨-1, rfl, R.bare g hD⟩
    · have c' : ¬ Gv05.eight i = false := by rw [c]; decide
      rw [if_neg c'] at R
      obtain ⟨m, rfl, hm⟩ := eight_some c'
      rw [Int.toNat_natCast] at R
      refine ⟨_, rfl, a, C.S, dx, _, _, rfl, x.ins, TK.cl, TK.nP, kF_p p od td, _, rfl, a, C.S, dx, _, _, rfl, x.ins, TK.cl, TK.nO, kF_o p od td, _, rfl, _, _, _, _, rfl, rfl, SqL.of hg, tup0, od, _, rfl, DPut.k (k := Sum.inl (m : Int)) x.hod (small_lt (m := 20000) (by have := x.lo; omega)), ?_⟩
      have kd : KpD mu H (upd H od (.dK (putK okv (Sum.inl (m : Int)) (.ref p)))) := KpD.upd x.hod (by intro xs z; cases z) x.mod
      exact ⟨0, rfl, R.only (MuE.refl H mu) (g.kpD kd) kd (x.kept hm ok.o8)⟩
/-! commit -/
def g_commit : Hp → List V → Gv05.Call → Prop := fun _ gs x => ∃ i, gs = [.int i] ∧ x = .commit i
theorem d_commit (TK : KTxt K mg C.S) (T : TTxt K mg C.T) (TD : DTxt K mg C.D) (D : Src K mg "commit" s_commit ["desk", "given"]) (hL : mg "len" = none) (cD : GI mg "DONE" 0) (cC : GI mg "CLASH" (-7)) (A1 : DefOk P w K mg base CX0 2 "refusal" sp_refusal) (A2 : DefOk P w K mg base CX0 1 "reply" sp_reply)
    (M : MethOk P w K mg base CX0 6 C.T "clashes_with" (sp_clash P w K C)) (A3 : DefOk P w K mg base CX0 5 "state_after" sp_stAfterT) : DefOk P w K mg base CX0 7 "commit" (sp_call P w K C g_commit) := by
  refine D.ok sc_commit (fun vs H Q E h => ?_) (fun f cdv A outer s H vs Q E hr h => ⟨_,
      pss_cons (ps_set (i := 2) sc_commit.nd rfl (.inl rfl) (pe_cl A1 (hr.mono (by decide)) pass0 (pa_cons (pe_ix ix_list (pv 1) pe_int (fun _ _ => rfl)) (pa_cons (pe_fld (pv 0) rfl) pa_nil))))
      (pss_cons (ps_if (pt_cmpR op_ne (pv 2) (pe_gi cD) (nomark _)) (pss_one (ps_ret (pe_cl A2 (hr.mono (by decide)) pass0 (pa_cons (pv 2) pa_nil)))) pss_nil)
      (pss_cons (ps_set (i := 3) sc_commit.nd rfl (.inl rfl) (pe_dpop1 (pe_fld (pv 0) rfl) (pe_ix ix_list (pv 1) pe_int (fun _ _ => rfl)) ⟨rfl, rfl, rfl, rfl⟩))
      (pss_cons (ps_if (pt_val (pe_mt (pv 3) T.cl M hr pass0 (pa_cons (pe_fld (pv 0) rfl) pa_nil))) (pss_one (ps_ret (pe_cl A2 (hr.mono (by decide)) pass0 (pa_cons (pe_gi cC) pa_nil)))) pss_nil)
      (pss_cons (ps_set (i := 4) sc_commit.nd rfl (.inl rfl) (pe_fld (pe_fld (pv 3) rfl) rfl))
      (pss_cons (ps_fld (pv 0) (pe_cl A3 (hr.mono (by decide)) pass0 (pa_cons (pe_fld (pv 0) rfl) (pa_cons (pv 4) pa_nil))) rfl)
      (pss_one (ps_ret (pe_cl A2 (hr.mono (by decide)) pass0 (pa_cons (pe_callB call_len (by rfl) hL PySem.boot_len (pa_cons (pv 4) pa_nil)) pa_nil))))))))), ?_⟩)
  · obtain ⟨mu, n, nn, a, gv, given, d, x, rfl, _⟩ := h
    rfl
  · obtain ⟨mu, n, nn, a, gv, given, d, _, rfl, g, hD, ok, hnn, hn, hg, ⟨i, rfl, rfl⟩, R⟩ := h
    obtain ⟨dx, p, od, td, okv, tkv, x⟩ := id hD
    have e0 : deskP d (.commit i) = onP d i fun t => if clashB t.root d.root t.looks = true then (Gv05.only Gv05.CLASH, putT d i none) else (Gv05.only (t.list.length : Int), putT { d with root := t.list.foldl Gv05.does d.root } i none) := rfl
    rw [e0] at R
    refine ⟨_, rfl, _, _, _, _, rfl, rfl, SqL.of hg, tup0, _, rfl, a, C.S, dx, _, _, rfl, x.ins, TK.cl, TK.nT, kF_t p od td, i, td, tkv, rfl, x.htd, ?_⟩
    refine ⟨_, rfl, rfl, _, rfl, ?_⟩
    rcases x.txs.code i with ⟨c2, ec⟩ | ⟨m, rfl, hm, eo, ec⟩ | ⟨m, t, ta, rfl, hm, eo, hv, hT, ec⟩
    · rw [ec]
      refine iteDN (fun _ => ?_) (fun z => by cases z)
      rw [onP_no c2] at R
      exact ⟨_, rfl, -1, rfl, R.bare g hD⟩
    · rw [ec]
      refine iteDN (fun _ => ?_) (fun z => by cases z)
      rw [onP_none hm eo] at R
      exact ⟨_, rfl, -2, rfl, R.bare g hD⟩
    · rw [ec]
      refine iteDN (fun z => absurd rfl z) (fun _ => ?_)
      rw [onP_some hm eo] at R
      refine ⟨_, rfl, a, C.S, dx, _, _, rfl, x.ins, TK.cl, TK.nT, kF_t p od td, td, rfl, .inl ⟨_, .inl x.htd⟩, _, rfl, _, _, _, _, rfl, rfl, SqL.of hg, tup0, tkv, Sum.inl (m : Int), .ref ta, x.htd, rfl, hv, ?_⟩
      have kd : KpD mu H (upd H td (.dK (dropK tkv (Sum.inl (m : Int))))) := KpD.upd x.htd (by intro xs z; cases z) x.mtd
      have x1 := x.popped hm ok.t8
      have hT1 : Tx P w K C mu m (upd H td (.dK (dropK tkv (Sum.inl (m : Int))))) ta t := hT.stay kd.ts fun b o eb mm => by
        rw [upd_ne (fun z => by rw [z, x.mtd] at mm; omega)]; exact eb
      have g1 := g.kpD kd
      generalize upd H td (.dK (dropK tkv (Sum.inl (m : Int)))) = H1 at kd x1 hT1 g1 ⊢
      obtain ⟨tdx, st, dr, sv, lk, svs, h1, h2, h3, h4, h5, h6, h7, h8, h9, h10⟩ := id hT1
      refine ⟨_, rfl, ta, tdx, _, rfl, h1, tF_no _ _ _ _ (by decide +kernel) (by decide +kernel) (by decide +kernel) (by decide +kernel), _, rfl, a, C.S, dx, _, _, rfl, x1.ins, TK.cl, TK.nP, kF_p p od td, mu, m, ta, p, t, d.root, rfl, hT1, (by rw [putT_nat] at x1; exact x1.st), ok.root, fun H2 s2 => ?_⟩
      have x2 := x1.same s2
      have kd2 := kd.trans (KpD.of s2)
      refine ⟨_, rfl, iteB (fun c => ?_) (fun c => ?_)⟩
      · rw [if_pos c] at R
        exact ⟨-7, rfl, R.only (MuE.refl H mu) (g1.same s2) kd2 ⟨dx, p, od, td, okv, _, x2⟩⟩
      · rw [if_neg (by rw [c]; decide)] at R
        obtain ⟨dx2, ca, ra, ea, cs, q1, q2, q3, q4, q5, q6, q7⟩ := h5.same s2
        refine ⟨_, rfl, ta, C.T, tdx, _, _, rfl, s2 _ _ h1, T.cl, T.nD, tF_d st dr sv lk, dr, C.D, dx2, _, _, rfl, q1, TD.cl, TD.nC, dF_c ca ra ea, ?_⟩
        have rl := root_len ok
        have tl := h10.list
        have st2 : Mp Tb H2 p d.root := by rw [putT_nat] at x2; exact x2.st
        refine ⟨_, rfl, a, C.S, dx, _, _, rfl, x2.ins, TK.cl, TK.nP, kF_p p od td, _, rfl, p, ca, d.root, cs, t.list, rfl, st2, ok.root, q3, q4, by omega, fun H3 q hq3 s3 hm3 => ?_⟩
        have x3 := x2.same s3
        refine ⟨_, rfl, a, C.S, dx, _, rfl, x3.ins, TK.cl, TK.nP, (by show 3 < 1000; decide), ?_⟩
        rw [kF_putp]
        have m9 : mu q = 9 := by
          rcases hq3 with rfl | hq3
          · exact x.mp
          · exact g1 q (s2.free hq3)
        have x4 := x2.rooted s3 hm3 m9 (vok_fold t.list h10.chs x.vok)
        have kd4 : KpD mu H (upd H3 a (.ins C.S dx (kF q od td))) := (kd2.trans (KpD.of s3)).trans (KpD.upd x3.ins (by intro xs z; cases z) x.ma)
        have hca : upd H3 a (.ins C.S dx (kF q od td)) ca = some (.tup cs) := by
          rw [upd_ne (ne_of (s3 _ _ q3) x3.ins (by intro z; cases z))]; exact s3 _ _ q3
        refine ⟨_, rfl, _, _, rfl, .inr ⟨_, SqT.of hca, rfl⟩, _, rfl, ?_⟩
        have el : (cs.length : Int) = (t.list.length : Int) := by rw [paired_len q4]
        rw [el]
        exact R.only (MuE.refl H mu) (g.kpD kd4) kd4 ⟨dx, q, od, td, okv, _, x4⟩
/-! replay -/
def g_replay : Hp → List V → Gv05.Call → Prop := fun H gs x => ∃ (ra : Addr) (bs : List Nat), gs = [.ref ra] ∧ Tb H ra bs ∧ Byt bs ∧ bs.length ≤ 6000 ∧ x = .replay bs
theorem d_replay {CR CW : Addr} (TK : KTxt K mg C.S) (W : ErrTxt K mg CW "WrongForm") (D : Src K mg "replay" s_replay ["desk", "given"]) (hL : mg "len" = none) (cW : GI mg "WRONG" (-1)) (A1 : DefOk P w K mg base (L2N.CX P w) 6 "read_record" (sp_readRecord CW)) (A2 : DefOk P w K mg base CX0 1 "reply" sp_reply) (HR : DefHot P w K mg base 1 "reply" sp_reply)
    (A3 : DefOk P w K mg base CX0 5 "state_after" sp_stAfterL) : DefOk P w K mg base CX0 7 "replay" (sp_call P w K C g_replay) := by
  refine D.ok sc_replay (fun vs H Q E h => ?_) (fun f cdv A outer s H vs Q E hr h => ⟨_,
      pss_cons (L2N.ps_try_many (tb := fun W' => tAsg (tCl (sp_readRecord CW) (fun cls d H => ∀ σ, W' cls d σ H) (tCons (tOp (rIxL K) (tVar 1) (tC (V.int 0))) tNil)) (gName 2)) (Wout := fun _ _ _ _ => False) rfl rfl (fun u s' xx => by
            obtain ⟨_, _, _, _, _, _, _, _, _, _, _, _, _, _, _, _, z⟩ := xx
            exact z.elim)
          (fun W' pn xe tk po => pss_one (ps_set (i := 2) sc_replay.nd rfl (.inl rfl) (pe_cl A1 hr (L2N.passes_call (E := fun cls d H => ∀ σ, W' cls d σ H) tk (fun cls d σ H h => h σ)) (pa_cons (pe_ix ix_list (pv 1) pe_int (fun _ _ => rfl)) pa_nil))))
          (L2N.HdsOk.cons (c := .ref CW) ⟨rfl, by decide, .inl W.g⟩ (fun a oe cls d pn hz hf => pss_one (ps_ret (pe_clH HR (roomH_suite (hr.mono (by decide))) (hotC_suite hz hf) (pa_cons (pe_gi cW) pa_nil)))) .nil))
      (pss_cons (ps_fld (pv 0) (pe_cl A3 (hr.mono (by decide)) pass0 (pa_cons (pe_fld (pv 0) rfl) (pa_cons (pv 2) pa_nil))) rfl)
      (pss_one (ps_ret (pe_cl A2 (hr.mono (by decide)) pass0 (pa_cons (pe_callB call_len (by rfl) hL PySem.boot_len (pa_cons (pv 2) pa_nil)) pa_nil))))), ?_⟩)
  · obtain ⟨mu, n, nn, a, gv, given, d, x, rfl, _⟩ := h
    rfl
  · obtain ⟨mu, n, nn, a, gv, given, d, _, rfl, g, hD, ok, hnn, hn, hg, ⟨ra, bs, rfl, hra, hby, hlb, rfl⟩, R⟩ := h
    obtain ⟨dx, p, od, td, okv, tkv, x⟩ := id hD
    have e0 : deskP d (.replay bs) = match Gv05.changes bs with
      | none => (Gv05.only Gv05.BAD, d)
      | some l => (Gv05.only (l.length : Int), { d with root := l.foldl Gv05.does d.root }) := rfl
    rw [e0] at R
    refine ⟨_, rfl, _, _, _, _, rfl, rfl, SqL.of hg, tup0, ra, bs, rfl, hra, hby, by omega, fun c H1 s1 σ => ?_, fun cs c H1 q xs s1 nq hq hcs hok hlc => ?_⟩
    · rw [c] at R
      have R : RetD P w K C mu n H a (Gv05.only Gv05.BAD, d) Q := R
      refine ⟨true, W.e, fun _ a' ha' => ?_, fun z => nomatch z⟩
      refine ⟨-1, rfl, fun p' hp' => ?_⟩
      exact R.only (MuE.refl H mu) (g.same s1) (KpD.of s1) ⟨dx, p, od, td, okv, tkv, (x.same s1).mono (Nat.le_succ n)⟩ p' hp'
    · rw [c] at R
      have R : RetD P w K C mu n H a (Gv05.only (cs.length : Int), { d with root := cs.foldl Gv05.does d.root }) Q := R
      have x1 := x.same s1
      have rl := root_len ok
      refine ⟨_, rfl, a, C.S, dx, _, _, rfl, x1.ins, TK.cl, TK.nP, kF_p p od td, _, rfl, p, q, d.root, xs, cs, rfl, x1.st, ok.root, hq, hcs, by omega, fun H3 q3 hq3 s3 hm3 => ?_⟩
      have x3 := x1.same s3
      refine ⟨_, rfl, a, C.S, dx, _, rfl, x3.ins, TK.cl, TK.nP, (by show 3 < 1000; decide), ?_⟩
      rw [kF_putp]
      have m9 : mu q3 = 9 := by
        rcases hq3 with rfl | hq3
        · exact x.mp
        · exact g q3 (s1.free hq3)
      have x4 := x1.rooted s3 hm3 m9 (vok_fold cs hok x.vok)
      have kd4 : KpD mu H (upd H3 a (.ins C.S dx (kF q3 od td))) := ((KpD.of s1).trans (KpD.of s3)).trans (KpD.upd x3.ins (by intro xs z; cases z) x.ma)
      have hqq : upd H3 a (.ins C.S dx (kF q3 od td)) q = some (.lst xs) := by
        rw [upd_ne (ne_of (s3 _ _ hq) x3.ins (by intro z; cases z))]; exact s3 _ _ hq
      refine ⟨_, rfl, _, _, rfl, .inl ⟨_, SqL.of hqq, rfl⟩, _, rfl, ?_⟩
      have el : (xs.length : Int) = (cs.length : Int) := by rw [paired_len hcs]
      rw [el]
      exact R.only (MuE.refl H mu) (g.kpD kd4) kd4 ⟨dx, q3, od, td, okv, tkv, x4.mono (Nat.le_succ n)⟩
end
end Ks
namespace Ks
open PySem PySem.Spec PyProof.Rows L2
theorem tup3 {a t u v : V} {r : List V} : atI (a :: t :: u :: v :: r) 3 = some v := atI_nat (j := 3) rfl
section
variable {P : Program} {w : World} {K : PySem.W.Frag} {mg : Str → Option Value} {base : Heap} {C : Cs}
/-! ### the steps, by what is given -/
def sp_stepf (P : Program) (w : World) (K : PySem.W.Frag) (C : Cs) (G : Hp → List V → Gv05.Step → Prop) : Sp := fun vs H Q _ => ∃ (mu : Mu) (i : Nat) (ta gv : Addr) (given : List V) (t : TM) (s : Gv05.Step), vs = [.ref ta, .ref gv] ∧ i ≠ 9 ∧ Gh mu H ∧ Tx P w K C mu i H ta t ∧ H gv = some (.lst given) ∧ G H given s ∧
  Ret P w K C mu i H ta (stepP t s) Q
def g_get : Hp → List V → Gv05.Step → Prop := fun H gs s => ∃ (i : Int) (b : Addr) (k : List Nat), gs = [.int i, .ref b] ∧ Tb H b k ∧ Byt k ∧ s = .get k
theorem e_get (T : TTxt K mg C.T) (D : Src K mg "get" s_get ["transaction", "given"]) (M : MethOk P w K mg base CX0 7 C.T "get" (sp_get P w K C)) : DefOk P w K mg base CX0 8 "get" (sp_stepf P w K C g_get) := by
  refine D.ok sc_get (fun vs H Q E h => ?_) (fun f cdv A outer s H vs Q E hr h => ⟨_, pss_one (ps_ret (pe_mt (pv 0) T.cl M hr pass0 (pa_cons (pe_ix ix_list (pv 1) pe_int (fun _ _ => rfl)) pa_nil))), ?_⟩)
  · obtain ⟨mu, i, ta, gv, given, t, s, rfl, _⟩ := h
    rfl
  · obtain ⟨mu, i, ta, gv, given, t, _, rfl, hi, g, hT, hg, ⟨z, b, k, rfl, hb, hk, rfl⟩, R⟩ := h
    obtain ⟨dx, st, dr, sv, lk, svs, h1, _⟩ := id hT
    exact ⟨_, rfl, ta, dx, _, rfl, h1, tF_no _ _ _ _ (by decide +kernel) (by decide +kernel) (by decide +kernel) (by decide +kernel), _, rfl, _, _, _, _, rfl, rfl, SqL.of hg, tup1, mu, i, ta, b, t, k, rfl, hi, g, hT, hb, hk, R⟩
def g_put : Hp → List V → Gv05.Step → Prop := fun H gs s => ∃ (i : Int) (b c : Addr) (k v : List Nat), gs = [.int i, .ref b, .ref c] ∧ Tb H b k ∧ Byt k ∧ Tb H c v ∧ Byt v ∧ s = .put k v
theorem e_put (T : TTxt K mg C.T) (D : Src K mg "put" s_put ["transaction", "given"]) (M : MethOk P w K mg base CX0 9 C.T "put" (sp_put P w K C)) : DefOk P w K mg base CX0 10 "put" (sp_stepf P w K C g_put) := by
  refine D.ok sc_put (fun vs H Q E h => ?_) (fun f cdv A outer s H vs Q E hr h => ⟨_, pss_one (ps_ret (pe_mt (pv 0) T.cl M hr pass0 (pa_cons (pe_ix ix_list (pv 1) pe_int (fun _ _ => rfl)) (pa_cons (pe_ix ix_list (pv 1) pe_int (fun _ _ => rfl)) pa_nil)))), ?_⟩)
  · obtain ⟨mu, i, ta, gv, given, t, s, rfl, _⟩ := h
    rfl
  · obtain ⟨mu, i, ta, gv, given, t, _, rfl, hi, g, hT, hg, ⟨z, b, c, k, v, rfl, hb, hk, hc, hv, rfl⟩, R⟩ := h
    obtain ⟨dx, st, dr, sv, lk, svs, h1, _⟩ := id hT
    exact ⟨_, rfl, ta, dx, _, rfl, h1, tF_no _ _ _ _ (by decide +kernel) (by decide +kernel) (by decide +kernel) (by decide +kernel), _, rfl, _, _, _, _, rfl, rfl, SqL.of hg, tup1, _, rfl, _, _, _, _, rfl, rfl, SqL.of hg, tup2, mu, i, ta, b, c, t, k, v, rfl, hi, g, hT, hb, hk, hc, hv, R⟩
def g_remove : Hp → List V → Gv05.Step → Prop := fun H gs s => ∃ (i : Int) (b : Addr) (k : List Nat), gs = [.int i, .ref b] ∧ Tb H b k ∧ Byt k ∧ s = .remove k
theorem e_remove (T : TTxt K mg C.T) (D : Src K mg "remove" s_remove ["transaction", "given"]) (M : MethOk P w K mg base CX0 9 C.T "remove" (sp_rem P w K C)) : DefOk P w K mg base CX0 10 "remove" (sp_stepf P w K C g_remove) := by
  refine D.ok sc_remove (fun vs H Q E h => ?_) (fun f cdv A outer s H vs Q E hr h => ⟨_, pss_one (ps_ret (pe_mt (pv 0) T.cl M hr pass0 (pa_cons (pe_ix ix_list (pv 1) pe_int (fun _ _ => rfl)) pa_nil))), ?_⟩)
  · obtain ⟨mu, i, ta, gv, given, t, s, rfl, _⟩ := h
    rfl
  · obtain ⟨mu, i, ta, gv, given, t, _, rfl, hi, g, hT, hg, ⟨z, b, k, rfl, hb, hk, rfl⟩, R⟩ := h
    obtain ⟨dx, st, dr, sv, lk, svs, h1, _⟩ := id hT
    exact ⟨_, rfl, ta, dx, _, rfl, h1, tF_no _ _ _ _ (by decide +kernel) (by decide +kernel) (by decide +kernel) (by decide +kernel), _, rfl, _, _, _, _, rfl, rfl, SqL.of hg, tup1, mu, i, ta, b, t, k, rfl, hi, g, hT, hb, hk, R⟩
def g_add : Hp → List V → Gv05.Step → Prop := fun H gs s => ∃ (i n : Int) (b : Addr) (k : List Nat), gs = [.int i, .int n, .ref b] ∧ Tb H b k ∧ Byt k ∧ Gv05.wrap n = n ∧ s = .add k n
theorem e_add (T : TTxt K mg C.T) (D : Src K mg "add" s_add ["transaction", "given"]) (M : MethOk P w K mg base CX0 9 C.T "add" (sp_addT P w K C)) : DefOk P w K mg base CX0 10 "add" (sp_stepf P w K C g_add) := by
  refine D.ok sc_add (fun vs H Q E h => ?_) (fun f cdv A outer s H vs Q E hr h => ⟨_, pss_one (ps_ret (pe_mt (pv 0) T.cl M hr pass0 (pa_cons (pe_ix ix_list (pv 1) pe_int (fun _ _ => rfl)) (pa_cons (pe_ix ix_list (pv 1) pe_int (fun _ _ => rfl)) pa_nil)))), ?_⟩)
  · obtain ⟨mu, i, ta, gv, given, t, s, rfl, _⟩ := h
    rfl
  · obtain ⟨mu, i, ta, gv, given, t, _, rfl, hi, g, hT, hg, ⟨z, m, b, k, rfl, hb, hk, hn, rfl⟩, R⟩ := h
    obtain ⟨dx, st, dr, sv, lk, svs, h1, _⟩ := id hT
    exact ⟨_, rfl, ta, dx, _, rfl, h1, tF_no _ _ _ _ (by decide +kernel) (by decide +kernel) (by decide +kernel) (by decide +kernel), _, rfl, _, _, _, _, rfl, rfl, SqL.of hg, tup2, _, rfl, _, _, _, _, rfl, rfl, SqL.of hg, tup1, mu, i, ta, b, t, k, m, rfl, hi, g, hT, hb, hk, hn, R⟩
def g_next_key : Hp → List V → Gv05.Step → Prop := fun H gs s => ∃ (i y : Int) (b : Addr) (k : List Nat), gs = [.int i, .int y, .ref b] ∧ Tb H b k ∧ Byt k ∧ (y = 0 ∨ y = 1) ∧ s = .next k (y != 0)
theorem e_next_key (T : TTxt K mg C.T) (D : Src K mg "next_key" s_next_key ["transaction", "given"]) (cU : GI mg "UP" 1) (M : MethOk P w K mg base CX0 7 C.T "nearest" (sp_near P w K C)) : DefOk P w K mg base CX0 8 "next_key" (sp_stepf P w K C g_next_key) := by
  refine D.ok sc_next_key (fun vs H Q E h => ?_) (fun f cdv A outer s H vs Q E hr h => ⟨_, pss_one (ps_ret (pe_mt (pv 0) T.cl M hr pass0 (pa_cons (pe_ix ix_list (pv 1) pe_int (fun _ _ => rfl)) (pa_cons (pe_ix ix_list (pv 1) pe_int (fun _ _ => rfl)) (pa_cons (pe_gi cU) pa_nil))))), ?_⟩)
  · obtain ⟨mu, i, ta, gv, given, t, s, rfl, _⟩ := h
    rfl
  · obtain ⟨mu, i, ta, gv, given, t, _, rfl, hi, g, hT, hg, ⟨z, y, b, k, rfl, hb, hk, hy, rfl⟩, R⟩ := h
    obtain ⟨dx, st, dr, sv, lk, svs, h1, _⟩ := id hT
    exact ⟨_, rfl, ta, dx, _, rfl, h1, tF_no _ _ _ _ (by decide +kernel) (by decide +kernel) (by decide +kernel) (by decide +kernel), _, rfl, _, _, _, _, rfl, rfl, SqL.of hg, tup2, _, rfl, _, _, _, _, rfl, rfl, SqL.of hg, tup1, mu, i, ta, b, t, k, false, y, rfl, hi, g, hT, hb, hk, hy, R⟩
def g_key_before : Hp → List V → Gv05.Step → Prop := fun H gs s => ∃ (i y : Int) (b : Addr) (k : List Nat), gs = [.int i, .int y, .ref b] ∧ Tb H b k ∧ Byt k ∧ (y = 0 ∨ y = 1) ∧ s = .before k (y != 0)
theorem e_key_before (T : TTxt K mg C.T) (D : Src K mg "key_before" s_key_before ["transaction", "given"]) (cU : GI mg "DOWN" (-1)) (M : MethOk P w K mg base CX0 7 C.T "nearest" (sp_near P w K C)) : DefOk P w K mg base CX0 8 "key_before" (sp_stepf P w K C g_key_before) := by
  refine D.ok sc_key_before (fun vs H Q E h => ?_) (fun f cdv A outer s H vs Q E hr h => ⟨_, pss_one (ps_ret (pe_mt (pv 0) T.cl M hr pass0 (pa_cons (pe_ix ix_list (pv 1) pe_int (fun _ _ => rfl)) (pa_cons (pe_ix ix_list (pv 1) pe_int (fun _ _ => rfl)) (pa_cons (pe_gi cU) pa_nil))))), ?_⟩)
  · obtain ⟨mu, i, ta, gv, given, t, s, rfl, _⟩ := h
    rfl
  · obtain ⟨mu, i, ta, gv, given, t, _, rfl, hi, g, hT, hg, ⟨z, y, b, k, rfl, hb, hk, hy, rfl⟩, R⟩ := h
    obtain ⟨dx, st, dr, sv, lk, svs, h1, _⟩ := id hT
    exact ⟨_, rfl, ta, dx, _, rfl, h1, tF_no _ _ _ _ (by decide +kernel) (by decide +kernel) (by decide +kernel) (by decide +kernel), _, rfl, _, _, _, _, rfl, rfl, SqL.of hg, tup2, _, rfl, _, _, _, _, rfl, rfl, SqL.of hg, tup1, mu, i, ta, b, t, k, true, y, rfl, hi, g, hT, hb, hk, hy, R⟩
def g_count : Hp → List V → Gv05.Step → Prop := fun H gs s => ∃ (i m : Int) (b c : Addr) (lo hi : List Nat), gs = [.int i, .int m, .ref b, .ref c] ∧ Tb H b lo ∧ Byt lo ∧ Tb H c hi ∧ Byt hi ∧ s = .count lo hi m
theorem e_count (T : TTxt K mg C.T) (D : Src K mg "count" s_count ["transaction", "given"]) (M : MethOk P w K mg base CX0 7 C.T "count" (sp_count P w K C)) : DefOk P w K mg base CX0 8 "count" (sp_stepf P w K C g_count) := by
  refine D.ok sc_count (fun vs H Q E h => ?_) (fun f cdv A outer s H vs Q E hr h => ⟨_, pss_one (ps_ret (pe_mt (pv 0) T.cl M hr pass0 (pa_cons (pe_ix ix_list (pv 1) pe_int (fun _ _ => rfl)) (pa_cons (pe_ix ix_list (pv 1) pe_int (fun _ _ => rfl)) (pa_cons (pe_ix ix_list (pv 1) pe_int (fun _ _ => rfl)) pa_nil))))), ?_⟩)
  · obtain ⟨mu, i, ta, gv, given, t, s, rfl, _⟩ := h
    rfl
  · obtain ⟨mu, i, ta, gv, given, t, _, rfl, hi, g, hT, hg, ⟨z, m, b, c, lo, hi', rfl, hb, hk, hc, hv, rfl⟩, R⟩ := h
    obtain ⟨dx, st, dr, sv, lk, svs, h1, _⟩ := id hT
    exact ⟨_, rfl, ta, dx, _, rfl, h1, tF_no _ _ _ _ (by decide +kernel) (by decide +kernel) (by decide +kernel) (by decide +kernel), _, rfl, _, _, _, _, rfl, rfl, SqL.of hg, tup2, _, rfl, _, _, _, _, rfl, rfl, SqL.of hg, tup3, _, rfl, _, _, _, _, rfl, rfl, SqL.of hg, tup1, mu, i, ta, b, c, t, lo, hi', m, rfl, hi, g, hT, hb, hk, hc, hv, R⟩
def g_save : Hp → List V → Gv05.Step → Prop := fun H gs s => ∃ (i : Int), gs = [.int i] ∧ s = .save
theorem e_save (T : TTxt K mg C.T) (D : Src K mg "save" s_save ["transaction", "given"]) (M : MethOk P w K mg base CX0 2 C.T "save" (sp_save P w K C)) : DefOk P w K mg base CX0 3 "save" (sp_stepf P w K C g_save) := by
  refine D.ok sc_save (fun vs H Q E h => ?_) (fun f cdv A outer s H vs Q E hr h => ⟨_, pss_one (ps_ret (pe_mt0 (pv 0) T.cl M hr pass0)), ?_⟩)
  · obtain ⟨mu, i, ta, gv, given, t, s, rfl, _⟩ := h
    rfl
  · obtain ⟨mu, i, ta, gv, given, t, _, rfl, hi, g, hT, hg, ⟨z, rfl, rfl⟩, R⟩ := h
    obtain ⟨dx, st, dr, sv, lk, svs, h1, _⟩ := id hT
    exact ⟨_, rfl, ta, dx, _, rfl, h1, tF_no _ _ _ _ (by decide +kernel) (by decide +kernel) (by decide +kernel) (by decide +kernel), mu, i, ta, t, rfl, hi, g, hT, R⟩
def g_back : Hp → List V → Gv05.Step → Prop := fun H gs s => ∃ (i n : Int), gs = [.int i, .int n] ∧ s = .back n
theorem e_back (T : TTxt K mg C.T) (D : Src K mg "back" s_back ["transaction", "given"]) (M : MethOk P w K mg base CX0 2 C.T "back" (sp_back P w K C)) : DefOk P w K mg base CX0 3 "back" (sp_stepf P w K C g_back) := by
  refine D.ok sc_back (fun vs H Q E h => ?_) (fun f cdv A outer s H vs Q E hr h => ⟨_, pss_one (ps_ret (pe_mt (pv 0) T.cl M hr pass0 (pa_cons (pe_ix ix_list (pv 1) pe_int (fun _ _ => rfl)) pa_nil))), ?_⟩)
  · obtain ⟨mu, i, ta, gv, given, t, s, rfl, _⟩ := h
    rfl
  · obtain ⟨mu, i, ta, gv, given, t, _, rfl, hi, g, hT, hg, ⟨z, m, rfl, rfl⟩, R⟩ := h
    obtain ⟨dx, st, dr, sv, lk, svs, h1, _⟩ := id hT
    exact ⟨_, rfl, ta, dx, _, rfl, h1, tF_no _ _ _ _ (by decide +kernel) (by decide +kernel) (by decide +kernel) (by decide +kernel), _, rfl, _, _, _, _, rfl, rfl, SqL.of hg, tup1, mu, i, ta, t, m, rfl, hi, g, hT, R⟩
def g_list_changes : Hp → List V → Gv05.Step → Prop := fun H gs s => ∃ (i : Int), gs = [.int i] ∧ s = .list
theorem e_list_changes (T : TTxt K mg C.T) (D : Src K mg "list_changes" s_list_changes ["transaction", "given"]) (M : MethOk P w K mg base CX0 3 C.T "list_changes" (sp_list P w K C)) : DefOk P w K mg base CX0 4 "list_changes" (sp_stepf P w K C g_list_changes) := by
  refine D.ok sc_list_changes (fun vs H Q E h => ?_) (fun f cdv A outer s H vs Q E hr h => ⟨_, pss_one (ps_ret (pe_mt0 (pv 0) T.cl M hr pass0)), ?_⟩)
  · obtain ⟨mu, i, ta, gv, given, t, s, rfl, _⟩ := h
    rfl
  · obtain ⟨mu, i, ta, gv, given, t, _, rfl, hi, g, hT, hg, ⟨z, rfl, rfl⟩, R⟩ := h
    obtain ⟨dx, st, dr, sv, lk, svs, h1, _⟩ := id hT
    exact ⟨_, rfl, ta, dx, _, rfl, h1, tF_no _ _ _ _ (by decide +kernel) (by decide +kernel) (by decide +kernel) (by decide +kernel), mu, i, ta, t, rfl, hi, g, hT, R⟩
end
end Ks
namespace Ks
open PySem PySem.Spec PyProof.Rows L2
/-! ### calls by their numbers -/
def numS : Gv05.Step → Int
  | .get _ => 10
  | .put _ _ => 11
  | .remove _ => 12
  | .add _ _ => 13
  | .next _ _ => 14
  | .before _ _ => 15
  | .count _ _ _ => 16
  | .save => 17
  | .back _ => 18
  | .list => 19
def numC : Gv05.Call → Int
  | .begin_ _ => 1
  | .older _ _ => 2
  | .commit _ => 3
  | .drop _ => 4
  | .keep _ => 5
  | .forget _ => 6
  | .replay _ => 7
  | .step _ s => numS s
def gS (H : Hp) (gs : List V) (s : Gv05.Step) : Prop := match s with
  | .get _ => g_get H gs s
  | .put _ _ => g_put H gs s
  | .remove _ => g_remove H gs s
  | .add _ _ => g_add H gs s
  | .next _ _ => g_next_key H gs s
  | .before _ _ => g_key_before H gs s
  | .count _ _ _ => g_count H gs s
  | .save => g_save H gs s
  | .back _ => g_back H gs s
  | .list => g_list_changes H gs s
def gC (H : Hp) (gs : List V) (x : Gv05.Call) : Prop := match x with
  | .begin_ _ => g_begin H gs x
  | .older _ _ => g_older H gs x
  | .commit _ => g_commit H gs x
  | .drop _ => g_drop H gs x
  | .keep _ => g_keep H gs x
  | .forget _ => g_forget H gs x
  | .replay _ => g_replay H gs x
  | .step i s => (∃ more, gs = .int i :: more) ∧ gS H gs s
def isDesk : Gv05.Call → Bool
  | .step _ _ => false
  | _ => true
/-- (an expression that gives a def)(e, ..), each def by its own rooms -/
theorem pe_cfM {X : Cx} {CX : CXT} {k : Nat} {E : XK} {fe e : Expr} {es : List Expr} {tf : TE} {t : TA} {pos : Pos} (hf : PE X fe tf) (hr : Room k X.A) (hx : Passes CX X E) (ha : PA X (e :: es) t)
    (ht : eval (.Call fe (e :: es) [] pos) X.env = (do callWith pos (← eval fe X.env) [] (backTo pos (starEach (e :: es) X.env)) (backToKw pos (keywordEach [] X.env))) := by rfl)
    (he : starEach (e :: es) X.env = (false, eval e X.env) :: starEach es X.env := by rfl) (hpl : (backTo pos (starEach es X.env)).any (·.1) = false := by rfl) : PE X (.Call fe (e :: es) [] pos) (tCf (fun f sp => ∃ j, j ≤ k ∧ Held X.prog X.w X.K X.mg X.base CX j f sp) E tf t) := by
  refine ⟨fun pins s σ H Q I h => ?_⟩
  refine Call_ (thn (hf.run pins s σ H _ I h) fun u s1 ⟨y, H1, I1, ry, f, sp, ey, ⟨j, hj, hS⟩, q⟩ => ?_) ht
  subst ey
  obtain rfl : u = Value.ref f := ry
  obtain ⟨fd, ps, F, hk, hb⟩ := hS.ex
  refine PySem.W.callWith_K (h₀ := X.base) I1.ok.mod.kin hk (thn (ha.run pos pins s1 σ H1 _ I1 q) fun us s2 ⟨vs, H2, I2, r, q2⟩ => ⟨I2.kIn, ?_⟩) he hpl
  refine run_fn (dvs := []) (ds := []) F (hr.mono hj) hb .nil hx I2 r ?_
  rw [List.append_nil]
  exact q2
section
variable {P : Program} {w : World} {K : PySem.W.Frag} {mg : Str → Option Value} {base : Heap} {C : Cs}
/-- a def stands in a table -/
def TabE (mg : Str → Option Value) (es : Array DictEntry) (k : Int) (x : Str) : Prop := ∃ f, findBy Value.isInt es k = some (.ref f) ∧ mg x = some (.ref f)
theorem TabE.held {es : Array DictEntry} {k : Int} {x : Str} (h : TabE mg es k x) {lv : Nat} {sp : Sp} (D : DefOk P w K mg base CX0 lv x sp) : ∃ f, findBy Value.isInt es k = some (.ref f) ∧ Held P w K mg base CX0 lv f sp := by
  obtain ⟨f, h1, h2⟩ := h
  obtain ⟨f', fd, ps, e, F, kp, b⟩ := D.ex
  rw [h2] at e
  cases e
  exact ⟨f, h1, fd, ps, F, kp, b⟩
def DTab (P : Program) (w : World) (K : PySem.W.Frag) (mg : Str → Option Value) (base : Heap) (C : Cs) (es : Array DictEntry) : Prop := ∀ x : Gv05.Call, isDesk x = true → ∃ (f : Addr) (G : Hp → List V → Gv05.Call → Prop) (j : Nat), findBy Value.isInt es (numC x) = some (.ref f) ∧ j ≤ 10 ∧ Held P w K mg base CX0 j f (sp_call P w K C G) ∧ ∀ H gs, gC H gs x → G H gs x
def STab (P : Program) (w : World) (K : PySem.W.Frag) (mg : Str → Option Value) (base : Heap) (C : Cs) (es : Array DictEntry) : Prop := ∀ s : Gv05.Step, ∃ (f : Addr) (G : Hp → List V → Gv05.Step → Prop) (j : Nat), findBy Value.isInt es (numS s) = some (.ref f) ∧ j ≤ 10 ∧ Held P w K mg base CX0 j f (sp_stepf P w K C G) ∧ ∀ H gs, gS H gs s → G H gs s
/-! do_call -/
def sp_do (P : Program) (w : World) (K : PySem.W.Frag) (C : Cs) : Sp := fun vs H Q _ => ∃ (mu : Mu) (n nn : Nat) (a gv : Addr) (given : List V) (d : DM) (x : Gv05.Call), vs = [.ref a, .int (numC x), .ref gv] ∧ Gh mu H ∧ Dk P w K C mu n H a d ∧ DOk nn d ∧ nn ≤ 99999 ∧ n ≤ 10000 ∧ H gv = some (.lst given) ∧ gC H given x ∧
  RetD P w K C mu n H a (deskP d x) Q
theorem d_do {dD dS : Addr} {esD esS : Array DictEntry} (TK : KTxt K mg C.S) (D : Src K mg "do_call" s_do_call ["desk", "call", "given"]) (cD : GI mg "DONE" 0) (gD : mg "DESK_CALLS" = some (.ref dD)) (kD : KInt K dD esD) (gS' : mg "STEPS" = some (.ref dS)) (kS : KInt K dS esS)
    (tD : DTab P w K mg base C esD) (nD : ∀ s, findBy Value.isInt esD (numS s) = none) (tS : STab P w K mg base C esS) (A1 : DefOk P w K mg base CX0 2 "refusal" sp_refusal) (A2 : DefOk P w K mg base CX0 1 "reply" sp_reply) : DefOk P w K mg base CX0 11 "do_call" (sp_do P w K C) := by
  refine D.ok sc_do_call (fun vs H Q E h => ?_) (fun f cdv A outer s H vs Q E hr h => ⟨_,
      pss_cons (ps_if (pt_cmpR (op_in_ki kD) (pv 1) (pe_gr gD) (by rfl)) (pss_one (ps_ret (pe_cfM (CX := CX0) (E := E0) (pe_ix (ix_ki kD) (pe_gr gD) (pv 1) (fun _ _ => rfl)) hr pass0 (pa_cons (pv 0) (pa_cons (pv 2) pa_nil))))) pss_nil)
      (pss_cons (ps_set (i := 3) sc_do_call.nd rfl (.inl rfl) (pe_cl A1 (hr.mono (by decide)) pass0 (pa_cons (pe_ix ix_list (pv 2) pe_int (fun _ _ => rfl)) (pa_cons (pe_fld (pv 0) rfl) pa_nil))))
      (pss_cons (ps_if (pt_cmpR op_ne (pv 3) (pe_gi cD) (nomark _)) (pss_one (ps_ret (pe_cl A2 (hr.mono (by decide)) pass0 (pa_cons (pv 3) pa_nil)))) pss_nil)
      (pss_one (ps_ret (pe_cfM (CX := CX0) (E := E0) (pe_ix (ix_ki kS) (pe_gr gS') (pv 1) (fun _ _ => rfl)) hr pass0 (pa_cons (pe_dget (units1 hr) (pe_fld (pv 0) rfl) (pe_ix ix_list (pv 2) pe_int (fun _ _ => rfl)) (fun _ _ => rfl)) (pa_cons (pv 2) pa_nil))))))), ?_⟩)
  · obtain ⟨mu, n, nn, a, gv, given, d, x, rfl, _⟩ := h
    rfl
  · obtain ⟨mu, n, nn, a, gv, given, d, x, rfl, g, hD, ok, hnn, hn, hg, hG, R⟩ := h
    cases hx : isDesk x with
    | true =>
      obtain ⟨f', G, j, e1, e2, e3, e4⟩ := tD x hx
      refine ⟨_, rfl, numC x, rfl, rfl, _, rfl, iteB (fun _ => ?_) (fun c => by rw [e1] at c; cases c)⟩
      exact ⟨_, rfl, numC x, .ref f', .ref f', rfl, rfl, e1, rfl, f', _, rfl, ⟨j, e2, e3⟩, _, rfl, _, rfl, mu, n, nn, a, gv, given, d, x, rfl, g, hD, ok, hnn, hn, hg, e4 H given hG, R⟩
    | false =>
      cases x with
      | step i st =>
        obtain ⟨⟨more, rfl⟩, hs⟩ := hG
        obtain ⟨dx, p, od, td, okv, tkv, x⟩ := id hD
        have e0 : deskP d (.step i st) = onP d i fun t => ((stepP t st).2, putT d i (some (stepP t st).1)) := rfl
        rw [e0] at R
        refine ⟨_, rfl, numS st, rfl, rfl, _, rfl, iteB (fun c => by rw [nD st] at c; cases c) (fun _ => ?_)⟩
        refine ⟨_, rfl, _, _, _, _, rfl, rfl, SqL.of hg, tup0, _, rfl, a, C.S, dx, _, _, rfl, x.ins, TK.cl, TK.nT, kF_t p od td, i, td, tkv, rfl, x.htd, ?_⟩
        refine ⟨_, rfl, rfl, _, rfl, ?_⟩
        rcases x.txs.code i with ⟨c2, ec⟩ | ⟨m, rfl, hm, eo, ec⟩ | ⟨m, t, ta, rfl, hm, eo, hv, hT, ec⟩
        · rw [ec]
          refine iteDN (fun _ => ?_) (fun z => by cases z)
          rw [onP_no c2] at R
          exact ⟨_, rfl, -1, rfl, R.bare g hD⟩
        · rw [ec]
          refine iteDN (fun _ => ?_) (fun z => by cases z)
          rw [onP_none hm eo] at R
          exact ⟨_, rfl, -2, rfl, R.bare g hD⟩
        · rw [ec]
          refine iteDN (fun z => absurd rfl z) (fun _ => ?_)
          rw [onP_some hm eo] at R
          obtain ⟨f', G, j, e1, e2, e3, e4⟩ := tS st
          refine ⟨_, rfl, numS st, .ref f', .ref f', rfl, rfl, e1, rfl, f', _, rfl, ⟨j, e2, e3⟩, _, rfl, a, C.S, dx, _, _, rfl, x.ins, TK.cl, TK.nT, kF_t p od td, _, rfl, _, _, _, _, rfl, rfl, SqL.of hg, tup0, td, .ref ta, rfl, (by rw [← hv]; exact DGet.k (k := Sum.inl (m : Int)) x.htd), _, rfl, mu, m, ta, gv, _, t, st, rfl, by omega, g, hT, hg, e4 H _ hs, fun mu' H' p' n' e g' kp hx hp => ?_⟩
          exact R mu' H' p' n' e g' (KpD.kp_ kp (by omega)) (x.stepped hm ok.t8 kp e hv hx) hp
      | _ => cases hx
/-! read_given -/
theorem putRows_app (xs ys : List (List Int)) : PyFlat.putRows (xs ++ ys) = PyFlat.putRows xs ++ PyFlat.putRows ys := by
  induction xs with
  | nil => rfl
  | cons x xs ih =>
    show PyFlat.putRow x ++ PyFlat.putRows (xs ++ ys) = (PyFlat.putRow x ++ PyFlat.putRows xs) ++ PyFlat.putRows ys
    rw [ih, List.append_assoc]
theorem drop_by {zs a b : List Int} {p : Nat} (h : zs.drop p = a ++ b) : zs.drop (p + a.length) = b := by
  rw [← List.drop_drop, h, PyFlat.drop_len]
theorem get_by {zs b : List Int} {p : Nat} {a : Int} (h : zs.drop p = a :: b) : zs[p]? = some a := by
  have : (zs.drop p)[0]? = some a := by rw [h]; rfl
  rw [List.getElem?_drop] at this
  simpa using this
theorem len_by {zs a b : List Int} {p : Nat} (h : zs.drop p = a ++ b) (hp : p ≤ zs.length) : p + a.length ≤ zs.length := by
  have := congrArg List.length h
  rw [List.length_drop, List.length_append] at this
  omega
def RowT (H : Hp) (v : V) (r : List Int) : Prop := ∃ b, v = .ref b ∧ H b = some (.tup (r.map V.int))
def TabF (K : PySem.W.Frag) (es : Array DictEntry) : Prop := ∀ (p : Int) (a b : Nat), PyGv05.shape p = some (a, b) → ∃ t, findBy Value.isInt es p = some (.ref t) ∧ ∀ H, SqT K H t [.int (a : Int), .int (b : Int)]
def sp_given (K : PySem.W.Frag) (CR : Addr) : Sp := fun vs H Q _ => ∃ (a r : Addr) (p : Nat) (zs : List Int) (num : Int) (is : List Int) (rows : List (List Int)) (rest : List Int), vs = [.ref a, .int num] ∧ Rdr CR H a r p ∧ Row K H r zs ∧ p ≤ zs.length ∧ zs.length ≤ 20000 ∧ zs.drop p = is ++ (PyFlat.putRows rows ++ rest) ∧ PyGv05.shape num = some (is.length, rows.length) ∧ is.length + rows.length ≤ 100 ∧
  ∀ H' q vs', But a H H' → H q = none → H' q = some (.lst (is.map V.int ++ vs')) → Paired (RowT H') vs' rows → Rdr CR H' a r (p + is.length + (PyFlat.putRows rows).length) → Q (.ref q) H'
theorem d_given {CR CW dF : Addr} {esF : Array DictEntry} (TR : RTxt K mg CR) (D : Src K mg "read_given" s_read_given ["reader", "call"]) (gF : mg "FORMS" = some (.ref dF)) (kF' : KInt K dF esF) (tF' : TabF K esF) (hR : mg "range" = none) (hl : mg "list" = none)
    (M : MethOk P w K mg base (L2N.CX P w) 1 CR "take" (sp_rTake K CR CW)) (M3 : MethOk P w K mg base (L2N.CX P w) 3 CR "take_counted" (sp_rCounted K CR CW)) : DefOk P w K mg base CX0 4 "read_given" (sp_given K CR) := by
  refine D.ok sc_read_given (fun vs H Q E h => ?_) (fun f cdv A outer s H vs Q E hr h => ⟨_,
      pss_cons (ps_set (i := 2) sc_read_given.nd rfl (.inl rfl) (pe_ix (ix_ki kF') (pe_gr gF) (pv 1) (fun _ _ => rfl)))
      (pss_cons (ps_set (i := 3) sc_read_given.nd rfl (.inl rfl) (pe_callTy call_list_of (by rfl) hl (by decide +kernel) (pa_cons (pe_mt (pv 0) TR.cl M (hr.mono (by decide)) passN (pa_cons (pe_ix ix_tup (pv 2) pe_int (fun _ _ => rfl)) pa_nil)) pa_nil)))
      (pss_cons (ps_for PassesOwn.never rfl (pi_range1 rfl hR (pa_cons (pe_ix ix_tup (pv 2) pe_int (fun _ _ => rfl)) pa_nil)) (pg_name (i := 4) sc_read_given.nd rfl (.inl rfl))
        (pss_one (ps_expr (pe_bm PySem.F.plainAttrs_list PySem.F.slot_list_append PySem.F.type_list_append mt_append (pv 3) (pa_cons (pe_mt0 (pv 0) TR.cl M3 hr passN) pa_nil)))))
      (pss_one (ps_ret (pv 3))))), ?_⟩)
  · obtain ⟨a, r, p, zs, num, is, rows, rest, rfl, _⟩ := h
    rfl
  · obtain ⟨a, r, p, zs, num, is, rows, rest, rfl, ⟨rdx, ha⟩, hrow, hp, hz, hd, hsh, hsm, q⟩ := h
    obtain ⟨t, ht, hst⟩ := tF' _ _ _ hsh
    refine ⟨_, rfl, num, .ref t, .ref t, rfl, rfl, ht, rfl, ?_⟩
    have l1 := len_by hd hp
    have tk1 : (zs.drop p).take is.length = is := by rw [hd, PyFlat.take_len]
    refine ⟨_, rfl, a, rdx, _, rfl, ha, rF_no (by decide +kernel) (by decide +kernel) r p, _, rfl, _, _, _, _, rfl, rfl, hst _, tup0, a, r, p, is.length, zs, rfl, ⟨rdx, ha⟩, hrow, fun z => absurd z (by omega), fun _ H1 q1 b1 hq1 hr1 => ?_⟩
    rw [tk1] at hq1
    refine ⟨_, _, rfl, .inr (SqT.of hq1), fun l nl => ?_⟩
    have b2 : But a H (upd H1 l (.lst (is.map V.int))) := b1.trans (But.of (same_upd nl))
    obtain ⟨rdx1, ha1⟩ := hr1
    have hrow1 : Row K H1 r zs := b1.row ha hrow
    have lH : H l = none := by
      cases e : H l with
      | none => rfl
      | some o =>
        by_cases c : l = a
        · subst c; rw [ha1] at nl; cases nl
        · rw [b1 _ _ e c] at nl; cases nl
    have nla : l ≠ a := fun z => by rw [z, ha1] at nl; cases nl
    refine ⟨_, rfl, _, _, _, _, rfl, rfl, hst _, tup1, (rows.length : Int), rfl, by omega, by omega, for_range (n := (rows.length : Int).toNat) (fun j σ H' => ∃ (y : Option V) (vs' : List V), σ = [some (.ref a), some (.int num), some (.ref t), some (.ref l), y] ∧ But a H H' ∧ H' l = some (.lst (is.map V.int ++ vs')) ∧ Paired (RowT H') vs' (rows.take j) ∧ Rdr CR H' a r (p + is.length + (PyFlat.putRows (rows.take j)).length)) ⟨none, [], ?_, b2, ?_, .nil, ⟨rdx1, ?_⟩⟩ ?_ ?_⟩
    · simp [L2.start]
    · rw [List.append_nil]; exact upd_same
    · rw [upd_ne (Ne.symm nla)]; exact ha1
    · rintro j σ H' hj ⟨y, vs', rfl, bj, hlj, hpj, ⟨rdxj, haj⟩⟩
      have hj' : j < rows.length := by omega
      have ej := List.getElem?_eq_getElem hj'
      have hrowj : Row K H' r zs := bj.row ha hrow
      have e1 : zs.drop (p + is.length) = PyFlat.putRows rows ++ rest := drop_by hd
      have e2 : rows = rows.take j ++ rows[j] :: rows.drop (j + 1) := by
        rw [List.getElem_cons_drop, List.take_append_drop]
      have e3 : PyFlat.putRows rows = PyFlat.putRows (rows.take j) ++ (((rows[j].length : Int) :: rows[j]) ++ PyFlat.putRows (rows.drop (j + 1))) := by
        conv => lhs; rw [e2]
        rw [putRows_app]; rfl
      rw [e3, List.append_assoc] at e1
      have e4 := drop_by e1
      have l4 := len_by e1 l1
      have hz0 : zs[p + is.length + (PyFlat.putRows (rows.take j)).length]? = some (rows[j].length : Int) := get_by e4
      have e4' : zs.drop (p + is.length + (PyFlat.putRows (rows.take j)).length) = [(rows[j].length : Int)] ++ (rows[j] ++ (PyFlat.putRows (rows.drop (j + 1)) ++ rest)) := by
        rw [e4]; simp [List.append_assoc]
      have e5 := drop_by e4'
      have l5 := len_by e4' l4
      have l6 := len_by e5 l5
      have tk2 : (zs.drop (p + is.length + (PyFlat.putRows (rows.take j)).length + 1)).take rows[j].length = rows[j] := by
        rw [show p + is.length + (PyFlat.putRows (rows.take j)).length + 1 = p + is.length + (PyFlat.putRows (rows.take j)).length + [(rows[j].length : Int)].length from rfl, e5, PyFlat.take_len]
      refine ⟨_, rfl, .inl ⟨rfl, _, SqL.of hlj⟩, _, rfl, a, rdxj, _, rfl, haj, rF_no (by decide +kernel) (by decide +kernel) r _, a, r, _, zs, rfl, ⟨rdxj, haj⟩, hrowj, fun z hz1 => ?_, fun z => ?_, fun n hn hle H2 q2 b2' hq2 hr2 => ?_⟩
      · rw [hz0] at hz1; cases hz1; omega
      · exfalso
        simp only [List.length_cons, List.length_nil] at l5 l6
        rcases z with z | ⟨n, hn, z⟩
        · omega
        · rw [hz0] at hn
          have : (rows[j].length : Int) = (n : Int) := Option.some.inj hn
          omega
      · rw [hz0] at hn
        have en : rows[j].length = n := by have : (rows[j].length : Int) = (n : Int) := Option.some.inj hn; omega
        subst en
        rw [tk2] at hq2
        have hlj2 : H2 l = some (.lst (is.map V.int ++ vs')) := b2' _ _ hlj nla
        refine ⟨l, _, _, rfl, rfl, hlj2, ?_, ?_⟩
        · have := paired_len hpj
          rw [List.length_take] at this
          refine small_lt (m := 1000) ?_
          rw [List.length_append, List.length_map]
          omega
        · have ts2 : TS H' H2 := b2'.ts haj
          have tsu : TS H2 (upd H2 l (.lst (is.map V.int ++ vs' ++ [.ref q2]))) := TS.upd hlj2 (by intro xs e; cases e)
          have et : rows.take (j + 1) = rows.take j ++ [rows[j]] := by rw [List.take_add_one, ej]; rfl
          refine ⟨_, vs' ++ [.ref q2], rfl, fun b o e n => ?_, ?_, ?_, ?_⟩
          · rw [upd_ne (fun z => by rw [z, lH] at e; cases e)]; exact b2' _ _ (bj _ _ e n) n
          · rw [upd_same, List.append_assoc]
          · rw [et]
            refine paired_app (paired_map (fun _ _ ⟨b, eb, hb⟩ => ⟨b, eb, tsu _ _ (ts2 _ _ hb)⟩) hpj) (.cons ⟨q2, rfl, tsu _ _ hq2⟩ .nil)
          · obtain ⟨dx2, hr2⟩ := hr2
            refine ⟨dx2, ?_⟩
            rw [upd_ne (Ne.symm nla), hr2, et, putRows_app, List.length_append]
            have : (PyFlat.putRows [rows[j]]).length = 1 + rows[j].length := by
              show (PyFlat.putRow rows[j] ++ []).length = _
              rw [List.append_nil]
              show ((rows[j].length : Int) :: rows[j]).length = _
              rw [List.length_cons, Nat.add_comm]
            rw [this]
            congr 3
            omega
    · rintro σ H' ⟨y, vs', rfl, bj, hlj, hpj, hrj⟩
      have e1 : (rows.length : Int).toNat = rows.length := by omega
      rw [e1, List.take_length] at hpj hrj
      exact ⟨_, rfl, q H' l vs' bj lH hlj hpj hrj⟩
end
end Ks
namespace Ks
open PySem PySem.Spec PyProof.Rows L2
theorem nats_v {r : List Int} (h : isB r) : vN (Gv05Neutral.nats r) = r.map V.int := by
  unfold Gv05Neutral.nats vN
  rw [List.map_map]
  refine List.map_congr_left fun z hz => ?_
  have := h.2 z hz
  show V.int ((z.toNat : Nat) : Int) = V.int z
  rw [Int.toNat_of_nonneg this.1]
theorem row_tb {H : Hp} {v : V} {r : List Int} (h : RowT H v r) (hb : isB r) : ∃ b, v = .ref b ∧ Tb H b (Gv05Neutral.nats r) ∧ Byt (Gv05Neutral.nats r) := by
  obtain ⟨b, e, hb'⟩ := h
  refine ⟨b, e, ?_, fun x hx => ?_⟩
  · show H b = some (.tup (vN (Gv05Neutral.nats r)))
    rw [nats_v hb]; exact hb'
  · unfold Gv05Neutral.nats at hx
    obtain ⟨z, hz, rfl⟩ := List.mem_map.mp hx
    have := hb.2 z hz
    omega
theorem paired1 {α β : Type} {R : α → β → Prop} {xs : List α} {y : β} (h : Paired R xs [y]) : ∃ x, xs = [x] ∧ R x y := by
  cases h with
  | cons r t => cases t; exact ⟨_, rfl, r⟩
theorem paired2 {α β : Type} {R : α → β → Prop} {xs : List α} {y z : β} (h : Paired R xs [y, z]) : ∃ u v, xs = [u, v] ∧ R u y ∧ R v z := by
  cases h with
  | cons r t =>
    obtain ⟨v, rfl, q⟩ := paired1 t
    exact ⟨_, v, rfl, r, q⟩
theorem paired0 {α β : Type} {R : α → β → Prop} {xs : List α} (h : Paired R xs ([] : List β)) : xs = [] := by cases h; rfl
/-- what a call is given -/
theorem fits_given {c : List (List Int)} {x : Gv05.Call} (h : Fits c x) : ∃ is rows, c = (numC x :: is) :: rows ∧ is.length + rows.length ≤ 100 ∧ cost x ≤ (PyFlat.put1 c).length ∧ ∀ H vs', Paired (RowT H) vs' rows → gC H (is.map V.int ++ vs') x := by
  cases x with
  | begin_ i => exact ⟨[i], [], h, by simp, Nat.zero_le _, fun H vs' p => ⟨i, by rw [paired0 p]; rfl, rfl⟩⟩
  | older i j => exact ⟨[i, j], [], h, by simp, Nat.zero_le _, fun H vs' p => ⟨i, j, by rw [paired0 p]; rfl, rfl⟩⟩
  | commit i => exact ⟨[i], [], h, by simp, Nat.zero_le _, fun H vs' p => ⟨i, by rw [paired0 p]; rfl, rfl⟩⟩
  | drop i => exact ⟨[i], [], h, by simp, Nat.zero_le _, fun H vs' p => ⟨i, by rw [paired0 p]; rfl, rfl⟩⟩
  | keep i => exact ⟨[i], [], h, by simp, Nat.zero_le _, fun H vs' p => ⟨i, by rw [paired0 p]; rfl, rfl⟩⟩
  | forget i => exact ⟨[i], [], h, by simp, Nat.zero_le _, fun H vs' p => ⟨i, by rw [paired0 p]; rfl, rfl⟩⟩
  | replay b =>
    obtain ⟨r, rfl, rfl, hb⟩ := h
    refine ⟨[], [r], rfl, by simp, ?_, fun H vs' p => ?_⟩
    · show (Gv05Neutral.nats r).length ≤ ([7] ++ (((r.length : Int) :: r) ++ [])).length
      unfold Gv05Neutral.nats
      simp
      omega
    · obtain ⟨v, rfl, hv⟩ := paired1 p
      obtain ⟨a, rfl, h1, h2⟩ := row_tb hv hb
      refine ⟨a, _, rfl, h1, h2, ?_, rfl⟩
      unfold Gv05Neutral.nats
      rw [List.length_map]; exact hb.1
  | step i s =>
    cases s with
    | get k =>
      obtain ⟨r, rfl, rfl, hb⟩ := h
      refine ⟨[i], [r], rfl, by simp, Nat.succ_le_of_lt (Nat.zero_lt_succ _), fun H vs' p => ?_⟩
      obtain ⟨v, rfl, hv⟩ := paired1 p
      obtain ⟨a, rfl, h1, h2⟩ := row_tb hv hb
      exact ⟨⟨_, rfl⟩, i, a, _, rfl, h1, h2, rfl⟩
    | put k v =>
      obtain ⟨r, q, rfl, rfl, hb, rfl, hq⟩ := h
      refine ⟨[i], [r, q], rfl, by simp, Nat.succ_le_of_lt (Nat.zero_lt_succ _), fun H vs' p => ?_⟩
      obtain ⟨u, v, rfl, hu, hv⟩ := paired2 p
      obtain ⟨a, rfl, h1, h2⟩ := row_tb hu hb
      obtain ⟨b, rfl, h3, h4⟩ := row_tb hv hq
      exact ⟨⟨_, rfl⟩, i, a, b, _, _, rfl, h1, h2, h3, h4, rfl⟩
    | remove k =>
      obtain ⟨r, rfl, rfl, hb⟩ := h
      refine ⟨[i], [r], rfl, by simp, Nat.succ_le_of_lt (Nat.zero_lt_succ _), fun H vs' p => ?_⟩
      obtain ⟨v, rfl, hv⟩ := paired1 p
      obtain ⟨a, rfl, h1, h2⟩ := row_tb hv hb
      exact ⟨⟨_, rfl⟩, i, a, _, rfl, h1, h2, rfl⟩
    | add k n =>
      obtain ⟨r, rfl, rfl, hb, hw⟩ := h
      refine ⟨[i, n], [r], rfl, by simp, Nat.succ_le_of_lt (Nat.zero_lt_succ _), fun H vs' p => ?_⟩
      obtain ⟨v, rfl, hv⟩ := paired1 p
      obtain ⟨a, rfl, h1, h2⟩ := row_tb hv hb
      exact ⟨⟨_, rfl⟩, i, n, a, _, rfl, h1, h2, hw, rfl⟩
    | next k wd =>
      obtain ⟨r, z, rfl, rfl, hb, rfl, hz⟩ := h
      refine ⟨[i, z], [r], rfl, by simp, Nat.succ_le_of_lt (Nat.zero_lt_succ _), fun H vs' p => ?_⟩
      obtain ⟨v, rfl, hv⟩ := paired1 p
      obtain ⟨a, rfl, h1, h2⟩ := row_tb hv hb
      exact ⟨⟨_, rfl⟩, i, z, a, _, rfl, h1, h2, hz, rfl⟩
    | before k wd =>
      obtain ⟨r, z, rfl, rfl, hb, rfl, hz⟩ := h
      refine ⟨[i, z], [r], rfl, by simp, Nat.succ_le_of_lt (Nat.zero_lt_succ _), fun H vs' p => ?_⟩
      obtain ⟨v, rfl, hv⟩ := paired1 p
      obtain ⟨a, rfl, h1, h2⟩ := row_tb hv hb
      exact ⟨⟨_, rfl⟩, i, z, a, _, rfl, h1, h2, hz, rfl⟩
    | count lo hi n =>
      obtain ⟨r, q, rfl, rfl, hb, rfl, hq⟩ := h
      refine ⟨[i, n], [r, q], rfl, by simp, Nat.succ_le_of_lt (Nat.zero_lt_succ _), fun H vs' p => ?_⟩
      obtain ⟨u, v, rfl, hu, hv⟩ := paired2 p
      obtain ⟨a, rfl, h1, h2⟩ := row_tb hu hb
      obtain ⟨b, rfl, h3, h4⟩ := row_tb hv hq
      exact ⟨⟨_, rfl⟩, i, n, a, b, _, _, rfl, h1, h2, h3, h4, rfl⟩
    | save => exact ⟨[i], [], h, by simp, by rw [show c = [[17, i]] from h]; exact Nat.succ_le_of_lt (Nat.zero_lt_succ _), fun H vs' p => ⟨⟨_, rfl⟩, i, by rw [paired0 p]; rfl, rfl⟩⟩
    | back n => exact ⟨[i, n], [], h, by simp, by rw [show c = [[18, i, n]] from h]; exact Nat.succ_le_of_lt (Nat.zero_lt_succ _), fun H vs' p => ⟨⟨_, rfl⟩, i, n, by rw [paired0 p]; rfl, rfl⟩⟩
    | list => exact ⟨[i], [], h, by simp, by rw [show c = [[19, i]] from h]; exact Nat.succ_le_of_lt (Nat.zero_lt_succ _), fun H vs' p => ⟨⟨_, rfl⟩, i, by rw [paired0 p]; rfl, rfl⟩⟩
theorem put_app (a b : List (List (List Int))) : PyFlat.put (a ++ b) = PyFlat.put a ++ PyFlat.put b := by
  induction a with
  | nil => rfl
  | cons c a ih =>
    show PyFlat.put1 c ++ PyFlat.put (a ++ b) = (PyFlat.put1 c ++ PyFlat.put a) ++ PyFlat.put b
    rw [ih, List.append_assoc]
theorem answers_short {ns : List Int} (h : PyGv05.answers_asked ns = true) : (PyGv05.answers ns).length ≤ 10000000 := by
  unfold PyGv05.answers_asked at h
  cases e : PyFlat.calls PyGv05.shape ns.length ns with
  | none => rw [e] at h; cases h
  | some raw =>
    rw [e] at h
    have h : (PyFlat.atMost 1200 raw && PyInside.calls PyGv05.bound raw && Gv05Neutral.asked (raw.map PyGv05.whole) && PyFlat.short 10000000 (PyGv05.answers ns)) = true := h
    rw [Bool.and_eq_true] at h
    exact of_decide_eq_true h.2
theorem gh_but {mu : Mu} {H H' : Hp} {a : Addr} (g : Gh mu H) (b : But a H H') {o : HO} (ha : H' a = some o) : Gh mu H' := fun c e => by
  refine g c ?_
  cases q : H c with
  | none => rfl
  | some u =>
    by_cases z : c = a
    · rw [z, ha] at e; cases e
    · rw [b _ _ q z] at e; cases e
/-- the row is the top's own -/
def RK (K : PySem.W.Frag) (r : Addr) (zs : List Int) : Prop := ∀ H', SqL K H' r (zs.map V.int)
theorem Row.kpD {K : PySem.W.Frag} {mu : Mu} {H H' : Hp} {r : Addr} {zs : List Int} (k : KpD mu H H') (m : RK K r zs ∨ mu r = 9) (h : Row K H r zs) : Row K H' r zs := by
  rcases m with m | m
  · exact .inl (m H')
  · rcases h with ((h | ⟨o, h⟩) | h) | h
    · exact .inl (.inl (.inl (k.kp _ _ h (by omega))))
    · exact .inl (.inl (.inr ⟨o, k.kp _ _ h (by omega)⟩))
    · exact .inl (.inr h)
    · exact .inr (k.kp _ _ h (by omega))
theorem Row.muE {K : PySem.W.Frag} {mu mu' : Mu} {H : Hp} {r : Addr} {zs : List Int} (e : MuE H mu mu') (m : RK K r zs ∨ mu r = 9) (h : Row K H r zs) : RK K r zs ∨ mu' r = 9 := by
  rcases m with m | m
  · exact .inl m
  · rcases h with ((h | ⟨o, h⟩) | h) | h
    · exact .inr ((e.at h).trans m)
    · exact .inr ((e.at h).trans m)
    · exact .inl fun H' => .inr h
    · exact .inr ((e.at h).trans m)
section
variable {P : Program} {w : World} {K : PySem.W.Frag} {mg : Str → Option Value} {base : Heap} {C : Cs} {CR CW : Addr}
def spAns (K : PySem.W.Frag) : Sp := fun vs H Q _ => ∃ (a : Addr) (ns : List Int), vs = [.ref a] ∧ SqL K H a (ns.map V.int) ∧ ns.length ≤ 16000 ∧ PyGv05.answers_asked ns = true ∧
  ∀ (H' : Hp) (p : Addr), H' p = some (.lst ((PyGv05.answers ns).map V.int)) → Q (.ref p) H'
/-- the loop of answers, behind j calls -/
def Lp (P : Program) (w : World) (K : PySem.W.Frag) (C : Cs) (CR r dk rd tl : Addr) (ns : List Int) (raw : List (List (List Int))) (j : Nat) (σ : L2.St) (H : Hp) : Prop :=
  ∃ (mu : Mu) (d : DM) (acc : List Int) (y z : Option V), σ = [some (.ref r), some (.ref dk), some (.ref rd), some (.ref tl), y, z] ∧ j ≤ raw.length ∧ Gh mu H ∧ Dk P w K C mu j H dk d ∧ DOk (PyFlat.put (raw.take j)).length d ∧ mu rd = 10 ∧ mu tl = 10 ∧ (RK K r ns ∨ mu r = 9) ∧
    Rdr CR H rd r (PyFlat.put (raw.take j)).length ∧ Row K H r ns ∧ H tl = some (.lst (acc.map V.int)) ∧ PyGv05.answers ns = acc ++ PyFlat.told (PyFlat.played Gv05Neutral.step d (raw.drop j))
theorem d_answers (TK : KTxt K mg C.S) (TR : RTxt K mg CR) {f : Addr} {fd : FuncData} (F : Fun K "answers" "answers" s_answers f fd) (hL : mg "len" = none) (IK : InitOk P w K mg base CX0 2 C.S (sp_kInit C.S)) (IR : InitOk P w K mg base CX0 1 CR (sp_rInit CR)) (ME : MethOk P w K mg base CX0 1 CR "ended" (sp_rEnded K CR)) (M1 : MethOk P w K mg base (L2N.CX P w) 2 CR "take_one" (sp_rOne K CR CW))
    (AG : DefOk P w K mg base CX0 4 "read_given" (sp_given K CR)) (AD : DefOk P w K mg base CX0 11 "do_call" (sp_do P w K C)) : FnOk P w K mg base CX0 12 f fd ["calls"] (spAns K) := by
  refine F.ok sc_answers (fun vs H Q E h => ?_) (fun cdv A outer s H vs Q E hr h => ⟨_,
      pss_cons (ps_set (i := 1) sc_answers.nd rfl (.inl rfl) (pe_mk0 IK (hr.mono (by decide)) TK.g pass0))
      (pss_cons (ps_set (i := 2) sc_answers.nd rfl (.inl rfl) (pe_mk IR (hr.mono (by decide)) TR.g pass0 (pa_cons (pv 0) pa_nil)))
      (pss_cons (ps_set (i := 3) sc_answers.nd rfl (.inl rfl) (pe_lst pa_nil))
      (pss_cons (ps_while PassesOwn.never (pt_not (pt_val (pe_mt0 (pv 2) TR.cl ME (hr.mono (by decide)) pass0)))
        (pss_cons (ps_set (i := 4) sc_answers.nd rfl (.inl rfl) (pe_mt0 (pv 2) TR.cl M1 (hr.mono (by decide)) passN))
        (pss_cons (ps_set (i := 5) sc_answers.nd rfl (.inl rfl) (pe_cl AD hr pass0 (pa_cons (pv 1) (pa_cons (pv 4) (pa_cons (pe_cl AG (hr.mono (by decide)) pass0 (pa_cons (pv 2) (pa_cons (pv 4) pa_nil))) pa_nil)))))
        (pss_cons (ps_expr (pe_bm PySem.F.plainAttrs_list PySem.F.slot_list_append PySem.F.type_list_append mt_append (pv 3) (pa_cons (pe_callB call_len (by rfl) hL PySem.boot_len (pa_cons (pv 5) pa_nil)) pa_nil)))
        (pss_one (ps_expr (pe_bm PySem.F.plainAttrs_list PySem.F.slot_list_extend PySem.F.type_list_extend mt_extend (pv 3) (pa_cons (pv 5) pa_nil))))))))
      (pss_one (ps_ret (pv 3)))))), ?_⟩)
  · obtain ⟨a, ns, rfl, _⟩ := h
    rfl
  · obtain ⟨r, ns, rfl, hr0, hz, hask, q⟩ := h
    obtain ⟨raw, hput, hraw, hcalls, hans⟩ := line_is hask
    have hshort := answers_short hask
    intro dk kdx hdk hkdx nek
    refine ⟨dk, kdx, rfl, upd_same, fun H1 st od td nst nod ntd neot hdk1 hst1 hod1 htd1 b1 => ⟨rfl, ?_⟩⟩
    have s1 := mk_same hdk hkdx b1
    have free1 : ∀ c, upd (upd H kdx (.own dk)) dk (.ins C.S kdx []) c = none → H c = none := fun c e => by
      have n1 : c ≠ dk := fun z => by rw [z, upd_same] at e; cases e
      rw [upd_ne n1] at e
      have n2 : c ≠ kdx := fun z => by rw [z, upd_same] at e; cases e
      rw [upd_ne n2] at e; exact e
    refine ⟨_, rfl, fun rd rdx hrd hrdx ner => ⟨rd, rdx, r, rfl, upd_same, fun H2 hR2 b2 => ⟨rfl, ?_⟩⟩⟩
    have s2 := mk_same hrd hrdx b2
    refine ⟨small_le (m := 100) (by simp), fun tl ntl => ?_⟩
    have s3 := same_upd (o := .lst []) ntl
    obtain ⟨rdx2, hR2⟩ := hR2
    have row0 : Row K H r ns := .inl hr0
    have sAll := Same.trans s1 (Same.trans s2 s3)
    have row3 : Row K (upd H2 tl (.lst [])) r ns := .inl (sAll.seq hr0)
    -- who is who
    have w_rd_dk : rd ≠ dk := fun z => by rw [z, hdk1] at hrd; cases hrd
    have w_rd_od : rd ≠ od := fun z => by rw [z, hod1] at hrd; cases hrd
    have w_rd_td : rd ≠ td := fun z => by rw [z, htd1] at hrd; cases hrd
    have w_tl_dk : tl ≠ dk := fun z => by rw [z, s2 _ _ hdk1] at ntl; cases ntl
    have w_tl_od : tl ≠ od := fun z => by rw [z, s2 _ _ hod1] at ntl; cases ntl
    have w_tl_td : tl ≠ td := fun z => by rw [z, s2 _ _ htd1] at ntl; cases ntl
    have w_st_dk : st ≠ dk := ne_of hst1 hdk1 (by intro z; cases z)
    have w_st_od : st ≠ od := ne_of hst1 hod1 (by intro z; cases z)
    have w_st_td : st ≠ td := ne_of hst1 htd1 (by intro z; cases z)
    have w_st_rd : st ≠ rd := fun z => by rw [z, hrd] at hst1; cases hst1
    have w_st_tl : st ≠ tl := fun z => by rw [← z, s2 _ _ hst1] at ntl; cases ntl
    refine while_by (fun σ H' => ∃ j, Lp P w K C CR r dk rd tl ns raw j σ H') (fun _ H' => placeAt rd ns.length H') ⟨0, ?_⟩ ?_ ?_
    · refine ⟨fun b => if b = dk ∨ b = od ∨ b = td then 8 else if b = rd ∨ b = tl then 10 else 9, Gv05Neutral.start, [], none, none, ?_, Nat.zero_le _, fun b e => ?_, ⟨kdx, st, od, td, [], [], ?_⟩, start_ok, ?_, ?_, ?_, ⟨rdx2, s3 _ _ hR2⟩, row3, upd_same, ?_⟩
      · simp [L2.start]
      · show (if b = dk ∨ b = od ∨ b = td then 8 else if b = rd ∨ b = tl then 10 else 9) = 9
        have n0 : b ≠ tl := fun z => by rw [z, upd_same] at e; cases e
        have e' := e
        rw [upd_ne n0] at e'
        rw [if_neg, if_neg]
        · rintro (z | z)
          · rw [z, hR2] at e'; cases e'
          · exact n0 z
        · rintro (z | z | z)
          · rw [z, s2 _ _ hdk1] at e'; cases e'
          · rw [z, s2 _ _ hod1] at e'; cases e'
          · rw [z, s2 _ _ htd1] at e'; cases e'
      · have s23 := Same.trans s2 s3
        refine ⟨s23 _ _ hdk1, if_pos (.inl rfl), ⟨[], s23 _ _ hst1, .nil⟩, ?_, s23 _ _ hod1, if_pos (.inr (.inl rfl)), Nat.le_refl _, fun j hj => ?_, s23 _ _ htd1, if_pos (.inr (.inr rfl)), Nat.le_refl _, fun j hj => ?_, fun x hx => absurd hx List.not_mem_nil, neot⟩
        · show (if st = dk ∨ st = od ∨ st = td then 8 else if st = rd ∨ st = tl then 10 else 9) = 9
          rw [if_neg, if_neg]
          · rintro (z | z)
            · exact w_st_rd z
            · exact w_st_tl z
          · rintro (z | z | z)
            · exact w_st_dk z
            · exact w_st_od z
            · exact w_st_td z
        · have e : (Gv05Neutral.start.olds).getD j none = none := by
            show (List.replicate 8 none).getD j none = none
            rw [List.getD_eq_getElem?_getD, List.getElem?_replicate]
            split <;> rfl
          rw [e]; rfl
        · have e : (Gv05Neutral.start.txns).getD j none = none := by
            show (List.replicate 8 none).getD j none = none
            rw [List.getD_eq_getElem?_getD, List.getElem?_replicate]
            split <;> rfl
          rw [e]; rfl
      · show (if rd = dk ∨ rd = od ∨ rd = td then 8 else if rd = rd ∨ rd = tl then 10 else 9) = 10
        rw [if_neg, if_pos (.inl rfl)]
        rintro (z | z | z)
        · exact w_rd_dk z
        · exact w_rd_od z
        · exact w_rd_td z
      · show (if tl = dk ∨ tl = od ∨ tl = td then 8 else if tl = rd ∨ tl = tl then 10 else 9) = 10
        rw [if_neg, if_pos (.inr rfl)]
        rintro (z | z | z)
        · exact w_tl_dk z
        · exact w_tl_od z
        · exact w_tl_td z
      · have out : ∀ o, H r = some o → (if r = dk ∨ r = od ∨ r = td then 8 else if r = rd ∨ r = tl then 10 else 9) = 9 := fun o ho => by
          rw [if_neg, if_neg]
          · rintro (z | z)
            · rw [← z, s1 _ _ ho] at hrd; cases hrd
            · rw [← z, s2 _ _ (s1 _ _ ho)] at ntl; cases ntl
          · rintro (z | z | z)
            · rw [z, hdk] at ho; cases ho
            · rw [z, free1 _ nod] at ho; cases ho
            · rw [z, free1 _ ntd] at ho; cases ho
        rcases hr0 with (h | ⟨o, h⟩) | h
        · exact .inr (out _ h)
        · exact .inr (out _ h)
        · exact .inl fun H' => .inr h
      · rw [hans, List.nil_append, List.drop_zero]
    · rintro σ H' ⟨j, mu, d, acc, y, z, rfl, hj, g, hD, ok, mrd, mtl, mr, ⟨rdxj, hrdj⟩, hrow, htl, hacc⟩
      have hdrop : ns.drop (PyFlat.put (raw.take j)).length = PyFlat.put (raw.drop j) := by
        have e : ns = PyFlat.put (raw.take j) ++ PyFlat.put (raw.drop j) := by rw [← put_app, List.take_append_drop]; exact hput
        conv => lhs; rw [e]
        exact PyFlat.drop_len _ _
      have hle : (PyFlat.put (raw.take j)).length ≤ ns.length := by
        have e : ns = PyFlat.put (raw.take j) ++ PyFlat.put (raw.drop j) := by rw [← put_app, List.take_append_drop]; exact hput
        have := congrArg List.length e
        rw [List.length_append] at this
        omega
      refine ⟨_, rfl, rd, rdxj, _, rfl, hrdj, rF_no (by decide +kernel) (by decide +kernel) r _, rd, r, _, ns, rfl, ⟨rdxj, hrdj⟩, hrow, _, rfl, iteDN (fun c => ?_) (fun c => ?_)⟩
      · -- one call more
        have hjl : j < raw.length := by
          rcases Nat.lt_or_ge j raw.length with z | z
          · exact z
          · exfalso
            refine c ?_
            rw [List.take_of_length_le z, ← hput]
        have ej := List.getElem?_eq_getElem hjl
        generalize hc0 : raw[j] = cc at ej
        obtain ⟨hshape, x, hx, hfit⟩ := hcalls cc (List.mem_of_getElem? ej)
        obtain ⟨is, rows, rfl, hsmall, hcost, hgiven⟩ := fits_given hfit
        obtain ⟨p0, a0, xs0, e0, hsh⟩ := hshape
        injection e0 with e01 e02
        injection e01 with e03 e04
        subst e03; subst e04; subst e02
        have hdr : raw.drop j = ((numC x :: is) :: rows) :: raw.drop (j + 1) := by
          rw [List.drop_eq_getElem_cons hjl, hc0]
        have htk : raw.take (j + 1) = raw.take j ++ [(numC x :: is) :: rows] := by rw [List.take_add_one, ej]; rfl
        have hd1 : ns.drop (PyFlat.put (raw.take j)).length = [numC x] ++ (is ++ (PyFlat.putRows rows ++ PyFlat.put (raw.drop (j + 1)))) := by
          rw [hdrop, hdr]
          show ((numC x :: is) ++ PyFlat.putRows rows) ++ PyFlat.put (raw.drop (j + 1)) = _
          simp [List.append_assoc]
        have hz0 := get_by (show ns.drop (PyFlat.put (raw.take j)).length = numC x :: (is ++ (PyFlat.putRows rows ++ PyFlat.put (raw.drop (j + 1)))) from hd1)
        have hd2 := drop_by hd1
        have hl2 := len_by hd1 hle
        have lput : (PyFlat.put (raw.take (j + 1))).length = (PyFlat.put (raw.take j)).length + [numC x].length + is.length + (PyFlat.putRows rows).length := by
          rw [htk, put_app, List.length_append]
          show _ + (((numC x :: is) ++ PyFlat.putRows rows) ++ []).length = _
          rw [List.append_nil, List.length_append]
          simp only [List.length_cons, List.length_nil]
          omega
        refine ⟨_, rfl, rd, rdxj, _, rfl, hrdj, rF_no (by decide +kernel) (by decide +kernel) r _, rd, r, _, ns, rfl, ⟨rdxj, hrdj⟩, hrow, fun z => ?_, fun z hz1 H4 b4 hr4 => ?_⟩
        · exfalso
          simp only [List.length_cons, List.length_nil] at hl2
          omega
        · rw [hz0] at hz1
          cases hz1
          obtain ⟨rdx4, hrd4⟩ := hr4
          have ts4 := b4.ts hrdj
          have hrow4 := b4.row hrdj hrow
          refine ⟨_, rfl, _, rfl, _, rfl, _, rfl, rd, r, _, ns, numC x, is, rows, _, rfl, ⟨rdx4, hrd4⟩, hrow4, hl2, by omega, hd2, hsh, hsmall, fun H5 qg vs' b5 nq hq hvs hr5 => ?_⟩
          obtain ⟨rdx5, hrd5⟩ := hr5
          have b45 := b4.trans b5
          have g5 : Gh mu H5 := gh_but g b45 hrd5
          have hD5 : Dk P w K C mu j H5 dk d := hD.stay (MuE.refl H' mu) (b45.ts hrdj) (fun b o eb m => b45 _ _ eb (fun z => by rw [z, mrd] at m; omega))
          have hrow5 := b45.row hrdj hrow
          have htl5 : H5 tl = some (.lst (acc.map V.int)) := b45 _ _ htl (ne_of htl hrdj (by intro z; cases z))
          refine ⟨mu, j, _, dk, qg, _, d, x, rfl, g5, hD5, ok, by omega, by omega, hq, hgiven H5 vs' hvs, fun mu' H6 pa npa e6 g6 k6 hD6 hpa => ?_⟩
          have htl6 := k6.kp _ _ htl5 (by omega)
          have nta : tl ≠ pa := fun z => by rw [← z, htl5] at npa; cases npa
          have mrd6 : mu' rd = 10 := (e6.at hrd5).trans mrd
          have mtl6 : mu' tl = 10 := (e6.at htl5).trans mtl
          have mr6 := Row.muE e6 mr hrow5
          have hrow6 := Row.kpD k6 mr hrow5
          have hrd6 := k6.kp _ _ hrd5 (by omega)
          -- the answers so far
          have hstep : Gv05Neutral.step d ((numC x :: is) :: rows) = ((deskP d x).2, encA (deskP d x).1) := neutral_step ok (by show _ < 100000; omega) hx
          have hacc' : PyGv05.answers ns = (acc ++ (((encA (deskP d x).1).length : Int) :: encA (deskP d x).1)) ++ PyFlat.told (PyFlat.played Gv05Neutral.step (deskP d x).2 (raw.drop (j + 1))) := by
            rw [hacc, hdr]
            show acc ++ PyFlat.told ((Gv05Neutral.step d ((numC x :: is) :: rows)).2 :: PyFlat.played Gv05Neutral.step (Gv05Neutral.step d ((numC x :: is) :: rows)).1 (raw.drop (j + 1))) = _
            rw [hstep]
            show acc ++ ((((encA (deskP d x).1).length : Int) :: encA (deskP d x).1) ++ PyFlat.told (PyFlat.played Gv05Neutral.step (deskP d x).2 (raw.drop (j + 1)))) = _
            rw [List.append_assoc]
          have hsz : acc.length + 1 + (encA (deskP d x).1).length ≤ 10000000 := by
            have := congrArg List.length hacc'
            simp only [List.length_append, List.length_cons] at this
            omega
          refine ⟨_, rfl, .inl ⟨rfl, _, SqL.of htl6⟩, _, rfl, _, _, rfl, .inl ⟨_, SqL.of hpa, rfl⟩, tl, _, _, rfl, rfl, htl6, ?_, ?_⟩
          · rw [List.length_map]
            exact small_lt (m := 10000001) (by omega)
          · have hpa7 : upd H6 tl (.lst (acc.map V.int ++ [.int (((encA (deskP d x).1).map V.int).length : Int)])) pa = some (.lst ((encA (deskP d x).1).map V.int)) := by rw [upd_ne (Ne.symm nta)]; exact hpa
            refine ⟨_, rfl, .inl ⟨rfl, _, SqL.of upd_same⟩, _, rfl, tl, pa, _, _, rfl, rfl, upd_same, hpa7, ?_, ?_⟩
            · refine small_le (m := 10000001) ?_
              simp only [List.length_append, List.length_map, List.length_cons, List.length_nil]
              omega
            · rw [upd_upd]
              have acc2 : acc.map V.int ++ [.int (((encA (deskP d x).1).map V.int).length : Int)] ++ (encA (deskP d x).1).map V.int = (acc ++ (((encA (deskP d x).1).length : Int) :: encA (deskP d x).1)).map V.int := by
                rw [List.map_append, List.length_map, List.append_assoc]; rfl
              rw [acc2]
              have tsu : TS H6 (upd H6 tl (.lst ((acc ++ (((encA (deskP d x).1).length : Int) :: encA (deskP d x).1)).map V.int))) := TS.upd htl6 (by intro xs e; cases e)
              have hrd8 : upd H6 tl (.lst ((acc ++ (((encA (deskP d x).1).length : Int) :: encA (deskP d x).1)).map V.int)) rd = some (.ins CR rdx5 (rF r ((PyFlat.put (raw.take j)).length + [numC x].length + is.length + (PyFlat.putRows rows).length))) := by
                rw [upd_ne (ne_of hrd6 htl6 (by intro z; cases z))]; exact hrd6
              refine ⟨⟨j + 1, mu', (deskP d x).2, acc ++ (((encA (deskP d x).1).length : Int) :: encA (deskP d x).1), _, _, rfl, hjl, fun b eb => ?_, hD6.stay (MuE.refl H6 mu') tsu (fun b o eb m => ?_), ?_, mrd6, mtl6, mr6, ⟨rdx5, by rw [lput]; exact hrd8⟩, ?_, upd_same, hacc'⟩, ?_⟩
              · have n0 : b ≠ tl := fun z => by rw [z, upd_same] at eb; cases eb
                rw [upd_ne n0] at eb
                exact g6 b eb
              · rw [upd_ne (fun z => by rw [z, mtl6] at m; omega)]; exact eb
              · refine (deskP_ok ok x).more ?_
                rw [lput]
                have : (PyFlat.put1 ((numC x :: is) :: rows)).length = [numC x].length + is.length + (PyFlat.putRows rows).length := by
                  show ((numC x :: is) ++ PyFlat.putRows rows).length = _
                  rw [List.length_append]
                  simp only [List.length_cons, List.length_nil]
                  omega
                omega
              · rcases mr6 with z | z
                · exact .inl (z _)
                · rcases hrow6 with ((h | ⟨o, h⟩) | h) | h
                  · exact .inl (.inl (.inl (by rw [upd_ne (fun zz => by rw [zz, mtl6] at z; omega)]; exact h)))
                  · exact .inl (.inl (.inr ⟨o, by rw [upd_ne (fun zz => by rw [zz, mtl6] at z; omega)]; exact h⟩))
                  · exact .inl (.inr h)
                  · exact .inr (by rw [upd_ne (fun zz => by rw [zz, mtl6] at z; omega)]; exact h)
              · show placeAt rd ns.length _ < placeAt rd ns.length H'
                rw [placeAt_is ⟨rdx5, hrd8⟩, placeAt_is ⟨rdxj, hrdj⟩]
                simp only [List.length_cons, List.length_nil] at hl2 ⊢
                omega
      · -- at the end
        have hnil : PyFlat.put (raw.drop j) = [] := by
          rw [← hdrop, c, List.drop_length]
        have hj' : raw.drop j = [] := by
          cases e : raw.drop j with
          | nil => rfl
          | cons cc rest =>
            exfalso
            rw [e] at hnil
            have hm : cc ∈ raw := List.mem_of_mem_drop (by rw [e]; exact List.mem_cons_self)
            obtain ⟨⟨p0, a0, xs0, rfl, _⟩, _⟩ := hcalls cc hm
            cases hnil
        rw [hj'] at hacc
        have hacc : PyGv05.answers ns = acc ++ [] := hacc
        rw [List.append_nil] at hacc
        refine ⟨_, rfl, q H' tl ?_⟩
        rw [hacc]; exact htl
    · rintro σ H' Q1 Q2 hQ ⟨v, hv, a1, dx1, fs1, e1, h1, l1, a2, r2, p2, zs2, e2, hr2, hrow2, k2, ek, q2⟩
      exact ⟨v, hv, a1, dx1, fs1, e1, h1, l1, a2, r2, p2, zs2, e2, hr2, hrow2, k2, ek, hQ _ _ q2⟩
end
end Ks
namespace Ks
open PySem PySem.Spec PyProof.Rows L2
/-- what the top has to hold -/
structure Txt (K : PySem.W.Frag) (mg : Str → Option Value) (C : Cs) (CR CW dF dD dS nB : Addr) (esF esD esS : Array DictEntry) : Prop where
  S_empty_map : Src K mg "empty_map" s_empty_map []
  S_place_of : Src K mg "place_of" s_place_of ["pairs", "key"]
  S_place_behind : Src K mg "place_behind" s_place_behind ["pairs", "key"]
  S_stands_at : Src K mg "stands_at" s_stands_at ["pairs", "place", "key"]
  S_value_at : Src K mg "value_at" s_value_at ["pairs", "key"]
  S_map_with : Src K mg "map_with" s_map_with ["pairs", "key", "value"]
  S_first_place : Src K mg "first_place" s_first_place ["pairs", "key", "itself", "way"]
  S_part_between : Src K mg "part_between" s_part_between ["pairs", "low", "high"]
  I_Reader_init : ISrc K CR "Reader.__init__" s_Reader_init ["self", "row"]
  M_Reader_ended : MSrc K CR "ended" "Reader.ended" s_Reader_ended ["self"]
  M_Reader_take : MSrc K CR "take" "Reader.take" s_Reader_take ["self", "length"]
  M_Reader_take_one : MSrc K CR "take_one" "Reader.take_one" s_Reader_take_one ["self"]
  M_Reader_take_counted : MSrc K CR "take_counted" "Reader.take_counted" s_Reader_take_counted ["self"]
  S_is_number : Src K mg "is_number" s_is_number ["number"]
  S_low_first : Src K mg "low_first" s_low_first ["number", "length"]
  S_whole_number : Src K mg "whole_number" s_whole_number ["row"]
  S_count_told : Src K mg "count_told" s_count_told ["row"]
  S_count_raised : Src K mg "count_raised" s_count_raised ["value", "number"]
  S_is_key : Src K mg "is_key" s_is_key ["row"]
  S_is_start : Src K mg "is_start" s_is_start ["row"]
  S_is_value : Src K mg "is_value" s_is_value ["row"]
  S_value_after : Src K mg "value_after" s_value_after ["change", "value"]
  S_change_of_both : Src K mg "change_of_both" s_change_of_both ["earlier", "later"]
  S_change_bytes : Src K mg "change_bytes" s_change_bytes ["change"]
  S_read_record : Src K mg "read_record" s_read_record ["row"]
  S_read_change : Src K mg "read_change" s_read_change ["reader"]
  S_read_key : Src K mg "read_key" s_read_key ["reader"]
  S_read_value : Src K mg "read_value" s_read_value ["reader"]
  S_reply : Src K mg "reply" s_reply ["number"]
  S_value_reply : Src K mg "value_reply" s_value_reply ["value"]
  S_key_reply : Src K mg "key_reply" s_key_reply ["key", "value"]
  S_record_reply : Src K mg "record_reply" s_record_reply ["how_many", "record"]
  S_state_after : Src K mg "state_after" s_state_after ["state", "changes"]
  I_Draft_init : ISrc K C.D "Draft.__init__" s_Draft_init ["self", "changes", "record", "effects"]
  S_empty_draft : Src K mg "empty_draft" s_empty_draft []
  S_draft_with : Src K mg "draft_with" s_draft_with ["draft", "change"]
  S_effect_with : Src K mg "effect_with" s_effect_with ["draft", "change"]
  S_is_settled : Src K mg "is_settled" s_is_settled ["draft", "key"]
  S_is_removed : Src K mg "is_removed" s_is_removed ["draft", "key"]
  S_value_by : Src K mg "value_by" s_value_by ["draft", "key", "value"]
  S_nearest_left : Src K mg "nearest_left" s_nearest_left ["draft", "pairs", "key", "itself", "way"]
  I_Looks_init : ISrc K C.L "Looks.__init__" s_Looks_init ["self"]
  M_Looks_has_room : MSrc K C.L "has_room" "Looks.has_room" s_Looks_has_room ["self", "more"]
  M_Looks_look_at_key : MSrc K C.L "look_at_key" "Looks.look_at_key" s_Looks_look_at_key ["self", "key"]
  M_Looks_look_at_stretch : MSrc K C.L "look_at_stretch" "Looks.look_at_stretch" s_Looks_look_at_stretch ["self", "low", "high"]
  M_Looks_differ : MSrc K C.L "differ" "Looks.differ" s_Looks_differ ["self", "one", "other"]
  S_stretch_differs : Src K mg "stretch_differs" s_stretch_differs ["one", "other", "stretch"]
  I_Transaction_init : ISrc K C.T "Transaction.__init__" s_Transaction_init ["self", "state"]
  M_Transaction_get : MSrc K C.T "get" "Transaction.get" s_Transaction_get ["self", "key"]
  M_Transaction_value_seen : MSrc K C.T "value_seen" "Transaction.value_seen" s_Transaction_value_seen ["self", "key"]
  M_Transaction_put : MSrc K C.T "put" "Transaction.put" s_Transaction_put ["self", "key", "value"]
  M_Transaction_remove : MSrc K C.T "remove" "Transaction.remove" s_Transaction_remove ["self", "key"]
  M_Transaction_add : MSrc K C.T "add" "Transaction.add" s_Transaction_add ["self", "key", "number"]
  M_Transaction_change_more : MSrc K C.T "change_more" "Transaction.change_more" s_Transaction_change_more ["self", "change"]
  M_Transaction_nearest : MSrc K C.T "nearest" "Transaction.nearest" s_Transaction_nearest ["self", "key", "itself", "way"]
  M_Transaction_look_from : MSrc K C.T "look_from" "Transaction.look_from" s_Transaction_look_from ["self", "key", "itself", "way"]
  M_Transaction_count : MSrc K C.T "count" "Transaction.count" s_Transaction_count ["self", "one", "another", "most"]
  M_Transaction_how_many : MSrc K C.T "how_many" "Transaction.how_many" s_Transaction_how_many ["self", "one", "another", "most"]
  M_Transaction_save : MSrc K C.T "save" "Transaction.save" s_Transaction_save ["self"]
  M_Transaction_back : MSrc K C.T "back" "Transaction.back" s_Transaction_back ["self", "number"]
  M_Transaction_list_changes : MSrc K C.T "list_changes" "Transaction.list_changes" s_Transaction_list_changes ["self"]
  M_Transaction_clashes_with : MSrc K C.T "clashes_with" "Transaction.clashes_with" s_Transaction_clashes_with ["self", "state"]
  S_nearer : Src K mg "nearer" s_nearer ["one", "other", "way"]
  I_Desk_init : ISrc K C.S "Desk.__init__" s_Desk_init ["self"]
  S_is_slot : Src K mg "is_slot" s_is_slot ["number"]
  S_refusal : Src K mg "refusal" s_refusal ["number", "filled"]
  S_begin : Src K mg "begin" s_begin ["desk", "given"]
  S_older : Src K mg "older" s_older ["desk", "given"]
  S_commit : Src K mg "commit" s_commit ["desk", "given"]
  S_drop : Src K mg "drop" s_drop ["desk", "given"]
  S_keep : Src K mg "keep" s_keep ["desk", "given"]
  S_forget : Src K mg "forget" s_forget ["desk", "given"]
  S_empty_slot : Src K mg "empty_slot" s_empty_slot ["number", "filled"]
  S_replay : Src K mg "replay" s_replay ["desk", "given"]
  S_get : Src K mg "get" s_get ["transaction", "given"]
  S_put : Src K mg "put" s_put ["transaction", "given"]
  S_remove : Src K mg "remove" s_remove ["transaction", "given"]
  S_add : Src K mg "add" s_add ["transaction", "given"]
  S_next_key : Src K mg "next_key" s_next_key ["transaction", "given"]
  S_key_before : Src K mg "key_before" s_key_before ["transaction", "given"]
  S_count : Src K mg "count" s_count ["transaction", "given"]
  S_save : Src K mg "save" s_save ["transaction", "given"]
  S_back : Src K mg "back" s_back ["transaction", "given"]
  S_list_changes : Src K mg "list_changes" s_list_changes ["transaction", "given"]
  S_read_given : Src K mg "read_given" s_read_given ["reader", "call"]
  S_do_call : Src K mg "do_call" s_do_call ["desk", "call", "given"]
  S_answers : Src K mg "answers" s_answers ["calls"]
  T_Reader : RTxt K mg CR
  T_Draft : DTxt K mg C.D
  T_Looks : LTxt K mg C.L
  T_Transaction : TTxt K mg C.T
  T_Desk : KTxt K mg C.S
  T_err : ErrTxt K mg CW "WrongForm"
  c_WRONG : GI mg "WRONG" (-1)
  c_ABSENT : GI mg "ABSENT" (-2)
  c_FULL : GI mg "FULL" (-5)
  c_DONE : GI mg "DONE" 0
  c_CLASH : GI mg "CLASH" (-7)
  c_PUT : GI mg "PUT" 1
  c_REMOVE : GI mg "REMOVE" 2
  c_ADD : GI mg "ADD" 3
  c_LONGEST_KEY : GI mg "LONGEST_KEY" 64
  c_LONGEST_VALUE : GI mg "LONGEST_VALUE" 300
  c_COUNT_LENGTH : GI mg "COUNT_LENGTH" 8
  c_COUNTS_END : GI mg "COUNTS_END" 9223372036854775808
  c_COUNTS_IN_ALL : GI mg "COUNTS_IN_ALL" 18446744073709551616
  c_LENGTH_BYTES : GI mg "LENGTH_BYTES" 2
  c_UP : GI mg "UP" 1
  c_DOWN : GI mg "DOWN" (-1)
  c_MOST_LOOKS : GI mg "MOST_LOOKS" 1000
  c_MOST_COMPARED : GI mg "MOST_COMPARED" 99999
  c_LONGEST_RECORD : GI mg "LONGEST_RECORD" 4000
  c_MOST_SAVEPOINTS : GI mg "MOST_SAVEPOINTS" 8
  c_MOST_COUNTED : GI mg "MOST_COUNTED" 1000
  c_SLOTS : GI mg "SLOTS" 8
  n_len : mg "len" = none
  n_range : mg "range" = none
  n_tuple : mg "tuple" = none
  n_reversed : mg "reversed" = none
  n_list : mg "list" = none
  n_any : mg "any" = none
  n_min : mg "min" = none
  n_max : mg "max" = none
  g_F : mg "FORMS" = some (.ref dF)
  g_D : mg "DESK_CALLS" = some (.ref dD)
  g_S : mg "STEPS" = some (.ref dS)
  g_N : mg "NO_BYTES" = some (.ref nB)
  k_F : KInt K dF esF
  k_D : KInt K dD esD
  k_S : KInt K dS esS
  t_F : TabF K esF
  t_N : ∀ H', SqT K H' nB (vN [])
  u_D : ∀ s, findBy Value.isInt esD (numS s) = none
  e1 : TabE mg esD 1 "begin"
  e2 : TabE mg esD 2 "older"
  e3 : TabE mg esD 3 "commit"
  e4 : TabE mg esD 4 "drop"
  e5 : TabE mg esD 5 "keep"
  e6 : TabE mg esD 6 "forget"
  e7 : TabE mg esD 7 "replay"
  e10 : TabE mg esS 10 "get"
  e11 : TabE mg esS 11 "put"
  e12 : TabE mg esS 12 "remove"
  e13 : TabE mg esS 13 "add"
  e14 : TabE mg esS 14 "next_key"
  e15 : TabE mg esS 15 "key_before"
  e16 : TabE mg esS 16 "count"
  e17 : TabE mg esS 17 "save"
  e18 : TabE mg esS 18 "back"
  e19 : TabE mg esS 19 "list_changes"
theorem all_ok {P : Program} {w : World} {K : PySem.W.Frag} {mg : Str → Option Value} {base : Heap} {C : Cs} {CR CW dF dD dS nB : Addr} {esF esD esS : Array DictEntry} (T : Txt K mg C CR CW dF dD dS nB esF esD esS) {f : Addr} {fd : FuncData} (F : Fun K "answers" "answers" s_answers f fd) : FnOk P w K mg base CX0 12 f fd ["calls"] (spAns K) := by
  have low := d_low (P := P) (w := w) (base := base) T.S_low_first T.n_range T.n_tuple
  have whole := d_whole (P := P) (w := w) (base := base) T.S_whole_number T.n_reversed
  have told := d_told T.S_count_told whole T.c_COUNTS_END T.c_COUNTS_IN_ALL
  have raised := d_raised T.S_count_raised low told T.n_len T.c_COUNT_LENGTH
  have isKey := d_isKey (P := P) (w := w) (base := base) T.S_is_key T.n_len T.c_LONGEST_KEY
  have isStart := d_isStart (P := P) (w := w) (base := base) T.S_is_start T.n_len T.c_LONGEST_KEY
  have isValue := d_isValue (P := P) (w := w) (base := base) T.S_is_value T.n_len T.c_LONGEST_VALUE
  have isNumber := d_isNumber (P := P) (w := w) (base := base) T.S_is_number T.c_COUNTS_END
  have after := d_after T.S_value_after raised T.c_PUT T.c_REMOVE
  have bth := d_both T.S_change_of_both after T.c_PUT T.c_ADD
  have reply := d_reply (P := P) (w := w) (base := base) T.S_reply
  have replyH := h_reply (P := P) (w := w) (base := base) T.S_reply
  have valueReply := d_valueReply T.S_value_reply reply T.c_ABSENT T.n_len T.n_list
  have keyReply := d_keyReply (P := P) (w := w) (base := base) T.S_key_reply T.n_len T.n_list
  have recReply := d_recReply T.S_record_reply reply T.n_list
  have empty := d_empty (P := P) (w := w) (base := base) T.S_empty_map
  have placeB := d_place (P := P) (w := w) (base := base) (R := Tb) T.S_place_of T.n_len
  have placeC := d_place (P := P) (w := w) (base := base) (R := Ch) T.S_place_of T.n_len
  have standsB_ := d_stands (P := P) (w := w) (base := base) (R := Tb) T.S_stands_at T.n_len
  have standsC := d_stands (P := P) (w := w) (base := base) (R := Ch) T.S_stands_at T.n_len
  have atB := d_valueAt T.S_value_at placeB standsB_
  have atC := d_valueAt T.S_value_at placeC standsC
  have behB := d_behind T.S_place_behind placeB standsB_
  have behC := d_behind T.S_place_behind placeC standsC
  have withB := d_with sb_tb T.S_map_with placeB behB
  have withC := d_with sb_ch T.S_map_with placeC behC
  have firstB := d_first T.S_first_place T.c_UP placeB behB
  have firstC := d_first T.S_first_place T.c_UP placeC behC
  have part := d_part sb_tb T.S_part_between placeB behB
  have stL := d_stAfterL T.S_state_after withB after atB
  have stT := d_stAfterT T.S_state_after withB after atB
  have rInit := d_rInit (P := P) (w := w) (base := base) T.T_Reader T.I_Reader_init
  have rEnded := d_rEnded (P := P) (w := w) (base := base) T.T_Reader T.M_Reader_ended T.n_len
  have rTake := d_rTake (P := P) (w := w) (base := base) T.T_Reader T.T_err T.M_Reader_take T.n_len T.n_tuple
  have rOne := d_rOne T.T_Reader rTake T.M_Reader_take_one
  have rCounted := d_rCounted T.T_Reader rTake rOne T.M_Reader_take_counted
  have bytes := d_bytes T.S_change_bytes low T.n_len T.c_PUT T.c_ADD T.c_LENGTH_BYTES T.c_COUNT_LENGTH
  have readKey := d_readKey T.T_Reader T.T_err rCounted isKey T.S_read_key
  have readValue := d_readValue T.T_Reader T.T_err rTake isValue whole T.c_LENGTH_BYTES T.S_read_value
  have readChange := d_readChange T.T_Reader T.T_err rTake rOne readKey readValue told T.c_PUT T.c_REMOVE T.c_ADD T.c_COUNT_LENGTH T.S_read_change
  have readRecord := d_readRecord T.T_Reader rInit rEnded readChange T.S_read_record
  have dInit := d_dInit (P := P) (w := w) (base := base) T.T_Draft T.I_Draft_init
  have emptyDraft := d_emptyDraft T.T_Draft dInit empty T.S_empty_draft
  have effW := d_effWith T.T_Draft T.S_effect_with atC bth
  have settled := d_settled T.T_Draft T.S_is_settled atC T.c_ADD
  have removed := d_removed T.T_Draft T.S_is_removed atC T.c_REMOVE
  have by_ := d_by T.T_Draft T.S_value_by atC after
  have draftWith := d_draftWith T.T_Draft dInit T.S_draft_with bytes withC effW
  have leftB := d_left T.S_nearest_left T.n_len firstB removed
  have leftC := d_left T.S_nearest_left T.n_len firstC removed
  have nearer := d_nearer (P := P) (w := w) (base := base) T.S_nearer T.c_UP T.n_min T.n_max
  have lInit := d_lInit (P := P) (w := w) (base := base) T.T_Looks T.I_Looks_init
  have room := d_room (P := P) (w := w) (base := base) T.T_Looks T.M_Looks_has_room T.n_len T.c_MOST_LOOKS
  have lookKey := d_lookKey (P := P) (w := w) (base := base) T.T_Looks T.M_Looks_look_at_key
  have lookStr := d_lookStr (P := P) (w := w) (base := base) T.T_Looks T.M_Looks_look_at_stretch
  have sdiff := d_sdiff T.S_stretch_differs T.n_len T.c_MOST_COMPARED part
  have differ := d_differ T.T_Looks T.M_Looks_differ T.n_any atB sdiff
  have tInit := d_tInit T.T_Transaction T.T_Looks T.I_Transaction_init emptyDraft lInit
  have seen := d_seen (C := C) T.T_Transaction T.M_Transaction_value_seen by_ atB
  have get := d_get T.T_Transaction T.T_Looks T.M_Transaction_get T.c_WRONG T.c_FULL isKey reply settled room lookKey seen valueReply
  have more := d_more T.T_Transaction T.T_Draft T.M_Transaction_change_more T.n_len T.c_LONGEST_RECORD T.c_FULL T.c_DONE draftWith reply
  have put := d_put T.T_Transaction T.M_Transaction_put T.c_WRONG T.c_PUT isKey isValue reply more
  have rem := d_rem T.T_Transaction T.M_Transaction_remove T.c_WRONG T.c_REMOVE isKey reply more
  have add := d_addT T.T_Transaction T.M_Transaction_add T.c_WRONG T.c_ADD isKey isNumber reply more
  have save := d_save (C := C) T.T_Transaction T.M_Transaction_save T.n_len T.c_MOST_SAVEPOINTS T.c_FULL reply
  have lst := d_list (C := C) T.T_Transaction T.T_Draft T.M_Transaction_list_changes T.n_len recReply
  have clash := d_clash T.T_Transaction T.T_Looks T.M_Transaction_clashes_with differ
  have back := d_back (C := C) T.T_Transaction T.M_Transaction_back T.n_len T.c_ABSENT T.c_DONE reply
  have lookFrom := d_lookFrom T.T_Transaction T.T_Draft T.T_Looks T.M_Transaction_look_from T.c_UP T.g_N T.t_N leftB leftC nearer lookStr
  have near_ := d_near T.T_Transaction T.T_Looks T.M_Transaction_nearest T.c_WRONG T.c_FULL T.c_ABSENT isStart reply room lookFrom seen keyReply
  have many := d_many T.T_Transaction T.M_Transaction_how_many T.c_UP lookFrom
  have count := d_count T.T_Transaction T.T_Looks T.M_Transaction_count T.c_WRONG T.c_FULL T.c_MOST_COUNTED isStart isKey reply room many
  have slot := d_slot (P := P) (w := w) (base := base) T.S_is_slot T.c_SLOTS
  have refusal := d_refusal T.S_refusal T.c_WRONG T.c_ABSENT T.c_DONE slot
  have emptySlot := d_emptySlot T.S_empty_slot T.c_DONE refusal reply
  have kInit := d_kInit T.T_Desk T.I_Desk_init empty
  have begin_ := d_begin T.T_Desk T.T_Transaction T.S_begin T.c_WRONG T.c_DONE slot reply tInit
  have older := d_older T.T_Desk T.T_Transaction T.S_older T.c_WRONG T.c_DONE slot reply refusal tInit
  have drop_ := d_drop (C := C) T.T_Desk T.S_drop emptySlot
  have forget := d_forget (C := C) T.T_Desk T.S_forget emptySlot
  have keep := d_keep (C := C) T.T_Desk T.S_keep T.c_WRONG T.c_DONE slot reply
  have commit := d_commit T.T_Desk T.T_Transaction T.T_Draft T.S_commit T.n_len T.c_DONE T.c_CLASH refusal reply clash stT
  have replay := d_replay (C := C) (CR := CR) T.T_Desk T.T_err T.S_replay T.n_len T.c_WRONG readRecord reply replyH stL
  have tD : DTab P w K mg base C esD := fun x hx => by
    cases x with
    | begin_ i => obtain ⟨f, h1, h2⟩ := T.e1.held begin_; exact ⟨f, _, _, h1, by decide, h2, fun _ _ h => h⟩
    | older i j => obtain ⟨f, h1, h2⟩ := T.e2.held older; exact ⟨f, _, _, h1, by decide, h2, fun _ _ h => h⟩
    | commit i => obtain ⟨f, h1, h2⟩ := T.e3.held commit; exact ⟨f, _, _, h1, by decide, h2, fun _ _ h => h⟩
    | drop i => obtain ⟨f, h1, h2⟩ := T.e4.held drop_; exact ⟨f, _, _, h1, by decide, h2, fun _ _ h => h⟩
    | keep i => obtain ⟨f, h1, h2⟩ := T.e5.held keep; exact ⟨f, _, _, h1, by decide, h2, fun _ _ h => h⟩
    | forget i => obtain ⟨f, h1, h2⟩ := T.e6.held forget; exact ⟨f, _, _, h1, by decide, h2, fun _ _ h => h⟩
    | replay b => obtain ⟨f, h1, h2⟩ := T.e7.held replay; exact ⟨f, _, _, h1, by decide, h2, fun _ _ h => h⟩
    | step i s => cases hx
  have tS : STab P w K mg base C esS := fun s => by
    cases s with
    | get k => obtain ⟨f, h1, h2⟩ := T.e10.held (e_get T.T_Transaction T.S_get get); exact ⟨f, _, _, h1, by decide, h2, fun _ _ h => h⟩
    | put k v => obtain ⟨f, h1, h2⟩ := T.e11.held (e_put T.T_Transaction T.S_put put); exact ⟨f, _, _, h1, by decide, h2, fun _ _ h => h⟩
    | remove k => obtain ⟨f, h1, h2⟩ := T.e12.held (e_remove T.T_Transaction T.S_remove rem); exact ⟨f, _, _, h1, by decide, h2, fun _ _ h => h⟩
    | add k n => obtain ⟨f, h1, h2⟩ := T.e13.held (e_add T.T_Transaction T.S_add add); exact ⟨f, _, _, h1, by decide, h2, fun _ _ h => h⟩
    | next k w => obtain ⟨f, h1, h2⟩ := T.e14.held (e_next_key T.T_Transaction T.S_next_key T.c_UP near_); exact ⟨f, _, _, h1, by decide, h2, fun _ _ h => h⟩
    | before k w => obtain ⟨f, h1, h2⟩ := T.e15.held (e_key_before T.T_Transaction T.S_key_before T.c_DOWN near_); exact ⟨f, _, _, h1, by decide, h2, fun _ _ h => h⟩
    | count lo hi n => obtain ⟨f, h1, h2⟩ := T.e16.held (e_count T.T_Transaction T.S_count count); exact ⟨f, _, _, h1, by decide, h2, fun _ _ h => h⟩
    | save => obtain ⟨f, h1, h2⟩ := T.e17.held (e_save T.T_Transaction T.S_save save); exact ⟨f, _, _, h1, by decide, h2, fun _ _ h => h⟩
    | back n => obtain ⟨f, h1, h2⟩ := T.e18.held (e_back T.T_Transaction T.S_back back); exact ⟨f, _, _, h1, by decide, h2, fun _ _ h => h⟩
    | list => obtain ⟨f, h1, h2⟩ := T.e19.held (e_list_changes T.T_Transaction T.S_list_changes lst); exact ⟨f, _, _, h1, by decide, h2, fun _ _ h => h⟩
  have do_ := d_do T.T_Desk T.S_do_call T.c_DONE T.g_D T.k_D T.g_S T.k_S tD T.u_D tS refusal reply
  have given := d_given T.T_Reader T.S_read_given T.g_F T.k_F T.t_F T.n_range T.n_list rTake rCounted
  exact d_answers T.T_Desk T.T_Reader F T.n_len kInit rInit rEnded rOne given do_
end Ks
namespace Ks
open PySem PySem.Spec PyProof.Rows L2
/-! ### what the top has written, as it is found -/
def FnH (K : PySem.W.Frag) (f : Addr) (x qual : Str) (st : Stmt) : Prop := ∃ (oc : Value) (od : Option Addr) (kV dc pm : Value) (an : Option Addr) (cd ct : Value) (sl : Array (Option Value)),
  K.lookup f = some ⟨oc, od, .func (PySem.W.fnOf x qual (defArgs st) (defBody st) (defScope st) .none kV dc pm an cd ct), sl⟩ ∧ PySem.W.codeIn K cd qual = true ∧ PySem.W.keepIn K (.ref f) = true
def SrcH (K : PySem.W.Frag) (x : Str) (st : Stmt) : Prop := ∃ f, PySem.W.nsIn K mainGlobals x = some (some (.ref f)) ∧ FnH K f x x st
def MSrcH (K : PySem.W.Frag) (C : Addr) (m qual : Str) (st : Stmt) : Prop := ∃ f, PySem.W.findIn K (.ref C) m = some (some (.ref f)) ∧ PySem.W.isFn K (.ref f) = true ∧ FnH K f m qual st
/-- how arguments meet parameters -/
def BindH (x qual : Str) (st : Stmt) (ps : List Str) : Prop := ∀ (kV doc pm : Value) (an : Option Addr) (cdv ct : Value) (us : List Value), us.length = ps.length → bindArgs (PySem.W.fnOf x qual (defArgs st) (defBody st) (defScope st) .none kV doc pm an cdv ct) ⟨us, []⟩ = pure (ps.zip us)
section
variable {K : PySem.W.Frag} {h : Heap} {mg : Str → Option Value}
theorem FnH.fn {f : Addr} {x qual : Str} {st : Stmt} {ps : List Str} (F : FnH K f x qual st) (b : BindH x qual st ps) : ∃ fd, Fun K x qual st f fd ∧ Binds K fd ps [] := by
  obtain ⟨oc, od, kV, dc, pm, an, cd, ct, sl, l, c, k⟩ := F
  have G := fun_mk (st := st) l c k
  exact ⟨_, G, G.binds b⟩
theorem SrcH.src (X : K.In h) (G : h.Ns mainGlobals mg) {x : Str} {st : Stmt} {ps : List Str} (S : SrcH K x st) (b : BindH x x st ps) : Src K mg x st ps := by
  obtain ⟨f, a, F⟩ := S
  obtain ⟨fd, F1, F2⟩ := F.fn b
  exact ⟨f, fd, PySem.W.mg_of X G a, F1, F2⟩
theorem MSrcH.src {C : Addr} {m qual : Str} {st : Stmt} {ps : List Str} (S : MSrcH K C m qual st) (b : BindH m qual st ps) : MSrc K C m qual st ps := by
  obtain ⟨f, a, i, F⟩ := S
  obtain ⟨fd, F1, F2⟩ := F.fn b
  exact ⟨f, fd, ⟨a, i, F1.kp⟩, F1, F2⟩
theorem MSrcH.isrc {C : Addr} {qual : Str} {st : Stmt} {ps : List Str} (S : MSrcH K C "__init__" qual st) (mk : PySem.W.makesIn K C = true) (kc : PySem.W.keepIn K (.ref C) = true) (b : BindH "__init__" qual st ps) : ISrc K C qual st ps := by
  obtain ⟨f, a, i, F⟩ := S
  obtain ⟨fd, F1, F2⟩ := F.fn b
  exact ⟨f, fd, ⟨mk, a, i, kc⟩, F1, F2⟩
theorem gi_of (X : K.In h) (G : h.Ns mainGlobals mg) {x : Str} {n : Int} (S : ∃ t, PySem.W.nsIn K mainGlobals x = some (some (.int n t))) : GI mg x n := by
  obtain ⟨t, a⟩ := S
  exact ⟨t, PySem.W.mg_of X G a⟩
theorem tab_of (X : K.In h) (G : h.Ns mainGlobals mg) {x : Str} {es : Array DictEntry} {k : Int} (S : ∃ f, findBy Value.isInt es k = some (.ref f) ∧ PySem.W.nsIn K mainGlobals x = some (some (.ref f))) : TabE mg es k x := by
  obtain ⟨f, a, b⟩ := S
  exact ⟨f, a, PySem.W.mg_of X G b⟩
end
/-- a tuple of two numbers of the top, in a table -/
def FormH (K : PySem.W.Frag) (es : Array DictEntry) (k : Int) (a b : Nat) : Prop := ∃ (t : Addr) (od : Option Addr) (x y n : Nat) (sl : Array (Option Value)), findBy Value.isInt es k = some (.ref t) ∧ K.lookup t = some ⟨.type "tuple", od, .seq #[.int (a : Int) x, .int (b : Int) y] n, sl⟩
theorem FormH.tab {K : PySem.W.Frag} {es : Array DictEntry} {k : Int} {a b : Nat} (F : FormH K es k a b) : ∃ t, findBy Value.isInt es k = some (.ref t) ∧ ∀ H, SqT K H t [.int (a : Int), .int (b : Int)] := by
  obtain ⟨t, od, x, y, n, sl, h1, h2⟩ := F
  exact ⟨t, h1, fun H => .inr ⟨_, _, n, h2, rfl, rfl, by show 2 ≤ sizeLine; decide, .cons ⟨_, rfl⟩ (.cons ⟨_, rfl⟩ .nil)⟩⟩
/-- the keys of a table are whole numbers -/
def litE (e : DictEntry) : Bool := match e.key with
  | .int k _ => e.hash == hashInt k
  | _ => false
def litB (es : Array DictEntry) : Bool := es.toList.all litE
theorem lit_of {es : Array DictEntry} (h : litB es = true) : ∀ e ∈ es.toList, ∃ k t, e.key = .int k t ∧ e.hash = hashInt k := fun e he => by
  have := List.all_eq_true.mp h e he
  unfold litE at this
  cases q : e.key with
  | int k t => rw [q] at this; exact ⟨k, t, rfl, eq_of_beq this⟩
  | _ => rw [q] at this; cases this
/-- the own error -/
theorem exm_own {K : PySem.W.Frag} {S : Addr} (h1 : PySem.W.subIn K (.ref S) (.type "BaseException") = some true) (h2 : PySem.W.isClsIn K S = true) (h3 : PySem.W.typeIn K (.ref S) = some (.type "type")) (h4 : PySem.W.subIn K (.ref S) (.ref S) = some true) :
    PySem.W.exmOne K (.ref S) (.ref S) = some true := by
  have e1 : (PySem.W.subIn K (.ref S) (.type "BaseException") == some true) = true := by
    rw [h1]; rfl
  have e2 : ((PySem.W.clsIn K S).isSome && PySem.W.typeIn K (.ref S) == some (.type "type")) = true := by
    rw [show (PySem.W.clsIn K S).isSome = true from h2, h3]; rfl
  show (if (PySem.W.subIn K (.ref S) (.type "BaseException") == some true) = true then
    (if ((PySem.W.clsIn K S).isSome && PySem.W.typeIn K (.ref S) == some (.type "type")) = true then
      PySem.W.subIn K (.ref S) (.ref S) else none) else none) = some true
  rw [if_pos e1, if_pos e2, h4]
theorem srcH {K : PySem.W.Frag} {x : Str} {st : Stmt} {f : Addr} {oc kV dc pm cd ct : Value} {od an : Option Addr} {sl : Array (Option Value)} (a : PySem.W.nsIn K mainGlobals x = some (some (.ref f)))
    (l : K.lookup f = some ⟨oc, od, .func (PySem.W.fnOf x x (defArgs st) (defBody st) (defScope st) .none kV dc pm an cd ct), sl⟩) (c : PySem.W.codeIn K cd x = true) (k : PySem.W.keepIn K (.ref f) = true) : SrcH K x st := ⟨f, a, oc, od, kV, dc, pm, an, cd, ct, sl, l, c, k⟩
theorem msrcH {K : PySem.W.Frag} {C : Addr} {m qual : Str} {st : Stmt} {f : Addr} {oc kV dc pm cd ct : Value} {od an : Option Addr} {sl : Array (Option Value)} (a : PySem.W.findIn K (.ref C) m = some (some (.ref f))) (i : PySem.W.isFn K (.ref f) = true)
    (l : K.lookup f = some ⟨oc, od, .func (PySem.W.fnOf m qual (defArgs st) (defBody st) (defScope st) .none kV dc pm an cd ct), sl⟩) (c : PySem.W.codeIn K cd qual = true) (k : PySem.W.keepIn K (.ref f) = true) : MSrcH K C m qual st := ⟨f, a, i, oc, od, kV, dc, pm, an, cd, ct, sl, l, c, k⟩
theorem intH {K : PySem.W.Frag} {x : Str} {n : Int} {t : Nat} (a : PySem.W.nsIn K mainGlobals x = some (some (.int n t))) : ∃ t, PySem.W.nsIn K mainGlobals x = some (some (.int n t)) := ⟨t, a⟩
theorem formH {K : PySem.W.Frag} {es : Array DictEntry} {k : Int} {a b : Nat} {t : Addr} {od : Option Addr} {x y n : Nat} {sl : Array (Option Value)} (h1 : findBy Value.isInt es k = some (.ref t)) (h2 : K.lookup t = some ⟨.type "tuple", od, .seq #[.int (a : Int) x, .int (b : Int) y] n, sl⟩) : FormH K es k a b := ⟨t, od, x, y, n, sl, h1, h2⟩
theorem nilH {K : PySem.W.Frag} {nB : Addr} {od : Option Addr} {n : Nat} {sl : Array (Option Value)} (a : K.lookup nB = some ⟨.type "tuple", od, .seq #[] n, sl⟩) : ∃ (od : Option Addr) (n : Nat) (sl : Array (Option Value)), K.lookup nB = some ⟨.type "tuple", od, .seq #[] n, sl⟩ := ⟨od, n, sl, a⟩
theorem tabH {K : PySem.W.Frag} {es : Array DictEntry} {k : Int} {x : Str} {f : Addr} (h1 : PySem.W.nsIn K mainGlobals x = some (some (.ref f))) (h2 : findBy Value.isInt es k = some (.ref f)) : ∃ f, findBy Value.isInt es k = some (.ref f) ∧ PySem.W.nsIn K mainGlobals x = some (some (.ref f)) := ⟨f, h2, h1⟩
structure Head (K : PySem.W.Frag) (C : Cs) (CR CW nB : Addr) (esF esD esS : Array DictEntry) : Prop where
  S_empty_map : SrcH K "empty_map" s_empty_map
  S_place_of : SrcH K "place_of" s_place_of
  S_place_behind : SrcH K "place_behind" s_place_behind
  S_stands_at : SrcH K "stands_at" s_stands_at
  S_value_at : SrcH K "value_at" s_value_at
  S_map_with : SrcH K "map_with" s_map_with
  S_first_place : SrcH K "first_place" s_first_place
  S_part_between : SrcH K "part_between" s_part_between
  I_Reader_init : MSrcH K CR "__init__" "Reader.__init__" s_Reader_init
  M_Reader_ended : MSrcH K CR "ended" "Reader.ended" s_Reader_ended
  M_Reader_take : MSrcH K CR "take" "Reader.take" s_Reader_take
  M_Reader_take_one : MSrcH K CR "take_one" "Reader.take_one" s_Reader_take_one
  M_Reader_take_counted : MSrcH K CR "take_counted" "Reader.take_counted" s_Reader_take_counted
  S_is_number : SrcH K "is_number" s_is_number
  S_low_first : SrcH K "low_first" s_low_first
  S_whole_number : SrcH K "whole_number" s_whole_number
  S_count_told : SrcH K "count_told" s_count_told
  S_count_raised : SrcH K "count_raised" s_count_raised
  S_is_key : SrcH K "is_key" s_is_key
  S_is_start : SrcH K "is_start" s_is_start
  S_is_value : SrcH K "is_value" s_is_value
  S_value_after : SrcH K "value_after" s_value_after
  S_change_of_both : SrcH K "change_of_both" s_change_of_both
  S_change_bytes : SrcH K "change_bytes" s_change_bytes
  S_read_record : SrcH K "read_record" s_read_record
  S_read_change : SrcH K "read_change" s_read_change
  S_read_key : SrcH K "read_key" s_read_key
  S_read_value : SrcH K "read_value" s_read_value
  S_reply : SrcH K "reply" s_reply
  S_value_reply : SrcH K "value_reply" s_value_reply
  S_key_reply : SrcH K "key_reply" s_key_reply
  S_record_reply : SrcH K "record_reply" s_record_reply
  S_state_after : SrcH K "state_after" s_state_after
  I_Draft_init : MSrcH K C.D "__init__" "Draft.__init__" s_Draft_init
  S_empty_draft : SrcH K "empty_draft" s_empty_draft
  S_draft_with : SrcH K "draft_with" s_draft_with
  S_effect_with : SrcH K "effect_with" s_effect_with
  S_is_settled : SrcH K "is_settled" s_is_settled
  S_is_removed : SrcH K "is_removed" s_is_removed
  S_value_by : SrcH K "value_by" s_value_by
  S_nearest_left : SrcH K "nearest_left" s_nearest_left
  I_Looks_init : MSrcH K C.L "__init__" "Looks.__init__" s_Looks_init
  M_Looks_has_room : MSrcH K C.L "has_room" "Looks.has_room" s_Looks_has_room
  M_Looks_look_at_key : MSrcH K C.L "look_at_key" "Looks.look_at_key" s_Looks_look_at_key
  M_Looks_look_at_stretch : MSrcH K C.L "look_at_stretch" "Looks.look_at_stretch" s_Looks_look_at_stretch
  M_Looks_differ : MSrcH K C.L "differ" "Looks.differ" s_Looks_differ
  S_stretch_differs : SrcH K "stretch_differs" s_stretch_differs
  I_Transaction_init : MSrcH K C.T "__init__" "Transaction.__init__" s_Transaction_init
  M_Transaction_get : MSrcH K C.T "get" "Transaction.get" s_Transaction_get
  M_Transaction_value_seen : MSrcH K C.T "value_seen" "Transaction.value_seen" s_Transaction_value_seen
  M_Transaction_put : MSrcH K C.T "put" "Transaction.put" s_Transaction_put
  M_Transaction_remove : MSrcH K C.T "remove" "Transaction.remove" s_Transaction_remove
  M_Transaction_add : MSrcH K C.T "add" "Transaction.add" s_Transaction_add
  M_Transaction_change_more : MSrcH K C.T "change_more" "Transaction.change_more" s_Transaction_change_more
  M_Transaction_nearest : MSrcH K C.T "nearest" "Transaction.nearest" s_Transaction_nearest
  M_Transaction_look_from : MSrcH K C.T "look_from" "Transaction.look_from" s_Transaction_look_from
  M_Transaction_count : MSrcH K C.T "count" "Transaction.count" s_Transaction_count
  M_Transaction_how_many : MSrcH K C.T "how_many" "Transaction.how_many" s_Transaction_how_many
  M_Transaction_save : MSrcH K C.T "save" "Transaction.save" s_Transaction_save
  M_Transaction_back : MSrcH K C.T "back" "Transaction.back" s_Transaction_back
  M_Transaction_list_changes : MSrcH K C.T "list_changes" "Transaction.list_changes" s_Transaction_list_changes
  M_Transaction_clashes_with : MSrcH K C.T "clashes_with" "Transaction.clashes_with" s_Transaction_clashes_with
  S_nearer : SrcH K "nearer" s_nearer
  I_Desk_init : MSrcH K C.S "__init__" "Desk.__init__" s_Desk_init
  S_is_slot : SrcH K "is_slot" s_is_slot
  S_refusal : SrcH K "refusal" s_refusal
  S_begin : SrcH K "begin" s_begin
  S_older : SrcH K "older" s_older
  S_commit : SrcH K "commit" s_commit
  S_drop : SrcH K "drop" s_drop
  S_keep : SrcH K "keep" s_keep
  S_forget : SrcH K "forget" s_forget
  S_empty_slot : SrcH K "empty_slot" s_empty_slot
  S_replay : SrcH K "replay" s_replay
  S_get : SrcH K "get" s_get
  S_put : SrcH K "put" s_put
  S_remove : SrcH K "remove" s_remove
  S_add : SrcH K "add" s_add
  S_next_key : SrcH K "next_key" s_next_key
  S_key_before : SrcH K "key_before" s_key_before
  S_count : SrcH K "count" s_count
  S_save : SrcH K "save" s_save
  S_back : SrcH K "back" s_back
  S_list_changes : SrcH K "list_changes" s_list_changes
  S_read_given : SrcH K "read_given" s_read_given
  S_do_call : SrcH K "do_call" s_do_call
  S_answers : SrcH K "answers" s_answers
  p_Reader : PySem.W.plainGet K CR Str.empty = true
  q_Reader : PySem.W.hasDictIn K CR = true
  r_Reader : PySem.W.plainOver K CR = true
  s_Reader : PySem.W.findIn K (.ref CR) "__setattr__" = some (some (.builtin "object.__setattr__"))
  m_Reader : PySem.W.makesIn K CR = true
  k_Reader : PySem.W.keepIn K (.ref CR) = true
  a_Reader_row : PySem.W.findIn K (.ref CR) "row" = some none
  a_Reader_place : PySem.W.findIn K (.ref CR) "place" = some none
  p_Draft : PySem.W.plainGet K C.D Str.empty = true
  q_Draft : PySem.W.hasDictIn K C.D = true
  r_Draft : PySem.W.plainOver K C.D = true
  s_Draft : PySem.W.findIn K (.ref C.D) "__setattr__" = some (some (.builtin "object.__setattr__"))
  m_Draft : PySem.W.makesIn K C.D = true
  k_Draft : PySem.W.keepIn K (.ref C.D) = true
  a_Draft_changes : PySem.W.findIn K (.ref C.D) "changes" = some none
  a_Draft_record : PySem.W.findIn K (.ref C.D) "record" = some none
  a_Draft_effects : PySem.W.findIn K (.ref C.D) "effects" = some none
  p_Looks : PySem.W.plainGet K C.L Str.empty = true
  q_Looks : PySem.W.hasDictIn K C.L = true
  r_Looks : PySem.W.plainOver K C.L = true
  s_Looks : PySem.W.findIn K (.ref C.L) "__setattr__" = some (some (.builtin "object.__setattr__"))
  m_Looks : PySem.W.makesIn K C.L = true
  k_Looks : PySem.W.keepIn K (.ref C.L) = true
  a_Looks_single_keys : PySem.W.findIn K (.ref C.L) "single_keys" = some none
  a_Looks_stretches : PySem.W.findIn K (.ref C.L) "stretches" = some none
  p_Transaction : PySem.W.plainGet K C.T Str.empty = true
  q_Transaction : PySem.W.hasDictIn K C.T = true
  r_Transaction : PySem.W.plainOver K C.T = true
  s_Transaction : PySem.W.findIn K (.ref C.T) "__setattr__" = some (some (.builtin "object.__setattr__"))
  m_Transaction : PySem.W.makesIn K C.T = true
  k_Transaction : PySem.W.keepIn K (.ref C.T) = true
  a_Transaction_beginning : PySem.W.findIn K (.ref C.T) "beginning" = some none
  a_Transaction_draft : PySem.W.findIn K (.ref C.T) "draft" = some none
  a_Transaction_savepoints : PySem.W.findIn K (.ref C.T) "savepoints" = some none
  a_Transaction_looks : PySem.W.findIn K (.ref C.T) "looks" = some none
  p_Desk : PySem.W.plainGet K C.S Str.empty = true
  q_Desk : PySem.W.hasDictIn K C.S = true
  r_Desk : PySem.W.plainOver K C.S = true
  s_Desk : PySem.W.findIn K (.ref C.S) "__setattr__" = some (some (.builtin "object.__setattr__"))
  m_Desk : PySem.W.makesIn K C.S = true
  k_Desk : PySem.W.keepIn K (.ref C.S) = true
  a_Desk_present : PySem.W.findIn K (.ref C.S) "present" = some none
  a_Desk_older_states : PySem.W.findIn K (.ref C.S) "older_states" = some none
  a_Desk_transactions : PySem.W.findIn K (.ref C.S) "transactions" = some none
  x_err : PySem.W.excIn K CW [.type "ValueError", .type "Exception", .type "BaseException", .type "object"] "ValueError.__new__" = true
  k_err : PySem.W.keepIn K (.ref CW) = true
  b_err : PySem.W.subIn K (.ref CW) (.type "BaseException") = some true
  t_err : PySem.W.typeIn K (.ref CW) = some (.type "type")
  i_err : PySem.W.isClsIn K CW = true
  s_err : PySem.W.subIn K (.ref CW) (.ref CW) = some true
  c_WRONG : ∃ t, PySem.W.nsIn K mainGlobals "WRONG" = some (some (.int (-1) t))
  c_ABSENT : ∃ t, PySem.W.nsIn K mainGlobals "ABSENT" = some (some (.int (-2) t))
  c_FULL : ∃ t, PySem.W.nsIn K mainGlobals "FULL" = some (some (.int (-5) t))
  c_DONE : ∃ t, PySem.W.nsIn K mainGlobals "DONE" = some (some (.int 0 t))
  c_CLASH : ∃ t, PySem.W.nsIn K mainGlobals "CLASH" = some (some (.int (-7) t))
  c_PUT : ∃ t, PySem.W.nsIn K mainGlobals "PUT" = some (some (.int 1 t))
  c_REMOVE : ∃ t, PySem.W.nsIn K mainGlobals "REMOVE" = some (some (.int 2 t))
  c_ADD : ∃ t, PySem.W.nsIn K mainGlobals "ADD" = some (some (.int 3 t))
  c_LONGEST_KEY : ∃ t, PySem.W.nsIn K mainGlobals "LONGEST_KEY" = some (some (.int 64 t))
  c_LONGEST_VALUE : ∃ t, PySem.W.nsIn K mainGlobals "LONGEST_VALUE" = some (some (.int 300 t))
  c_COUNT_LENGTH : ∃ t, PySem.W.nsIn K mainGlobals "COUNT_LENGTH" = some (some (.int 8 t))
  c_COUNTS_END : ∃ t, PySem.W.nsIn K mainGlobals "COUNTS_END" = some (some (.int 9223372036854775808 t))
  c_COUNTS_IN_ALL : ∃ t, PySem.W.nsIn K mainGlobals "COUNTS_IN_ALL" = some (some (.int 18446744073709551616 t))
  c_LENGTH_BYTES : ∃ t, PySem.W.nsIn K mainGlobals "LENGTH_BYTES" = some (some (.int 2 t))
  c_UP : ∃ t, PySem.W.nsIn K mainGlobals "UP" = some (some (.int 1 t))
  c_DOWN : ∃ t, PySem.W.nsIn K mainGlobals "DOWN" = some (some (.int (-1) t))
  c_MOST_LOOKS : ∃ t, PySem.W.nsIn K mainGlobals "MOST_LOOKS" = some (some (.int 1000 t))
  c_MOST_COMPARED : ∃ t, PySem.W.nsIn K mainGlobals "MOST_COMPARED" = some (some (.int 99999 t))
  c_LONGEST_RECORD : ∃ t, PySem.W.nsIn K mainGlobals "LONGEST_RECORD" = some (some (.int 4000 t))
  c_MOST_SAVEPOINTS : ∃ t, PySem.W.nsIn K mainGlobals "MOST_SAVEPOINTS" = some (some (.int 8 t))
  c_MOST_COUNTED : ∃ t, PySem.W.nsIn K mainGlobals "MOST_COUNTED" = some (some (.int 1000 t))
  c_SLOTS : ∃ t, PySem.W.nsIn K mainGlobals "SLOTS" = some (some (.int 8 t))
  n_len : PySem.W.nsIn K mainGlobals "len" = some none
  n_range : PySem.W.nsIn K mainGlobals "range" = some none
  n_tuple : PySem.W.nsIn K mainGlobals "tuple" = some none
  n_reversed : PySem.W.nsIn K mainGlobals "reversed" = some none
  n_list : PySem.W.nsIn K mainGlobals "list" = some none
  n_any : PySem.W.nsIn K mainGlobals "any" = some none
  n_min : PySem.W.nsIn K mainGlobals "min" = some none
  n_max : PySem.W.nsIn K mainGlobals "max" = some none
  f1 : FormH K esF 1 1 0
  f2 : FormH K esF 2 2 0
  f3 : FormH K esF 3 1 0
  f4 : FormH K esF 4 1 0
  f5 : FormH K esF 5 1 0
  f6 : FormH K esF 6 1 0
  f7 : FormH K esF 7 0 1
  f10 : FormH K esF 10 1 1
  f11 : FormH K esF 11 1 2
  f12 : FormH K esF 12 1 1
  f13 : FormH K esF 13 2 1
  f14 : FormH K esF 14 2 1
  f15 : FormH K esF 15 2 1
  f16 : FormH K esF 16 2 2
  f17 : FormH K esF 17 1 0
  f18 : FormH K esF 18 2 0
  f19 : FormH K esF 19 1 0
  l_N : ∃ (od : Option Addr) (n : Nat) (sl : Array (Option Value)), K.lookup nB = some ⟨.type "tuple", od, .seq #[] n, sl⟩
  e1 : ∃ f, findBy Value.isInt esD 1 = some (.ref f) ∧ PySem.W.nsIn K mainGlobals "begin" = some (some (.ref f))
  e2 : ∃ f, findBy Value.isInt esD 2 = some (.ref f) ∧ PySem.W.nsIn K mainGlobals "older" = some (some (.ref f))
  e3 : ∃ f, findBy Value.isInt esD 3 = some (.ref f) ∧ PySem.W.nsIn K mainGlobals "commit" = some (some (.ref f))
  e4 : ∃ f, findBy Value.isInt esD 4 = some (.ref f) ∧ PySem.W.nsIn K mainGlobals "drop" = some (some (.ref f))
  e5 : ∃ f, findBy Value.isInt esD 5 = some (.ref f) ∧ PySem.W.nsIn K mainGlobals "keep" = some (some (.ref f))
  e6 : ∃ f, findBy Value.isInt esD 6 = some (.ref f) ∧ PySem.W.nsIn K mainGlobals "forget" = some (some (.ref f))
  e7 : ∃ f, findBy Value.isInt esD 7 = some (.ref f) ∧ PySem.W.nsIn K mainGlobals "replay" = some (some (.ref f))
  e10 : ∃ f, findBy Value.isInt esS 10 = some (.ref f) ∧ PySem.W.nsIn K mainGlobals "get" = some (some (.ref f))
  e11 : ∃ f, findBy Value.isInt esS 11 = some (.ref f) ∧ PySem.W.nsIn K mainGlobals "put" = some (some (.ref f))
  e12 : ∃ f, findBy Value.isInt esS 12 = some (.ref f) ∧ PySem.W.nsIn K mainGlobals "remove" = some (some (.ref f))
  e13 : ∃ f, findBy Value.isInt esS 13 = some (.ref f) ∧ PySem.W.nsIn K mainGlobals "add" = some (some (.ref f))
  e14 : ∃ f, findBy Value.isInt esS 14 = some (.ref f) ∧ PySem.W.nsIn K mainGlobals "next_key" = some (some (.ref f))
  e15 : ∃ f, findBy Value.isInt esS 15 = some (.ref f) ∧ PySem.W.nsIn K mainGlobals "key_before" = some (some (.ref f))
  e16 : ∃ f, findBy Value.isInt esS 16 = some (.ref f) ∧ PySem.W.nsIn K mainGlobals "count" = some (some (.ref f))
  e17 : ∃ f, findBy Value.isInt esS 17 = some (.ref f) ∧ PySem.W.nsIn K mainGlobals "save" = some (some (.ref f))
  e18 : ∃ f, findBy Value.isInt esS 18 = some (.ref f) ∧ PySem.W.nsIn K mainGlobals "back" = some (some (.ref f))
  e19 : ∃ f, findBy Value.isInt esS 19 = some (.ref f) ∧ PySem.W.nsIn K mainGlobals "list_changes" = some (some (.ref f))
  u10 : findBy Value.isInt esD 10 = none
  u11 : findBy Value.isInt esD 11 = none
  u12 : findBy Value.isInt esD 12 = none
  u13 : findBy Value.isInt esD 13 = none
  u14 : findBy Value.isInt esD 14 = none
  u15 : findBy Value.isInt esD 15 = none
  u16 : findBy Value.isInt esD 16 = none
  u17 : findBy Value.isInt esD 17 = none
  u18 : findBy Value.isInt esD 18 = none
  u19 : findBy Value.isInt esD 19 = none
theorem end_of {P : Program} {w : World} {K : PySem.W.Frag} {h : Heap} {mg : Str → Option Value} {fa : Addr} {CT CD CL CS CR CW dF dD dS nB : Addr} {esF esD esS : Array DictEntry} {nF nD nS : Nat} (X : K.In h) (G : h.Ns mainGlobals mg) (hfa : mg "answers" = some (.ref fa))
    (aT : PySem.W.nsIn K mainGlobals "Transaction" = some (some (.ref CT))) (aD : PySem.W.nsIn K mainGlobals "Draft" = some (some (.ref CD))) (aL : PySem.W.nsIn K mainGlobals "Looks" = some (some (.ref CL))) (aS : PySem.W.nsIn K mainGlobals "Desk" = some (some (.ref CS))) (aR : PySem.W.nsIn K mainGlobals "Reader" = some (some (.ref CR))) (aW : PySem.W.nsIn K mainGlobals "WrongForm" = some (some (.ref CW)))
    (aF : PySem.W.nsIn K mainGlobals "FORMS" = some (some (.ref dF))) (aC : PySem.W.nsIn K mainGlobals "DESK_CALLS" = some (some (.ref dD))) (aP : PySem.W.nsIn K mainGlobals "STEPS" = some (some (.ref dS))) (aN : PySem.W.nsIn K mainGlobals "NO_BYTES" = some (some (.ref nB)))
    (lF : K.lookup dF = some ⟨.type "dict", none, .dict esF nF, #[]⟩) (lD : K.lookup dD = some ⟨.type "dict", none, .dict esD nD, #[]⟩) (lS : K.lookup dS = some ⟨.type "dict", none, .dict esS nS, #[]⟩)
    (iF : litB esF = true) (iD : litB esD = true) (iS : litB esS = true)
    (zF : (dF == sysModules) = false) (zD : (dD == sysModules) = false) (zS : (dS == sysModules) = false) (T : Head K ⟨CT, CD, CL, CS⟩ CR CW nB esF esD esS) :
    ∃ fd : FuncData, (∀ (s : Shared) (us : List Value), us.length = (["calls"] : List Str).length → BindsTo s fd ⟨us, []⟩ ((["calls"] : List Str).zip us)) ∧ ∀ base : Heap, K.In base → base.Ns mainGlobals mg → FnOk P w K mg base CX0 12 fa fd ["calls"] (spAns K) := by
  have TT : Txt K mg ⟨CT, CD, CL, CS⟩ CR CW dF dD dS nB esF esD esS := {
    S_empty_map := T.S_empty_map.src X G (fun _ _ _ _ _ _ us hl => match us, hl with | [], _ => rfl)
    S_place_of := T.S_place_of.src X G (fun _ _ _ _ _ _ us hl => match us, hl with | [_, _], _ => rfl)
    S_place_behind := T.S_place_behind.src X G (fun _ _ _ _ _ _ us hl => match us, hl with | [_, _], _ => rfl)
    S_stands_at := T.S_stands_at.src X G (fun _ _ _ _ _ _ us hl => match us, hl with | [_, _, _], _ => rfl)
    S_value_at := T.S_value_at.src X G (fun _ _ _ _ _ _ us hl => match us, hl with | [_, _], _ => rfl)
    S_map_with := T.S_map_with.src X G (fun _ _ _ _ _ _ us hl => match us, hl with | [_, _, _], _ => rfl)
    S_first_place := T.S_first_place.src X G (fun _ _ _ _ _ _ us hl => match us, hl with | [_, _, _, _], _ => rfl)
    S_part_between := T.S_part_between.src X G (fun _ _ _ _ _ _ us hl => match us, hl with | [_, _, _], _ => rfl)
    I_Reader_init := T.I_Reader_init.isrc T.m_Reader T.k_Reader (fun _ _ _ _ _ _ us hl => match us, hl with | [_, _], _ => rfl)
    M_Reader_ended := T.M_Reader_ended.src (fun _ _ _ _ _ _ us hl => match us, hl with | [_], _ => rfl)
    M_Reader_take := T.M_Reader_take.src (fun _ _ _ _ _ _ us hl => match us, hl with | [_, _], _ => rfl)
    M_Reader_take_one := T.M_Reader_take_one.src (fun _ _ _ _ _ _ us hl => match us, hl with | [_], _ => rfl)
    M_Reader_take_counted := T.M_Reader_take_counted.src (fun _ _ _ _ _ _ us hl => match us, hl with | [_], _ => rfl)
    S_is_number := T.S_is_number.src X G (fun _ _ _ _ _ _ us hl => match us, hl with | [_], _ => rfl)
    S_low_first := T.S_low_first.src X G (fun _ _ _ _ _ _ us hl => match us, hl with | [_, _], _ => rfl)
    S_whole_number := T.S_whole_number.src X G (fun _ _ _ _ _ _ us hl => match us, hl with | [_], _ => rfl)
    S_count_told := T.S_count_told.src X G (fun _ _ _ _ _ _ us hl => match us, hl with | [_], _ => rfl)
    S_count_raised := T.S_count_raised.src X G (fun _ _ _ _ _ _ us hl => match us, hl with | [_, _], _ => rfl)
    S_is_key := T.S_is_key.src X G (fun _ _ _ _ _ _ us hl => match us, hl with | [_], _ => rfl)
    S_is_start := T.S_is_start.src X G (fun _ _ _ _ _ _ us hl => match us, hl with | [_], _ => rfl)
    S_is_value := T.S_is_value.src X G (fun _ _ _ _ _ _ us hl => match us, hl with | [_], _ => rfl)
    S_value_after := T.S_value_after.src X G (fun _ _ _ _ _ _ us hl => match us, hl with | [_, _], _ => rfl)
    S_change_of_both := T.S_change_of_both.src X G (fun _ _ _ _ _ _ us hl => match us, hl with | [_, _], _ => rfl)
    S_change_bytes := T.S_change_bytes.src X G (fun _ _ _ _ _ _ us hl => match us, hl with | [_], _ => rfl)
    S_read_record := T.S_read_record.src X G (fun _ _ _ _ _ _ us hl => match us, hl with | [_], _ => rfl)
    S_read_change := T.S_read_change.src X G (fun _ _ _ _ _ _ us hl => match us, hl with | [_], _ => rfl)
    S_read_key := T.S_read_key.src X G (fun _ _ _ _ _ _ us hl => match us, hl with | [_], _ => rfl)
    S_read_value := T.S_read_value.src X G (fun _ _ _ _ _ _ us hl => match us, hl with | [_], _ => rfl)
    S_reply := T.S_reply.src X G (fun _ _ _ _ _ _ us hl => match us, hl with | [_], _ => rfl)
    S_value_reply := T.S_value_reply.src X G (fun _ _ _ _ _ _ us hl => match us, hl with | [_], _ => rfl)
    S_key_reply := T.S_key_reply.src X G (fun _ _ _ _ _ _ us hl => match us, hl with | [_, _], _ => rfl)
    S_record_reply := T.S_record_reply.src X G (fun _ _ _ _ _ _ us hl => match us, hl with | [_, _], _ => rfl)
    S_state_after := T.S_state_after.src X G (fun _ _ _ _ _ _ us hl => match us, hl with | [_, _], _ => rfl)
    I_Draft_init := T.I_Draft_init.isrc T.m_Draft T.k_Draft (fun _ _ _ _ _ _ us hl => match us, hl with | [_, _, _, _], _ => rfl)
    S_empty_draft := T.S_empty_draft.src X G (fun _ _ _ _ _ _ us hl => match us, hl with | [], _ => rfl)
    S_draft_with := T.S_draft_with.src X G (fun _ _ _ _ _ _ us hl => match us, hl with | [_, _], _ => rfl)
    S_effect_with := T.S_effect_with.src X G (fun _ _ _ _ _ _ us hl => match us, hl with | [_, _], _ => rfl)
    S_is_settled := T.S_is_settled.src X G (fun _ _ _ _ _ _ us hl => match us, hl with | [_, _], _ => rfl)
    S_is_removed := T.S_is_removed.src X G (fun _ _ _ _ _ _ us hl => match us, hl with | [_, _], _ => rfl)
    S_value_by := T.S_value_by.src X G (fun _ _ _ _ _ _ us hl => match us, hl with | [_, _, _], _ => rfl)
    S_nearest_left := T.S_nearest_left.src X G (fun _ _ _ _ _ _ us hl => match us, hl with | [_, _, _, _, _], _ => rfl)
    I_Looks_init := T.I_Looks_init.isrc T.m_Looks T.k_Looks (fun _ _ _ _ _ _ us hl => match us, hl with | [_], _ => rfl)
    M_Looks_has_room := T.M_Looks_has_room.src (fun _ _ _ _ _ _ us hl => match us, hl with | [_, _], _ => rfl)
    M_Looks_look_at_key := T.M_Looks_look_at_key.src (fun _ _ _ _ _ _ us hl => match us, hl with | [_, _], _ => rfl)
    M_Looks_look_at_stretch := T.M_Looks_look_at_stretch.src (fun _ _ _ _ _ _ us hl => match us, hl with | [_, _, _], _ => rfl)
    M_Looks_differ := T.M_Looks_differ.src (fun _ _ _ _ _ _ us hl => match us, hl with | [_, _, _], _ => rfl)
    S_stretch_differs := T.S_stretch_differs.src X G (fun _ _ _ _ _ _ us hl => match us, hl with | [_, _, _], _ => rfl)
    I_Transaction_init := T.I_Transaction_init.isrc T.m_Transaction T.k_Transaction (fun _ _ _ _ _ _ us hl => match us, hl with | [_, _], _ => rfl)
    M_Transaction_get := T.M_Transaction_get.src (fun _ _ _ _ _ _ us hl => match us, hl with | [_, _], _ => rfl)
    M_Transaction_value_seen := T.M_Transaction_value_seen.src (fun _ _ _ _ _ _ us hl => match us, hl with | [_, _], _ => rfl)
    M_Transaction_put := T.M_Transaction_put.src (fun _ _ _ _ _ _ us hl => match us, hl with | [_, _, _], _ => rfl)
    M_Transaction_remove := T.M_Transaction_remove.src (fun _ _ _ _ _ _ us hl => match us, hl with | [_, _], _ => rfl)
    M_Transaction_add := T.M_Transaction_add.src (fun _ _ _ _ _ _ us hl => match us, hl with | [_, _, _], _ => rfl)
    M_Transaction_change_more := T.M_Transaction_change_more.src (fun _ _ _ _ _ _ us hl => match us, hl with | [_, _], _ => rfl)
    M_Transaction_nearest := T.M_Transaction_nearest.src (fun _ _ _ _ _ _ us hl => match us, hl with | [_, _, _, _], _ => rfl)
    M_Transaction_look_from := T.M_Transaction_look_from.src (fun _ _ _ _ _ _ us hl => match us, hl with | [_, _, _, _], _ => rfl)
    M_Transaction_count := T.M_Transaction_count.src (fun _ _ _ _ _ _ us hl => match us, hl with | [_, _, _, _], _ => rfl)
    M_Transaction_how_many := T.M_Transaction_how_many.src (fun _ _ _ _ _ _ us hl => match us, hl with | [_, _, _, _], _ => rfl)
    M_Transaction_save := T.M_Transaction_save.src (fun _ _ _ _ _ _ us hl => match us, hl with | [_], _ => rfl)
    M_Transaction_back := T.M_Transaction_back.src (fun _ _ _ _ _ _ us hl => match us, hl with | [_, _], _ => rfl)
    M_Transaction_list_changes := T.M_Transaction_list_changes.src (fun _ _ _ _ _ _ us hl => match us, hl with | [_], _ => rfl)
    M_Transaction_clashes_with := T.M_Transaction_clashes_with.src (fun _ _ _ _ _ _ us hl => match us, hl with | [_, _], _ => rfl)
    S_nearer := T.S_nearer.src X G (fun _ _ _ _ _ _ us hl => match us, hl with | [_, _, _], _ => rfl)
    I_Desk_init := T.I_Desk_init.isrc T.m_Desk T.k_Desk (fun _ _ _ _ _ _ us hl => match us, hl with | [_], _ => rfl)
    S_is_slot := T.S_is_slot.src X G (fun _ _ _ _ _ _ us hl => match us, hl with | [_], _ => rfl)
    S_refusal := T.S_refusal.src X G (fun _ _ _ _ _ _ us hl => match us, hl with | [_, _], _ => rfl)
    S_begin := T.S_begin.src X G (fun _ _ _ _ _ _ us hl => match us, hl with | [_, _], _ => rfl)
    S_older := T.S_older.src X G (fun _ _ _ _ _ _ us hl => match us, hl with | [_, _], _ => rfl)
    S_commit := T.S_commit.src X G (fun _ _ _ _ _ _ us hl => match us, hl with | [_, _], _ => rfl)
    S_drop := T.S_drop.src X G (fun _ _ _ _ _ _ us hl => match us, hl with | [_, _], _ => rfl)
    S_keep := T.S_keep.src X G (fun _ _ _ _ _ _ us hl => match us, hl with | [_, _], _ => rfl)
    S_forget := T.S_forget.src X G (fun _ _ _ _ _ _ us hl => match us, hl with | [_, _], _ => rfl)
    S_empty_slot := T.S_empty_slot.src X G (fun _ _ _ _ _ _ us hl => match us, hl with | [_, _], _ => rfl)
    S_replay := T.S_replay.src X G (fun _ _ _ _ _ _ us hl => match us, hl with | [_, _], _ => rfl)
    S_get := T.S_get.src X G (fun _ _ _ _ _ _ us hl => match us, hl with | [_, _], _ => rfl)
    S_put := T.S_put.src X G (fun _ _ _ _ _ _ us hl => match us, hl with | [_, _], _ => rfl)
    S_remove := T.S_remove.src X G (fun _ _ _ _ _ _ us hl => match us, hl with | [_, _], _ => rfl)
    S_add := T.S_add.src X G (fun _ _ _ _ _ _ us hl => match us, hl with | [_, _], _ => rfl)
    S_next_key := T.S_next_key.src X G (fun _ _ _ _ _ _ us hl => match us, hl with | [_, _], _ => rfl)
    S_key_before := T.S_key_before.src X G (fun _ _ _ _ _ _ us hl => match us, hl with | [_, _], _ => rfl)
    S_count := T.S_count.src X G (fun _ _ _ _ _ _ us hl => match us, hl with | [_, _], _ => rfl)
    S_save := T.S_save.src X G (fun _ _ _ _ _ _ us hl => match us, hl with | [_, _], _ => rfl)
    S_back := T.S_back.src X G (fun _ _ _ _ _ _ us hl => match us, hl with | [_, _], _ => rfl)
    S_list_changes := T.S_list_changes.src X G (fun _ _ _ _ _ _ us hl => match us, hl with | [_, _], _ => rfl)
    S_read_given := T.S_read_given.src X G (fun _ _ _ _ _ _ us hl => match us, hl with | [_, _], _ => rfl)
    S_do_call := T.S_do_call.src X G (fun _ _ _ _ _ _ us hl => match us, hl with | [_, _, _], _ => rfl)
    S_answers := T.S_answers.src X G (fun _ _ _ _ _ _ us hl => match us, hl with | [_], _ => rfl)
    T_Reader := ⟨⟨T.p_Reader, T.q_Reader, T.r_Reader, T.s_Reader⟩, T.a_Reader_row, T.a_Reader_place, PySem.W.mg_of X G aR⟩
    T_Draft := ⟨⟨T.p_Draft, T.q_Draft, T.r_Draft, T.s_Draft⟩, T.a_Draft_changes, T.a_Draft_record, T.a_Draft_effects, PySem.W.mg_of X G aD⟩
    T_Looks := ⟨⟨T.p_Looks, T.q_Looks, T.r_Looks, T.s_Looks⟩, T.a_Looks_single_keys, T.a_Looks_stretches, PySem.W.mg_of X G aL⟩
    T_Transaction := ⟨⟨T.p_Transaction, T.q_Transaction, T.r_Transaction, T.s_Transaction⟩, T.a_Transaction_beginning, T.a_Transaction_draft, T.a_Transaction_savepoints, T.a_Transaction_looks, PySem.W.mg_of X G aT⟩
    T_Desk := ⟨⟨T.p_Desk, T.q_Desk, T.r_Desk, T.s_Desk⟩, T.a_Desk_present, T.a_Desk_older_states, T.a_Desk_transactions, PySem.W.mg_of X G aS⟩
    T_err := ⟨PySem.W.mg_of X G aW, T.x_err, T.k_err, T.b_err, T.t_err, exm_own T.b_err T.i_err T.t_err T.s_err⟩
    c_WRONG := gi_of X G T.c_WRONG
    c_ABSENT := gi_of X G T.c_ABSENT
    c_FULL := gi_of X G T.c_FULL
    c_DONE := gi_of X G T.c_DONE
    c_CLASH := gi_of X G T.c_CLASH
    c_PUT := gi_of X G T.c_PUT
    c_REMOVE := gi_of X G T.c_REMOVE
    c_ADD := gi_of X G T.c_ADD
    c_LONGEST_KEY := gi_of X G T.c_LONGEST_KEY
    c_LONGEST_VALUE := gi_of X G T.c_LONGEST_VALUE
    c_COUNT_LENGTH := gi_of X G T.c_COUNT_LENGTH
    c_COUNTS_END := gi_of X G T.c_COUNTS_END
    c_COUNTS_IN_ALL := gi_of X G T.c_COUNTS_IN_ALL
    c_LENGTH_BYTES := gi_of X G T.c_LENGTH_BYTES
    c_UP := gi_of X G T.c_UP
    c_DOWN := gi_of X G T.c_DOWN
    c_MOST_LOOKS := gi_of X G T.c_MOST_LOOKS
    c_MOST_COMPARED := gi_of X G T.c_MOST_COMPARED
    c_LONGEST_RECORD := gi_of X G T.c_LONGEST_RECORD
    c_MOST_SAVEPOINTS := gi_of X G T.c_MOST_SAVEPOINTS
    c_MOST_COUNTED := gi_of X G T.c_MOST_COUNTED
    c_SLOTS := gi_of X G T.c_SLOTS
    n_len := PySem.W.mg_none_of X G T.n_len
    n_range := PySem.W.mg_none_of X G T.n_range
    n_tuple := PySem.W.mg_none_of X G T.n_tuple
    n_reversed := PySem.W.mg_none_of X G T.n_reversed
    n_list := PySem.W.mg_none_of X G T.n_list
    n_any := PySem.W.mg_none_of X G T.n_any
    n_min := PySem.W.mg_none_of X G T.n_min
    n_max := PySem.W.mg_none_of X G T.n_max
    g_F := PySem.W.mg_of X G aF
    g_D := PySem.W.mg_of X G aC
    g_S := PySem.W.mg_of X G aP
    g_N := PySem.W.mg_of X G aN
    k_F := ⟨⟨nF, lF⟩, lit_of iF, zF⟩
    k_D := ⟨⟨nD, lD⟩, lit_of iD, zD⟩
    k_S := ⟨⟨nS, lS⟩, lit_of iS, zS⟩
    t_F := fun p a b hs => by
      unfold PyGv05.shape at hs
      by_cases h1 : p = 1
      · subst h1; cases hs; exact T.f1.tab
      rw [if_neg h1] at hs
      by_cases h2 : p = 2
      · subst h2; cases hs; exact T.f2.tab
      rw [if_neg h2] at hs
      by_cases h3 : p = 3
      · subst h3; cases hs; exact T.f3.tab
      rw [if_neg h3] at hs
      by_cases h4 : p = 4
      · subst h4; cases hs; exact T.f4.tab
      rw [if_neg h4] at hs
      by_cases h5 : p = 5
      · subst h5; cases hs; exact T.f5.tab
      rw [if_neg h5] at hs
      by_cases h6 : p = 6
      · subst h6; cases hs; exact T.f6.tab
      rw [if_neg h6] at hs
      by_cases h7 : p = 7
      · subst h7; cases hs; exact T.f7.tab
      rw [if_neg h7] at hs
      by_cases h10 : p = 10
      · subst h10; cases hs; exact T.f10.tab
      rw [if_neg h10] at hs
      by_cases h11 : p = 11
      · subst h11; cases hs; exact T.f11.tab
      rw [if_neg h11] at hs
      by_cases h12 : p = 12
      · subst h12; cases hs; exact T.f12.tab
      rw [if_neg h12] at hs
      by_cases h13 : p = 13
      · subst h13; cases hs; exact T.f13.tab
      rw [if_neg h13] at hs
      by_cases h14 : p = 14
      · subst h14; cases hs; exact T.f14.tab
      rw [if_neg h14] at hs
      by_cases h15 : p = 15
      · subst h15; cases hs; exact T.f15.tab
      rw [if_neg h15] at hs
      by_cases h16 : p = 16
      · subst h16; cases hs; exact T.f16.tab
      rw [if_neg h16] at hs
      by_cases h17 : p = 17
      · subst h17; cases hs; exact T.f17.tab
      rw [if_neg h17] at hs
      by_cases h18 : p = 18
      · subst h18; cases hs; exact T.f18.tab
      rw [if_neg h18] at hs
      by_cases h19 : p = 19
      · subst h19; cases hs; exact T.f19.tab
      rw [if_neg h19] at hs
      cases hs
    t_N := fun H' => by
      obtain ⟨od, n, sl, l⟩ := T.l_N
      exact .inr ⟨_, _, n, l, rfl, rfl, Nat.zero_le _, .nil⟩
    u_D := fun s => by
      cases s with
      | get k => exact T.u10
      | put k v => exact T.u11
      | remove k => exact T.u12
      | add k n => exact T.u13
      | next k w => exact T.u14
      | before k w => exact T.u15
      | count lo hi n => exact T.u16
      | save => exact T.u17
      | back n => exact T.u18
      | list => exact T.u19
    e1 := tab_of X G T.e1
    e2 := tab_of X G T.e2
    e3 := tab_of X G T.e3
    e4 := tab_of X G T.e4
    e5 := tab_of X G T.e5
    e6 := tab_of X G T.e6
    e7 := tab_of X G T.e7
    e10 := tab_of X G T.e10
    e11 := tab_of X G T.e11
    e12 := tab_of X G T.e12
    e13 := tab_of X G T.e13
    e14 := tab_of X G T.e14
    e15 := tab_of X G T.e15
    e16 := tab_of X G T.e16
    e17 := tab_of X G T.e17
    e18 := tab_of X G T.e18
    e19 := tab_of X G T.e19
  }
  obtain ⟨f0, a0, F0⟩ := T.S_answers
  have e := hfa.symm.trans (PySem.W.mg_of X G a0)
  cases e
  obtain ⟨oc, od, kV, dc, pm, an, cd, ct, sl, l, c, k⟩ := F0
  refine ⟨PySem.W.fnOf "answers" "answers" (defArgs s_answers) (defBody s_answers) (defScope s_answers) .none kV dc pm an cd ct, fun s us hu => match us, hu with | [_], _ => .of_eq rfl, fun base _ _ => ?_⟩
  exact all_ok (P := P) (w := w) (base := base) TT (fun_mk (st := s_answers) l c k)
end Ks
open PySem PySem.W PyProof.Rows
set_option maxRecDepth 100000 in
set_option maxHeartbeats 80000000 in
theorem PySem.Challenge.cw_keystore_s01_answers_holds : PySem.Challenge.rw_keystore_s01_answers.Holds := by
  w_on; k_headS; (case hw => exact ⟨[.list []], by decide +kernel, by decide +kernel⟩)
  k_fillS
  refine L2.walk_specK (r := PySem.Challenge.rw_keystore_s01_answers) (k := 12) (CX := L2.CX0) (ps := ["calls"]) (sp := Ks.spAns) (by decide +kernel) rfl rfl ⟨rfl, by decide, by decide⟩ (fun w h Y => PySem.W.kIn_of Y) ?F ?S (fun _ _ _ _ z => z)
  case F =>
    intro w mg fa h Y KX G hmg
    refine' Ks.end_of KX G hmg ?aT ?aD ?aL ?aS ?aR ?aW ?aF ?aC ?aP ?aN ?lF ?lD ?lS ?iF ?iD ?iS ?zF ?zD ?zS ?T
    (case aT => k_is); (case aD => k_is); (case aL => k_is); (case aS => k_is); (case aR => k_is); (case aW => k_is)
    (case aF => k_is); (case aC => k_is); (case aP => k_is); (case aN => k_is)
    (case lF => k_is); (case lD => k_is); (case lS => k_is)
    (case iF => rfl); (case iD => rfl); (case iS => rfl)
    (case zF => rfl); (case zD => rfl); (case zS => rfl)
    case T =>
      constructor
      (case S_empty_map => refine' Ks.srcH ?a ?l ?c ?k; (case a => k_is); (case l => k_is); (case c => k_is); (case k => k_is))
      (case S_place_of => refine' Ks.srcH ?a ?l ?c ?k; (case a => k_is); (case l => k_is); (case c => k_is); (case k => k_is))
      (case S_place_behind => refine' Ks.srcH ?a ?l ?c ?k; (case a => k_is); (case l => k_is); (case c => k_is); (case k => k_is))
      (case S_stands_at => refine' Ks.srcH ?a ?l ?c ?k; (case a => k_is); (case l => k_is); (case c => k_is); (case k => k_is))
      (case S_value_at => refine' Ks.srcH ?a ?l ?c ?k; (case a => k_is); (case l => k_is); (case c => k_is); (case k => k_is))
      (case S_map_with => refine' Ks.srcH ?a ?l ?c ?k; (case a => k_is); (case l => k_is); (case c => k_is); (case k => k_is))
      (case S_first_place => refine' Ks.srcH ?a ?l ?c ?k; (case a => k_is); (case l => k_is); (case c => k_is); (case k => k_is))
      (case S_part_between => refine' Ks.srcH ?a ?l ?c ?k; (case a => k_is); (case l => k_is); (case c => k_is); (case k => k_is))
      (case I_Reader_init => refine' Ks.msrcH ?a ?i ?l ?c ?k; (case a => k_is); (case i => k_is); (case l => k_is); (case c => k_is); (case k => k_is))
      (case M_Reader_ended => refine' Ks.msrcH ?a ?i ?l ?c ?k; (case a => k_is); (case i => k_is); (case l => k_is); (case c => k_is); (case k => k_is))
      (case M_Reader_take => refine' Ks.msrcH ?a ?i ?l ?c ?k; (case a => k_is); (case i => k_is); (case l => k_is); (case c => k_is); (case k => k_is))
      (case M_Reader_take_one => refine' Ks.msrcH ?a ?i ?l ?c ?k; (case a => k_is); (case i => k_is); (case l => k_is); (case c => k_is); (case k => k_is))
      (case M_Reader_take_counted => refine' Ks.msrcH ?a ?i ?l ?c ?k; (case a => k_is); (case i => k_is); (case l => k_is); (case c => k_is); (case k => k_is))
      (case S_is_number => refine' Ks.srcH ?a ?l ?c ?k; (case a => k_is); (case l => k_is); (case c => k_is); (case k => k_is))
      (case S_low_first => refine' Ks.srcH ?a ?l ?c ?k; (case a => k_is); (case l => k_is); (case c => k_is); (case k => k_is))
      (case S_whole_number => refine' Ks.srcH ?a ?l ?c ?k; (case a => k_is); (case l => k_is); (case c => k_is); (case k => k_is))
      (case S_count_told => refine' Ks.srcH ?a ?l ?c ?k; (case a => k_is); (case l => k_is); (case c => k_is); (case k => k_is))
      (case S_count_raised => refine' Ks.srcH ?a ?l ?c ?k; (case a => k_is); (case l => k_is); (case c => k_is); (case k => k_is))
      (case S_is_key => refine' Ks.srcH ?a ?l ?c ?k; (case a => k_is); (case l => k_is); (case c => k_is); (case k => k_is))
      (case S_is_start => refine' Ks.srcH ?a ?l ?c ?k; (case a => k_is); (case l => k_is); (case c => k_is); (case k => k_is))
      (case S_is_value => refine' Ks.srcH ?a ?l ?c ?k; (case a => k_is); (case l => k_is); (case c => k_is); (case k => k_is))
      (case S_value_after => refine' Ks.srcH ?a ?l ?c ?k; (case a => k_is); (case l => k_is); (case c => k_is); (case k => k_is))
      (case S_change_of_both => refine' Ks.srcH ?a ?l ?c ?k; (case a => k_is); (case l => k_is); (case c => k_is); (case k => k_is))
      (case S_change_bytes => refine' Ks.srcH ?a ?l ?c ?k; (case a => k_is); (case l => k_is); (case c => k_is); (case k => k_is))
      (case S_read_record => refine' Ks.srcH ?a ?l ?c ?k; (case a => k_is); (case l => k_is); (case c => k_is); (case k => k_is))
      (case S_read_change => refine' Ks.srcH ?a ?l ?c ?k; (case a => k_is); (case l => k_is); (case c => k_is); (case k => k_is))
      (case S_read_key => refine' Ks.srcH ?a ?l ?c ?k; (case a => k_is); (case l => k_is); (case c => k_is); (case k => k_is))
      (case S_read_value => refine' Ks.srcH ?a ?l ?c ?k; (case a => k_is); (case l => k_is); (case c => k_is); (case k => k_is))
      (case S_reply => refine' Ks.srcH ?a ?l ?c ?k; (case a => k_is); (case l => k_is); (case c => k_is); (case k => k_is))
      (case S_value_reply => refine' Ks.srcH ?a ?l ?c ?k; (case a => k_is); (case l => k_is); (case c => k_is); (case k => k_is))
      (case S_key_reply => refine' Ks.srcH ?a ?l ?c ?k; (case a => k_is); (case l => k_is); (case c => k_is); (case k => k_is))
      (case S_record_reply => refine' Ks.srcH ?a ?l ?c ?k; (case a => k_is); (case l => k_is); (case c => k_is); (case k => k_is))
      (case S_state_after => refine' Ks.srcH ?a ?l ?c ?k; (case a => k_is); (case l => k_is); (case c => k_is); (case k => k_is))
      (case I_Draft_init => refine' Ks.msrcH ?a ?i ?l ?c ?k; (case a => k_is); (case i => k_is); (case l => k_is); (case c => k_is); (case k => k_is))
      (case S_empty_draft => refine' Ks.srcH ?a ?l ?c ?k; (case a => k_is); (case l => k_is); (case c => k_is); (case k => k_is))
      (case S_draft_with => refine' Ks.srcH ?a ?l ?c ?k; (case a => k_is); (case l => k_is); (case c => k_is); (case k => k_is))
      (case S_effect_with => refine' Ks.srcH ?a ?l ?c ?k; (case a => k_is); (case l => k_is); (case c => k_is); (case k => k_is))
      (case S_is_settled => refine' Ks.srcH ?a ?l ?c ?k; (case a => k_is); (case l => k_is); (case c => k_is); (case k => k_is))
      (case S_is_removed => refine' Ks.srcH ?a ?l ?c ?k; (case a => k_is); (case l => k_is); (case c => k_is); (case k => k_is))
      (case S_value_by => refine' Ks.srcH ?a ?l ?c ?k; (case a => k_is); (case l => k_is); (case c => k_is); (case k => k_is))
      (case S_nearest_left => refine' Ks.srcH ?a ?l ?c ?k; (case a => k_is); (case l => k_is); (case c => k_is); (case k => k_is))
      (case I_Looks_init => refine' Ks.msrcH ?a ?i ?l ?c ?k; (case a => k_is); (case i => k_is); (case l => k_is); (case c => k_is); (case k => k_is))
      (case M_Looks_has_room => refine' Ks.msrcH ?a ?i ?l ?c ?k; (case a => k_is); (case i => k_is); (case l => k_is); (case c => k_is); (case k => k_is))
      (case M_Looks_look_at_key => refine' Ks.msrcH ?a ?i ?l ?c ?k; (case a => k_is); (case i => k_is); (case l => k_is); (case c => k_is); (case k => k_is))
      (case M_Looks_look_at_stretch => refine' Ks.msrcH ?a ?i ?l ?c ?k; (case a => k_is); (case i => k_is); (case l => k_is); (case c => k_is); (case k => k_is))
      (case M_Looks_differ => refine' Ks.msrcH ?a ?i ?l ?c ?k; (case a => k_is); (case i => k_is); (case l => k_is); (case c => k_is); (case k => k_is))
      (case S_stretch_differs => refine' Ks.srcH ?a ?l ?c ?k; (case a => k_is); (case l => k_is); (case c => k_is); (case k => k_is))
      (case I_Transaction_init => refine' Ks.msrcH ?a ?i ?l ?c ?k; (case a => k_is); (case i => k_is); (case l => k_is); (case c => k_is); (case k => k_is))
      (case M_Transaction_get => refine' Ks.msrcH ?a ?i ?l ?c ?k; (case a => k_is); (case i => k_is); (case l => k_is); (case c => k_is); (case k => k_is))
      (case M_Transaction_value_seen => refine' Ks.msrcH ?a ?i ?l ?c ?k; (case a => k_is); (case i => k_is); (case l => k_is); (case c => k_is); (case k => k_is))
      (case M_Transaction_put => refine' Ks.msrcH ?a ?i ?l ?c ?k; (case a => k_is); (case i => k_is); (case l => k_is); (case c => k_is); (case k => k_is))
      (case M_Transaction_remove => refine' Ks.msrcH ?a ?i ?l ?c ?k; (case a => k_is); (case i => k_is); (case l => k_is); (case c => k_is); (case k => k_is))
      (case M_Transaction_add => refine' Ks.msrcH ?a ?i ?l ?c ?k; (case a => k_is); (case i => k_is); (case l => k_is); (case c => k_is); (case k => k_is))
      (case M_Transaction_change_more => refine' Ks.msrcH ?a ?i ?l ?c ?k; (case a => k_is); (case i => k_is); (case l => k_is); (case c => k_is); (case k => k_is))
      (case M_Transaction_nearest => refine' Ks.msrcH ?a ?i ?l ?c ?k; (case a => k_is); (case i => k_is); (case l => k_is); (case c => k_is); (case k => k_is))
      (case M_Transaction_look_from => refine' Ks.msrcH ?a ?i ?l ?c ?k; (case a => k_is); (case i => k_is); (case l => k_is); (case c => k_is); (case k => k_is))
      (case M_Transaction_count => refine' Ks.msrcH ?a ?i ?l ?c ?k; (case a => k_is); (case i => k_is); (case l => k_is); (case c => k_is); (case k => k_is))
      (case M_Transaction_how_many => refine' Ks.msrcH ?a ?i ?l ?c ?k; (case a => k_is); (case i => k_is); (case l => k_is); (case c => k_is); (case k => k_is))
      (case M_Transaction_save => refine' Ks.msrcH ?a ?i ?l ?c ?k; (case a => k_is); (case i => k_is); (case l => k_is); (case c => k_is); (case k => k_is))
      (case M_Transaction_back => refine' Ks.msrcH ?a ?i ?l ?c ?k; (case a => k_is); (case i => k_is); (case l => k_is); (case c => k_is); (case k => k_is))
      (case M_Transaction_list_changes => refine' Ks.msrcH ?a ?i ?l ?c ?k; (case a => k_is); (case i => k_is); (case l => k_is); (case c => k_is); (case k => k_is))
      (case M_Transaction_clashes_with => refine' Ks.msrcH ?a ?i ?l ?c ?k; (case a => k_is); (case i => k_is); (case l => k_is); (case c => k_is); (case k => k_is))
      (case S_nearer => refine' Ks.srcH ?a ?l ?c ?k; (case a => k_is); (case l => k_is); (case c => k_is); (case k => k_is))
      (case I_Desk_init => refine' Ks.msrcH ?a ?i ?l ?c ?k; (case a => k_is); (case i => k_is); (case l => k_is); (case c => k_is); (case k => k_is))
      (case S_is_slot => refine' Ks.srcH ?a ?l ?c ?k; (case a => k_is); (case l => k_is); (case c => k_is); (case k => k_is))
      (case S_refusal => refine' Ks.srcH ?a ?l ?c ?k; (case a => k_is); (case l => k_is); (case c => k_is); (case k => k_is))
      (case S_begin => refine' Ks.srcH ?a ?l ?c ?k; (case a => k_is); (case l => k_is); (case c => k_is); (case k => k_is))
      (case S_older => refine' Ks.srcH ?a ?l ?c ?k; (case a => k_is); (case l => k_is); (case c => k_is); (case k => k_is))
      (case S_commit => refine' Ks.srcH ?a ?l ?c ?k; (case a => k_is); (case l => k_is); (case c => k_is); (case k => k_is))
      (case S_drop => refine' Ks.srcH ?a ?l ?c ?k; (case a => k_is); (case l => k_is); (case c => k_is); (case k => k_is))
      (case S_keep => refine' Ks.srcH ?a ?l ?c ?k; (case a => k_is); (case l => k_is); (case c => k_is); (case k => k_is))
      (case S_forget => refine' Ks.srcH ?a ?l ?c ?k; (case a => k_is); (case l => k_is); (case c => k_is); (case k => k_is))
      (case S_empty_slot => refine' Ks.srcH ?a ?l ?c ?k; (case a => k_is); (case l => k_is); (case c => k_is); (case k => k_is))
      (case S_replay => refine' Ks.srcH ?a ?l ?c ?k; (case a => k_is); (case l => k_is); (case c => k_is); (case k => k_is))
      (case S_get => refine' Ks.srcH ?a ?l ?c ?k; (case a => k_is); (case l => k_is); (case c => k_is); (case k => k_is))
      (case S_put => refine' Ks.srcH ?a ?l ?c ?k; (case a => k_is); (case l => k_is); (case c => k_is); (case k => k_is))
      (case S_remove => refine' Ks.srcH ?a ?l ?c ?k; (case a => k_is); (case l => k_is); (case c => k_is); (case k => k_is))
      (case S_add => refine' Ks.srcH ?a ?l ?c ?k; (case a => k_is); (case l => k_is); (case c => k_is); (case k => k_is))
      (case S_next_key => refine' Ks.srcH ?a ?l ?c ?k; (case a => k_is); (case l => k_is); (case c => k_is); (case k => k_is))
      (case S_key_before => refine' Ks.srcH ?a ?l ?c ?k; (case a => k_is); (case l => k_is); (case c => k_is); (case k => k_is))
      (case S_count => refine' Ks.srcH ?a ?l ?c ?k; (case a => k_is); (case l => k_is); (case c => k_is); (case k => k_is))
      (case S_save => refine' Ks.srcH ?a ?l ?c ?k; (case a => k_is); (case l => k_is); (case c => k_is); (case k => k_is))
      (case S_back => refine' Ks.srcH ?a ?l ?c ?k; (case a => k_is); (case l => k_is); (case c => k_is); (case k => k_is))
      (case S_list_changes => refine' Ks.srcH ?a ?l ?c ?k; (case a => k_is); (case l => k_is); (case c => k_is); (case k => k_is))
      (case S_read_given => refine' Ks.srcH ?a ?l ?c ?k; (case a => k_is); (case l => k_is); (case c => k_is); (case k => k_is))
      (case S_do_call => refine' Ks.srcH ?a ?l ?c ?k; (case a => k_is); (case l => k_is); (case c => k_is); (case k => k_is))
      (case S_answers => refine' Ks.srcH ?a ?l ?c ?k; (case a => k_is); (case l => k_is); (case c => k_is); (case k => k_is))
      (case p_Reader => k_is)
      (case q_Reader => k_is)
      (case r_Reader => k_is)
      (case s_Reader => k_is)
      (case m_Reader => k_is)
      (case k_Reader => k_is)
      (case a_Reader_row => k_is)
      (case a_Reader_place => k_is)
      (case p_Draft => k_is)
      (case q_Draft => k_is)
      (case r_Draft => k_is)
      (case s_Draft => k_is)
      (case m_Draft => k_is)
      (case k_Draft => k_is)
      (case a_Draft_changes => k_is)
      (case a_Draft_record => k_is)
      (case a_Draft_effects => k_is)
      (case p_Looks => k_is)
      (case q_Looks => k_is)
      (case r_Looks => k_is)
      (case s_Looks => k_is)
      (case m_Looks => k_is)
      (case k_Looks => k_is)
      (case a_Looks_single_keys => k_is)
      (case a_Looks_stretches => k_is)
      (case p_Transaction => k_is)
      (case q_Transaction => k_is)
      (case r_Transaction => k_is)
      (case s_Transaction => k_is)
      (case m_Transaction => k_is)
      (case k_Transaction => k_is)
      (case a_Transaction_beginning => k_is)
      (case a_Transaction_draft => k_is)
      (case a_Transaction_savepoints => k_is)
      (case a_Transaction_looks => k_is)
      (case p_Desk => k_is)
      (case q_Desk => k_is)
      (case r_Desk => k_is)
      (case s_Desk => k_is)
      (case m_Desk => k_is)
      (case k_Desk => k_is)
      (case a_Desk_present => k_is)
      (case a_Desk_older_states => k_is)
      (case a_Desk_transactions => k_is)
      (case x_err => k_exc); (case k_err => k_is); (case b_err => k_is); (case t_err => k_is); (case i_err => k_is); (case s_err => first | rfl | k_is)
      (case c_WRONG => refine' Ks.intH ?a; (case a => k_is))
      (case c_ABSENT => refine' Ks.intH ?a; (case a => k_is))
      (case c_FULL => refine' Ks.intH ?a; (case a => k_is))
      (case c_DONE => refine' Ks.intH ?a; (case a => k_is))
      (case c_CLASH => refine' Ks.intH ?a; (case a => k_is))
      (case c_PUT => refine' Ks.intH ?a; (case a => k_is))
      (case c_REMOVE => refine' Ks.intH ?a; (case a => k_is))
      (case c_ADD => refine' Ks.intH ?a; (case a => k_is))
      (case c_LONGEST_KEY => refine' Ks.intH ?a; (case a => k_is))
      (case c_LONGEST_VALUE => refine' Ks.intH ?a; (case a => k_is))
      (case c_COUNT_LENGTH => refine' Ks.intH ?a; (case a => k_is))
      (case c_COUNTS_END => refine' Ks.intH ?a; (case a => k_is))
      (case c_COUNTS_IN_ALL => refine' Ks.intH ?a; (case a => k_is))
      (case c_LENGTH_BYTES => refine' Ks.intH ?a; (case a => k_is))
      (case c_UP => refine' Ks.intH ?a; (case a => k_is))
      (case c_DOWN => refine' Ks.intH ?a; (case a => k_is))
      (case c_MOST_LOOKS => refine' Ks.intH ?a; (case a => k_is))
      (case c_MOST_COMPARED => refine' Ks.intH ?a; (case a => k_is))
      (case c_LONGEST_RECORD => refine' Ks.intH ?a; (case a => k_is))
      (case c_MOST_SAVEPOINTS => refine' Ks.intH ?a; (case a => k_is))
      (case c_MOST_COUNTED => refine' Ks.intH ?a; (case a => k_is))
      (case c_SLOTS => refine' Ks.intH ?a; (case a => k_is))
      (case n_len => k_is)
      (case n_range => k_is)
      (case n_tuple => k_is)
      (case n_reversed => k_is)
      (case n_list => k_is)
      (case n_any => k_is)
      (case n_min => k_is)
      (case n_max => k_is)
      (case f1 => refine' Ks.formH ?a ?b; (case a => exact rfl); (case b => k_is))
      (case f2 => refine' Ks.formH ?a ?b; (case a => exact rfl); (case b => k_is))
      (case f3 => refine' Ks.formH ?a ?b; (case a => exact rfl); (case b => k_is))
      (case f4 => refine' Ks.formH ?a ?b; (case a => exact rfl); (case b => k_is))
      (case f5 => refine' Ks.formH ?a ?b; (case a => exact rfl); (case b => k_is))
      (case f6 => refine' Ks.formH ?a ?b; (case a => exact rfl); (case b => k_is))
      (case f7 => refine' Ks.formH ?a ?b; (case a => exact rfl); (case b => k_is))
      (case f10 => refine' Ks.formH ?a ?b; (case a => exact rfl); (case b => k_is))
      (case f11 => refine' Ks.formH ?a ?b; (case a => exact rfl); (case b => k_is))
      (case f12 => refine' Ks.formH ?a ?b; (case a => exact rfl); (case b => k_is))
      (case f13 => refine' Ks.formH ?a ?b; (case a => exact rfl); (case b => k_is))
      (case f14 => refine' Ks.formH ?a ?b; (case a => exact rfl); (case b => k_is))
      (case f15 => refine' Ks.formH ?a ?b; (case a => exact rfl); (case b => k_is))
      (case f16 => refine' Ks.formH ?a ?b; (case a => exact rfl); (case b => k_is))
      (case f17 => refine' Ks.formH ?a ?b; (case a => exact rfl); (case b => k_is))
      (case f18 => refine' Ks.formH ?a ?b; (case a => exact rfl); (case b => k_is))
      (case f19 => refine' Ks.formH ?a ?b; (case a => exact rfl); (case b => k_is))
      (case l_N => refine' Ks.nilH ?a; (case a => k_is))
      (case e1 => refine' Ks.tabH ?a ?b; (case a => k_is); (case b => exact rfl))
      (case e2 => refine' Ks.tabH ?a ?b; (case a => k_is); (case b => exact rfl))
      (case e3 => refine' Ks.tabH ?a ?b; (case a => k_is); (case b => exact rfl))
      (case e4 => refine' Ks.tabH ?a ?b; (case a => k_is); (case b => exact rfl))
      (case e5 => refine' Ks.tabH ?a ?b; (case a => k_is); (case b => exact rfl))
      (case e6 => refine' Ks.tabH ?a ?b; (case a => k_is); (case b => exact rfl))
      (case e7 => refine' Ks.tabH ?a ?b; (case a => k_is); (case b => exact rfl))
      (case e10 => refine' Ks.tabH ?a ?b; (case a => k_is); (case b => exact rfl))
      (case e11 => refine' Ks.tabH ?a ?b; (case a => k_is); (case b => exact rfl))
      (case e12 => refine' Ks.tabH ?a ?b; (case a => k_is); (case b => exact rfl))
      (case e13 => refine' Ks.tabH ?a ?b; (case a => k_is); (case b => exact rfl))
      (case e14 => refine' Ks.tabH ?a ?b; (case a => k_is); (case b => exact rfl))
      (case e15 => refine' Ks.tabH ?a ?b; (case a => k_is); (case b => exact rfl))
      (case e16 => refine' Ks.tabH ?a ?b; (case a => k_is); (case b => exact rfl))
      (case e17 => refine' Ks.tabH ?a ?b; (case a => k_is); (case b => exact rfl))
      (case e18 => refine' Ks.tabH ?a ?b; (case a => k_is); (case b => exact rfl))
      (case e19 => refine' Ks.tabH ?a ?b; (case a => k_is); (case b => exact rfl))
      (case u10 => exact rfl)
      (case u11 => exact rfl)
      (case u12 => exact rfl)
      (case u13 => exact rfl)
      (case u14 => exact rfl)
      (case u15 => exact rfl)
      (case u16 => exact rfl)
      (case u17 => exact rfl)
      (case u18 => exact rfl)
      (case u19 => exact rfl)
  case S =>
    intro K H xs a hO hwi hask hx
    cases hx with
    | cons h1 h2 =>
      cases h2
      cases h1 with
      | lst hs ha =>
        have e := L2.ints_dw a.1 _ ha
        subst e
        have q : ((Codec.inLen 0 16000 a.1 && a.1.all _) && true) = true := hwi
        rw [Bool.and_eq_true, Bool.and_eq_true] at q
        exact ⟨_, a.1, rfl, hs, (Codec.inNat_iff.mp q.1.1).2, hask, fun H' p hp => .lst (L2.SqL.of hp) (L2.dw_ints _)⟩
