/-
  Plain lists of things, none where a number is back: how far all are back, what is out.
-/
import Derived.Test.YtignmnmhigncjaaNb
import Derived.Laws.OwnMore
namespace Go.Proofs.Ytignmnmhigncjaa
open Go.RowKit Disk

/-- How many are back at the beginning: the mark. -/
def lead {α : Type} : List (Option α) → Nat
  | none :: r => lead r + 1
  | _ => 0
theorem lead_le {α : Type} : ∀ L : List (Option α), lead L ≤ L.length
  | [] => Nat.le_refl _
  | none :: r => by have := lead_le r; simp [lead]; omega
  | some _ :: r => by simp [lead]
theorem lead_low {α : Type} : ∀ (L : List (Option α)) (k : Nat), k < lead L → L[k]? = some none
  | [], k, h => by simp [lead] at h
  | none :: r, 0, _ => rfl
  | none :: r, k + 1, h => by
    have := lead_low r k (by simp [lead] at h; omega)
    simpa using this
  | some _ :: r, k, h => by simp [lead] at h
theorem lead_next {α : Type} : ∀ L : List (Option α), lead L = L.length ∨ ∃ t, L[lead L]? = some (some t)
  | [] => .inl rfl
  | none :: r => by
    rcases lead_next r with h | ⟨t, h⟩
    · exact .inl (by simp [lead, h])
    · exact .inr ⟨t, by simpa [lead] using h⟩
  | some t :: r => .inr ⟨t, rfl⟩
theorem lead_eq {α : Type} : ∀ (L : List (Option α)) (m : Nat), (∀ k, k < m → L[k]? = some none) → (m = L.length ∨ ∃ t, L[m]? = some (some t)) → lead L = m
  | [], m, h, h2 => by
    rcases h2 with h2 | ⟨t, h2⟩
    · exact h2.symm
    · simp at h2
  | none :: r, 0, h, h2 => by simp at h2
  | none :: r, m + 1, h, h2 => by
    have := lead_eq r m (fun k hk => by simpa using h (k + 1) (by omega)) (by simpa using h2)
    simp [lead, this]
  | some t :: r, 0, h, h2 => rfl
  | some t :: r, m + 1, h, h2 => by
    have := h 0 (by omega)
    simp at this
theorem lead_push {α : Type} (L : List (Option α)) (x : α) : lead (L ++ [some x]) = lead L := by
  have h0 := lead_le L
  refine lead_eq _ _ (fun k hk => ?_) ?_
  · rw [List.getElem?_append_left (by omega)]
    exact lead_low L k hk
  · rcases lead_next L with h | ⟨t, h⟩
    · exact .inr ⟨x, by rw [h]; simp⟩
    · have hl := (List.getElem?_eq_some_iff.1 h).1
      exact .inr ⟨t, by rw [List.getElem?_append_left hl]; exact h⟩
theorem lead_put {α : Type} (L : List (Option α)) (k : Nat) (x y : α) (hk : L[k]? = some (some y)) : lead (L.set k (some x)) = lead L := by
  have h0 := lead_le L
  obtain ⟨hl, he⟩ := List.getElem?_eq_some_iff.1 hk
  refine lead_eq _ _ (fun j hj => ?_) ?_
  · have h1 := lead_low L j hj
    by_cases e : k = j
    · subst e
      rw [hk] at h1
      cases h1
    · rw [List.getElem?_set_ne e]
      exact h1
  · rcases lead_next L with h | ⟨t, h⟩
    · exact .inl (by simpa using h)
    · by_cases e : k = lead L
      · exact .inr ⟨x, by rw [← e, List.getElem?_set_self hl]⟩
      · exact .inr ⟨t, by rw [List.getElem?_set_ne e]; exact h⟩
/-- The thing of a number that is out. -/
def outD {α : Type} (L : List (Option α)) (z : Int) : Option α := if 1 ≤ z then (L[(z - 1).toNat]?).join else none
theorem outD_some {α : Type} {L : List (Option α)} {z : Int} {t : α} (h : outD L z = some t) : ∃ k : Nat, z = ((k + 1 : Nat) : Int) ∧ L[k]? = some (some t) ∧ (z - 1).toNat = k := by
  unfold outD at h
  by_cases hz : 1 ≤ z
  · rw [if_pos hz] at h
    refine ⟨(z - 1).toNat, by omega, ?_, rfl⟩
    cases hg : L[(z - 1).toNat]? with
    | none => rw [hg] at h; cases h
    | some o => rw [hg] at h; simp at h; rw [h]
  · rw [if_neg hz] at h
    cases h
theorem outD_nat {α : Type} (L : List (Option α)) (k : Nat) : outD L ((k + 1 : Nat) : Int) = (L[k]?).join := by
  unfold outD
  rw [if_pos (by omega)]
  congr 2
  omega
theorem outD_low {α : Type} {L : List (Option α)} {m : Nat} (h : ∀ k, k < m → L[k]? = some none) {z : Int} (hz : z ≤ (m : Int)) : outD L z = none := by
  unfold outD
  by_cases h1 : 1 ≤ z
  · rw [if_pos h1, h _ (by omega)]
    rfl
  · rw [if_neg h1]
theorem outD_high {α : Type} {L : List (Option α)} {z : Int} (hz : (L.length : Int) < z) : outD L z = none := by
  unfold outD
  rw [if_pos (by omega), List.getElem?_eq_none (by omega)]
  rfl
/-- One put, or taken, where a number is out. -/
def putL {α : Type} (L : List (Option α)) (z : Int) (o : Option α) : List (Option α) := if (outD L z).isSome then L.set (z - 1).toNat o else L
theorem putL_len {α : Type} (L : List (Option α)) (z : Int) (o : Option α) : (putL L z o).length = L.length := by
  unfold putL
  split <;> simp
theorem putL_none {α : Type} {L : List (Option α)} {z : Int} (h : outD L z = none) (o : Option α) : putL L z o = L := by
  unfold putL
  rw [h]
  rfl
theorem putL_some {α : Type} {L : List (Option α)} {k : Nat} {t : α} (h : outD L ((k + 1 : Nat) : Int) = some t) (o : Option α) : putL L ((k + 1 : Nat) : Int) o = L.set k o := by
  unfold putL
  rw [h, Option.isSome_some, if_pos rfl]
  congr 1
  omega
theorem mod_apart {n m j k : Nat} (h1 : m ≤ j) (h2 : j < m + n) (h3 : m ≤ k) (h4 : k < m + n) (hne : j ≠ k) : (j + 1) % n ≠ (k + 1) % n := by
  intro e
  have key : ∀ a b : Nat, a < b → b < a + n → (a + 1) % n = (b + 1) % n → False := by
    intro a b hab hb he
    have := Nat.sub_mod_eq_zero_of_mod_eq he.symm
    rw [Nat.mod_eq_of_lt (by omega)] at this
    omega
  rcases Nat.lt_or_gt_of_ne hne with h | h
  · exact key j k h (by omega) e
  · exact key k j h (by omega) e.symm
theorem made_one (z : Value) (n : Nat) : (madeCells #[z] (n * 1)).toList = List.replicate n z := by
  apply List.ext_getElem?
  intro k
  by_cases hk : k < n
  · simp [madeCells, hk, Nat.mod_one]
  · rw [List.getElem?_eq_none (by simp [madeCells]; omega), List.getElem?_eq_none (by simp; omega)]
theorem al1 (w : World) (c : Array Value) (t : Nat) : ∃ w1, w.alloc (.cells c t) = w1 ∧ Hid (Blk w1 w.heap.size t c ∧ w.grownBy w1 none ∧ w1.heap.size = w.heap.size + 1) :=
  ⟨_, rfl, heap_alloc_new _ _, World.grownBy_alloc _ _ _, by simp⟩
/-- A set of blocks, and the new ones. -/
def Qn (Q : Nat → Prop) (w w' : World) (i : Nat) : Prop := Q i ∨ (w.heap.size ≤ i ∧ i < w'.heap.size)
end Go.Proofs.Ytignmnmhigncjaa
