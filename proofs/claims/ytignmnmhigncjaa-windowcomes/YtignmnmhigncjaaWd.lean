/-
  Plain lists: the numbers that are out, taken back one by one.
-/
import Derived.Test.YtignmnmhigncjaaWb
namespace Go.Proofs.Ytignmnmhigncjaa
open Go.RowKit Disk

/-- The numbers that are out, of the first k. -/
def nums {α : Type} (L : List (Option α)) : Nat → List Int
  | 0 => []
  | k + 1 => nums L k ++ (if ((L[k]?).join).isSome then [((k + 1 : Nat) : Int)] else [])
theorem nums_none {α : Type} {L : List (Option α)} {k : Nat} (h : L[k]? = some none) : nums L (k + 1) = nums L k := by simp [nums, h]
theorem nums_some {α : Type} {L : List (Option α)} {k : Nat} {t : α} (h : L[k]? = some (some t)) : nums L (k + 1) = nums L k ++ [((k + 1 : Nat) : Int)] := by simp [nums, h]
theorem nums_same {α : Type} {L : List (Option α)} {s j : Nat} (h1 : s ≤ j) (h2 : ∀ i, s ≤ i → i < j → L[i]? = some none) : nums L j = nums L s := by
  obtain ⟨d, rfl⟩ : ∃ d, j = s + d := ⟨j - s, by omega⟩
  clear h1
  induction d with
  | zero => rfl
  | succ d ih =>
    rw [← Nat.add_assoc, nums_none (h2 (s + d) (by omega) (by omega))]
    exact ih fun i a b => h2 i a (by omega)
theorem nums_step {α : Type} {L : List (Option α)} {s j : Nat} {t : α} (h1 : s ≤ j) (h2 : ∀ i, s ≤ i → i < j → L[i]? = some none) (h3 : L[j]? = some (some t)) : nums L (j + 1) = nums L s ++ [((j + 1 : Nat) : Int)] := by
  rw [nums_some h3, nums_same h1 h2]
theorem nums_fin {α : Type} {L : List (Option α)} {s : Nat} (hs : s ≤ L.length) (h : ∀ i, s ≤ i → i < L.length → L[i]? = some none) : nums L s = nums L L.length := (nums_same hs h).symm
theorem nums_len {α : Type} (L : List (Option α)) : ∀ k, (nums L k).length = outN L k
  | 0 => by simp [nums, outN]
  | k + 1 => by
    have ih := nums_len L k
    unfold outN at ih ⊢
    rw [List.take_add_one, List.countP_append, ← ih]
    cases h : L[k]? with
    | none => simp [nums, h]
    | some o => cases o <;> simp [nums, h]
theorem nums_mem {α : Type} (L : List (Option α)) : ∀ (k : Nat) (z : Int), z ∈ nums L k ↔ ((outD L z).isSome = true ∧ z ≤ (k : Int))
  | 0, z => by
    simp only [nums, List.not_mem_nil, false_iff]
    rintro ⟨h1, h2⟩
    unfold outD at h1
    rw [if_neg (by omega)] at h1
    cases h1
  | k + 1, z => by
    have ih := nums_mem L k z
    simp only [nums, List.mem_append, ih]
    constructor
    · rintro (⟨h1, h2⟩ | h)
      · exact ⟨h1, by omega⟩
      · split at h
        · rename_i h3
          simp only [List.mem_singleton] at h
          subst h
          exact ⟨by rw [outD_nat]; exact h3, Int.le_refl _⟩
        · cases h
    · rintro ⟨h1, h2⟩
      by_cases e : z = ((k + 1 : Nat) : Int)
      · subst e
        rw [outD_nat] at h1
        exact .inr (by rw [if_pos h1]; simp)
      · exact .inl ⟨h1, by omega⟩
theorem nums_all {α : Type} (L : List (Option α)) (z : Int) : z ∈ nums L L.length ↔ (outD L z).isSome = true := by
  rw [nums_mem]
  constructor
  · exact fun h => h.1
  · intro h
    refine ⟨h, ?_⟩
    by_cases h2 : (L.length : Int) < z
    · rw [outD_high h2] at h
      cases h
    · omega
theorem nums_asc {α : Type} (L : List (Option α)) : ∀ k, (nums L k).Pairwise (· < ·)
  | 0 => by simp [nums]
  | k + 1 => by
    simp only [nums]
    rw [List.pairwise_append]
    refine ⟨nums_asc L k, ?_, fun a ha c hc => ?_⟩
    · split <;> simp
    · split at hc
      · simp only [List.mem_singleton] at hc
        subst hc
        have := ((nums_mem L k a).1 ha).2
        omega
      · cases hc
theorem outD_put {α : Type} (L : List (Option α)) (z z' : Int) : outD (putL L z none) z' = if z' = z then none else outD L z' := by
  cases h : outD L z with
  | none =>
    rw [putL_none h]
    split
    · rename_i e
      rw [e, h]
    · rfl
  | some t =>
    obtain ⟨k, rfl, hk, _⟩ := outD_some h
    rw [putL_some h]
    by_cases h1 : 1 ≤ z'
    · obtain ⟨j, rfl⟩ : ∃ j : Nat, z' = ((j + 1 : Nat) : Int) := ⟨(z' - 1).toNat, by omega⟩
      rw [outD_nat, outD_nat]
      by_cases e : j = k
      · subst e
        rw [if_pos rfl, List.getElem?_set_self (List.getElem?_eq_some_iff.1 hk).1]
        rfl
      · rw [if_neg (by omega), List.getElem?_set_ne (fun h => e h.symm)]
    · rw [if_neg (by omega)]
      unfold outD
      rw [if_neg h1, if_neg h1]
/-- Of N the first r are out still. -/
def Left {α : Type} (N : List Int) (n r : Nat) (L : List (Option α)) : Prop := L.length = n ∧ ∀ z, (outD L z).isSome = true ↔ z ∈ N.take r
theorem left_all {α : Type} (L : List (Option α)) : Left (nums L L.length) L.length (nums L L.length).length L := ⟨rfl, fun z => by rw [List.take_length, nums_all]⟩
theorem left_next {α : Type} {N : List Int} {n r : Nat} {L : List (Option α)} (hN : N.Pairwise (· < ·)) (h : Left N n (r + 1) L) (hr : r < N.length) : (∃ t, outD L N[r] = some t) ∧ Left N n r (putL L N[r] none) := by
  have hmem : N[r] ∈ N.take (r + 1) := by
    rw [List.take_add_one, List.getElem?_eq_getElem hr, List.mem_append]
    exact .inr (by simp only [Option.toList_some, List.mem_singleton])
  have h1 := (h.2 N[r]).2 hmem
  refine ⟨Option.isSome_iff_exists.1 h1, by rw [putL_len]; exact h.1, fun z => ?_⟩
  rw [outD_put]
  have hno : N[r] ∉ N.take r := by
    intro hm
    obtain ⟨i, hi, e⟩ := List.getElem_of_mem hm
    simp at hi
    rw [List.getElem_take] at e
    have := List.pairwise_iff_getElem.1 hN i r (by omega) hr (by omega)
    omega
  by_cases e : z = N[r]
  · subst e
    rw [if_pos rfl]
    simp [hno]
  · rw [if_neg e, h.2 z, List.take_add_one, List.getElem?_eq_getElem hr, List.mem_append]
    simp only [Option.toList_some, List.mem_singleton, e, or_false]
theorem left_none {α : Type} {N : List Int} {n : Nat} {L : List (Option α)} (h : Left N n 0 L) : lead L = L.length ∧ outN L L.length = 0 := by
  have hno : ∀ k, k < L.length → L[k]? = some none := by
    intro k hk
    have h1 := h.2 ((k + 1 : Nat) : Int)
    rw [outD_nat, List.getElem?_eq_getElem hk] at h1
    rw [List.getElem?_eq_getElem hk]
    cases he : L[k] with
    | none => rfl
    | some t => rw [he] at h1; simp at h1
  refine ⟨lead_eq L L.length hno (.inl rfl), ?_⟩
  have := outN_same (L := L) (Nat.zero_le L.length) fun i _ h2 => hno i h2
  rw [this, outN_zero]
theorem lead_back {α : Type} (L : List (Option α)) (z : Int) : lead L ≤ lead (putL L z none) := by
  have h0 : ∀ k, k < lead L → (putL L z none)[k]? = some none := by
    intro k hk
    have h1 := lead_low L k hk
    unfold putL
    split
    · by_cases e : (z - 1).toNat = k
      · rw [e, List.getElem?_set_self (List.getElem?_eq_some_iff.1 h1).1]
      · rw [List.getElem?_set_ne e]
        exact h1
    · exact h1
  rcases Nat.lt_or_ge (lead (putL L z none)) (lead L) with h | h
  · have h1 := h0 _ h
    rcases lead_next (putL L z none) with e | ⟨t, e⟩
    · have := lead_le L
      rw [putL_len] at e
      omega
    · rw [e] at h1
      cases h1
  · exact h
end Go.Proofs.Ytignmnmhigncjaa
