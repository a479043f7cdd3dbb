/-
  Texts cut at what stands between ops, on plain lists.
-/
import Derived.Test.YtfocmbnhkldnfaaGreatDoorBp
namespace Go.Proofs.YtfocmbnhkldnfaaGreatDoor

/-- What is left of a call's text ahead of op j. -/
def leftT (l : List POp) (j : Nat) : Bs := callTxt (l.drop j)
theorem leftT_last {l : List POp} {j : Nat} (hj : j + 1 = l.length) : leftT l j = opTxt (l[j]'(by omega)) := by
  unfold leftT callTxt
  rw [List.drop_eq_getElem_cons (by omega), List.drop_of_length_le (by omega)]
  simp only [List.map_cons, List.map_nil]
  exact join_one _ _
theorem leftT_more {l : List POp} {j : Nat} (hj : j + 1 < l.length) : leftT l j = opTxt (l[j]'(by omega)) ++ ([59, 32] ++ leftT l (j + 1)) := by
  unfold leftT callTxt
  rw [List.drop_eq_getElem_cons (by omega), List.drop_eq_getElem_cons hj]
  simp only [List.map_cons]
  exact join_two _ _ _ _

/-- Where the document's Parse is at place i, if the text is a call's: op j began at a (or begins behind a blank). -/
def PAt (s : Bs) (l xs : List POp) (i a : Nat) : Prop := (i ≤ s.length ∧ (a ≤ i ∨ (a = i + 1 ∧ s[i]? = some 32)) ∧ xs.length < l.length ∧ xs = l.take xs.length ∧ s.drop a = leftT l xs.length ∧ (59 : UInt8) ∉ (s.take i).drop a) ∨ (i = s.length + 1 ∧ xs = l)

theorem pat_begin {s : Bs} {l : List POp} (h0 : l ≠ []) (hs : s = callTxt l) : PAt s l [] 0 0 := .inl ⟨by omega, .inl (by omega), List.length_pos_iff.2 h0, by simp, by rw [List.drop_zero, hs]; rfl, by simp⟩
/-- A place that is neither the end nor a mark. -/
theorem pat_step {s : Bs} {l xs : List POp} {i a : Nat} (h : PAt s l xs i a) (hi : i < s.length) (hc : s[i] ≠ 59) : PAt s l xs (i + 1) a := by
  rcases h with ⟨h1, h2, h3, h4, h5, h6⟩ | ⟨h1, _⟩
  · refine .inl ⟨by omega, .inl (by omega), h3, h4, h5, ?_⟩
    rw [List.take_succ_eq_append_getElem hi]
    intro e
    rcases h2 with h2 | ⟨h2, _⟩
    · rw [List.drop_append_of_le_length (by rw [List.length_take]; omega)] at e
      rcases List.mem_append.1 e with e | e
      · exact h6 e
      · simp at e
        exact hc e.symm
    · rw [List.drop_of_length_le (by simp; omega)] at e
      simp at e
  · omega
/-- A mark, or the end: what stands since a is op j's text. -/
theorem pat_cut {s : Bs} {l xs : List POp} {i a : Nat} (hm : ∀ o ∈ l, May o) (h : PAt s l xs i a) (hi : i = s.length ∨ ∃ h : i < s.length, s[i] = 59) : ∃ h : xs.length < l.length, (s.take i).drop a = opTxt l[xs.length] ∧ PAt s l (xs ++ [l[xs.length]]) (i + 1) (min (i + 2) s.length) ∧ a ≤ i := by
  rcases h with ⟨h1, h2, h3, h4, h5, h6⟩ | ⟨h1, h2⟩
  · have h2 : a ≤ i := by
      rcases h2 with h2 | ⟨_, h7⟩
      · exact h2
      · exfalso
        obtain ⟨h8, h9⟩ := List.getElem?_eq_some_iff.1 h7
        rcases hi with h | ⟨_, hc⟩
        · omega
        · rw [h9] at hc; exact absurd hc (by decide)
    refine ⟨h3, ?_⟩
    obtain ⟨o, ho⟩ : ∃ o, l[xs.length] = o := ⟨_, rfl⟩
    have hmo : May o := by rw [← ho]; exact hm _ (List.getElem_mem h3)
    have hno := opTxt_no59 hmo
    have htk : xs ++ [o] = l.take (xs.length + 1) := by rw [List.take_succ_eq_append_getElem h3, ho, ← h4]
    have hat : ∀ (hh : i < s.length), s[i] = 59 → ∀ y r : Bs, s.drop a = y ++ r → i - a < y.length → (59 : UInt8) ∈ y := by
      intro hh hc y r e hlt
      have e1 : (s.drop a)[i - a]? = some 59 := by
        rw [List.getElem?_drop, show a + (i - a) = i by omega, List.getElem?_eq_getElem hh, hc]
      rw [e, List.getElem?_append_left hlt] at e1
      exact List.mem_of_getElem? e1
    rw [ho]
    by_cases hlast : xs.length + 1 = l.length
    · have e := leftT_last hlast
      rw [ho] at e
      rw [e] at h5
      have hlen : s.length - a = (opTxt o).length := by have := congrArg List.length h5; simpa using this
      have hi2 : i = s.length := by
        rcases hi with h | ⟨hh, hc⟩
        · exact h
        · exact absurd (hat hh hc (opTxt o) [] (by simpa using h5) (by omega)) hno
      refine ⟨?_, .inr ⟨by omega, ?_⟩, h2⟩
      · rw [List.take_of_length_le (by omega), h5]
      · rw [htk, hlast, List.take_length]
    · have hj : xs.length + 1 < l.length := by omega
      have e := leftT_more hj
      rw [ho] at e
      rw [e] at h5
      have hlen : s.length - a = (opTxt o).length + ((leftT l (xs.length + 1)).length + 2) := by have := congrArg List.length h5; simpa [Nat.add_assoc] using this
      have htake : (s.take i).drop a = (opTxt o ++ ([59, 32] ++ leftT l (xs.length + 1))).take (i - a) := by rw [List.drop_take, h5]
      have hi2 : i = a + (opTxt o).length := by
        rcases Nat.lt_trichotomy (i - a) (opTxt o).length with hlt | heq | hgt
        · exfalso
          rcases hi with h | ⟨hh, hc⟩
          · omega
          · exact hno (hat hh hc (opTxt o) _ h5 hlt)
        · omega
        · exfalso
          apply h6
          obtain ⟨m, hm2⟩ : ∃ m, i - a = (opTxt o).length + (m + 1) := ⟨i - a - (opTxt o).length - 1, by omega⟩
          rw [htake, hm2, List.take_append]
          simp
      have hil : i + 2 ≤ s.length := by omega
      have hdrop : s.drop (i + 2) = leftT l (xs.length + 1) := by
        rw [hi2, show a + (opTxt o).length + 2 = a + ((opTxt o).length + 2) by omega, ← List.drop_drop, h5, ← List.append_assoc, show (opTxt o).length + 2 = (opTxt o ++ [59, 32]).length by simp, List.drop_left]
      refine ⟨?_, .inl ⟨by omega, .inr ⟨by omega, ?_⟩, by simp; omega, ?_, ?_, ?_⟩, h2⟩
      · rw [htake, show i - a = (opTxt o).length by omega, List.take_left]
      · have e1 : (s.drop a)[(opTxt o).length + 1]? = some 32 := by rw [h5, List.getElem?_append_right (by omega)]; simp
        rw [List.getElem?_drop] at e1
        rw [hi2, Nat.add_assoc]
        exact e1
      · rw [List.length_append]; simpa using htk
      · rw [Nat.min_eq_left hil, hdrop, List.length_append]; rfl
      · rw [List.drop_of_length_le (by simp; omega)]; simp
  · exfalso
    rcases hi with h | ⟨hh, _⟩ <;> omega
end Go.Proofs.YtfocmbnhkldnfaaGreatDoor
