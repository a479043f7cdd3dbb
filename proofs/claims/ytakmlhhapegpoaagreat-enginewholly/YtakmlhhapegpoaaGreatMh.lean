/-
  Texts held against each other; what New makes of named rows, on plain lists.
-/
import Derived.Test.YtakmlhhapegpoaaGreatMfgAll
namespace Go.Proofs.YtakmlhhapegpoaaGreat
open Go.RowKit Disk Table
open Names (Str cmpL keyB valueB tabB)

theorem less_cmp : ∀ (a b : Bs), Op.bytesLess a b = decide (cmpL a b < 0)
  | [], [] => by simp [Op.bytesLess, cmpL]
  | [], _ :: _ => by simp [Op.bytesLess, cmpL]
  | _ :: _, [] => by simp [Op.bytesLess, cmpL]
  | a :: x, b :: y => by
    unfold Op.bytesLess cmpL
    have ih := less_cmp x y
    by_cases h1 : a.toNat < b.toNat
    · have : a < b := UInt8.lt_iff_toNat_lt.2 h1
      simp [h1, this]
    · by_cases h2 : b.toNat < a.toNat
      · have n1 : ¬ a < b := fun h => h1 (UInt8.lt_iff_toNat_lt.1 h)
        have n2 : a ≠ b := fun h => by rw [h] at h2; omega
        simp [h1, h2, n1, n2]
      · have e : a = b := UInt8.toNat_inj.1 (by omega)
        subst e
        simp [ih]
theorem run_leq9 (a b : Bs) (w : World) : (binOp .leq 9 (Str a) (Str b)).run Tryz.prog w = .ok (.bool (decide (¬ cmpL b a < 0))) w := by
  have h : binOp .leq 9 (Str a) (Str b) = pure (.bool (Op.bytesLess a b || (a == b))) := by simp [Str, binOp, Op.stringOp]
  rw [h]
  have e : (Op.bytesLess a b || (a == b)) = decide (¬ cmpL b a < 0) := by
    rw [less_cmp]
    have hf := Names.cmp_flip a b
    rcases Names.cmp_range a b with h | h | h
    · have : ¬ cmpL b a < 0 := by omega
      simp [h, this]
    · have : a = b := Names.cmp_zero h
      subst this
      simp [h]
    · have h1 : cmpL b a < 0 := by omega
      have h2 : a ≠ b := fun e => by rw [e, Names.cmp_self] at h; omega
      simp [h, h1, h2]
  rw [e]
  rfl

theorem front_pos (r : NRow) (l : List NRow) : 1 ≤ (front (r :: l)).length := by simp [front]
theorem front_le (l : List NRow) : (front l).length ≤ l.length := by
  cases l with
  | nil => simp [front]
  | cons r l => exact (List.takeWhile_sublist _).length_le
open Classical in
/-- The database of named rows, or none: behind D, whose last name is 'last'. -/
noncomputable def newD (D : DB) (last : Bs) : List NRow → Option DB
  | [] => some D
  | r :: l => if Table.Good (frontR (r :: l)) ∧ tabB r.1 = true ∧ cmpL last r.1 < 0 then newD (standD D r.1 (frontR (r :: l))) r.1 ((r :: l).drop (front (r :: l)).length) else none
termination_by l => l.length
decreasing_by
  have h1 := front_pos r l
  rw [List.length_drop]
  simp only [List.length_cons]
  omega

theorem set_mem {D : DB} {n : Bs} {r : List PRow} {x : Bs × List PRow} (h : x ∈ setD D n r) : x = (n, r) ∨ x ∈ D := by
  induction D with
  | nil => simp [setD] at h; exact .inl h
  | cons y D ih =>
    unfold setD at h
    split at h
    · rcases List.mem_cons.1 h with h | h
      · exact .inl h
      · exact .inr (by simp [h])
    · split at h
      · rcases List.mem_cons.1 h with h | h
        · exact .inl h
        · exact .inr h
      · rcases List.mem_cons.1 h with h | h
        · exact .inr (by simp [h])
        · rcases ih h with h | h
          · exact .inl h
          · exact .inr (by simp [h])
theorem stand_mem {D : DB} {n : Bs} {r : List PRow} {x : Bs × List PRow} (h : x ∈ standD D n r) : (x = (n, r) ∧ r.length ≠ 0) ∨ x ∈ D := by
  unfold standD at h
  split at h
  · exact .inr (List.mem_filter.1 h).1
  · rename_i hr
    rcases set_mem h with h | h
    · exact .inl ⟨h, hr⟩
    · exact .inr h
theorem len_set (D : DB) (n : Bs) (r : List PRow) : lenD (setD D n r) ≤ lenD D + r.length := by
  induction D with
  | nil => simp [setD, lenD]
  | cons y D ih =>
    unfold setD
    split
    · simp [lenD]; omega
    · split
      · simp [lenD]; omega
      · simp only [lenD, List.map_cons, List.sum_cons] at ih ⊢
        omega
theorem len_del (D : DB) (n : Bs) : lenD (delD D n) ≤ lenD D := by
  induction D with
  | nil => simp [delD, lenD]
  | cons y D ih =>
    unfold delD at ih ⊢
    rw [List.filter_cons]
    split
    · simp only [lenD, List.map_cons, List.sum_cons] at ih ⊢
      omega
    · simp only [lenD, List.map_cons, List.sum_cons] at ih ⊢
      omega
theorem len_stand (D : DB) (n : Bs) (r : List PRow) : lenD (standD D n r) ≤ lenD D + r.length := by
  unfold standD
  split
  · have := len_del D n
    omega
  · exact len_set D n r
theorem GoodD.stand {D : DB} (h : GoodD D) (n : Bs) {r : List PRow} (hr : Table.Good r) (hl : lenD D + r.length ≤ 1000000) : GoodD (standD D n r) := by
  refine ⟨rise_standD h.rise n r, fun x hx => ?_, fun x hx => ?_, Nat.le_trans (len_stand D n r) hl⟩
  · rcases stand_mem hx with ⟨rfl, h1⟩ | hx
    · intro e
      simp only at e
      rw [e] at h1
      exact h1 rfl
    · exact h.some x hx
  · rcases stand_mem hx with ⟨rfl, _⟩ | hx
    · exact hr
    · exact h.good x hx
theorem good_nil : GoodD [] := ⟨List.Pairwise.nil, by simp, by simp, by simp [lenD]⟩
end Go.Proofs.YtakmlhhapegpoaaGreat
