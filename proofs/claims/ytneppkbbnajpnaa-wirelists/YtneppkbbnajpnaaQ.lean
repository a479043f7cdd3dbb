/-
  Plain facts: what was written is read as it was; what is read is what is written of it; a byte less ends within it.
-/
import Derived.Test.YtneppkbbnajpnaaB
namespace Go.Proofs.Ytneppkbbnajpnaa
open Go.RowKit

theorem rdNum_form (n : Nat) (h : n < 2 ^ 64) (rest : List UInt8) : rdNum (numForm n ++ rest) = (n, 0, rest) := by
  rw [rdNum_some (scan_num n h rest)]; simp

theorem rdBytes_form (T rest : List UInt8) (most : Int) (h : T.length < 2 ^ 64) (hm : (T.length : Int) ≤ most) : rdBytes (bytesForm T ++ rest) most = (T, 0, rest) := by
  have hs : scan 0 0 (bytesForm T ++ rest) = some (T.length, (numForm T.length).length) := by rw [bytesForm, List.append_assoc]; exact scan_num _ h _
  have hd : (bytesForm T ++ rest).drop (numForm T.length).length = T ++ rest := by rw [bytesForm, List.append_assoc]; simp
  rw [rdBytes_ok (by omega) hs (by omega) (by rw [hd]; simp)]
  rw [hd]; simp

theorem rdFlag_form (F : Bool) : rdFlag (flagForm F) = (F, 0, []) := by cases F <;> rfl

/-- Bytes that are read: an error above 2, and nothing is passed; or what is written of them begins the list. -/
theorem rdBytes_cases (L : List UInt8) (most : Int) (h0 : 0 ≤ most) :
    ((rdBytes L most).1 = [] ∧ ((rdBytes L most).2.1 = 3 ∨ (rdBytes L most).2.1 = 4) ∧ (rdBytes L most).2.2 = L) ∨
    ∃ y rest, rdBytes L most = (y, 0, rest) ∧ L = bytesForm y ++ rest ∧ (y.length : Int) ≤ most := by
  cases hn : scan 0 0 L with
  | none => left; rw [rdBytes_none h0 hn]; simp
  | some x =>
    obtain ⟨n, k⟩ := x
    by_cases hl : most < (n : Int)
    · left; rw [rdBytes_long h0 hn hl]; simp
    · by_cases hf : (L.drop k).length < n
      · left; rw [rdBytes_few h0 hn hl hf]; simp
      · right
        refine ⟨_, _, rdBytes_ok h0 hn hl hf, ?_, ?_⟩
        · have ht := form_scan0 L n k hn
          have hy : ((L.drop k).take n).length = n := by simp; simp at hf; omega
          unfold bytesForm
          rw [hy, ← ht, List.append_assoc, List.take_append_drop, List.take_append_drop]
        · simp; omega

/-- A byte less: the bytes end within. -/
theorem rdBytes_short (y : List UInt8) (most : Int) (h : y.length < 2 ^ 64) (hm : (y.length : Int) ≤ most) :
    rdBytes ((bytesForm y).take ((bytesForm y).length - 1)) most = ([], 4, (bytesForm y).take ((bytesForm y).length - 1)) := by
  by_cases hy : y = []
  · subst hy
    have e : bytesForm [] = [0] := by unfold bytesForm; rw [List.length_nil, numForm_small (by decide)]; rfl
    rw [e]
    exact rdBytes_none (by simp at hm; omega) rfl
  · have hp : 0 < y.length := List.length_pos_iff.2 hy
    have e : (bytesForm y).take ((bytesForm y).length - 1) = numForm y.length ++ y.take (y.length - 1) := by
      unfold bytesForm
      rw [List.length_append, List.take_append, List.take_of_length_le (by omega)]
      congr 2; omega
    rw [e]
    have hs := scan_num y.length h (y.take (y.length - 1))
    exact rdBytes_few (by omega) hs (by omega) (by simp; omega)

end Go.Proofs.Ytneppkbbnajpnaa
