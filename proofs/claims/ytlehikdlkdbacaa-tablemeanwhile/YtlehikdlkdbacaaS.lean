/-
  Rank: by halves.
-/
import Derived.Test.YtlehikdlkdbacaaT
import Derived.Test.YtlehikdlkdbacaaDiskAll
namespace Go.Proofs.Ytlehikdlkdbacaa
open Go.RowKit Disk
open Names (cmpL)

/-- The keys rise. -/
def Rise (l : List PRow) : Prop := ∀ (i j : Nat) (hi : i < l.length) (hj : j < l.length), i < j → cmpL l[i].1 l[j].1 < 0
/-- How many rows have a key below: of rows that rise. -/
def rankL (l : List PRow) (key : Bs) : Nat := (l.takeWhile fun r => decide (cmpL r.1 key < 0)).length
theorem rank_le (l : List PRow) (key : Bs) : rankL l key ≤ l.length := by
  unfold rankL
  exact (List.takeWhile_sublist _).length_le
/-- What stands below the rank, and from it on. -/
theorem rank_unique {l : List PRow} {key : Bs} {k : Nat} (hk : k ≤ l.length) (h1 : ∀ (i : Nat) (hi : i < l.length), i < k → cmpL l[i].1 key < 0) (h2 : ∀ hk : k < l.length, ¬ cmpL l[k].1 key < 0) : rankL l key = k := by
  unfold rankL
  have e : l = l.take k ++ l.drop k := (List.take_append_drop k l).symm
  rw [e, List.takeWhile_append_of_pos]
  · rcases Nat.lt_or_ge k l.length with hlt | hge
    · rw [List.drop_eq_getElem_cons hlt, List.takeWhile_cons_of_neg (by simpa using h2 hlt)]
      simp; omega
    · rw [List.drop_of_length_le hge]
      simp; omega
  · intro r hr
    obtain ⟨i, hi, rfl⟩ := List.mem_iff_getElem.1 hr
    rw [List.length_take] at hi
    rw [List.getElem_take]
    exact decide_eq_true (h1 i (by omega) (by omega))
theorem rise_below {l : List PRow} {key : Bs} (hr : Rise l) {i j : Nat} (hi : i < l.length) (hj : j < l.length) (hij : i ≤ j) (h : cmpL l[j].1 key < 0) : cmpL l[i].1 key < 0 := by
  rcases Nat.lt_or_ge i j with hlt | hge
  · have h1 := hr i j hi hj hlt
    exact Names.cmp_lt_trans (by omega) h
  · have : i = j := by omega
    subst this
    exact h
end Go.Proofs.Ytlehikdlkdbacaa
