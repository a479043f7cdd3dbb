/-
  How many are out up to a place; what stays through a loop's records.
-/
import Derived.Test.YtignmnmhigncjaaWa
import Derived.Test.YtignmnmhigncjaaPq
namespace Go.Proofs.Ytignmnmhigncjaa
open Go.RowKit Disk Table

/-- How many of the first k are out. -/
def outN {α : Type} (L : List (Option α)) (k : Nat) : Nat := (L.take k).countP Option.isSome
theorem outN_zero {α : Type} (L : List (Option α)) : outN L 0 = 0 := by simp [outN]
theorem outN_le {α : Type} (L : List (Option α)) (k : Nat) : outN L k ≤ L.length := by
  unfold outN
  exact Nat.le_trans List.countP_le_length (by simp; omega)
theorem outN_none {α : Type} {L : List (Option α)} {k : Nat} (h : L[k]? = some none) : outN L (k + 1) = outN L k := by
  unfold outN
  rw [List.take_add_one, h, List.countP_append]
  rfl
theorem outN_some {α : Type} {L : List (Option α)} {k : Nat} {t : α} (h : L[k]? = some (some t)) : outN L (k + 1) = outN L k + 1 := by
  unfold outN
  rw [List.take_add_one, h, List.countP_append]
  rfl
theorem outN_same {α : Type} {L : List (Option α)} {s j : Nat} (h1 : s ≤ j) (h2 : ∀ i, s ≤ i → i < j → L[i]? = some none) : outN L j = outN L s := by
  obtain ⟨d, rfl⟩ : ∃ d, j = s + d := ⟨j - s, by omega⟩
  clear h1
  induction d with
  | zero => rfl
  | succ d ih =>
    rw [← Nat.add_assoc, outN_none (h2 (s + d) (by omega) (by omega))]
    exact ih fun i a b => h2 i a (by omega)
theorem outN_step {α : Type} {L : List (Option α)} {s j : Nat} {t : α} (h1 : s ≤ j) (h2 : ∀ i, s ≤ i → i < j → L[i]? = some none) (h3 : L[j]? = some (some t)) : outN L (j + 1) = outN L s + 1 := by
  rw [outN_some h3, outN_same h1 h2]
theorem outN_fin {α : Type} {L : List (Option α)} {s : Nat} (h : ∀ i, s ≤ i → i < L.length → L[i]? = some none) : outN L s = outN L L.length := by
  rcases Nat.le_total s L.length with h1 | h1
  · exact (outN_same h1 h).symm
  · unfold outN
    rw [List.take_of_length_le h1, List.take_length]
theorem tx_grown {n0 : Nat} {w W W' : World} (h : Tx n0 W W') (hg : w.grownBy W none) (hn : w.heap.size ≤ n0) : w.grownBy W' none :=
  ⟨h.os.trans hg.os, h.tape.trans hg.tape, h.output.trans hg.output, Nat.le_trans hg.size h.size, fun i hi _ => (h.block i (Nat.lt_of_lt_of_le hi hg.size) (.inl (by omega))).trans (hg.block i hi (by simp))⟩
theorem al3 (w : World) (A B D : Array Value) (s t u : Nat) : ∃ W, ((w.alloc (.cells A s)).alloc (.cells B t)).alloc (.cells D u) = W ∧ Hid (Blk W w.heap.size s A ∧ Blk W (w.heap.size + 1) t B ∧ Blk W (w.heap.size + 1 + 1) u D ∧ w.grownBy W none ∧ W.heap.size = w.heap.size + 3) := by
  refine ⟨_, rfl, ?_, ?_, ?_, ?_, by simp⟩
  · exact Blk.grown (Blk.grown (heap_alloc_new _ _) (World.grownBy_alloc _ _ none) (by simp)) (World.grownBy_alloc _ _ none) (by simp)
  · have := Blk.grown (t := t) (c := B) (heap_alloc_new (w.alloc (.cells A s)) (.cells B t)) (World.grownBy_alloc _ (.cells D u) none) (by simp)
    simpa using this
  · have := heap_alloc_new ((w.alloc (.cells A s)).alloc (.cells B t)) (.cells D u)
    rw [show ((w.alloc (.cells A s)).alloc (.cells B t)).heap.size = w.heap.size + 1 + 1 by simp] at this
    exact this
  · exact grown_trans (World.grownBy_alloc _ _ _) (grown_trans (World.grownBy_alloc _ _ _) (World.grownBy_alloc _ _ _))
theorem al2 (w : World) (A B : Array Value) (s t : Nat) : ∃ W, (w.alloc (.cells A s)).alloc (.cells B t) = W ∧ Hid (Blk W w.heap.size s A ∧ Blk W (w.heap.size + 1) t B ∧ w.grownBy W none ∧ W.heap.size = w.heap.size + 2) := by
  refine ⟨_, rfl, ?_, ?_, ?_, by simp⟩
  · exact Blk.grown (heap_alloc_new _ _) (World.grownBy_alloc _ _ none) (by simp)
  · have := heap_alloc_new (w.alloc (.cells A s)) (.cells B t)
    rw [show (w.alloc (.cells A s)).heap.size = w.heap.size + 1 by simp] at this
    exact this
  · exact grown_trans (World.grownBy_alloc _ _ _) (World.grownBy_alloc _ _ _)
end Go.Proofs.Ytignmnmhigncjaa
