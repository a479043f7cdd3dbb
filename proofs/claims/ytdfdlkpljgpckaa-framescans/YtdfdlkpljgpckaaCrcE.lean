/-
  The step of twice as many bytes; the step of one.
-/
import Derived.Test.YtdfdlkpljgpckaaCrcD
namespace Go.Proofs.Ytdfdlkpljgpckaa.Crc
open Go.RowKit

/-- The block g holds these cells. -/
def Blk (w : World) (g t : Nat) (c : Array Value) : Prop := w.heap[g]? = some (.cells c t (0, 0))

theorem Blk.kept {w w' : World} {g t : Nat} {c : Array Value} {r : Option Nat} (h : Blk w g t c) (hg : w.grownBy w' r) (hr : r ≠ some g) : Blk w' g t c := by
  unfold Blk at *
  rw [hg.block g (Array.getElem?_eq_some_iff.1 h).1 (Ne.symm hr), h]
theorem Blk.cell {w : World} {g t : Nat} {c : Array Value} (h : Blk w g t c) (j : Nat) : w.cell? ⟨g, j, none⟩ = c[j]? := cell_of_row w g j _ _ _ h
theorem Blk.free {w : World} {g t : Nat} {c : Array Value} (h : Blk w g t c) (j : Nat) : w.frozen? ⟨g, j, none⟩ = false := frozen_of_row w g j _ _ h
theorem Blk.store {w : World} {g t : Nat} {c : Array Value} (h : Blk w g t c) (j : Nat) (v : Value) : Blk (w.setCell ⟨g, j, none⟩ v) g t (c.setIfInBounds j v) := heap_setCell_same w g j _ _ v h
theorem Blk.row {w : World} {g t : Nat} {c : Array Value} (h : Blk w g t c) (c' : Array Value) : Blk (w.setRow g c') g t c' := setRow_heap _ _ c _ _ _ h

theorem blk3 (w : World) (a b c : Array Value) (t : Nat) : Blk (((w.alloc (.cells a t)).alloc (.cells b t)).alloc (.cells c t)) w.heap.size t a ∧ Blk (((w.alloc (.cells a t)).alloc (.cells b t)).alloc (.cells c t)) (w.heap.size + 1) t b ∧ Blk (((w.alloc (.cells a t)).alloc (.cells b t)).alloc (.cells c t)) (w.heap.size + 2) t c := by
  have e1 : (w.alloc (.cells a t)).heap.size = w.heap.size + 1 := by
    show (w.heap.push _).size = _
    simp
  have e2 : ((w.alloc (.cells a t)).alloc (.cells b t)).heap.size = w.heap.size + 2 := by
    show ((w.heap.push _).push _).size = _
    simp
  refine ⟨?_, ?_, ?_⟩
  · exact Blk.kept (heap_alloc2_old w _ _) (World.grownBy_alloc _ _ none) (by simp)
  · exact Blk.kept (heap_alloc2_new w _ _) (World.grownBy_alloc _ _ none) (by simp)
  · have h := heap_alloc_new ((w.alloc (.cells a t)).alloc (.cells b t)) (.cells c t)
    rw [e2] at h
    exact h

end Go.Proofs.Ytdfdlkpljgpckaa.Crc
