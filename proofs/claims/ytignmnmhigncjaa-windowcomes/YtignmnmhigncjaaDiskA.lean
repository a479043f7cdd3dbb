/-
  Copies of bytes: Clone, the document's Copy, lent; texts of bytes; left: what was lent is looked at and written over.
-/
import Derived.Test.YtignmnmhigncjaaDiskW
namespace Go.Proofs.Ytignmnmhigncjaa.Disk
theorem seg_alloc {w : World} {v : Value} {L : List UInt8} (h : Seg w v L) (o : Obj) : Seg (w.alloc o) v L := h.grown (World.grownBy_alloc _ _ _)

theorem seg_lit (w : World) (C : Array Value) (fr : Nat × Nat) (L : List UInt8) (hx : C.toList = BV L) (hl : L.length ≤ 9223372036854775807) : Seg (w.alloc (.cells C 5 fr)) (.slice (some ⟨w.heap.size, 0, none⟩) L.length L.length) L := by
  refine ⟨_, L.length, rfl, Nat.le_refl _, by unfold maxLen; omega, by simp, fun j hj => ⟨w.heap.size, 0, rfl, ?_⟩⟩
  rw [cell_of_row _ _ _ _ _ _ (heap_alloc_new w _), Nat.zero_add, ← Array.getElem?_toList, hx]
  simp [BV, hj]

/-- Bytes in memory of their own, with a mark behind them. -/
def Lent (w : World) (B : Nat) (v : Value) (L : List UInt8) : Prop := ∃ g cap, v = .slice (some ⟨g, 0, none⟩) L.length cap ∧ Own w B (.slice (some ⟨g, 0, none⟩) (L.length + 1) cap) (L ++ [165])

theorem Lent.same {w w' : World} {B : Nat} {v : Value} {L : List UInt8} (h : Lent w B v L) (hs : ∀ k, v.ownBlock = some k → w'.heap[k]? = w.heap[k]?) : Lent w' B v L := by
  obtain ⟨g, cap, rfl, ho⟩ := h
  exact ⟨g, cap, rfl, ho.same fun k hk => hs k hk⟩
theorem Lent.lt {w : World} {B : Nat} {v : Value} {L : List UInt8} (h : Lent w B v L) : ∀ k, v.ownBlock = some k → B ≤ k ∧ k < w.heap.size := by
  obtain ⟨g, cap, rfl, ho⟩ := h
  exact fun k hk => ho.lt k hk
theorem Lent.mono {w : World} {B B' : Nat} {v : Value} {L : List UInt8} (h : Lent w B v L) (hB : B' ≤ B) : Lent w B' v L := by
  obtain ⟨g, cap, rfl, ho⟩ := h
  exact ⟨g, cap, rfl, ho.mono hB⟩
theorem Lent.seg {w : World} {B : Nat} {v : Value} {L : List UInt8} (h : Lent w B v L) : Seg w v L := by
  obtain ⟨g, cap, rfl, ho⟩ := h
  have h1 : Own w B (.slice (some ⟨g, 0, none⟩) (L ++ [165]).length cap) (L ++ [165]) := by simpa using ho
  have h2 := (h1.take L.length (by simp)).seg
  simpa using h2

end Go.Proofs.Ytignmnmhigncjaa.Disk
