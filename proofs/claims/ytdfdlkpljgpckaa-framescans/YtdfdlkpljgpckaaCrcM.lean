/-
  The chapter's rows.
-/
import Derived.Test.YtdfdlkpljgpckaaCrcK
import Derived.Lib.SlBytesConst
namespace Go.Proofs.Ytdfdlkpljgpckaa.Crc
open Go.RowKit
attribute [local go_sem ↓] Go.wp_at_zero Go.wp_at_succ

theorem sum_none : sum [] = 0 := by decide +kernel
theorem sum_nine : sum [49, 50, 51, 52, 53, 54, 55, 56, 57] = 3808858755 := by decide +kernel
theorem sum_a : sum [97] = 3251651376 := by decide +kernel
theorem more_four : more (sum [49, 50, 51, 52, 53]) [54, 55, 56, 57] = 3808858755 := by decide +kernel
theorem zeros_four : inv (zeros (inv 0) 4) = 1214729159 := by decide +kernel

/-- Bytes of a constant text. -/
theorem seg_lit (w : World) (C : Array Value) (fr : Nat × Nat) (L : List UInt8) (hx : C.toList = BV L) (hl : L.length ≤ 9223372036854775807) : Seg (w.alloc (.cells C 5 fr)) (.slice (some ⟨w.heap.size, 0, none⟩) L.length L.length) L := by
  refine ⟨_, L.length, rfl, Nat.le_refl _, by unfold maxLen; omega, by simp, fun j hj => ⟨w.heap.size, 0, rfl, ?_⟩⟩
  rw [cell_of_row _ _ _ _ _ _ (heap_alloc_new w _), Nat.zero_add, ← Array.getElem?_toList, hx]
  simp [BV, hj]

theorem conv_const (w : World) (C : Array Value) (n : Nat) (h : C.size = n) :
    (convert 22 22 (.slice (some ⟨w.heap.size, 0, none⟩) n n)).run Try.prog (w.alloc (.cells C 5)) = .ok (.slice (some ⟨w.heap.size, 0, none⟩) n n) (w.alloc (.cells C 5 (n, n + 1))) := by
  subst h
  exact Go.Lib.run_convert_bytes_const w 22 5 C _ _ Try.underlying22 Try.underlying5

end Go.Proofs.Ytdfdlkpljgpckaa.Crc
