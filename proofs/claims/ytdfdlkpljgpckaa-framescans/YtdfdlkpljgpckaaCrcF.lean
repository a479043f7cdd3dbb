/-
  The step of a single byte 0.
-/
import Derived.Test.YtdfdlkpljgpckaaCrcE
import Derived.Test.YtdfdlkpljgpckaaCrcJ
namespace Go.Proofs.Ytdfdlkpljgpckaa.Crc
open Go.RowKit
attribute [local go_sem ↓] Go.wp_at_zero Go.wp_at_succ

theorem tabV_size : tabV.size = 16 := rowV_size _ _

theorem seg_one (w : World) (x : UInt8) : Seg (w.alloc (.cells #[.int .u8 (x.toNat : Int)] 5)) (.slice (some ⟨w.heap.size, 0, none⟩) 1 1) [x] := by
  refine ⟨_, 1, rfl, by simp, by unfold maxLen; omega, by simp, fun j hj => ⟨w.heap.size, 0, rfl, ?_⟩⟩
  have e : j = 0 := by simp at hj; omega
  subst e
  rw [cell_of_row _ _ _ _ _ _ (heap_alloc_new w _)]
  rfl

theorem shl_one {k : Nat} (h : k < 32) : IntKind.u32.wrap (2 ^ k : Int) = ((2 ^ k : Nat) : Int) := by
  have h1 := pow_lt h
  have e : ((2 : Int) ^ k) = ((2 ^ k : Nat) : Int) := by simp
  rw [IntKind.wrap_u32', e]
  generalize 2 ^ k = p at h1
  omega

end Go.Proofs.Ytdfdlkpljgpckaa.Crc
