/-
  A register behind n bytes 0, by squares: the document's way.
-/
import Derived.Test.YtdfdlkpljgpckaaCrcG
namespace Go.Proofs.Ytdfdlkpljgpckaa.Crc
open Go.RowKit
attribute [local go_sem ↓] Go.wp_at_zero Go.wp_at_succ

theorem matV_size (N : Nat) : (matV N).size = 32 := rowV_size _ _
/-- What is left to do, behind an odd bit and behind an even one. -/
theorem sq_odd {N m t G : Nat} (h : Tn (N * m) t = G) (ho : m % 2 = 1) : Tn ((N + N) * (m / 2)) (Tn N t) = G := by
  rw [← h, ← Tn_add]
  congr 1
  have e : m = 1 + 2 * (m / 2) := by omega
  calc N + (N + N) * (m / 2) = N * (1 + 2 * (m / 2)) := by rw [Nat.mul_add, Nat.mul_one, ← Nat.mul_assoc, Nat.mul_comm N 2, Nat.two_mul]
    _ = N * m := by rw [← e]

theorem sq_even {N m t G : Nat} (h : Tn (N * m) t = G) (ho : m % 2 = 0) : Tn ((N + N) * (m / 2)) t = G := by
  rw [← h]
  congr 1
  have e : m = 2 * (m / 2) := by omega
  calc (N + N) * (m / 2) = N * (2 * (m / 2)) := by rw [← Nat.mul_assoc, Nat.mul_comm N 2, Nat.two_mul]
    _ = N * m := by rw [← e]

end Go.Proofs.Ytdfdlkpljgpckaa.Crc
