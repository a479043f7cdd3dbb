/-
  Whether two headers are the same.
-/
import Derived.Test.YtdfdlkpljgpckaaSq
import Derived.Laws.StructEq
namespace Go.Proofs.Ytdfdlkpljgpckaa
open Go.RowKit Disk

set_option maxRecDepth 100000 in
set_option maxHeartbeats 4000000 in
theorem eq54 (a0 a1 a2 a3 a4 a5 a6 a7 a8 b0 b1 b2 b3 b4 b5 b6 b7 b8 : Int) (w : World) : (Op.equalIn 10000 54 (.agg #[.int .u8 a0, .int .u8 a1, .int .u8 a2, .int .u8 a3, .int .u8 a4, .int .u8 a5, .int .u8 a6, .int .u8 a7, .int .u8 a8]) (.agg #[.int .u8 b0, .int .u8 b1, .int .u8 b2, .int .u8 b3, .int .u8 b4, .int .u8 b5, .int .u8 b6, .int .u8 b7, .int .u8 b8])).run Try.prog w = .ok (a0 == b0 && (a1 == b1 && (a2 == b2 && (a3 == b3 && (a4 == b4 && (a5 == b5 && (a6 == b6 && (a7 == b7 && a8 == b8)))))))) w := by
  have u5 := Try.underlying5
  have a5' := Try.isAgg5
  have z5 := Try.sizeOf5
  rw [show (10000 : Nat) = 9999 + 1 from rfl, Op.equalIn]
  simp only [Sem.run_bind, run_underlying Try.underlying54, Result.andThen_ok]
  simp only [Std.Legacy.Range.forIn_eq_forIn_range', Std.Legacy.Range.size, Nat.sub_zero, Nat.add_sub_cancel, Nat.div_one, List.range'_succ, List.range'_zero, List.forIn_cons, List.forIn_nil]
  go_simp
  repeat' split
  all_goals simp_all

theorem neq54 {H G : List UInt8} (hH : H.length = 9) (hG : G.length = 9) (w : World) : (binOp .neq 54 (.agg (BV H).toArray) (.agg (BV G).toArray)).run Try.prog w = .ok (.bool (decide (H ≠ G))) w := by
  obtain ⟨a0, a1, a2, a3, a4, a5, a6, a7, a8, rfl⟩ := nine_of hH
  obtain ⟨b0, b1, b2, b3, b4, b5, b6, b7, b8, rfl⟩ := nine_of hG
  rw [run_neq_struct]
  simp only [BV, List.map_cons, List.map_nil]
  rw [eq54]
  simp only [Result.andThen]
  congr 2
  rw [Bool.eq_iff_iff]
  simp [← UInt8.toNat_inj]
  omega
end Go.Proofs.Ytdfdlkpljgpckaa
