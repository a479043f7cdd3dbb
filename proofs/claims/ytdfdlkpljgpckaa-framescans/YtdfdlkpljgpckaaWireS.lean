/-
  The reader's Bytes: what it answers of the bytes before it. Open: a reader at the beginning of these bytes.
-/
import Derived.Test.YtdfdlkpljgpckaaWireR
namespace Go.Proofs.Ytdfdlkpljgpckaa.Wire
open Go.RowKit

theorem rdBytes_neg {L : List UInt8} {most : Int} (h : most < 0) : rdBytes L most = ([], 2, L) := by simp [rdBytes, rdCount, h]
theorem rdBytes_none {L : List UInt8} {most : Int} (h : 0 ≤ most) (hn : scan 0 0 L = none) : rdBytes L most = ([], 4, L) := by simp [rdBytes, rdCount, show ¬ most < 0 by omega, hn]
theorem rdBytes_long {L : List UInt8} {most : Int} {n k : Nat} (h : 0 ≤ most) (hn : scan 0 0 L = some (n, k)) (hl : most < (n : Int)) : rdBytes L most = ([], 3, L) := by simp [rdBytes, rdCount, show ¬ most < 0 by omega, hn, hl]
theorem rdBytes_few {L : List UInt8} {most : Int} {n k : Nat} (h : 0 ≤ most) (hn : scan 0 0 L = some (n, k)) (hl : ¬ most < (n : Int)) (hf : (L.drop k).length < n) : rdBytes L most = ([], 4, L) := by
  unfold rdBytes rdCount; rw [if_neg (show ¬ most < 0 by omega), hn]; simp only [hl, if_false]; rw [if_neg (by simp), if_pos hf]
theorem rdBytes_ok {L : List UInt8} {most : Int} {n k : Nat} (h : 0 ≤ most) (hn : scan 0 0 L = some (n, k)) (hl : ¬ most < (n : Int)) (hf : ¬ (L.drop k).length < n) : rdBytes L most = ((L.drop k).take n, 0, (L.drop k).drop n) := by
  unfold rdBytes rdCount; rw [if_neg (show ¬ most < 0 by omega), hn]; simp only [hl, if_false]; rw [if_neg (by simp), if_neg hf]
theorem rdCount_long {L : List UInt8} {most : Int} {n k : Nat} (h : 0 ≤ most) (hn : scan 0 0 L = some (n, k)) (hl : most < (n : Int)) : rdCount L most = (0, 3, L.drop k) := by simp [rdCount, show ¬ most < 0 by omega, hn, hl]
theorem rdCount_ok {L : List UInt8} {most : Int} {n k : Nat} (h : 0 ≤ most) (hn : scan 0 0 L = some (n, k)) (hl : ¬ most < (n : Int)) : rdCount L most = (n, 0, L.drop k) := by simp [rdCount, show ¬ most < 0 by omega, hn, hl]

end Go.Proofs.Ytdfdlkpljgpckaa.Wire
