/-
  A word through a step: the program's way, and the document's.
-/
import Derived.Test.YtdfdlkpljgpckaaCrcC
namespace Go.Proofs.Ytdfdlkpljgpckaa.Crc
open Go.RowKit

/-- The step of N halvings: what becomes of each bit. -/
def matV (N : Nat) : Array Value := rowV 32 (fun i => Tn N (2 ^ i))

theorem pow_lt {i : Nat} (h : i < 32) : 2 ^ i < 4294967296 := Nat.pow_lt_pow_right (by omega) (by omega : i < 32)
theorem mat_lt (N : Nat) {i : Nat} (h : i < 32) : Tn N (2 ^ i) < 4294967296 := Tn_lt N (pow_lt h)

theorem and_ones {m : Nat} (h : m < 4294967296) : bits .and .u32 (m : Int) 4294967295 = (m : Int) := by
  have h1 := u32_and_nat m 4294967295 h (by omega)
  have e : m &&& 4294967295 = m % 4294967296 := Nat.and_two_pow_sub_one_eq_mod m 32
  rw [e, Nat.mod_eq_of_lt h] at h1
  exact h1

theorem and_none {m : Nat} (h : m < 4294967296) : bits .and .u32 (m : Int) 0 = 0 := by
  have h1 := u32_and_nat m 0 h (by omega)
  rw [Nat.and_zero] at h1
  exact h1

theorem xor_none {m : Nat} (h : m < 4294967296) : bits .xor .u32 (m : Int) 0 = (m : Int) := by
  have h1 := u32_xor_nat m 0 h (by omega)
  rw [Nat.xor_zero] at h1
  exact h1

end Go.Proofs.Ytdfdlkpljgpckaa.Crc
