/-
  The reader's digits: it scans a number's form, goes behind it, or stays.
-/
import Derived.Test.YtdfdlkpljgpckaaWireA
namespace Go.Proofs.Ytdfdlkpljgpckaa.Wire
open Go.RowKit

theorem scan_step (L : List UInt8) (p acc : Nat) (h : p < L.length) : scan p acc (L.drop p) = if (0 < p ∧ L[p].toNat = 0) ∨ (p = 9 ∧ 1 < L[p].toNat) then none else
      if L[p].toNat < 128 then some (acc + (L[p].toNat % 128) * 2 ^ (7 * p), p + 1) else scan (p + 1) (acc + (L[p].toNat % 128) * 2 ^ (7 * p)) (L.drop (p + 1)) := by
  rw [List.drop_eq_getElem_cons h, scan]

theorem digit_lt (acc p c : Nat) (hp : p ≤ 9) (ha : acc < 2 ^ (7 * p)) (h9 : ¬ (p = 9 ∧ 1 < c)) : acc + c % 128 * 2 ^ (7 * p) < 2 ^ 64 ∧ acc + c % 128 * 2 ^ (7 * p) < 2 ^ (7 * (p + 1)) := by
  have hs : (2 : Nat) ^ (7 * (p + 1)) = 128 * 2 ^ (7 * p) := by rw [show 7 * (p + 1) = 7 * p + 7 by omega, Nat.pow_add]; omega
  have hm : c % 128 < 128 := Nat.mod_lt _ (by omega)
  have hmul : (c % 128) * 2 ^ (7 * p) ≤ 127 * 2 ^ (7 * p) := Nat.mul_le_mul_right _ (by omega)
  have hnew : acc + (c % 128) * 2 ^ (7 * p) < 2 ^ (7 * (p + 1)) := by omega
  refine ⟨?_, hnew⟩
  by_cases e9 : p = 9
  · subst e9
    have : c % 128 ≤ 1 := by omega
    have : (c % 128) * 2 ^ (7 * 9) ≤ 1 * 2 ^ (7 * 9) := Nat.mul_le_mul_right _ this
    have e : (2 : Nat) ^ (7 * 9) = 9223372036854775808 := by decide
    have e2 : (2 : Nat) ^ 64 = 18446744073709551616 := by decide
    rw [e] at *
    omega
  · exact Nat.lt_of_lt_of_le hnew (Nat.pow_le_pow_right (by omega) (by omega))

theorem wrap_u64 (n : Nat) (h : n < 2 ^ 64) : IntKind.u64.wrap (n : Int) = n := by
  have e : (2 : Nat) ^ 64 = 18446744073709551616 := by decide
  simp only [IntKind.wrap, IntKind.bits, IntKind.signed]
  simp
  omega

theorem wrap_digit (acc p c : Nat) (h : acc + c % 128 * 2 ^ (7 * p) < 2 ^ 64) : IntKind.u64.wrap ((acc : Int) + IntKind.u64.wrap ((c : Int) % 128 * 2 ^ (p * 7))) = ((acc + c % 128 * 2 ^ (7 * p) : Nat) : Int) := by
  have e1 : ((c : Int) % 128 * 2 ^ (p * 7)) = ((c % 128 * 2 ^ (7 * p) : Nat) : Int) := by rw [Nat.mul_comm p 7]; push_cast; rfl
  rw [e1, wrap_u64 _ (by omega), show ((acc : Int) + ((c % 128 * 2 ^ (7 * p) : Nat) : Int)) = ((acc + c % 128 * 2 ^ (7 * p) : Nat) : Int) by push_cast; rfl, wrap_u64 _ h]

theorem wrap_nine (acc p c : Nat) (hp : p = 9) (h : acc + c % 128 * 2 ^ (7 * p) < 2 ^ 64) : IntKind.u64.wrap ((acc : Int) + (c : Int) % 128 * 9223372036854775808) = ((acc + c % 128 * 2 ^ (7 * p) : Nat) : Int) := by
  subst hp
  have e : (2 : Nat) ^ (7 * 9) = 9223372036854775808 := by decide
  rw [e] at *
  rw [show ((acc : Int) + (c : Int) % 128 * 9223372036854775808) = ((acc + c % 128 * 9223372036854775808 : Nat) : Int) by omega, wrap_u64 _ h]

theorem ret_two {k l : IntKind} {a b c : Int} (h : a = b) : Ending.returned (.tuple #[.int k a, .int l c]) = .returned (.tuple #[.int k b, .int l c]) := by rw [h]

end Go.Proofs.Ytdfdlkpljgpckaa.Wire
