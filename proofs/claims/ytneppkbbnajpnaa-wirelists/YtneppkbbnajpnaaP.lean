/-
  Plain mathematics for the wire's numbers: the digits of a number to the base 128, and how a reader scans them. Nothing of the program is named.
-/
import Derived.Below
namespace Go.Proofs.Ytneppkbbnajpnaa

/-- The form of a number, in at most k + 1 digits. -/
def numDigits : Nat → Nat → List UInt8
  | 0, n => [UInt8.ofNat n]
  | k + 1, n => if n < 128 then [UInt8.ofNat n] else UInt8.ofNat (n % 128 + 128) :: numDigits k (n / 128)

/-- The form of a number. -/
def numForm (n : Nat) : List UInt8 := numDigits n n

/-- Scanning digits from place p on, with acc gathered: the number and how many bytes it took, or none. -/
def scan (p acc : Nat) : List UInt8 → Option (Nat × Nat)
  | [] => none
  | c :: l => if (0 < p ∧ c.toNat = 0) ∨ (p = 9 ∧ 1 < c.toNat) then none else
      if c.toNat < 128 then some (acc + (c.toNat % 128) * 2 ^ (7 * p), p + 1) else scan (p + 1) (acc + (c.toNat % 128) * 2 ^ (7 * p)) l

theorem numDigits_enough : ∀ (k n : Nat), n ≤ k → ∀ m, n ≤ m → numDigits k n = numDigits m n
  | 0, n, h, m, _ => by
    have h0 : n = 0 := by omega
    subst h0
    cases m <;> simp [numDigits]
  | k + 1, n, h, m, hm => by
    cases m with
    | zero =>
      have h0 : n = 0 := by omega
      subst h0
      simp [numDigits]
    | succ m =>
      simp only [numDigits]
      by_cases hn : n < 128
      · rw [if_pos hn, if_pos hn]
      · rw [if_neg hn, if_neg hn, numDigits_enough k (n / 128) (by omega) m (by omega)]

theorem numForm_small {n : Nat} (h : n < 128) : numForm n = [UInt8.ofNat n] := by
  unfold numForm; cases n <;> simp [numDigits, h]
theorem numForm_big {n : Nat} (h : ¬ n < 128) : numForm n = UInt8.ofNat (n % 128 + 128) :: numForm (n / 128) := by
  unfold numForm
  cases n with
  | zero => omega
  | succ n =>
    simp only [numDigits]
    rw [if_neg h, numDigits_enough n ((n + 1) / 128) (by omega) ((n + 1) / 128) (Nat.le_refl _)]

theorem numForm_len : ∀ (k n : Nat), n < 2 ^ (7 * k + 7) → (numForm n).length ≤ k + 1
  | 0, n, h => by rw [numForm_small (by simpa using h)]; simp
  | k + 1, n, h => by
    by_cases hn : n < 128
    · rw [numForm_small hn]; simp
    · rw [numForm_big hn]
      have := numForm_len k (n / 128) (by rw [Nat.div_lt_iff_lt_mul (by omega)]; have e : 2 ^ (7 * (k + 1) + 7) = 2 ^ (7 * k + 7) * 128 := by rw [show 7 * (k + 1) + 7 = (7 * k + 7) + 7 by omega, Nat.pow_add]
                                          omega)
      simp; omega

theorem numForm_len10 (n : Nat) (h : n < 2 ^ 64) : (numForm n).length ≤ 10 := numForm_len 9 n (Nat.lt_trans h (by decide))

theorem numForm_pos (n : Nat) : 0 < (numForm n).length := by
  by_cases hn : n < 128
  · rw [numForm_small hn]; simp
  · rw [numForm_big hn]; simp

theorem scan_bound : ∀ (l : List UInt8) (p acc : Nat), p ≤ 9 → acc < 2 ^ (7 * p) → ∀ n k, scan p acc l = some (n, k) → n < 2 ^ 64 ∧ p < k ∧ k ≤ p + l.length ∧ k ≤ 10
  | [], _, _, _, _, _, _, h => by simp [scan] at h
  | c :: l, p, acc, hp, ha, n, k, h => by
    rw [scan] at h
    split at h
    · cases h
    · rename_i hc
      have hs : (2 : Nat) ^ (7 * (p + 1)) = 128 * 2 ^ (7 * p) := by rw [show 7 * (p + 1) = 7 * p + 7 by omega, Nat.pow_add]; omega
      have hm : c.toNat % 128 < 128 := Nat.mod_lt _ (by omega)
      have hmul : (c.toNat % 128) * 2 ^ (7 * p) ≤ 127 * 2 ^ (7 * p) := Nat.mul_le_mul_right _ (by omega)
      have hnew : acc + (c.toNat % 128) * 2 ^ (7 * p) < 2 ^ (7 * (p + 1)) := by omega
      split at h
      · simp only [Option.some.injEq, Prod.mk.injEq] at h
        obtain ⟨rfl, rfl⟩ := h
        refine ⟨?_, by omega, by simp, by omega⟩
        by_cases h9 : p = 9
        · subst h9
          have : c.toNat % 128 ≤ 1 := by omega
          have : (c.toNat % 128) * 2 ^ (7 * 9) ≤ 1 * 2 ^ (7 * 9) := Nat.mul_le_mul_right _ this
          have e : (2 : Nat) ^ (7 * 9) = 9223372036854775808 := by decide
          have e2 : (2 : Nat) ^ 64 = 18446744073709551616 := by decide
          rw [e] at *
          omega
        · exact Nat.lt_of_lt_of_le hnew (Nat.pow_le_pow_right (by omega) (by omega))
      · have h9 : p ≠ 9 := by omega
        have := scan_bound l (p + 1) _ (by omega) hnew n k h
        simp; omega

/-- What was written is scanned as it was, whatever stands behind. -/
theorem scan_form : ∀ (k n p acc : Nat) (rest : List UInt8), p + k = 9 → n < 2 ^ (7 * k + 1) → (0 < p → 0 < n) → scan p acc (numForm n ++ rest) = some (acc + n * 2 ^ (7 * p), p + (numForm n).length)
  | 0, n, p, acc, rest, hp, hn, h0 => by
    have hn2 : n < 2 := by simpa using hn
    rw [numForm_small (by omega)]
    simp only [List.cons_append, List.nil_append, scan]
    have e : (UInt8.ofNat n).toNat = n := by simp; omega
    rw [e, if_neg (by omega), if_pos (by omega), Nat.mod_eq_of_lt (by omega)]; simp
  | k + 1, n, p, acc, rest, hp, hn, h0 => by
    by_cases hs : n < 128
    · rw [numForm_small hs]
      simp only [List.cons_append, List.nil_append, scan]
      have e : (UInt8.ofNat n).toNat = n := by simp; omega
      rw [e, if_neg (by omega), if_pos hs, Nat.mod_eq_of_lt hs]; simp
    · rw [numForm_big hs]
      simp only [List.cons_append, scan]
      have e : (UInt8.ofNat (n % 128 + 128)).toNat = n % 128 + 128 := by simp; omega
      rw [e, if_neg (by omega), if_neg (by omega)]
      have hlt : n / 128 < 2 ^ (7 * k + 1) := by
        rw [Nat.div_lt_iff_lt_mul (by omega)]
        have e : 2 ^ (7 * (k + 1) + 1) = 2 ^ (7 * k + 1) * 128 := by rw [show 7 * (k + 1) + 1 = (7 * k + 1) + 7 by omega, Nat.pow_add]
        omega
      rw [scan_form k (n / 128) (p + 1) _ rest (by omega) hlt (by omega)]
      have e3 : (n % 128 + 128) % 128 = n % 128 := by omega
      have e4 : (2 : Nat) ^ (7 * (p + 1)) = 128 * 2 ^ (7 * p) := by rw [show 7 * (p + 1) = 7 * p + 7 by omega, Nat.pow_add]; omega
      rw [e3, e4]
      have e5 : n % 128 * 2 ^ (7 * p) + n / 128 * (128 * 2 ^ (7 * p)) = n * 2 ^ (7 * p) := by
        rw [← Nat.mul_assoc, ← Nat.add_mul]; congr 1; omega
      simp only [Option.some.injEq, Prod.mk.injEq, List.length_cons]
      omega

theorem scan_num (n : Nat) (h : n < 2 ^ 64) (rest : List UInt8) : scan 0 0 (numForm n ++ rest) = some (n, (numForm n).length) := by
  rw [scan_form 9 n 0 0 rest rfl (by simpa using h) (by omega)]; simp

/-- What is scanned is what is written of it. -/
theorem form_scan : ∀ (l : List UInt8) (p acc : Nat), p ≤ 9 → ∀ n k, scan p acc l = some (n, k) → ∃ m, n = acc + m * 2 ^ (7 * p) ∧ l.take (k - p) = numForm m ∧ (0 < p → 0 < m)
  | [], _, _, _, _, _, h => by simp [scan] at h
  | c :: l, p, acc, hp, n, k, h => by
    rw [scan] at h
    split at h
    · cases h
    · rename_i hc
      split at h
      · simp only [Option.some.injEq, Prod.mk.injEq] at h
        obtain ⟨rfl, rfl⟩ := h
        rename_i hlt
        refine ⟨c.toNat, by rw [Nat.mod_eq_of_lt hlt], ?_, by omega⟩
        rw [numForm_small hlt, show p + 1 - p = 1 by omega]; simp
      · rename_i hge
        have h9 : p ≠ 9 := by omega
        obtain ⟨m, hm, ht, hpos⟩ := form_scan l (p + 1) _ (by omega) n k h
        have hpos := hpos (by omega)
        have e4 : (2 : Nat) ^ (7 * (p + 1)) = 128 * 2 ^ (7 * p) := by rw [show 7 * (p + 1) = 7 * p + 7 by omega, Nat.pow_add]; omega
        have hc8 : c.toNat < 256 := c.toNat_lt
        have hlen : p + 1 < k := by
          have := numForm_pos m
          rw [← ht] at this; simp at this; omega
        refine ⟨c.toNat % 128 + m * 128, ?_, ?_, by omega⟩
        · rw [hm, e4, Nat.add_mul, ← Nat.mul_assoc]; omega
        · rw [numForm_big (by omega), show (c.toNat % 128 + m * 128) % 128 + 128 = c.toNat by omega, show (c.toNat % 128 + m * 128) / 128 = m by omega, ← ht, show k - p = (k - (p + 1)) + 1 by omega]
          simp

theorem form_scan0 (l : List UInt8) (n k : Nat) (h : scan 0 0 l = some (n, k)) : l.take k = numForm n := by
  obtain ⟨m, hm, ht, _⟩ := form_scan l 0 0 (by omega) n k h
  simp at hm ht; rw [hm, ht]

end Go.Proofs.Ytneppkbbnajpnaa
