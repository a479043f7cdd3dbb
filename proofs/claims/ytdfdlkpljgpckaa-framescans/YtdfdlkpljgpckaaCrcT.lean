/-
  A row of bytes as one number: what its sum is, what a bit that is turned does to it, and why the sums differ.
-/
import Derived.Test.YtdfdlkpljgpckaaCrcP
namespace Go.Proofs.Ytdfdlkpljgpckaa.Crc

/-- The bytes as one number, the first lowest. -/
def num : List UInt8 → Nat
  | [] => 0
  | c :: L => c.toNat ^^^ 2 ^ 8 * num L

theorem mul_pow_xor (k a b : Nat) : 2 ^ k * (a ^^^ b) = 2 ^ k * a ^^^ 2 ^ k * b := by
  apply Nat.eq_of_testBit_eq
  intro i
  rw [Nat.testBit_xor, Nat.testBit_two_pow_mul, Nat.testBit_two_pow_mul, Nat.testBit_two_pow_mul, Nat.testBit_xor]
  cases decide (k ≤ i) <;> simp

theorem Tn_shift : ∀ (k m : Nat), Tn k (2 ^ k * m) = m
  | 0, m => by simp [Tn]
  | k + 1, m => by
    rw [Tn, Nat.pow_succ, Nat.mul_comm (2 ^ k) 2, Nat.mul_assoc, T_double, Tn_shift k m]

/-- The register behind bytes. -/
theorem crcL_num (s : Nat) (L : List UInt8) : crcL s L = Tn (8 * L.length) (s ^^^ num L) := by
  induction L generalizing s with
  | nil => simp [crcL, num, Tn]
  | cons c L ih =>
    show crcL (crcB s c) L = _
    rw [ih, List.length_cons, Nat.mul_add, Nat.add_comm (8 * L.length), Tn_add, num, ← Nat.xor_assoc, Tn_xor (8 * 1)]
    congr 2
    exact (Tn_shift 8 (num L)).symm

theorem byte_xor (c x : Nat) (hc : c < 256) (hx : x < 256) : c ^^^ x < 256 := Nat.xor_lt_two_pow (n := 8) hc hx

theorem num_lt (L : List UInt8) : num L < 2 ^ (8 * L.length) := by
  induction L with
  | nil => simp [num]
  | cons c L ih =>
    rw [num, List.length_cons, Nat.mul_add, Nat.mul_one]
    refine Nat.xor_lt_two_pow ?_ ?_
    · have h1 := byte_lt c
      have h2 : 2 ^ 8 ≤ 2 ^ (8 * L.length + 8) := Nat.pow_le_pow_right (by omega) (by omega)
      omega
    · rw [Nat.pow_add, Nat.mul_comm (2 ^ (8 * L.length))]
      exact Nat.mul_lt_mul_of_pos_left ih (by decide)

theorem num_inj : ∀ (L M : List UInt8), L.length = M.length → num L = num M → L = M
  | [], [], _, _ => rfl
  | c :: L, d :: M, hl, h => by
    simp only [num] at h
    have h1 : (c.toNat ^^^ 2 ^ 8 * num L) % 2 ^ 8 = (d.toNat ^^^ 2 ^ 8 * num M) % 2 ^ 8 := by rw [h]
    have h2 : (c.toNat ^^^ 2 ^ 8 * num L) / 2 ^ 8 = (d.toNat ^^^ 2 ^ 8 * num M) / 2 ^ 8 := by rw [h]
    rw [Nat.xor_mod_two_pow, Nat.xor_mod_two_pow, Nat.mul_mod_right, Nat.mul_mod_right, Nat.xor_zero, Nat.xor_zero, Nat.mod_eq_of_lt (byte_lt c), Nat.mod_eq_of_lt (byte_lt d)] at h1
    rw [Nat.xor_div_two_pow, Nat.xor_div_two_pow, Nat.mul_div_cancel_left _ (by decide), Nat.mul_div_cancel_left _ (by decide), Nat.div_eq_of_lt (byte_lt c), Nat.div_eq_of_lt (byte_lt d), Nat.zero_xor, Nat.zero_xor] at h2
    have hc : c = d := UInt8.toNat_inj.1 h1
    rw [hc, num_inj L M (by simpa using hl) h2]
  | [], _ :: _, h, _ => by simp at h
  | _ :: _, [], h, _ => by simp at h

/-- A byte that is written over. -/
theorem num_set : ∀ (L : List UInt8) (j : Nat) (c : UInt8) (x : Nat) (hj : j < L.length), c.toNat = L[j].toNat ^^^ x → num (L.set j c) = num L ^^^ 2 ^ (8 * j) * x
  | d :: L, 0, c, x, _, h => by
    simp only [List.getElem_cons_zero] at h
    simp only [List.set_cons_zero, num, h]
    rw [Nat.mul_zero, Nat.pow_zero, Nat.one_mul, Nat.xor_assoc, Nat.xor_comm x, ← Nat.xor_assoc]
  | d :: L, j + 1, c, x, hj, h => by
    simp only [List.getElem_cons_succ] at h
    simp only [List.set_cons_succ, num]
    rw [num_set L j c x (by simpa using hj) h, mul_pow_xor, ← Nat.mul_assoc, ← Nat.pow_add, Nat.mul_add, Nat.add_comm 8, ← Nat.xor_assoc]

/-- Bytes xor-ed. -/
theorem num_zip : ∀ (L M : List UInt8), L.length = M.length → num (List.zipWith (· ^^^ ·) L M) = num L ^^^ num M
  | [], [], _ => rfl
  | c :: L, d :: M, h => by
    simp only [List.zipWith_cons_cons, num]
    rw [num_zip L M (by simpa using h), mul_pow_xor, UInt8.toNat_xor]
    rw [Nat.xor_assoc, ← Nat.xor_assoc d.toNat, Nat.xor_comm d.toNat (2 ^ 8 * num L), Nat.xor_assoc, ← Nat.xor_assoc c.toNat]
  | [], _ :: _, h => by simp at h
  | _ :: _, [], h => by simp at h

/-- Parity of the lowest k bits. -/
def pr : Nat → Nat → Nat
  | 0, _ => 0
  | k + 1, s => (s % 2 + pr k (s / 2)) % 2

theorem pr_lt : ∀ (k s : Nat), pr k s < 2
  | 0, _ => by simp [pr]
  | k + 1, s => by simp only [pr]; omega

theorem pr_zero : ∀ k, pr k 0 = 0
  | 0 => rfl
  | k + 1 => by simp only [pr]; rw [Nat.zero_div, pr_zero k]

theorem pr_xor : ∀ (k a b : Nat), pr k (a ^^^ b) = (pr k a + pr k b) % 2
  | 0, _, _ => rfl
  | k + 1, a, b => by
    simp only [pr]
    rw [Nat.xor_div_two, xor_mod2, pr_xor k]
    have h1 : a % 2 = 0 ∨ a % 2 = 1 := by omega
    have h2 : b % 2 = 0 ∨ b % 2 = 1 := by omega
    rcases h1 with h1 | h1 <;> rcases h2 with h2 | h2 <;> rw [h1, h2]
    · simp only [Nat.xor_self]; omega
    · simp only [Nat.zero_xor]; omega
    · simp only [Nat.xor_zero]; omega
    · simp only [Nat.xor_self]; omega

theorem pr_top : ∀ (k s : Nat), s < 2 ^ k → pr (k + 1) s = pr k s
  | 0, s, h => by
    have : s = 0 := by simp at h; omega
    subst this; rfl
  | k + 1, s, h => by
    rw [pr, pr_top k (s / 2) (by rw [Nat.pow_succ] at h; omega)]
    rfl

theorem pr_pow : ∀ (k j : Nat), j < k → pr k (2 ^ j) = 1
  | k + 1, 0, _ => by
    simp only [pr, Nat.pow_zero]
    rw [show (1 : Nat) / 2 = 0 from rfl, pr_zero]
  | k + 1, j + 1, h => by
    simp only [pr]
    rw [Nat.pow_succ, Nat.mul_mod_left, Nat.mul_div_cancel _ (by decide), pr_pow k j (by omega)]

theorem pr_poly : pr 32 2197175160 = 1 := by decide +kernel

theorem pr_more : ∀ (d s : Nat), s < 2 ^ 32 → pr (32 + d) s = pr 32 s
  | 0, _, _ => rfl
  | d + 1, s, h => by
    rw [show 32 + (d + 1) = (32 + d) + 1 by omega, pr_top (32 + d) s (Nat.lt_of_lt_of_le h (Nat.pow_le_pow_right (by omega) (by omega))), pr_more d s h]

/-- A halving leaves the parity. -/
theorem pr_T (d s : Nat) (h : s < 2 ^ (32 + d)) : pr (32 + d) (T s) = pr (32 + d) s := by
  have e : pr (32 + d) (s / 2) = pr (31 + d) (s / 2) := by
    rw [show 32 + d = (31 + d) + 1 by omega]
    refine pr_top _ _ ?_
    rw [show 32 + d = (31 + d) + 1 by omega, Nat.pow_succ] at h
    omega
  have e2 : pr (32 + d) s = (s % 2 + pr (31 + d) (s / 2)) % 2 := by rw [show 32 + d = (31 + d) + 1 by omega]; rfl
  have hl := pr_lt (31 + d) (s / 2)
  unfold T
  split
  · rename_i ho
    rw [pr_xor, e, pr_more d 2197175160 (by decide), pr_poly, e2, ho]
    omega
  · rw [e, e2]
    omega

theorem T_lt_big (d : Nat) {s : Nat} (h : s < 2 ^ (32 + d)) : T s < 2 ^ (32 + d) := by
  unfold T
  split
  · refine Nat.xor_lt_two_pow (by omega) ?_
    exact Nat.lt_of_lt_of_le (show 2197175160 < 2 ^ 32 by decide) (Nat.pow_le_pow_right (by omega) (by omega))
  · omega

theorem pr_Tn (d : Nat) : ∀ (n s : Nat), s < 2 ^ (32 + d) → pr (32 + d) (Tn n s) = pr (32 + d) s
  | 0, _, _ => rfl
  | n + 1, s, h => by rw [Tn, pr_Tn d n (T s) (T_lt_big d h), pr_T d s h]

/-- Nothing but 0 becomes 0. -/
theorem T_zero {s : Nat} (h : s < 4294967296) (hz : T s = 0) : s = 0 := by
  unfold T at hz
  split at hz
  · exfalso
    have e : s / 2 = 2197175160 := by
      have h1 : (s / 2 ^^^ 2197175160) ^^^ 2197175160 = 0 ^^^ 2197175160 := by rw [hz]
      rw [Nat.xor_assoc, Nat.xor_self, Nat.xor_zero, Nat.zero_xor] at h1
      exact h1
    omega
  · omega
theorem Tn_nonzero : ∀ (n : Nat) {s : Nat}, s < 4294967296 → Tn n s = 0 → s = 0
  | 0, _, _, h => h
  | n + 1, _, h, hz => T_zero h (Tn_nonzero n (T_lt h) hz)

theorem xor_eq_zero {a b : Nat} (h : a ^^^ b = 0) : a = b := by
  have h1 : (a ^^^ b) ^^^ b = 0 ^^^ b := by rw [h]
  rw [Nat.xor_assoc, Nat.xor_self, Nat.xor_zero, Nat.zero_xor] at h1
  exact h1

theorem sum_num (L : List UInt8) : sum L = inv (Tn (8 * L.length) (inv 0 ^^^ num L)) := by unfold sum more; rw [crcL_num]

/-- Rows as long whose sums are the same: what they differ by becomes 0. -/
theorem sum_eq {L M : List UInt8} {F : Nat} (hl : L.length = M.length) (hF : num M = num L ^^^ F) (h : sum M = sum L) : Tn (8 * L.length) F = 0 := by
  rw [sum_num, sum_num, ← hl, hF] at h
  have h1 := congrArg inv h
  rw [inv_inv, inv_inv, ← Nat.xor_assoc, Tn_xor] at h1
  have h2 : Tn (8 * L.length) (inv 0 ^^^ num L) ^^^ (Tn (8 * L.length) (inv 0 ^^^ num L) ^^^ Tn (8 * L.length) F) = Tn (8 * L.length) (inv 0 ^^^ num L) ^^^ Tn (8 * L.length) (inv 0 ^^^ num L) := by rw [h1]
  rw [← Nat.xor_assoc, Nat.xor_self, Nat.zero_xor] at h2
  exact h2

/-- An odd number of bits that are turned: the sums differ. -/
theorem tells_odd {L M : List UInt8} {F : Nat} (hl : L.length = M.length) (hF : num M = num L ^^^ F) (hlt : F < 2 ^ (32 + 8 * L.length)) (ho : pr (32 + 8 * L.length) F = 1) : sum M ≠ sum L := by
  intro h
  have h1 := sum_eq hl hF h
  have h2 := pr_Tn (8 * L.length) (8 * L.length) F hlt
  rw [h1, pr_zero, ho] at h2
  cases h2

/-- Bits within 32: the sums differ, or nothing was turned. -/
theorem tells_burst {L M : List UInt8} {k m : Nat} (hl : L.length = M.length) (hF : num M = num L ^^^ 2 ^ k * m) (hk : k ≤ 8 * L.length) (hm : m < 4294967296) (h : sum M = sum L) : M = L := by
  have h1 := sum_eq hl hF h
  rw [show 8 * L.length = k + (8 * L.length - k) by omega, Tn_add, Tn_shift] at h1
  have h2 := Tn_nonzero _ hm h1
  subst h2
  rw [Nat.mul_zero, Nat.xor_zero] at hF
  exact num_inj M L hl.symm hF

/-- Three rows xor-ed. -/
theorem sum_three {A B C D : List UInt8} (h1 : A.length = B.length) (h2 : A.length = C.length) (h3 : A.length = D.length) (hD : num D = num A ^^^ num B ^^^ num C) : sum A ^^^ sum B ^^^ sum C = sum D := by
  rw [sum_num, sum_num, sum_num, sum_num, ← h1, ← h2, ← h3, hD, Tn_xor, Tn_xor _ _ (num B), Tn_xor _ _ (num C), Tn_xor _ _ (_ ^^^ _), Tn_xor _ (_ ^^^ _), Tn_xor _ (num A)]
  unfold inv
  generalize Tn (8 * A.length) (0 ^^^ 4294967295) = t
  generalize Tn (8 * A.length) (num A) = a
  generalize Tn (8 * A.length) (num B) = b
  generalize Tn (8 * A.length) (num C) = c
  apply Nat.eq_of_testBit_eq
  intro i
  simp only [Nat.testBit_xor]
  cases t.testBit i <;> cases a.testBit i <;> cases b.testBit i <;> cases c.testBit i <;> cases (4294967295 : Nat).testBit i <;> rfl
end Go.Proofs.Ytdfdlkpljgpckaa.Crc
