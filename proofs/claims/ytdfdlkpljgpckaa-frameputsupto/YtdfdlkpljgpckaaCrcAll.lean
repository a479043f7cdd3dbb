/-
  Texts of Crc, put together.
-/
import Derived.Test.YtdfdlkpljgpckaaRows
import Derived.WalkKit
import Derived.WalkSpells
import Derived.WalkLawsBesides
import Derived.Laws.BitsAllLaws
import Derived.Deep.WholeRow
import Derived.Deep.RegionHeld3
import Derived.Deep.DrawnRows
import Derived.Lib.SlBytesConst
/-
  The sum, on plain numbers: one halving, many; that they go over a xor; a nibble at a time; bits of a word.
-/
namespace Go.Proofs.Ytdfdlkpljgpckaa.Crc

/-- One halving. -/
def T (s : Nat) : Nat := if s % 2 = 1 then s / 2 ^^^ 2197175160 else s / 2
/-- n halvings. -/
def Tn : Nat → Nat → Nat
  | 0, s => s
  | n + 1, s => Tn n (T s)

theorem T_lt {s : Nat} (h : s < 4294967296) : T s < 4294967296 := by
  unfold T
  split
  · exact Nat.xor_lt_two_pow (n := 32) (by omega) (by omega)
  · omega

theorem Tn_lt : ∀ (n : Nat) {s : Nat}, s < 4294967296 → Tn n s < 4294967296
  | 0, _, h => h
  | n + 1, _, h => Tn_lt n (T_lt h)

theorem xor_mod2 (a b : Nat) : (a ^^^ b) % 2 = (a % 2) ^^^ (b % 2) := by
  have h := @Nat.xor_mod_two_pow a b 1
  simpa using h

theorem T_xor (a b : Nat) : T (a ^^^ b) = T a ^^^ T b := by
  unfold T
  rw [Nat.xor_div_two, xor_mod2]
  have h1 : a % 2 = 0 ∨ a % 2 = 1 := by omega
  have h2 : b % 2 = 0 ∨ b % 2 = 1 := by omega
  rcases h1 with h1 | h1 <;> rcases h2 with h2 | h2 <;> rw [h1, h2]
  · rfl
  · show a / 2 ^^^ b / 2 ^^^ 2197175160 = a / 2 ^^^ (b / 2 ^^^ 2197175160)
    rw [Nat.xor_assoc]
  · show a / 2 ^^^ b / 2 ^^^ 2197175160 = a / 2 ^^^ 2197175160 ^^^ b / 2
    rw [Nat.xor_assoc, Nat.xor_assoc, Nat.xor_comm (b / 2)]
  · show a / 2 ^^^ b / 2 = (a / 2 ^^^ 2197175160) ^^^ (b / 2 ^^^ 2197175160)
    rw [Nat.xor_assoc, ← Nat.xor_assoc 2197175160, Nat.xor_comm 2197175160 (b / 2), Nat.xor_assoc (b / 2), Nat.xor_self, Nat.xor_zero]

theorem Tn_xor : ∀ (n a b : Nat), Tn n (a ^^^ b) = Tn n a ^^^ Tn n b
  | 0, _, _ => rfl
  | n + 1, a, b => by rw [Tn, Tn, Tn, T_xor, Tn_xor n]

theorem Tn_add : ∀ (m n s : Nat), Tn (m + n) s = Tn n (Tn m s)
  | 0, n, s => by rw [Nat.zero_add, Tn]
  | m + 1, n, s => by rw [show m + 1 + n = (m + n) + 1 by omega, Tn, Tn, Tn_add m n]

theorem Tn_zero (n : Nat) : Tn n 0 = 0 := by
  have h := Tn_xor n 0 0
  rw [Nat.xor_self, Nat.xor_self] at h
  exact h

theorem Tn_succ (n s : Nat) : Tn (n + 1) s = T (Tn n s) := by rw [Tn_add n 1]; rfl

theorem T_double (q : Nat) : T (2 * q) = q := by unfold T; rw [if_neg (by omega)]; omega

theorem Tn4_mul (q : Nat) : Tn 4 (16 * q) = q := by
  rw [show 16 * q = 2 * (2 * (2 * (2 * q))) by omega, Tn, T_double, Tn, T_double, Tn, T_double, Tn, T_double, Tn]

/-- A number is its high part xor its low bits. -/
theorem split_pow (s k : Nat) : 2 ^ k * (s / 2 ^ k) ^^^ s % 2 ^ k = s := by
  apply Nat.eq_of_testBit_eq
  intro i
  rw [Nat.testBit_xor, Nat.testBit_two_pow_mul, Nat.testBit_div_two_pow, Nat.testBit_mod_two_pow]
  by_cases h : k ≤ i
  · have h2 : ¬ i < k := by omega
    simp [h, h2]
  · have h2 : i < k := by omega
    simp [h, h2]

/-- Four halvings by a table of sixteen. -/
theorem nib (s : Nat) : Tn 4 s = s / 16 ^^^ Tn 4 (s % 16) := by
  have h := split_pow s 4
  have e : Tn 4 s = Tn 4 (2 ^ 4 * (s / 2 ^ 4) ^^^ s % 2 ^ 4) := by rw [h]
  rw [e, Tn_xor, show (2 : Nat) ^ 4 = 16 from rfl, Tn4_mul]

/-- A byte passes. -/
def crcB (s : Nat) (c : UInt8) : Nat := Tn 8 (s ^^^ c.toNat)
/-- Bytes pass. -/
def crcL (s : Nat) (L : List UInt8) : Nat := L.foldl crcB s

theorem byte_lt (c : UInt8) : c.toNat < 256 := UInt8.toNat_lt c

theorem crcB_lt {s : Nat} (c : UInt8) (h : s < 4294967296) : crcB s c < 4294967296 :=
  Tn_lt 8 (Nat.xor_lt_two_pow (n := 32) h (by have := byte_lt c; omega))

theorem crcL_lt {s : Nat} (L : List UInt8) (h : s < 4294967296) : crcL s L < 4294967296 := by
  induction L generalizing s with
  | nil => exact h
  | cons c L ih => exact ih (crcB_lt c h)

theorem crcL_append (s : Nat) (L M : List UInt8) : crcL s (L ++ M) = crcL (crcL s L) M := by simp [crcL]
theorem crcL_snoc (s : Nat) (L : List UInt8) (c : UInt8) : crcL s (L ++ [c]) = crcB (crcL s L) c := by simp [crcL]

/-- A byte by two nibbles. -/
theorem crcB_nib (s : Nat) (c : UInt8) : crcB s c = ((s ^^^ c.toNat) / 16 ^^^ Tn 4 ((s ^^^ c.toNat) % 16)) / 16 ^^^ Tn 4 (((s ^^^ c.toNat) / 16 ^^^ Tn 4 ((s ^^^ c.toNat) % 16)) % 16) := by
  unfold crcB
  rw [show (8 : Nat) = 4 + 4 from rfl, Tn_add, nib (Tn 4 _), nib (s ^^^ c.toNat)]

/-- The bits turned. -/
def inv (s : Nat) : Nat := s ^^^ 4294967295
theorem inv_lt {s : Nat} (h : s < 4294967296) : inv s < 4294967296 := Nat.xor_lt_two_pow (n := 32) h (by omega)
theorem inv_inv (s : Nat) : inv (inv s) = s := by unfold inv; rw [Nat.xor_assoc, Nat.xor_self, Nat.xor_zero]

/-- The sum of bytes behind others, and of bytes. -/
def more (s : Nat) (L : List UInt8) : Nat := inv (crcL (inv s) L)
def sum (L : List UInt8) : Nat := more 0 L
theorem more_lt {s : Nat} (L : List UInt8) (h : s < 4294967296) : more s L < 4294967296 := inv_lt (crcL_lt L (inv_lt h))
theorem sum_lt (L : List UInt8) : sum L < 4294967296 := more_lt L (by omega)
theorem more_append (s : Nat) (L M : List UInt8) : more s (L ++ M) = more (more s L) M := by
  unfold more; rw [crcL_append, inv_inv]

/-- Bit k of x, as it adds to what a linear map makes of the lower bits. -/
theorem bit_step (N x k : Nat) : Tn N (x % 2 ^ (k + 1)) = Tn N (x % 2 ^ k) ^^^ (if x / 2 ^ k % 2 = 1 then Tn N (2 ^ k) else 0) := by
  have h : x % 2 ^ (k + 1) = x % 2 ^ k ^^^ (if x / 2 ^ k % 2 = 1 then 2 ^ k else 0) := by
    have h1 := split_pow (x % 2 ^ (k + 1)) k
    have h2 : x % 2 ^ (k + 1) / 2 ^ k = x / 2 ^ k % 2 := by
      rw [Nat.pow_succ, Nat.mod_mul_right_div_self]
    have h3 : x % 2 ^ (k + 1) % 2 ^ k = x % 2 ^ k := by
      rw [Nat.pow_succ]; exact Nat.mod_mul_right_mod x (2 ^ k) 2
    rw [h2, h3] at h1
    rw [← h1, Nat.xor_comm]
    congr 1
    by_cases h4 : x / 2 ^ k % 2 = 1
    · rw [if_pos h4, h4, Nat.mul_one]
    · have h5 : x / 2 ^ k % 2 = 0 := by omega
      rw [if_neg h4, h5, Nat.mul_zero]
  rw [h, Tn_xor]
  congr 1
  split
  · rfl
  · exact Tn_zero N

/-- Squares: n bytes 0. -/
def zeros (s n : Nat) : Nat := Tn (8 * n) s
theorem zeros_lt {s : Nat} (n : Nat) (h : s < 4294967296) : zeros s n < 4294967296 := Tn_lt _ h
theorem zeros_add (s m n : Nat) : zeros s (m + n) = zeros (zeros s m) n := by unfold zeros; rw [Nat.mul_add, Tn_add]
theorem crcL_zeros (s n : Nat) : crcL s (List.replicate n 0) = zeros s n := by
  induction n generalizing s with
  | zero => rfl
  | succ n ih =>
    rw [List.replicate_succ]
    show crcL (crcB s 0) _ = _
    rw [ih, Nat.add_comm n 1, zeros_add]
    congr 1
    show Tn 8 (s ^^^ 0) = Tn 8 s
    rw [Nat.xor_zero]

/-- What bytes do does not hang on what is ahead of them. -/
theorem crcL_xor (a b : Nat) (L : List UInt8) : crcL (a ^^^ b) L = zeros a L.length ^^^ crcL b L := by
  induction L generalizing a b with
  | nil => rfl
  | cons c L ih =>
    show crcL (crcB (a ^^^ b) c) L = _ ^^^ crcL (crcB b c) L
    have h : crcB (a ^^^ b) c = zeros a 1 ^^^ crcB b c := by
      unfold crcB zeros
      rw [Nat.xor_assoc, Tn_xor]
    rw [h, ih, ← zeros_add, List.length_cons, Nat.add_comm 1]

/-- Join. -/
theorem join_sum (x y : List UInt8) : zeros (sum x) y.length ^^^ sum y = sum (x ++ y) := by
  have h : sum (x ++ y) = inv (crcL (crcL (inv 0) x) y) := by unfold sum more; rw [crcL_append]
  have e : crcL (inv 0) x = sum x ^^^ inv 0 := by
    show crcL (inv 0) x = inv (crcL (inv 0) x) ^^^ inv 0
    unfold inv
    rw [Nat.zero_xor, Nat.xor_assoc, Nat.xor_self, Nat.xor_zero]
  rw [h, e, crcL_xor]
  show _ ^^^ inv (crcL (inv 0) y) = inv _
  unfold inv
  rw [Nat.xor_assoc]
end Go.Proofs.Ytdfdlkpljgpckaa.Crc
/-
  A row of bytes as one number: what its sum is, what a bit that is turned does to it, and why the sums differ.
-/
namespace Go.Proofs.Ytdfdlkpljgpckaa.Crc

/-- The bytes as one number, the first lowest. -/
def num : List UInt8 → Nat
  | [] => 0
  | c :: L => c.toNat ^^^ 2 ^ 8 * num L

theorem mul_pow_xor (k a b : Nat) : 2 ^ k * (a ^^^ b) = 2 ^ k * a ^^^ 2 ^ k * b := by
  apply Nat.eq_of_testBit_eq
  intro i
  rw [Nat.testBit_xor, Nat.testBit_two_pow_mul, Nat.testBit_two_pow_mul, Nat.testBit_two_pow_mul, Nat.testBit_xor]
  cases decide (k ≤ i) <;> simp

theorem Tn_shift : ∀ (k m : Nat), Tn k (2 ^ k * m) = m
  | 0, m => by simp [Tn]
  | k + 1, m => by
    rw [Tn, Nat.pow_succ, Nat.mul_comm (2 ^ k) 2, Nat.mul_assoc, T_double, Tn_shift k m]

/-- The register behind bytes. -/
theorem crcL_num (s : Nat) (L : List UInt8) : crcL s L = Tn (8 * L.length) (s ^^^ num L) := by
  induction L generalizing s with
  | nil => simp [crcL, num, Tn]
  | cons c L ih =>
    show crcL (crcB s c) L = _
    rw [ih, List.length_cons, Nat.mul_add, Nat.add_comm (8 * L.length), Tn_add, num, ← Nat.xor_assoc, Tn_xor (8 * 1)]
    congr 2
    exact (Tn_shift 8 (num L)).symm

theorem byte_xor (c x : Nat) (hc : c < 256) (hx : x < 256) : c ^^^ x < 256 := Nat.xor_lt_two_pow (n := 8) hc hx

theorem num_lt (L : List UInt8) : num L < 2 ^ (8 * L.length) := by
  induction L with
  | nil => simp [num]
  | cons c L ih =>
    rw [num, List.length_cons, Nat.mul_add, Nat.mul_one]
    refine Nat.xor_lt_two_pow ?_ ?_
    · have h1 := byte_lt c
      have h2 : 2 ^ 8 ≤ 2 ^ (8 * L.length + 8) := Nat.pow_le_pow_right (by omega) (by omega)
      omega
    · rw [Nat.pow_add, Nat.mul_comm (2 ^ (8 * L.length))]
      exact Nat.mul_lt_mul_of_pos_left ih (by decide)

theorem num_inj : ∀ (L M : List UInt8), L.length = M.length → num L = num M → L = M
  | [], [], _, _ => rfl
  | c :: L, d :: M, hl, h => by
    simp only [num] at h
    have h1 : (c.toNat ^^^ 2 ^ 8 * num L) % 2 ^ 8 = (d.toNat ^^^ 2 ^ 8 * num M) % 2 ^ 8 := by rw [h]
    have h2 : (c.toNat ^^^ 2 ^ 8 * num L) / 2 ^ 8 = (d.toNat ^^^ 2 ^ 8 * num M) / 2 ^ 8 := by rw [h]
    rw [Nat.xor_mod_two_pow, Nat.xor_mod_two_pow, Nat.mul_mod_right, Nat.mul_mod_right, Nat.xor_zero, Nat.xor_zero, Nat.mod_eq_of_lt (byte_lt c), Nat.mod_eq_of_lt (byte_lt d)] at h1
    rw [Nat.xor_div_two_pow, Nat.xor_div_two_pow, Nat.mul_div_cancel_left _ (by decide), Nat.mul_div_cancel_left _ (by decide), Nat.div_eq_of_lt (byte_lt c), Nat.div_eq_of_lt (byte_lt d), Nat.zero_xor, Nat.zero_xor] at h2
    have hc : c = d := UInt8.toNat_inj.1 h1
    rw [hc, num_inj L M (by simpa using hl) h2]
  | [], _ :: _, h, _ => by simp at h
  | _ :: _, [], h, _ => by simp at h

/-- A byte that is written over. -/
theorem num_set : ∀ (L : List UInt8) (j : Nat) (c : UInt8) (x : Nat) (hj : j < L.length), c.toNat = L[j].toNat ^^^ x → num (L.set j c) = num L ^^^ 2 ^ (8 * j) * x
  | d :: L, 0, c, x, _, h => by
    simp only [List.getElem_cons_zero] at h
    simp only [List.set_cons_zero, num, h]
    rw [Nat.mul_zero, Nat.pow_zero, Nat.one_mul, Nat.xor_assoc, Nat.xor_comm x, ← Nat.xor_assoc]
  | d :: L, j + 1, c, x, hj, h => by
    simp only [List.getElem_cons_succ] at h
    simp only [List.set_cons_succ, num]
    rw [num_set L j c x (by simpa using hj) h, mul_pow_xor, ← Nat.mul_assoc, ← Nat.pow_add, Nat.mul_add, Nat.add_comm 8, ← Nat.xor_assoc]

/-- Bytes xor-ed. -/
theorem num_zip : ∀ (L M : List UInt8), L.length = M.length → num (List.zipWith (· ^^^ ·) L M) = num L ^^^ num M
  | [], [], _ => rfl
  | c :: L, d :: M, h => by
    simp only [List.zipWith_cons_cons, num]
    rw [num_zip L M (by simpa using h), mul_pow_xor, UInt8.toNat_xor]
    rw [Nat.xor_assoc, ← Nat.xor_assoc d.toNat, Nat.xor_comm d.toNat (2 ^ 8 * num L), Nat.xor_assoc, ← Nat.xor_assoc c.toNat]
  | [], _ :: _, h => by simp at h
  | _ :: _, [], h => by simp at h

/-- Parity of the lowest k bits. -/
def pr : Nat → Nat → Nat
  | 0, _ => 0
  | k + 1, s => (s % 2 + pr k (s / 2)) % 2

theorem pr_lt : ∀ (k s : Nat), pr k s < 2
  | 0, _ => by simp [pr]
  | k + 1, s => by simp only [pr]; omega

theorem pr_zero : ∀ k, pr k 0 = 0
  | 0 => rfl
  | k + 1 => by simp only [pr]; rw [Nat.zero_div, pr_zero k]

theorem pr_xor : ∀ (k a b : Nat), pr k (a ^^^ b) = (pr k a + pr k b) % 2
  | 0, _, _ => rfl
  | k + 1, a, b => by
    simp only [pr]
    rw [Nat.xor_div_two, xor_mod2, pr_xor k]
    have h1 : a % 2 = 0 ∨ a % 2 = 1 := by omega
    have h2 : b % 2 = 0 ∨ b % 2 = 1 := by omega
    rcases h1 with h1 | h1 <;> rcases h2 with h2 | h2 <;> rw [h1, h2]
    · simp only [Nat.xor_self]; omega
    · simp only [Nat.zero_xor]; omega
    · simp only [Nat.xor_zero]; omega
    · simp only [Nat.xor_self]; omega

theorem pr_top : ∀ (k s : Nat), s < 2 ^ k → pr (k + 1) s = pr k s
  | 0, s, h => by
    have : s = 0 := by simp at h; omega
    subst this; rfl
  | k + 1, s, h => by
    rw [pr, pr_top k (s / 2) (by rw [Nat.pow_succ] at h; omega)]
    rfl

theorem pr_pow : ∀ (k j : Nat), j < k → pr k (2 ^ j) = 1
  | k + 1, 0, _ => by
    simp only [pr, Nat.pow_zero]
    rw [show (1 : Nat) / 2 = 0 from rfl, pr_zero]
  | k + 1, j + 1, h => by
    simp only [pr]
    rw [Nat.pow_succ, Nat.mul_mod_left, Nat.mul_div_cancel _ (by decide), pr_pow k j (by omega)]

theorem pr_poly : pr 32 2197175160 = 1 := by decide +kernel

theorem pr_more : ∀ (d s : Nat), s < 2 ^ 32 → pr (32 + d) s = pr 32 s
  | 0, _, _ => rfl
  | d + 1, s, h => by
    rw [show 32 + (d + 1) = (32 + d) + 1 by omega, pr_top (32 + d) s (Nat.lt_of_lt_of_le h (Nat.pow_le_pow_right (by omega) (by omega))), pr_more d s h]

/-- A halving leaves the parity. -/
theorem pr_T (d s : Nat) (h : s < 2 ^ (32 + d)) : pr (32 + d) (T s) = pr (32 + d) s := by
  have e : pr (32 + d) (s / 2) = pr (31 + d) (s / 2) := by
    rw [show 32 + d = (31 + d) + 1 by omega]
    refine pr_top _ _ ?_
    rw [show 32 + d = (31 + d) + 1 by omega, Nat.pow_succ] at h
    omega
  have e2 : pr (32 + d) s = (s % 2 + pr (31 + d) (s / 2)) % 2 := by rw [show 32 + d = (31 + d) + 1 by omega]; rfl
  have hl := pr_lt (31 + d) (s / 2)
  unfold T
  split
  · rename_i ho
    rw [pr_xor, e, pr_more d 2197175160 (by decide), pr_poly, e2, ho]
    omega
  · rw [e, e2]
    omega

theorem T_lt_big (d : Nat) {s : Nat} (h : s < 2 ^ (32 + d)) : T s < 2 ^ (32 + d) := by
  unfold T
  split
  · refine Nat.xor_lt_two_pow (by omega) ?_
    exact Nat.lt_of_lt_of_le (show 2197175160 < 2 ^ 32 by decide) (Nat.pow_le_pow_right (by omega) (by omega))
  · omega

theorem pr_Tn (d : Nat) : ∀ (n s : Nat), s < 2 ^ (32 + d) → pr (32 + d) (Tn n s) = pr (32 + d) s
  | 0, _, _ => rfl
  | n + 1, s, h => by rw [Tn, pr_Tn d n (T s) (T_lt_big d h), pr_T d s h]

/-- Nothing but 0 becomes 0. -/
theorem T_zero {s : Nat} (h : s < 4294967296) (hz : T s = 0) : s = 0 := by
  unfold T at hz
  split at hz
  · exfalso
    have e : s / 2 = 2197175160 := by
      have h1 : (s / 2 ^^^ 2197175160) ^^^ 2197175160 = 0 ^^^ 2197175160 := by rw [hz]
      rw [Nat.xor_assoc, Nat.xor_self, Nat.xor_zero, Nat.zero_xor] at h1
      exact h1
    omega
  · omega
theorem Tn_nonzero : ∀ (n : Nat) {s : Nat}, s < 4294967296 → Tn n s = 0 → s = 0
  | 0, _, _, h => h
  | n + 1, _, h, hz => T_zero h (Tn_nonzero n (T_lt h) hz)

theorem xor_eq_zero {a b : Nat} (h : a ^^^ b = 0) : a = b := by
  have h1 : (a ^^^ b) ^^^ b = 0 ^^^ b := by rw [h]
  rw [Nat.xor_assoc, Nat.xor_self, Nat.xor_zero, Nat.zero_xor] at h1
  exact h1

theorem sum_num (L : List UInt8) : sum L = inv (Tn (8 * L.length) (inv 0 ^^^ num L)) := by unfold sum more; rw [crcL_num]

/-- Rows as long whose sums are the same: what they differ by becomes 0. -/
theorem sum_eq {L M : List UInt8} {F : Nat} (hl : L.length = M.length) (hF : num M = num L ^^^ F) (h : sum M = sum L) : Tn (8 * L.length) F = 0 := by
  rw [sum_num, sum_num, ← hl, hF] at h
  have h1 := congrArg inv h
  rw [inv_inv, inv_inv, ← Nat.xor_assoc, Tn_xor] at h1
  have h2 : Tn (8 * L.length) (inv 0 ^^^ num L) ^^^ (Tn (8 * L.length) (inv 0 ^^^ num L) ^^^ Tn (8 * L.length) F) = Tn (8 * L.length) (inv 0 ^^^ num L) ^^^ Tn (8 * L.length) (inv 0 ^^^ num L) := by rw [h1]
  rw [← Nat.xor_assoc, Nat.xor_self, Nat.zero_xor] at h2
  exact h2

/-- An odd number of bits that are turned: the sums differ. -/
theorem tells_odd {L M : List UInt8} {F : Nat} (hl : L.length = M.length) (hF : num M = num L ^^^ F) (hlt : F < 2 ^ (32 + 8 * L.length)) (ho : pr (32 + 8 * L.length) F = 1) : sum M ≠ sum L := by
  intro h
  have h1 := sum_eq hl hF h
  have h2 := pr_Tn (8 * L.length) (8 * L.length) F hlt
  rw [h1, pr_zero, ho] at h2
  cases h2

/-- Bits within 32: the sums differ, or nothing was turned. -/
theorem tells_burst {L M : List UInt8} {k m : Nat} (hl : L.length = M.length) (hF : num M = num L ^^^ 2 ^ k * m) (hk : k ≤ 8 * L.length) (hm : m < 4294967296) (h : sum M = sum L) : M = L := by
  have h1 := sum_eq hl hF h
  rw [show 8 * L.length = k + (8 * L.length - k) by omega, Tn_add, Tn_shift] at h1
  have h2 := Tn_nonzero _ hm h1
  subst h2
  rw [Nat.mul_zero, Nat.xor_zero] at hF
  exact num_inj M L hl.symm hF

/-- Three rows xor-ed. -/
theorem sum_three {A B C D : List UInt8} (h1 : A.length = B.length) (h2 : A.length = C.length) (h3 : A.length = D.length) (hD : num D = num A ^^^ num B ^^^ num C) : sum A ^^^ sum B ^^^ sum C = sum D := by
  rw [sum_num, sum_num, sum_num, sum_num, ← h1, ← h2, ← h3, hD, Tn_xor, Tn_xor _ _ (num B), Tn_xor _ _ (num C), Tn_xor _ _ (_ ^^^ _), Tn_xor _ (_ ^^^ _), Tn_xor _ (num A)]
  unfold inv
  generalize Tn (8 * A.length) (0 ^^^ 4294967295) = t
  generalize Tn (8 * A.length) (num A) = a
  generalize Tn (8 * A.length) (num B) = b
  generalize Tn (8 * A.length) (num C) = c
  apply Nat.eq_of_testBit_eq
  intro i
  simp only [Nat.testBit_xor]
  cases t.testBit i <;> cases a.testBit i <;> cases b.testBit i <;> cases c.testBit i <;> cases (4294967295 : Nat).testBit i <;> rfl
end Go.Proofs.Ytdfdlkpljgpckaa.Crc
/-
  Words for memory: a slice of bytes that reads as a list (Seg), one that lies in the call's own memory (Own), a reader's block (RdB); and how they outlast a step of the world.
-/
namespace Go.Proofs.Ytdfdlkpljgpckaa.Crc
open Go.RowKit

def BV (L : List UInt8) : List Value := L.map fun u => Value.int .u8 (u.toNat : Int)

theorem BV_len (L : List UInt8) : (BV L).length = L.length := by simp [BV]
theorem BV_append (L M : List UInt8) : BV (L ++ M) = BV L ++ BV M := by simp [BV]
theorem BV_one (L : List UInt8) : ∀ u ∈ BV L, u.oneCell' = true := by
  intro u hu; simp [BV] at hu; obtain ⟨x, _, rfl⟩ := hu; rfl

/-- The slice v reads as L. -/
def Seg (w : World) (v : Value) (L : List UInt8) : Prop :=
  ∃ ao cap, v = .slice ao L.length cap ∧ L.length ≤ cap ∧ cap ≤ maxLen ∧ (ao = none → cap = 0) ∧ ∀ j (hj : j < L.length), ∃ b off, ao = some ⟨b, off, none⟩ ∧ w.cell? ⟨b, off + j, none⟩ = some (.int .u8 (L[j].toNat : Int))

/-- The slice v owns L, in blocks from B on. -/
def Own (w : World) (B : Nat) (v : Value) (L : List UInt8) : Prop := w.ownsRow B 5 1 v L.length (BV L)

/-- A reader's block. -/
def RdB (w : World) (b : Nat) (o : Bool) (s : Value) : Prop := w.heap[b]? = some (.cells #[.bool o, s] 73 (0, 0))

theorem grown_refl (w : World) (r : Option Nat) : w.grownBy w r := ⟨rfl, rfl, rfl, Nat.le_refl _, fun _ _ _ => rfl⟩
theorem grown_weak {w w' : World} (h : w.grownBy w' none) (r : Option Nat) : w.grownBy w' r := ⟨h.os, h.tape, h.output, h.size, fun k hk _ => h.block k hk (by simp)⟩
theorem grown_trans {a b c : World} {r : Option Nat} (h : a.grownBy b r) (k : b.grownBy c r) : a.grownBy c r :=
  ⟨k.os.trans h.os, k.tape.trans h.tape, k.output.trans h.output, Nat.le_trans h.size k.size, fun i hi hr => (k.block i (Nat.lt_of_lt_of_le hi h.size) hr).trans (h.block i hi hr)⟩
/-- A step that writes one block that was not there before. -/
theorem grown_new {a b c : World} {r q : Option Nat} (h : a.grownBy b r) (k : b.grownBy c q) (hq : ∀ x, q = some x → a.heap.size ≤ x) : a.grownBy c r :=
  ⟨k.os.trans h.os, k.tape.trans h.tape, k.output.trans h.output, Nat.le_trans h.size k.size, fun i hi hr => (k.block i (Nat.lt_of_lt_of_le hi h.size) (fun e => by have := hq i e.symm; omega)).trans (h.block i hi hr)⟩
theorem grown_drew (w : World) (r : Option Nat) : w.grownBy w.drew r := ⟨rfl, rfl, rfl, Nat.le_refl _, fun _ _ _ => rfl⟩
theorem grown_setCell (w : World) (b o : Nat) (v : Value) : w.grownBy (w.setCell ⟨b, o, none⟩ v) (some b) :=
  ⟨rfl, rfl, rfl, by simp [World.setCell], fun k _ hk => heap_setCell_other w ⟨b, o, none⟩ k v (fun e => hk (by simp [e]))⟩
theorem grown_below {w w' : World} (h : w.grownBy w' none) : Below w.heap.size w w' := ⟨h.os, h.tape, h.output, h.size, fun k hk => h.block k hk (by simp)⟩

theorem RdB.lt {w : World} {b : Nat} {o : Bool} {s : Value} (h : RdB w b o s) : b < w.heap.size := (Array.getElem?_eq_some_iff.1 h).1
theorem RdB.cell0 {w : World} {b : Nat} {o : Bool} {s : Value} (h : RdB w b o s) : w.cell? ⟨b, 0, none⟩ = some (.bool o) := by
  rw [cell_of_row w b 0 _ _ _ h]; rfl
theorem RdB.cell1 {w : World} {b : Nat} {o : Bool} {s : Value} (h : RdB w b o s) : w.cell? ⟨b, 1, none⟩ = some s := by
  rw [cell_of_row w b 1 _ _ _ h]; rfl
theorem RdB.free {w : World} {b : Nat} {o : Bool} {s : Value} (h : RdB w b o s) (j : Nat) : w.frozen? ⟨b, j, none⟩ = false := frozen_of_row w b j _ _ h
theorem RdB.store {w : World} {b : Nat} {o : Bool} {s : Value} (h : RdB w b o s) (t : Value) : RdB (w.setCell ⟨b, 1, none⟩ t) b o t := heap_setCell_same w b 1 _ _ t h
theorem RdB.kept {w w' : World} {b : Nat} {o : Bool} {s : Value} {r : Option Nat} (h : RdB w b o s) (hg : w.grownBy w' r) (hr : r ≠ some b) : RdB w' b o s :=
  (hg.block b h.lt (fun e => hr e.symm)).trans h

theorem Seg.len {w : World} {v : Value} {L : List UInt8} (h : Seg w v L) : L.length ≤ 9223372036854775807 := by
  obtain ⟨ao, cap, _, h1, h2, _⟩ := h
  unfold maxLen at h2; omega

theorem seg_nil (w : World) : Seg w (.slice none 0 0) [] := ⟨none, 0, rfl, Nat.le_refl _, Nat.zero_le _, fun _ => rfl, fun j hj => absurd hj (by simp)⟩

/-- A list of bytes stays readable where its cells stay. -/
theorem Seg.of_cells {w w' : World} {v : Value} {L : List UInt8} (h : Seg w v L) (hc : ∀ b j (x : Int), w.cell? ⟨b, j, none⟩ = some (.int .u8 x) → w'.cell? ⟨b, j, none⟩ = some (.int .u8 x)) : Seg w' v L := by
  obtain ⟨ao, cap, hv, h1, h2, h3, h4⟩ := h
  refine ⟨ao, cap, hv, h1, h2, h3, fun j hj => ?_⟩
  obtain ⟨b, off, e, hcell⟩ := h4 j hj
  exact ⟨b, off, e, hc _ _ _ hcell⟩

theorem Seg.grown {w w' : World} {v : Value} {L : List UInt8} (h : Seg w v L) (hg : w.grownBy w' none) : Seg w' v L :=
  h.of_cells fun _ _ _ hc => hg.cell hc (by simp)

/-- Writes to a reader's block touch no bytes. -/
theorem Seg.grownR {w w' : World} {v : Value} {L : List UInt8} {b : Nat} {o : Bool} {ao : Option Addr} {n c : Nat} (h : Seg w v L) (hr : RdB w b o (.slice ao n c)) (hg : w.grownBy w' (some b)) : Seg w' v L := by
  refine h.of_cells fun k j x hc => hg.cell hc ?_
  intro e
  simp at e; subst e
  rw [cell_of_row w _ _ _ _ _ hr] at hc
  match j, hc with
  | 0, hc => simp at hc
  | 1, hc => simp at hc
  | j + 2, hc => simp at hc

theorem Seg.grownO {w w' : World} {v u : Value} {L : List UInt8} (h : Seg w v L) (hu : w.grownBy w' u.ownBlock) (hne : ∀ b off, (∃ n c, v = .slice (some ⟨b, off, none⟩) n c) → some b ≠ u.ownBlock) : Seg w' v L := by
  obtain ⟨ao, cap, hv, h1, h2, h3, h4⟩ := h
  refine ⟨ao, cap, hv, h1, h2, h3, fun j hj => ?_⟩
  obtain ⟨b, off, e, hcell⟩ := h4 j hj
  exact ⟨b, off, e, hu.cell hcell (hne b off ⟨_, _, by rw [hv, e]⟩)⟩

theorem Own.seg {w : World} {B : Nat} {v : Value} {L : List UInt8} (h : Own w B v L) : Seg w v L := by
  rcases h.2 with ⟨rfl, hn⟩ | ⟨g, cap, cur, rfl, hb, hg, hnc, hcm, hcs, ht⟩
  · have : L = [] := List.eq_nil_of_length_eq_zero hn
    subst this
    exact seg_nil w
  · refine ⟨_, cap, rfl, hnc, hcm, by simp, fun j hj => ⟨g, 0, rfl, ?_⟩⟩
    have := h.cellAt j (by omega)
    rw [Nat.zero_add, this]
    simp [BV, hj]

theorem Own.nil (w : World) (B : Nat) : Own w B (.slice none 0 0) [] := World.ownsRow_nil w B 5 1
theorem Own.mono {w : World} {B B' : Nat} {v : Value} {L : List UInt8} (h : Own w B v L) (hB : B' ≤ B) : Own w B' v L := by
  refine ⟨h.1, ?_⟩
  rcases h.2 with h2 | ⟨g, cap, cur, h1, hb, h3⟩
  · exact .inl h2
  · exact .inr ⟨g, cap, cur, h1, by omega, h3⟩
theorem Own.grown {w w' : World} {B : Nat} {v : Value} {L : List UInt8} (h : Own w B v L) (hg : w.grownBy w' none) : Own w' B v L := h.kept hg (by cases v.ownBlock <;> simp)
/-- Writes to a reader's block touch no row of bytes. -/
theorem Own.grownR {w w' : World} {B : Nat} {v : Value} {L : List UInt8} {b : Nat} {o : Bool} {s : Value} (h : Own w B v L) (hr : RdB w b o s) (hg : w.grownBy w' (some b)) : Own w' B v L := by
  refine h.kept hg ?_
  rcases h.2 with ⟨rfl, _⟩ | ⟨g, cap, cur, rfl, hb, hgg, _⟩
  · exact .inl rfl
  · right
    intro e
    simp [Value.ownBlock] at e; subst e
    rw [hr] at hgg; simp at hgg
end Go.Proofs.Ytdfdlkpljgpckaa.Crc
/-
  The document's step: eight halvings.
-/
namespace Go.Proofs.Ytdfdlkpljgpckaa.Crc
open Go.RowKit

theorem half_xor {y : Nat} (hy : y < 4294967296) : bits .xor .u32 ((y : Int) / 2) 2197175160 = ((y / 2 ^^^ 2197175160 : Nat) : Int) := by
  rw [show (y : Int) / 2 = ((y / 2 : Nat) : Int) by omega]
  exact u32_xor_nat _ 2197175160 (by omega) (by omega)

set_option maxRecDepth 100000 in
set_option maxHeartbeats 400000 in
theorem step19 (s : Nat) (hs : s < 4294967296) (w : World) : Calls Try.prog 34 #[.int .u32 s] w fun e w' => e = .returned (.int .u32 (Tn 8 s)) ∧ w' = w := by
  go_enter Try.func34, Try.ntmps34
  go_wp2
  go_loopw [0, 3] (fun x i w2 => ∃ k : Nat, k ≤ 8 ∧ x = .int .u32 (Tn k s) ∧ i = .int .i64 k ∧ w2 = w) (fun _ i _ => 8 - (intOf i).toNat)
  case atStart => exact ⟨0, by omega, rfl, rfl, rfl⟩
  case round =>
    obtain ⟨k, hk, rfl, rfl, rfl⟩ := hrel
    by_cases hlt : k < 8
    · have hb := Tn_lt k hs
      have e1 := Tn_succ k s
      obtain ⟨y, hy⟩ : ∃ y, Tn k s = y := ⟨_, rfl⟩
      rw [hy] at hb e1 ⊢
      have HE : Hid _ := e1
      have HY : Hid _ := hy
      clear hy e1
      by_cases ho : y % 2 = 1
      · have g1 : ((y : Int) % 2 == 1) = true := by simp; omega
        have HX : Hid _ := half_xor hb
        have e2 : Hid (T y = y / 2 ^^^ 2197175160) := by unfold Hid T; rw [if_pos ho]
        go_wp2_with fail
        go_roundw
        case rel => exact ⟨k + 1, by omega, by rw [HE.out, e2.out, HX.out], by go_num, trivial⟩
        case measure => simp [intOf]; omega
      · have g1 : ((y : Int) % 2 == 1) = false := by simp; omega
        have e2 : Hid (T y = y / 2) := by unfold Hid T; rw [if_neg ho]
        go_wp2_with fail
        go_roundw
        case rel => exact ⟨k + 1, by omega, by rw [HE.out, e2.out]; go_num, by go_num, trivial⟩
        case measure => simp [intOf]; omega
    · have e : k = 8 := by omega
      subst e
      go_wp2_with fail
      go_ret
      exact ⟨rfl, rfl⟩
end Go.Proofs.Ytdfdlkpljgpckaa.Crc
/-
  Laws of the walk: a whole array loaded from its block, stored into its block.
-/
namespace Go.Proofs.Ytdfdlkpljgpckaa.Crc
open Go.RowKit

theorem wpList_load_row {P : Program} (w : World) {ops : Array Oper} {rest : List Oper} {o : Oper} {a : Act} {Q : Exit → Act → World → Prop}
    (hgd : o.guard = none) (p : Operand) (t : TypeId) (ho : o.op = .load t p) (g n : Nat) (e : TypeId) (c : Array Value) (hu : P.underlying t = some (.array n e)) (hi : (P.info? t).map (·.size) = some c.size)
    (hp : a.eval p = .pointer (some ⟨g, 0, none⟩)) (hg : w.heap[g]? = some (.cells c t (0, 0)))
    (h : wpList P ops Q rest (a.put o.dst (.agg c)) w) : wpList P ops Q (o :: rest) a w := by
  refine wpList_plain hgd fun K hK' => ?_
  have hrun : (Instr.loadAt t (.pointer (some ⟨g, 0, none⟩))).run P w = .ok (.agg c) w := by
    simp only [Instr.loadAt, Instr.sureAddr, Sem.run_bind, Sem.run_pure, Result.andThen]
    exact run_loadVar_row w g t t c (0, 0) _ hg hu rfl hi
  unfold Oper.wp
  simp [execOp, ho, hp, hrun, Result.andThen]
  exact hK' _ _ h

theorem wpList_store_row {P : Program} (w : World) {ops : Array Oper} {rest : List Oper} {o : Oper} {a : Act} {Q : Exit → Act → World → Prop}
    (hgd : o.guard = none) (hds : o.dst = none) (p x : Operand) (t : TypeId) (ho : o.op = .store t p x) (g : Nat) (c old : Array Value) (hi : (P.info? t).map (·.size) = some c.size) (hs : old.size = c.size) (h1 : c.all (·.oneCell') = true)
    (hp : a.eval p = .pointer (some ⟨g, 0, none⟩)) (hx : a.eval x = .agg c) (hg : w.heap[g]? = some (.cells old t (0, 0)))
    (h : wpList P ops Q rest a (w.setRow g c)) : wpList P ops Q (o :: rest) a w := by
  refine wpList_plain hgd fun K hK' => ?_
  have hrun : (Instr.storeAt t (.pointer (some ⟨g, 0, none⟩)) (.agg c)).run P w = .ok () (w.setRow g c) := by
    simp only [Instr.storeAt, Instr.sureAddr, Sem.run_bind, Sem.run_pure, Result.andThen]
    exact run_storeVar_row w g t t old c hg hi hs h1
  unfold Oper.wp
  simp [execOp, ho, hp, hx, hrun, Result.andThen]
  refine hK' _ _ ?_
  rw [hds]
  exact h

theorem exec_load_row {P : Program} (w : World) {o : Oper} (ev : Operand → Value) (p : Operand) (t : TypeId) (ho : o.op = .load t p) (g n : Nat) (e : TypeId) (c : Array Value) (hu : P.underlying t = some (.array n e)) (hi : (P.info? t).map (·.size) = some c.size)
    (hp : ev p = .pointer (some ⟨g, 0, none⟩)) (hg : w.heap[g]? = some (.cells c t (0, 0))) : (execOp ev o).run P w = .ok (.value (.agg c)) w := by
  have hrun : (Instr.loadAt t (.pointer (some ⟨g, 0, none⟩))).run P w = .ok (.agg c) w := by
    simp only [Instr.loadAt, Instr.sureAddr, Sem.run_bind, Sem.run_pure, Result.andThen]
    exact run_loadVar_row w g t t c (0, 0) _ hg hu rfl hi
  simp [execOp, ho, hp, hrun, Result.andThen]

theorem grown_setRow (w : World) (g : Nat) (c : Array Value) : w.grownBy (w.setRow g c) (some g) := by
  refine ⟨rfl, rfl, rfl, by simp, fun k _ hk => ?_⟩
  simp only [World.setRow, Array.getElem?_modify]
  rw [if_neg (fun e => hk (by rw [e]))]
end Go.Proofs.Ytdfdlkpljgpckaa.Crc
/-
  The table of sixteen numbers; bytes that pass, by the table.
-/
namespace Go.Proofs.Ytdfdlkpljgpckaa.Crc
open Go.RowKit

/-- A row of words: n of them, those below i as f says. -/
def Filled (n i : Nat) (f : Nat → Nat) (c : Array Value) : Prop := c.size = n ∧ (∀ j, j < n → ∃ x : Nat, c[j]? = some (.int .u32 x)) ∧ ∀ j, j < i → c[j]? = some (.int .u32 (f j))

theorem Filled.set {n i : Nat} {f : Nat → Nat} {c : Array Value} (h : Filled n i f c) (x : Nat) (hx : x = f i) (hi : i < n) : Filled n (i + 1) f (c.setIfInBounds i (.int .u32 x)) := by
  obtain ⟨h1, h2, h3⟩ := h
  refine ⟨by simpa using h1, fun j hj => ?_, fun j hj => ?_⟩
  · by_cases e : i = j
    · subst e
      exact ⟨x, by rw [Array.getElem?_setIfInBounds_self_of_lt (by omega)]⟩
    · obtain ⟨y, hy⟩ := h2 j hj
      exact ⟨y, by rw [Array.getElem?_setIfInBounds_ne e]; exact hy⟩
  · by_cases e : i = j
    · subst e
      rw [Array.getElem?_setIfInBounds_self_of_lt (by omega), hx]
    · rw [Array.getElem?_setIfInBounds_ne e]; exact h3 j (by omega)

/-- The row itself. -/
def rowV (n : Nat) (f : Nat → Nat) : Array Value := ((List.range n).map fun j => Value.int .u32 (f j : Nat)).toArray

theorem rowV_get (n : Nat) (f : Nat → Nat) (j : Nat) (h : j < n) : (rowV n f)[j]? = some (.int .u32 (f j)) := by
  unfold rowV; simp [h]

theorem rowV_size (n : Nat) (f : Nat → Nat) : (rowV n f).size = n := by unfold rowV; simp

theorem Filled.all {n : Nat} {f : Nat → Nat} {c : Array Value} (h : Filled n n f c) : c = rowV n f := by
  apply Array.ext_getElem?
  intro j
  by_cases hj : j < n
  · rw [h.2.2 j hj, rowV_get n f j hj]
  · rw [Array.getElem?_eq_none (by have := h.1; omega), Array.getElem?_eq_none (by rw [rowV_size]; omega)]

theorem filled_zero (n : Nat) (f : Nat → Nat) : Filled n 0 f (Array.replicate n (.int .u32 0)) := by
  refine ⟨by simp, fun j hj => ⟨0, by simp [hj]⟩, fun j hj => absurd hj (by omega)⟩

theorem rowV_one (n : Nat) (f : Nat → Nat) : (rowV n f).all (·.oneCell') = true := by
  unfold rowV; simp [Value.oneCell']

theorem Try.size68 : (Try.prog.info? 68).map (·.size) = some 16 := by kernel_rfl

/-- The table of sixteen. -/
def tabV : Array Value := rowV 16 (Tn 4)

theorem and_one {y : Nat} (hy : y < 4294967296) : bits .and .u32 (y : Int) 1 = ((y % 2 : Nat) : Int) := by
  have h := u32_and_nat y 1 hy (by omega)
  rw [Nat.and_one_is_mod] at h
  exact h

theorem half_zero {y : Nat} (hy : y < 4294967296) : bits .xor .u32 ((y : Int) / 2) 0 = ((y / 2 : Nat) : Int) := by
  rw [show (y : Int) / 2 = ((y / 2 : Nat) : Int) by omega]
  have h := u32_xor_nat (y / 2) 0 (by omega) (by omega)
  rw [Nat.xor_zero] at h
  exact h

theorem odd_neg {y : Nat} (h : y % 2 = 1) : IntKind.u32.wrap (-((y % 2 : Nat) : Int)) = 4294967295 := by rw [h]; rfl
theorem even_neg {y : Nat} (h : y % 2 = 0) : IntKind.u32.wrap (-((y % 2 : Nat) : Int)) = 0 := by rw [h]; rfl

set_option maxRecDepth 100000 in
set_option maxHeartbeats 400000 in
theorem nibbles17 (w : World) : Calls Try.prog 35 #[] w fun e w' => e = .returned (.agg tabV) ∧ w.grownBy w' none := by
  go_enter Try.func35, Try.ntmps35
  go_wp2
  go_loopw [5] (fun i wr => ∃ (k : Nat) (z c : Array Value), k ≤ 16 ∧ i = .int .i64 k ∧ z.size = 16 ∧ Filled 16 k (Tn 4) c ∧ wr = (w.alloc (.cells z 68)).alloc (.cells c 68)) (fun i _ => 16 - (intOf i).toNat)
  case atStart => exact ⟨0, _, _, by omega, rfl, rfl, filled_zero 16 _, rfl⟩
  case round =>
    obtain ⟨k, z, c, hk, rfl, hz, hc, rfl⟩ := hrel
    by_cases hlt : k < 16
    · have HC : Hid _ := hc
      clear hc
      have hk32 : IntKind.u32.wrap (k : Int) = (k : Int) := by rw [IntKind.wrap_u32']; omega
      go_wp2_with fail
      go_loopw [3, 10] (fun x i wr => ∃ m : Nat, m ≤ 4 ∧ x = .int .u32 (Tn m k) ∧ i = .int .i64 m ∧ wr = (w.alloc (.cells z 68)).alloc (.cells c 68)) (fun _ i _ => 4 - (intOf i).toNat)
      case atStart => exact ⟨0, by omega, rfl, rfl, rfl⟩
      case round =>
        obtain ⟨m, hm, rfl, rfl, rfl⟩ := hrel
        by_cases hlt4 : m < 4
        · have hb := Tn_lt m (s := k) (by omega)
          have e1 := Tn_succ m k
          obtain ⟨y, hy⟩ : ∃ y, Tn m k = y := ⟨_, rfl⟩
          rw [hy] at hb e1 ⊢
          have HE : Hid _ := e1
          clear hy e1
          have a1 := and_one hb
          by_cases ho : y % 2 = 1
          · have a2 := odd_neg ho
            have a3 : bits .and .u32 2197175160 4294967295 = 2197175160 := by decide
            have HX : Hid _ := half_xor hb
            have e2 : Hid (T y = y / 2 ^^^ 2197175160) := by unfold Hid T; rw [if_pos ho]
            go_wp2_with fail
            go_roundw
            case rel => exact ⟨m + 1, by omega, by rw [HE.out, e2.out, HX.out], by go_num, trivial⟩
            case measure => simp [intOf]; omega
          · have a2 := even_neg (y := y) (by omega)
            have a3 : bits .and .u32 2197175160 0 = 0 := by decide
            have a5 : (y : Int) % 2 = 0 := by omega
            have HX : Hid (bits .xor .u32 ((y : Int) / 2) 0 = ((y / 2 : Nat) : Int)) := half_zero hb
            have e2 : Hid (T y = y / 2) := by unfold Hid T; rw [if_neg ho]
            go_wp2_with fail
            go_roundw
            case rel => exact ⟨m + 1, by omega, by rw [HE.out, e2.out, HX.out], by go_num, trivial⟩
            case measure => simp [intOf]; omega
        · have e : m = 4 := by omega
          subst e
          have i1 : (0 : Int) ≤ (k : Int) := by omega
          have i2 : (k : Int) < 16 := by omega
          obtain ⟨x0, hx0⟩ := HC.out.2.1 k hlt
          have hsz := HC.out.1
          have hkc : k < c.size := by omega
          go_wp2_with fail
          go_roundw
          case rel => exact ⟨k + 1, z, _, by omega, by go_num, hz, Filled.set HC.out (Tn 4 k) rfl hlt, rfl⟩
          case measure => simp [intOf]; omega
    · have e : k = 16 := by omega
      subst e
      have e2 := hc.all
      subst e2
      clear hc
      have h38 : Hid (((w.alloc (.cells z 68)).alloc (.cells (rowV 16 (Tn 4)) 68)).heap[w.heap.size + 1]? = some (.cells (rowV 16 (Tn 4)) 68 (0, 0))) := by
        exact heap_alloc2_new w _ _
      have hz38 : Hid (((w.alloc (.cells z 68)).alloc (.cells (rowV 16 (Tn 4)) 68)).heap[w.heap.size]? = some (.cells z 68 (0, 0))) := heap_alloc2_old w _ _
      have hgr : Hid (w.grownBy ((w.alloc (.cells z 68)).alloc (.cells (rowV 16 (Tn 4)) 68)) none) := grown_trans (World.grownBy_alloc _ _ _) (World.grownBy_alloc _ _ _)
      obtain ⟨W, hW⟩ : ∃ W, (w.alloc (.cells z 68)).alloc (.cells (rowV 16 (Tn 4)) 68) = W := ⟨_, rfl⟩
      rw [hW] at h38 hz38 hgr ⊢
      clear hW
      go_wp2_with (first | (refine wpList_load_row _ rfl (.tmp 1) 68 rfl (w.heap.size + 1) 16 50 (rowV 16 (Tn 4)) Try.underlying68 (by rw [rowV_size]; exact Try.size68) rfl h38.out ?_) | (refine wpList_store_row _ rfl rfl (.tmp 0) (.tmp 26) 68 rfl w.heap.size (rowV 16 (Tn 4)) z (by rw [rowV_size]; exact Try.size68) (by rw [rowV_size]; exact hz) (rowV_one _ _) rfl rfl hz38.out ?_))
      refine bodyPost_ret (results_cell_row rfl _ _ w.heap.size 68 (rowV 16 (Tn 4)) (0, 0) _ rfl (setRow_heap _ _ z _ _ _ hz38.out) Try.underlying68 rfl (by rw [rowV_size]; exact Try.size68)) rfl ⟨rfl, ?_⟩
      exact grown_new hgr.out (grown_setRow _ _ _) (by intro x hx; simp at hx; omega)
end Go.Proofs.Ytdfdlkpljgpckaa.Crc
/-
  Bytes that pass, by the table.
-/
namespace Go.Proofs.Ytdfdlkpljgpckaa.Crc
open Go.RowKit

theorem and_15 {y : Nat} (hy : y < 4294967296) : bits .and .u32 (y : Int) 15 = ((y % 16 : Nat) : Int) := by
  have h := u32_and_nat y 15 hy (by omega)
  have e : y &&& 15 = y % 16 := Nat.and_two_pow_sub_one_eq_mod y 4
  rw [e] at h
  exact h

theorem shift_xor {y x : Nat} (hy : y < 4294967296) (hx : x < 4294967296) : bits .xor .u32 ((y : Int) / 16) (x : Int) = ((y / 16 ^^^ x : Nat) : Int) := by
  rw [show (y : Int) / 16 = ((y / 16 : Nat) : Int) by omega]
  exact u32_xor_nat _ _ (by omega) hx

theorem seg_alloc {w : World} {v : Value} {L : List UInt8} (h : Seg w v L) (o : Obj) : Seg (w.alloc o) v L := h.grown (World.grownBy_alloc _ _ _)

theorem Seg.shape {w : World} {v : Value} {L : List UInt8} (h : Seg w v L) : ∃ ao cap, v = .slice ao L.length cap := by obtain ⟨ao, cap, h, _⟩ := h; exact ⟨ao, cap, h⟩

set_option maxRecDepth 100000 in
set_option maxHeartbeats 400000 in
theorem behind18 (s : Nat) (v : Value) (L : List UInt8) (w : World) (hs : s < 4294967296) (hL : Seg w v L) :
    Calls Try.prog 36 #[.agg tabV, .int .u32 s, v] w fun e w' => e = .returned (.int .u32 (crcL s L)) ∧ w.grownBy w' none := by
  obtain ⟨ao, cap, rfl⟩ := hL.shape
  have hlen := hL.len
  have HL : Hid (Seg (w.alloc (.cells tabV 68)) (.slice ao L.length cap) L) := seg_alloc hL _
  have HC : Hid (∀ j, j < 16 → (w.alloc (.cells tabV 68)).cell? ⟨w.heap.size, j, none⟩ = some (.int .u32 (Tn 4 j))) := by
    intro j hj
    rw [cell_of_row _ _ j _ _ _ (heap_alloc_new w (.cells tabV 68))]
    exact rowV_get 16 _ j hj
  have HG : Hid (w.grownBy (w.alloc (.cells tabV 68)) none) := World.grownBy_alloc _ _ _
  clear hL
  go_enter Try.func36, Try.ntmps36
  go_wp2_with fail
  obtain ⟨W, hW⟩ : ∃ W, w.alloc (.cells tabV 68) = W := ⟨_, rfl⟩
  rw [hW] at HL HC HG ⊢
  clear hW
  go_loopw [1, 12] (fun x i wr => ∃ k : Nat, k ≤ L.length ∧ x = .int .u32 (crcL s (L.take k)) ∧ i = .int .i64 k ∧ wr = W) (fun _ i _ => L.length - (intOf i).toNat)
  case atStart => exact ⟨0, by omega, by simp [crcL], rfl, rfl⟩
  case round =>
    obtain ⟨k, hk, rfl, rfl, rfl⟩ := hrel
    by_cases hlt : k < L.length
    · have ha := crcL_lt (L.take k) hs
      have e1 : crcL s (L.take (k + 1)) = crcB (crcL s (L.take k)) L[k] := by
        rw [List.take_succ_eq_append_getElem hlt, crcL_snoc]
      obtain ⟨a, hea⟩ : ∃ a, crcL s (L.take k) = a := ⟨_, rfl⟩
      obtain ⟨_, _, hv, _, _, _, h4⟩ := HL.out
      simp at hv
      obtain ⟨rfl, rfl⟩ := hv
      obtain ⟨bb, off, rfl, hcell⟩ := h4 k hlt
      obtain ⟨c, hc⟩ : ∃ c : UInt8, L[k] = c := ⟨_, rfl⟩
      rw [hc] at hcell e1
      have hx := byte_lt c
      rw [hea] at ha e1 ⊢
      rw [crcB_nib] at e1
      obtain ⟨x, hex⟩ : ∃ x : Nat, c.toNat = x := ⟨_, rfl⟩
      rw [hex] at hcell e1 hx
      have f1 : bits .xor .u32 (a : Int) (x : Int) = ((a ^^^ x : Nat) : Int) := u32_xor_nat a x ha (by omega)
      have hy1 : a ^^^ x < 4294967296 := Nat.xor_lt_two_pow (n := 32) ha (by omega)
      obtain ⟨y1, hey1⟩ : ∃ y, a ^^^ x = y := ⟨_, rfl⟩
      rw [hey1] at f1 hy1 e1
      have f2 := and_15 hy1
      obtain ⟨l1, hl1⟩ : ∃ l, y1 % 16 = l := ⟨_, rfl⟩
      have hl1b : l1 < 16 := by omega
      have d1 := HC.out l1 hl1b
      rw [hl1] at f2 e1
      have ht1 := Tn_lt 4 (s := l1) (by omega)
      obtain ⟨t1, het1⟩ : ∃ t, Tn 4 l1 = t := ⟨_, rfl⟩
      rw [het1] at d1 e1 ht1
      have f3 := shift_xor hy1 ht1
      have hy2 : y1 / 16 ^^^ t1 < 4294967296 := Nat.xor_lt_two_pow (n := 32) (by omega) ht1
      obtain ⟨y2, hey2⟩ : ∃ y, y1 / 16 ^^^ t1 = y := ⟨_, rfl⟩
      rw [hey2] at f3 hy2 e1
      have f4 := and_15 hy2
      obtain ⟨l2, hl2⟩ : ∃ l, y2 % 16 = l := ⟨_, rfl⟩
      have hl2b : l2 < 16 := by omega
      have d2 := HC.out l2 hl2b
      rw [hl2] at f4 e1
      have ht2 := Tn_lt 4 (s := l2) (by omega)
      obtain ⟨t2, het2⟩ : ∃ t, Tn 4 l2 = t := ⟨_, rfl⟩
      rw [het2] at d2 e1 ht2
      have f5 := shift_xor hy2 ht2
      rw [← e1] at f5
      have i1 : (0 : Int) ≤ (k : Int) := by omega
      have i2 : (k : Int) < (L.length : Int) := by omega
      have wx : IntKind.u32.wrap (x : Int) = (x : Int) := by rw [IntKind.wrap_u32']; omega
      clear e1 hea h4 hc hex hey1 hl1 het1 hey2 hl2 het2
      go_wp2_with fail
      go_roundw
      case rel => exact ⟨k + 1, by omega, rfl, by go_num, trivial⟩
      case measure => simp [intOf]; omega
    · have e : k = L.length := by omega
      subst e
      rw [List.take_length]
      go_wp2_with fail
      go_ret
      exact ⟨rfl, HG.out⟩
end Go.Proofs.Ytdfdlkpljgpckaa.Crc
/-
  A word through a step: the program's way, and the document's.
-/
namespace Go.Proofs.Ytdfdlkpljgpckaa.Crc
open Go.RowKit

/-- The step of N halvings: what becomes of each bit. -/
def matV (N : Nat) : Array Value := rowV 32 (fun i => Tn N (2 ^ i))

theorem pow_lt {i : Nat} (h : i < 32) : 2 ^ i < 4294967296 := Nat.pow_lt_pow_right (by omega) (by omega : i < 32)
theorem mat_lt (N : Nat) {i : Nat} (h : i < 32) : Tn N (2 ^ i) < 4294967296 := Tn_lt N (pow_lt h)

theorem and_ones {m : Nat} (h : m < 4294967296) : bits .and .u32 (m : Int) 4294967295 = (m : Int) := by
  have h1 := u32_and_nat m 4294967295 h (by omega)
  have e : m &&& 4294967295 = m % 4294967296 := Nat.and_two_pow_sub_one_eq_mod m 32
  rw [e, Nat.mod_eq_of_lt h] at h1
  exact h1

theorem and_none {m : Nat} (h : m < 4294967296) : bits .and .u32 (m : Int) 0 = 0 := by
  have h1 := u32_and_nat m 0 h (by omega)
  rw [Nat.and_zero] at h1
  exact h1

theorem xor_none {m : Nat} (h : m < 4294967296) : bits .xor .u32 (m : Int) 0 = (m : Int) := by
  have h1 := u32_xor_nat m 0 h (by omega)
  rw [Nat.xor_zero] at h1
  exact h1

end Go.Proofs.Ytdfdlkpljgpckaa.Crc
/-
  The step of twice as many bytes; the step of one.
-/
namespace Go.Proofs.Ytdfdlkpljgpckaa.Crc
open Go.RowKit

/-- The block g holds these cells. -/
def Blk (w : World) (g t : Nat) (c : Array Value) : Prop := w.heap[g]? = some (.cells c t (0, 0))

theorem Blk.kept {w w' : World} {g t : Nat} {c : Array Value} {r : Option Nat} (h : Blk w g t c) (hg : w.grownBy w' r) (hr : r ≠ some g) : Blk w' g t c := by
  unfold Blk at *
  rw [hg.block g (Array.getElem?_eq_some_iff.1 h).1 (Ne.symm hr), h]
theorem Blk.cell {w : World} {g t : Nat} {c : Array Value} (h : Blk w g t c) (j : Nat) : w.cell? ⟨g, j, none⟩ = c[j]? := cell_of_row w g j _ _ _ h
theorem Blk.free {w : World} {g t : Nat} {c : Array Value} (h : Blk w g t c) (j : Nat) : w.frozen? ⟨g, j, none⟩ = false := frozen_of_row w g j _ _ h
theorem Blk.store {w : World} {g t : Nat} {c : Array Value} (h : Blk w g t c) (j : Nat) (v : Value) : Blk (w.setCell ⟨g, j, none⟩ v) g t (c.setIfInBounds j v) := heap_setCell_same w g j _ _ v h
theorem Blk.row {w : World} {g t : Nat} {c : Array Value} (h : Blk w g t c) (c' : Array Value) : Blk (w.setRow g c') g t c' := setRow_heap _ _ c _ _ _ h

theorem blk3 (w : World) (a b c : Array Value) (t : Nat) : Blk (((w.alloc (.cells a t)).alloc (.cells b t)).alloc (.cells c t)) w.heap.size t a ∧ Blk (((w.alloc (.cells a t)).alloc (.cells b t)).alloc (.cells c t)) (w.heap.size + 1) t b ∧ Blk (((w.alloc (.cells a t)).alloc (.cells b t)).alloc (.cells c t)) (w.heap.size + 2) t c := by
  have e1 : (w.alloc (.cells a t)).heap.size = w.heap.size + 1 := by
    show (w.heap.push _).size = _
    simp
  have e2 : ((w.alloc (.cells a t)).alloc (.cells b t)).heap.size = w.heap.size + 2 := by
    show ((w.heap.push _).push _).size = _
    simp
  refine ⟨?_, ?_, ?_⟩
  · exact Blk.kept (heap_alloc2_old w _ _) (World.grownBy_alloc _ _ none) (by simp)
  · exact Blk.kept (heap_alloc2_new w _ _) (World.grownBy_alloc _ _ none) (by simp)
  · have h := heap_alloc_new ((w.alloc (.cells a t)).alloc (.cells b t)) (.cells c t)
    rw [e2] at h
    exact h

end Go.Proofs.Ytdfdlkpljgpckaa.Crc
/-
  A region that draws its order and whose operations only read or make new memory, but for number z, which waits for the others: an operation whose value stays the same however memory grows may be taken first. Own theorem, for the walks of this seat.
-/
namespace Go.Proofs.Ytdfdlkpljgpckaa.Crc
open Go.RowKit

section
variable {P : Program} {ops : Array Oper} {Q : Exit → Act → World → Prop} {md : Region.Mode} {z : Nat}

/-- Whatever order is picked from here on, and each operation but number z only makes memory grow. -/
def wpGrow (P : Program) (z : Nat) (md : Region.Mode) (ops : Array Oper) (Q : Exit → Act → World → Prop) : Nat → Array Bool → Act → World → Prop
  | 0, listed, a, w => Region.ready md ops listed = [] ∧ Q .normal a w
  | n + 1, listed, a, w => (Region.ready md ops listed = [] → Q .normal a w) ∧
      ∀ i ∈ Region.ready md ops listed, wpOp P ops Q i (fun a' w' => (i ≠ z → w.grownBy w' none) ∧ wpGrow P z md ops Q n (listed.setIfInBounds i true) a' w') a w

theorem wpAny_of_grow : ∀ (n : Nat) (listed : Array Bool) (a : Act) (w : World), wpGrow P z md ops Q n listed a w → wpAny P md ops Q n listed a w
  | 0, _, _, _, h => h
  | n + 1, _, _, _, h => ⟨h.1, fun i hi => wpOp_mono (fun a' w' h' => wpAny_of_grow n _ a' w' h'.2) (h.2 i hi)⟩

theorem grow_trans {a b c : World} (h : a.grownBy b none) (k : b.grownBy c none) : a.grownBy c none :=
  ⟨k.os.trans h.os, k.tape.trans h.tape, k.output.trans h.output, Nat.le_trans h.size k.size, fun i hi hr => (k.block i (Nat.lt_of_lt_of_le hi h.size) hr).trans (h.block i hi hr)⟩

theorem yields_later {o : Oper} {v : Value} {a : Act} {w w' : World} (hy : YieldsIf P ops (fun x => w.grownBy x none) o v a) (h : w.grownBy w' none) : YieldsIf P ops (fun x => w'.grownBy x none) o v a :=
  hy.imp (fun ⟨h1, h2⟩ => ⟨h1, fun x hx => h2 x (grow_trans h hx)⟩) id

/-- Number z waits for number i. -/
def waits (md : Region.Mode) (ops : Array Oper) (z i : Nat) : Bool := match ops[z]? with
  | some o => o.after.any fun e => Region.binds md e && e.on == i
  | none => true

theorem waits_not {i j : Nat} {listed : Array Bool} (hw : waits md ops z i = true) (hi : i ∈ Region.ready md ops listed) (hj : j ∈ Region.ready md ops listed) : j ≠ z := by
  rintro rfl
  obtain ⟨_, oj, hoj, hall⟩ := mem_ready.1 hj
  unfold waits at hw
  rw [hoj] at hw
  obtain ⟨e, he, h1⟩ := Array.any_eq_true'.1 hw
  simp only [Bool.and_eq_true, beq_iff_eq] at h1
  have h2 := hall e he h1.1
  have h0 := (mem_ready.1 hi).1
  rw [h1.2] at h2
  rcases Nat.lt_or_ge i listed.size with h' | h'
  · simp [h'] at h0 h2; rw [h0] at h2; cases h2
  · simp [Array.getElem?_eq_none h'] at h2

/-- What stays the same however memory grows may be taken first. -/
theorem wpGrow_first {i : Nat} {oi : Oper} {v : Value} (hi : ops[i]? = some oi) (hsel : ∀ (j : Nat) (o : Oper) cs b, ops[j]? = some o → o.op ≠ .select cs b)
    (hz : waits md ops z i = true) (hQ : ∀ c a w, Q (.panic c) (a.put oi.dst v) w → Q (.panic c) a w) :
    ∀ (n : Nat) (listed : Array Bool) (a : Act) (w : World),
      (∀ j oj, ops[j]? = some oj → j ≠ i → listed.getD j true = false → (∀ e ∈ oj.after, Region.binds md e = true → e.on ≠ i) → oi.apart ops oj = true) →
      i ∈ Region.ready md ops listed → YieldsIf P ops (fun x => w.grownBy x none) oi v a →
      wpGrow P z md ops Q n (listed.setIfInBounds i true) (a.put oi.dst v) w → wpGrow P z md ops Q (n + 1) listed a w := by
  intro n
  have self : ∀ w : World, w.grownBy w none := fun w => ⟨rfl, rfl, rfl, Nat.le_refl _, fun _ _ _ => rfl⟩
  induction n with
  | zero =>
    intro listed a w _ hr hy H
    refine ⟨fun h => (by rw [h] at hr; cases hr), fun j hj => ?_⟩
    by_cases hji : j = i
    · subst hji; exact hy.wpOp hi (self w) ⟨fun _ => self w, H⟩
    · have h0 := ready_mono hj hji
      rw [H.1] at h0
      cases h0
  | succ n ih =>
    intro listed a w hfree hr hy H
    refine ⟨fun h => (by rw [h] at hr; cases hr), fun j hj => ?_⟩
    by_cases hji : j = i
    · subst hji; exact hy.wpOp hi (self w) ⟨fun _ => self w, H⟩
    · have h1 := H.2 j (ready_mono hj hji)
      obtain ⟨hjun, oj, hoj, hall⟩ := mem_ready.1 hj
      have hnot : ∀ e ∈ oj.after, Region.binds md e = true → e.on ≠ i := fun e he hb heq => by
        have h2 := hall e he hb
        have h0 := (mem_ready.1 hr).1
        rw [heq] at h2
        rcases Nat.lt_or_ge i listed.size with h' | h'
        · simp [h'] at h0 h2; rw [h0] at h2; cases h2
        · simp [Array.getElem?_eq_none h'] at h2
      have h2 := wpOp_putIf hoj (hfree j oj hoj hji hjun hnot) (fun cs b => hsel i oi cs b hi) (fun cs b => hsel j oj cs b hoj) hQ hy h1
      have hfree' : ∀ k ok, ops[k]? = some ok → k ≠ i → (listed.setIfInBounds j true).getD k true = false →
          (∀ e ∈ ok.after, Region.binds md e = true → e.on ≠ i) → oi.apart ops ok = true := fun k ok hk hki hun hno => by
        refine hfree k ok hk hki ?_ hno
        by_cases hjk : j = k
        · subst hjk; exact hjun
        · rw [getD_set_ne true hjk] at hun; exact hun
      have hjz : j ≠ z := waits_not hz hr hj
      refine wpOp_mono (fun a' w' h3 => ⟨h3.2.1, ih (listed.setIfInBounds j true) a' w' hfree' (ready_mono hr (Ne.symm hji)) (yields_later h3.1 (h3.2.1 hjz)) ?_⟩) h2
      rw [Array.setIfInBounds_comm _ _ hji]
      exact h3.2.2

theorem get_of_drop {i : Nat} {oi : Oper} {l : List Oper} (h : ops.toList.drop i = oi :: l) : ops[i]? = some oi := by
  have h1 : (ops.toList.drop i)[0]? = some oi := by rw [h]; rfl
  rw [List.getElem?_drop] at h1
  simpa using h1

/-- Number i is taken first. -/
theorem wpGrow_take {i : Nat} {oi : Oper} {l : List Oper} {d : Option Tmp} {v : Value} {n : Nat} {listed : Array Bool} {a : Act} {w : World} (hi : ops.toList.drop i = oi :: l) (hd : oi.dst = d)
    (hs : Region.noSelect ops = true) (hz : waits md ops z i = true) (hf : Region.free md ops listed i = true) (hr : (Region.ready md ops listed).contains i = true)
    (hQ : ∀ c a w, Q (.panic c) (a.put d v) w → Q (.panic c) a w) (hw : Region.wanted oi (yielded ops a.tmps) = true) (hy : ∀ x : World, w.grownBy x none → (execOp a.eval oi).run P x = .ok (.value v) x)
    (h : wpGrow P z md ops Q n (listed.setIfInBounds i true) (a.put d v) w) : wpGrow P z md ops Q (n + 1) listed a w := by
  subst hd
  exact wpGrow_first (get_of_drop hi) (Region.noSelect_spec hs) hz hQ n listed a w (Region.free_spec (get_of_drop hi) hf) (by simpa using hr) (.inl ⟨hw, hy⟩) h

/-- One alone may come up. -/
theorem wpGrow_one {i : Nat} {oi : Oper} {l : List Oper} {n : Nat} {listed : Array Bool} {a : Act} {w : World} (hi : ops.toList.drop i = oi :: l) (hr : Region.ready md ops listed = [i]) (hw : Region.wanted oi (yielded ops a.tmps) = true)
    (h : ∀ K : Act → World → Prop, Shut (∀ a' w', (i ≠ z → w.grownBy w' none) → wpGrow P z md ops Q n (listed.setIfInBounds i true) a' w' → K a' w') → Oper.wp P oi a w K Q) : wpGrow P z md ops Q (n + 1) listed a w := by
  refine ⟨fun h0 => (by rw [hr] at h0; cases h0), fun j hj => ?_⟩
  rw [hr] at hj
  have e : j = i := by simpa using hj
  subst e
  refine wpOp_step (get_of_drop hi) fun K hK => ?_
  rw [if_pos hw]
  exact h K fun a' w' h1 h2 => hK a' w' ⟨h1, h2⟩

theorem wpGrow_done {n : Nat} {listed : Array Bool} {a : Act} {w : World} (hr : Region.ready md ops listed = []) (h : Q .normal a w) : wpGrow P z md ops Q n listed a w := by
  cases n with
  | zero => exact ⟨hr, h⟩
  | succ n => exact ⟨fun _ => h, by rw [hr]; simp⟩

theorem wp_region_grow (z : Nat) {id : Nat} {a : Act} {w : World} (hm : P.follows .mixedOrders = true) (h : wpGrow P z .any ops Q ops.size (Array.replicate ops.size false) a w.drew) : (Code.region id ops true).wp P Q a w :=
  wp_region_any hm (wpAny_of_grow _ _ _ _ h)
end
end Go.Proofs.Ytdfdlkpljgpckaa.Crc
/-
  The step of a single byte 0.
-/
namespace Go.Proofs.Ytdfdlkpljgpckaa.Crc
open Go.RowKit
attribute [local go_sem ↓] Go.wp_at_zero Go.wp_at_succ

theorem tabV_size : tabV.size = 16 := rowV_size _ _

theorem seg_one (w : World) (x : UInt8) : Seg (w.alloc (.cells #[.int .u8 (x.toNat : Int)] 5)) (.slice (some ⟨w.heap.size, 0, none⟩) 1 1) [x] := by
  refine ⟨_, 1, rfl, by simp, by unfold maxLen; omega, by simp, fun j hj => ⟨w.heap.size, 0, rfl, ?_⟩⟩
  have e : j = 0 := by simp at hj; omega
  subst e
  rw [cell_of_row _ _ _ _ _ _ (heap_alloc_new w _)]
  rfl

theorem shl_one {k : Nat} (h : k < 32) : IntKind.u32.wrap (2 ^ k : Int) = ((2 ^ k : Nat) : Int) := by
  have h1 := pow_lt h
  have e : ((2 : Int) ^ k) = ((2 ^ k : Nat) : Int) := by simp
  rw [IntKind.wrap_u32', e]
  generalize 2 ^ k = p at h1
  omega

end Go.Proofs.Ytdfdlkpljgpckaa.Crc
/-
  A word through a row: the document's way.
-/
namespace Go.Proofs.Ytdfdlkpljgpckaa.Crc
open Go.RowKit
end Go.Proofs.Ytdfdlkpljgpckaa.Crc
/-
  A register behind n bytes 0, by squares: the document's way.
-/
namespace Go.Proofs.Ytdfdlkpljgpckaa.Crc
open Go.RowKit
attribute [local go_sem ↓] Go.wp_at_zero Go.wp_at_succ

theorem matV_size (N : Nat) : (matV N).size = 32 := rowV_size _ _
/-- What is left to do, behind an odd bit and behind an even one. -/
theorem sq_odd {N m t G : Nat} (h : Tn (N * m) t = G) (ho : m % 2 = 1) : Tn ((N + N) * (m / 2)) (Tn N t) = G := by
  rw [← h, ← Tn_add]
  congr 1
  have e : m = 1 + 2 * (m / 2) := by omega
  calc N + (N + N) * (m / 2) = N * (1 + 2 * (m / 2)) := by rw [Nat.mul_add, Nat.mul_one, ← Nat.mul_assoc, Nat.mul_comm N 2, Nat.two_mul]
    _ = N * m := by rw [← e]

theorem sq_even {N m t G : Nat} (h : Tn (N * m) t = G) (ho : m % 2 = 0) : Tn ((N + N) * (m / 2)) t = G := by
  rw [← h]
  congr 1
  have e : m = 2 * (m / 2) := by omega
  calc (N + N) * (m / 2) = N * (2 * (m / 2)) := by rw [← Nat.mul_assoc, Nat.mul_comm N 2, Nat.two_mul]
    _ = N * m := by rw [← e]

end Go.Proofs.Ytdfdlkpljgpckaa.Crc
/-
  A register behind n bytes 0, by squares: the program's way.
-/
namespace Go.Proofs.Ytdfdlkpljgpckaa.Crc
open Go.RowKit
attribute [local go_sem ↓] Go.wp_at_zero Go.wp_at_succ

theorem and_one64 (m : Nat) (h : m ≤ 9223372036854775807) : bits .and .i64 (m : Int) 1 = ((m % 2 : Nat) : Int) := by
  have h1 : (BitVec.ofInt 64 (m : Int)).toNat = m := ofInt_u64 m (by omega)
  have h2 : (BitVec.ofInt 64 (1 : Int)).toNat = 1 := by decide
  show IntKind.i64.wrap ((BitVec.ofInt 64 (m : Int) &&& BitVec.ofInt 64 1).toNat : Int) = _
  rw [BitVec.toNat_and, h1, h2, Nat.and_one_is_mod]
  simp only [IntKind.wrap, IntKind.bits, IntKind.signed]
  simp
  omega

end Go.Proofs.Ytdfdlkpljgpckaa.Crc
/-
  The exported functions, and the document's: Sum, More, Holds, Zeros, Join.
-/
namespace Go.Proofs.Ytdfdlkpljgpckaa.Crc
open Go.RowKit
attribute [local go_sem ↓] Go.wp_at_zero Go.wp_at_succ

/-- A list of slices of bytes. -/
def Segs (w : World) (v : Value) (Ls : List (List UInt8)) : Prop :=
  ∃ ao cap, v = .slice ao Ls.length cap ∧ Ls.length ≤ 9223372036854775807 ∧ ∀ j (hj : j < Ls.length), ∃ b off x, ao = some ⟨b, off, none⟩ ∧ w.cell? ⟨b, off + j, none⟩ = some x ∧ Seg w x Ls[j]

theorem Segs.grown {w w' : World} {v : Value} {Ls : List (List UInt8)} (h : Segs w v Ls) (hg : w.grownBy w' none) : Segs w' v Ls := by
  obtain ⟨ao, cap, h1, h2, h3⟩ := h
  refine ⟨ao, cap, h1, h2, fun j hj => ?_⟩
  obtain ⟨b, off, x, q1, q2, q3⟩ := h3 j hj
  exact ⟨b, off, x, q1, hg.cell q2 (by simp), q3.grown hg⟩

theorem max32 : IntKind.u32.max = ((4294967295 : Nat) : Int) := by decide
theorem ones_xor {a : Nat} (h : a < 4294967296) : bits .xor .u32 IntKind.u32.max (a : Int) = (inv a : Int) := by
  rw [max32, u32_xor_nat 4294967295 a (by omega) h, Nat.xor_comm]
  rfl
theorem xor_ones {a : Nat} (h : a < 4294967296) : bits .xor .u32 (a : Int) 4294967295 = (inv a : Int) := u32_xor_nat a 4294967295 h (by omega)
theorem inv0 : inv 0 = 4294967295 := by decide

set_option maxRecDepth 100000 in
set_option maxHeartbeats 400000 in
theorem sum7 (v : Value) (Ls : List (List UInt8)) (w : World) (hL : Segs w v Ls) :
    Calls Try.prog 31 #[v] w fun e w' => e = .returned (.int .u32 (sum Ls.flatten)) ∧ w.grownBy w' none := by
  obtain ⟨ao, cap, rfl, hlen, hcells⟩ := hL
  have HC : Hid _ := hcells
  clear hcells
  go_enter Try.func31, Try.ntmps31
  go_wp2_with fail
  refine (nibbles17 _).mono ?_
  rintro e w1 ⟨rfl, g1⟩
  have G1 : Hid (w.grownBy (w1.alloc (.cells tabV 68)) none ∧ Blk (w1.alloc (.cells tabV 68)) w1.heap.size 68 tabV) := ⟨grown_trans g1 (World.grownBy_alloc _ _ _), heap_alloc_new _ _⟩
  clear g1
  go_wp2_with (first | (refine wpList_store_row _ rfl rfl (.tmp 3) (.tmp 7) 68 rfl w1.heap.size tabV (Array.replicate 16 (.int .u32 0)) (by rw [tabV_size]; exact Try.size68) (by rw [tabV_size]; simp) (rowV_one _ _) rfl rfl (heap_alloc_new w1 _) ?_; rw [World.setRow_alloc_new]))
  go_loopw [4, 10] (fun s i wr => ∃ k : Nat, k ≤ Ls.length ∧ s = .int .u32 (crcL 4294967295 (Ls.take k).flatten) ∧ i = .int .i64 k ∧ Blk wr w1.heap.size 68 tabV ∧ w.grownBy wr none) (fun _ i _ => Ls.length - (intOf i).toNat)
  case atStart => exact ⟨0, by omega, rfl, rfl, G1.out.2, G1.out.1⟩
  case round =>
    obtain ⟨k, hk, rfl, rfl, hb, hg⟩ := hrel
    have hlt32 := crcL_lt (Ls.take k).flatten (s := 4294967295) (by omega)
    by_cases hlt : k < Ls.length
    · have HE : Hid (crcL 4294967295 (Ls.take (k + 1)).flatten = crcL (crcL 4294967295 (Ls.take k).flatten) Ls[k]) := by
        unfold Hid
        rw [List.take_succ_eq_append_getElem hlt, List.flatten_append, crcL_append]
        simp
      obtain ⟨bb, off, x, rfl, hcell, hseg⟩ := HC.out k hlt
      have c1 := hg.cell hcell (by simp)
      have HS : Hid (Seg wr x Ls[k]) := hseg.grown hg
      have HR : Hid (Blk wr w1.heap.size 68 tabV ∧ w.grownBy wr none) := ⟨hb, hg⟩
      obtain ⟨a, hea⟩ : ∃ a, crcL 4294967295 (Ls.take k).flatten = a := ⟨_, rfl⟩
      rw [hea] at HE hlt32 ⊢
      have i1 : (0 : Int) ≤ (k : Int) := by omega
      have i2 : (k : Int) < (Ls.length : Int) := by omega
      clear hb hg hcell hseg hea
      go_wp2_with (first | (refine wpList_load_row _ rfl (.tmp 3) 68 rfl w1.heap.size 16 50 tabV Try.underlying68 (by rw [tabV_size]; exact Try.size68) rfl HR.out.1 ?_))
      refine (behind18 a _ _ _ hlt32 HS.out).mono ?_
      rw [← HE.out]
      rintro e w2 ⟨rfl, g2⟩
      have HR2 : Hid (Blk w2 w1.heap.size 68 tabV ∧ w.grownBy w2 none) := ⟨HR.out.1.kept g2 (by simp), grown_trans HR.out.2 g2⟩
      clear g2 HR HS
      go_wp2_with fail
      go_roundw
      case rel => exact ⟨k + 1, by omega, rfl, by go_num, HR2.out.1, HR2.out.2⟩
      case measure => simp [intOf]; omega
    · have e : k = Ls.length := by omega
      subst e
      rw [List.take_length] at hlt32 ⊢
      have e2 : Hid (sum Ls.flatten = inv (crcL 4294967295 Ls.flatten)) := by
        unfold Hid sum more
        rw [inv0]
      have ox := ones_xor hlt32
      obtain ⟨a, hea⟩ : ∃ a, crcL 4294967295 Ls.flatten = a := ⟨_, rfl⟩
      rw [hea] at ox e2 hlt32 ⊢
      obtain ⟨r, her⟩ : ∃ r, inv a = r := ⟨_, rfl⟩
      rw [her] at ox e2
      have HG : Hid _ := hg
      clear hb hg hea her
      go_wp2_with fail
      go_ret
      exact ⟨by rw [e2.out]; rfl, HG.out⟩

set_option maxRecDepth 100000 in
set_option maxHeartbeats 400000 in
theorem more10 (s : Nat) (v : Value) (L : List UInt8) (w : World) (hs : s < 4294967296) (hL : Seg w v L) :
    Calls Try.prog 30 #[.int .u32 s, v] w fun e w' => e = .returned (.int .u32 (more s L)) ∧ w' = w := by
  obtain ⟨ao, cap, rfl⟩ := hL.shape
  have hlen := hL.len
  have HL : Hid _ := hL
  have x1 := xor_ones hs
  have hi := inv_lt hs
  have HM : Hid (more s L = inv (crcL (inv s) L)) := rfl
  obtain ⟨s0, hs0⟩ : ∃ s0, inv s = s0 := ⟨_, rfl⟩
  rw [hs0] at x1 hi HM
  clear hL hs0
  go_enter Try.func30, Try.ntmps30
  go_wp2_with fail
  go_loopw [5, 6] (fun x i wr => ∃ k : Nat, k ≤ L.length ∧ x = .int .u32 (crcL s0 (L.take k)) ∧ i = .int .i64 k ∧ wr = w) (fun _ i _ => L.length - (intOf i).toNat)
  case atStart => exact ⟨0, by omega, rfl, rfl, rfl⟩
  case round =>
    obtain ⟨k, hk, rfl, rfl, rfl⟩ := hrel
    have ha := crcL_lt (L.take k) hi
    by_cases hlt : k < L.length
    · have e1 : crcL s0 (L.take (k + 1)) = crcB (crcL s0 (L.take k)) L[k] := by
        rw [List.take_succ_eq_append_getElem hlt, crcL_snoc]
      obtain ⟨a, hea⟩ : ∃ a, crcL s0 (L.take k) = a := ⟨_, rfl⟩
      obtain ⟨_, _, hv, _, _, _, h4⟩ := HL.out
      simp at hv
      obtain ⟨rfl, rfl⟩ := hv
      obtain ⟨bb, off, rfl, hcell⟩ := h4 k hlt
      obtain ⟨c, hc⟩ : ∃ c : UInt8, L[k] = c := ⟨_, rfl⟩
      rw [hc] at hcell e1
      have hx := byte_lt c
      rw [hea] at ha e1 ⊢
      unfold crcB at e1
      obtain ⟨x, hex⟩ : ∃ x : Nat, c.toNat = x := ⟨_, rfl⟩
      rw [hex] at hcell e1 hx
      have f1 : bits .xor .u32 (a : Int) (x : Int) = ((a ^^^ x : Nat) : Int) := u32_xor_nat a x ha (by omega)
      have hy1 : a ^^^ x < 4294967296 := Nat.xor_lt_two_pow (n := 32) ha (by omega)
      obtain ⟨y1, hey1⟩ : ∃ y, a ^^^ x = y := ⟨_, rfl⟩
      rw [hey1] at f1 hy1 e1
      have HE : Hid _ := e1
      have i1 : (0 : Int) ≤ (k : Int) := by omega
      have i2 : (k : Int) < (L.length : Int) := by omega
      have wx : IntKind.u32.wrap (x : Int) = (x : Int) := by rw [IntKind.wrap_u32']; omega
      clear e1 hea h4 hc hex hey1
      go_wp2_with fail
      refine (step19 y1 hy1 _).mono ?_
      rw [← HE.out]
      rintro e w1 ⟨rfl, he⟩; subst he
      go_wp2_with fail
      go_roundw
      case rel => exact ⟨k + 1, by omega, rfl, by go_num, trivial⟩
      case measure => simp [intOf]; omega
    · have e : k = L.length := by omega
      subst e
      rw [List.take_length] at ha ⊢
      have ox := xor_ones ha
      rw [← HM.out] at ox
      obtain ⟨a, hea⟩ : ∃ a, crcL s0 L = a := ⟨_, rfl⟩
      rw [hea] at ox ⊢
      clear hea
      go_wp2_with fail
      go_ret
      exact ⟨rfl, rfl⟩

set_option maxRecDepth 100000 in
set_option maxHeartbeats 400000 in
theorem sum8 (v : Value) (L : List UInt8) (w : World) (hL : Seg w v L) :
    Calls Try.prog 21 #[v] w fun e w' => e = .returned (.int .u32 (sum L)) ∧ w' = w := by
  have HL : Hid _ := hL
  obtain ⟨ao, cap, rfl⟩ := hL.shape
  have HS : Hid (sum L = more 0 L) := rfl
  clear hL
  go_enter Try.func21, Try.ntmps21
  go_wp2_with fail
  refine (more10 0 _ L _ (by omega) HL.out).mono ?_
  rw [← HS.out]
  rintro e w1 ⟨rfl, he⟩; subst he
  go_wp2_with fail
  go_ret
  exact ⟨rfl, rfl⟩

theorem segs_one {w : World} {v : Value} {L : List UInt8} (h : Seg w v L) : Segs (w.alloc (.cells #[v] 22)) (.slice (some ⟨w.heap.size, 0, none⟩) 1 1) [L] := by
  refine ⟨_, 1, rfl, by simp, fun j hj => ⟨w.heap.size, 0, v, rfl, ?_, ?_⟩⟩
  · have e : j = 0 := by simp at hj; omega
    subst e
    rw [cell_of_row _ _ _ _ _ _ (heap_alloc_new w _)]
    rfl
  · have e : j = 0 := by simp at hj; omega
    subst e
    exact seg_alloc h _

theorem segs_two {w : World} {v u : Value} {L M : List UInt8} (h : Seg w v L) (hu : Seg w u M) : Segs (w.alloc (.cells #[v, u] 22)) (.slice (some ⟨w.heap.size, 0, none⟩) 2 2) [L, M] := by
  refine ⟨_, 2, rfl, by simp, fun j hj => ?_⟩
  have hj2 : j < 2 := hj
  match j, hj2 with
  | 0, _ => exact ⟨w.heap.size, 0, v, rfl, by rw [cell_of_row _ _ _ _ _ _ (heap_alloc_new w _)]; rfl, seg_alloc h _⟩
  | 1, _ => exact ⟨w.heap.size, 0, u, rfl, by rw [cell_of_row _ _ _ _ _ _ (heap_alloc_new w _)]; rfl, seg_alloc hu _⟩

theorem segs_nil (w : World) : Segs w (.slice none 0 0) [] := ⟨none, 0, rfl, by simp, fun j hj => absurd hj (by simp)⟩

end Go.Proofs.Ytdfdlkpljgpckaa.Crc
/-
  The chapter's rows.
-/
namespace Go.Proofs.Ytdfdlkpljgpckaa.Crc
open Go.RowKit
attribute [local go_sem ↓] Go.wp_at_zero Go.wp_at_succ

theorem sum_none : sum [] = 0 := by decide +kernel
theorem sum_nine : sum [49, 50, 51, 52, 53, 54, 55, 56, 57] = 3808858755 := by decide +kernel
theorem sum_a : sum [97] = 3251651376 := by decide +kernel
theorem more_four : more (sum [49, 50, 51, 52, 53]) [54, 55, 56, 57] = 3808858755 := by decide +kernel
theorem zeros_four : inv (zeros (inv 0) 4) = 1214729159 := by decide +kernel

/-- Bytes of a constant text. -/
theorem seg_lit (w : World) (C : Array Value) (fr : Nat × Nat) (L : List UInt8) (hx : C.toList = BV L) (hl : L.length ≤ 9223372036854775807) : Seg (w.alloc (.cells C 5 fr)) (.slice (some ⟨w.heap.size, 0, none⟩) L.length L.length) L := by
  refine ⟨_, L.length, rfl, Nat.le_refl _, by unfold maxLen; omega, by simp, fun j hj => ⟨w.heap.size, 0, rfl, ?_⟩⟩
  rw [cell_of_row _ _ _ _ _ _ (heap_alloc_new w _), Nat.zero_add, ← Array.getElem?_toList, hx]
  simp [BV, hj]

theorem conv_const (w : World) (C : Array Value) (n : Nat) (h : C.size = n) :
    (convert 22 22 (.slice (some ⟨w.heap.size, 0, none⟩) n n)).run Try.prog (w.alloc (.cells C 5)) = .ok (.slice (some ⟨w.heap.size, 0, none⟩) n n) (w.alloc (.cells C 5 (n, n + 1))) := by
  subst h
  exact Go.Lib.run_convert_bytes_const w 22 5 C _ _ Try.underlying22 Try.underlying5

end Go.Proofs.Ytdfdlkpljgpckaa.Crc
