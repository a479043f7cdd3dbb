/-
  The sum, on plain numbers: one halving, many; that they go over a xor; a nibble at a time; bits of a word.
-/
namespace Go.Proofs.Ytdfdlkpljgpckaa.Crc

/-- One halving. -/
def T (s : Nat) : Nat := if s % 2 = 1 then s / 2 ^^^ 2197175160 else s / 2
/-- n halvings. -/
def Tn : Nat → Nat → Nat
  | 0, s => s
  | n + 1, s => Tn n (T s)

theorem T_lt {s : Nat} (h : s < 4294967296) : T s < 4294967296 := by
  unfold T
  split
  · exact Nat.xor_lt_two_pow (n := 32) (by omega) (by omega)
  · omega

theorem Tn_lt : ∀ (n : Nat) {s : Nat}, s < 4294967296 → Tn n s < 4294967296
  | 0, _, h => h
  | n + 1, _, h => Tn_lt n (T_lt h)

theorem xor_mod2 (a b : Nat) : (a ^^^ b) % 2 = (a % 2) ^^^ (b % 2) := by
  have h := @Nat.xor_mod_two_pow a b 1
  simpa using h

theorem T_xor (a b : Nat) : T (a ^^^ b) = T a ^^^ T b := by
  unfold T
  rw [Nat.xor_div_two, xor_mod2]
  have h1 : a % 2 = 0 ∨ a % 2 = 1 := by omega
  have h2 : b % 2 = 0 ∨ b % 2 = 1 := by omega
  rcases h1 with h1 | h1 <;> rcases h2 with h2 | h2 <;> rw [h1, h2]
  · rfl
  · show a / 2 ^^^ b / 2 ^^^ 2197175160 = a / 2 ^^^ (b / 2 ^^^ 2197175160)
    rw [Nat.xor_assoc]
  · show a / 2 ^^^ b / 2 ^^^ 2197175160 = a / 2 ^^^ 2197175160 ^^^ b / 2
    rw [Nat.xor_assoc, Nat.xor_assoc, Nat.xor_comm (b / 2)]
  · show a / 2 ^^^ b / 2 = (a / 2 ^^^ 2197175160) ^^^ (b / 2 ^^^ 2197175160)
    rw [Nat.xor_assoc, ← Nat.xor_assoc 2197175160, Nat.xor_comm 2197175160 (b / 2), Nat.xor_assoc (b / 2), Nat.xor_self, Nat.xor_zero]

theorem Tn_xor : ∀ (n a b : Nat), Tn n (a ^^^ b) = Tn n a ^^^ Tn n b
  | 0, _, _ => rfl
  | n + 1, a, b => by rw [Tn, Tn, Tn, T_xor, Tn_xor n]

theorem Tn_add : ∀ (m n s : Nat), Tn (m + n) s = Tn n (Tn m s)
  | 0, n, s => by rw [Nat.zero_add, Tn]
  | m + 1, n, s => by rw [show m + 1 + n = (m + n) + 1 by omega, Tn, Tn, Tn_add m n]

theorem Tn_zero (n : Nat) : Tn n 0 = 0 := by
  have h := Tn_xor n 0 0
  rw [Nat.xor_self, Nat.xor_self] at h
  exact h

theorem Tn_succ (n s : Nat) : Tn (n + 1) s = T (Tn n s) := by rw [Tn_add n 1]; rfl

theorem T_double (q : Nat) : T (2 * q) = q := by unfold T; rw [if_neg (by omega)]; omega

theorem Tn4_mul (q : Nat) : Tn 4 (16 * q) = q := by
  rw [show 16 * q = 2 * (2 * (2 * (2 * q))) by omega, Tn, T_double, Tn, T_double, Tn, T_double, Tn, T_double, Tn]

/-- A number is its high part xor its low bits. -/
theorem split_pow (s k : Nat) : 2 ^ k * (s / 2 ^ k) ^^^ s % 2 ^ k = s := by
  apply Nat.eq_of_testBit_eq
  intro i
  rw [Nat.testBit_xor, Nat.testBit_two_pow_mul, Nat.testBit_div_two_pow, Nat.testBit_mod_two_pow]
  by_cases h : k ≤ i
  · have h2 : ¬ i < k := by omega
    simp [h, h2]
  · have h2 : i < k := by omega
    simp [h, h2]

/-- Four halvings by a table of sixteen. -/
theorem nib (s : Nat) : Tn 4 s = s / 16 ^^^ Tn 4 (s % 16) := by
  have h := split_pow s 4
  have e : Tn 4 s = Tn 4 (2 ^ 4 * (s / 2 ^ 4) ^^^ s % 2 ^ 4) := by rw [h]
  rw [e, Tn_xor, show (2 : Nat) ^ 4 = 16 from rfl, Tn4_mul]

/-- A byte passes. -/
def crcB (s : Nat) (c : UInt8) : Nat := Tn 8 (s ^^^ c.toNat)
/-- Bytes pass. -/
def crcL (s : Nat) (L : List UInt8) : Nat := L.foldl crcB s

theorem byte_lt (c : UInt8) : c.toNat < 256 := UInt8.toNat_lt c

theorem crcB_lt {s : Nat} (c : UInt8) (h : s < 4294967296) : crcB s c < 4294967296 :=
  Tn_lt 8 (Nat.xor_lt_two_pow (n := 32) h (by have := byte_lt c; omega))

theorem crcL_lt {s : Nat} (L : List UInt8) (h : s < 4294967296) : crcL s L < 4294967296 := by
  induction L generalizing s with
  | nil => exact h
  | cons c L ih => exact ih (crcB_lt c h)

theorem crcL_append (s : Nat) (L M : List UInt8) : crcL s (L ++ M) = crcL (crcL s L) M := by simp [crcL]
theorem crcL_snoc (s : Nat) (L : List UInt8) (c : UInt8) : crcL s (L ++ [c]) = crcB (crcL s L) c := by simp [crcL]

/-- A byte by two nibbles. -/
theorem crcB_nib (s : Nat) (c : UInt8) : crcB s c = ((s ^^^ c.toNat) / 16 ^^^ Tn 4 ((s ^^^ c.toNat) % 16)) / 16 ^^^ Tn 4 (((s ^^^ c.toNat) / 16 ^^^ Tn 4 ((s ^^^ c.toNat) % 16)) % 16) := by
  unfold crcB
  rw [show (8 : Nat) = 4 + 4 from rfl, Tn_add, nib (Tn 4 _), nib (s ^^^ c.toNat)]

/-- The bits turned. -/
def inv (s : Nat) : Nat := s ^^^ 4294967295
theorem inv_lt {s : Nat} (h : s < 4294967296) : inv s < 4294967296 := Nat.xor_lt_two_pow (n := 32) h (by omega)
theorem inv_inv (s : Nat) : inv (inv s) = s := by unfold inv; rw [Nat.xor_assoc, Nat.xor_self, Nat.xor_zero]

/-- The sum of bytes behind others, and of bytes. -/
def more (s : Nat) (L : List UInt8) : Nat := inv (crcL (inv s) L)
def sum (L : List UInt8) : Nat := more 0 L
theorem more_lt {s : Nat} (L : List UInt8) (h : s < 4294967296) : more s L < 4294967296 := inv_lt (crcL_lt L (inv_lt h))
theorem sum_lt (L : List UInt8) : sum L < 4294967296 := more_lt L (by omega)
theorem more_append (s : Nat) (L M : List UInt8) : more s (L ++ M) = more (more s L) M := by
  unfold more; rw [crcL_append, inv_inv]

/-- Bit k of x, as it adds to what a linear map makes of the lower bits. -/
theorem bit_step (N x k : Nat) : Tn N (x % 2 ^ (k + 1)) = Tn N (x % 2 ^ k) ^^^ (if x / 2 ^ k % 2 = 1 then Tn N (2 ^ k) else 0) := by
  have h : x % 2 ^ (k + 1) = x % 2 ^ k ^^^ (if x / 2 ^ k % 2 = 1 then 2 ^ k else 0) := by
    have h1 := split_pow (x % 2 ^ (k + 1)) k
    have h2 : x % 2 ^ (k + 1) / 2 ^ k = x / 2 ^ k % 2 := by
      rw [Nat.pow_succ, Nat.mod_mul_right_div_self]
    have h3 : x % 2 ^ (k + 1) % 2 ^ k = x % 2 ^ k := by
      rw [Nat.pow_succ]; exact Nat.mod_mul_right_mod x (2 ^ k) 2
    rw [h2, h3] at h1
    rw [← h1, Nat.xor_comm]
    congr 1
    by_cases h4 : x / 2 ^ k % 2 = 1
    · rw [if_pos h4, h4, Nat.mul_one]
    · have h5 : x / 2 ^ k % 2 = 0 := by omega
      rw [if_neg h4, h5, Nat.mul_zero]
  rw [h, Tn_xor]
  congr 1
  split
  · rfl
  · exact Tn_zero N

/-- Squares: n bytes 0. -/
def zeros (s n : Nat) : Nat := Tn (8 * n) s
theorem zeros_lt {s : Nat} (n : Nat) (h : s < 4294967296) : zeros s n < 4294967296 := Tn_lt _ h
theorem zeros_add (s m n : Nat) : zeros s (m + n) = zeros (zeros s m) n := by unfold zeros; rw [Nat.mul_add, Tn_add]
theorem crcL_zeros (s n : Nat) : crcL s (List.replicate n 0) = zeros s n := by
  induction n generalizing s with
  | zero => rfl
  | succ n ih =>
    rw [List.replicate_succ]
    show crcL (crcB s 0) _ = _
    rw [ih, Nat.add_comm n 1, zeros_add]
    congr 1
    show Tn 8 (s ^^^ 0) = Tn 8 s
    rw [Nat.xor_zero]

/-- What bytes do does not hang on what is ahead of them. -/
theorem crcL_xor (a b : Nat) (L : List UInt8) : crcL (a ^^^ b) L = zeros a L.length ^^^ crcL b L := by
  induction L generalizing a b with
  | nil => rfl
  | cons c L ih =>
    show crcL (crcB (a ^^^ b) c) L = _ ^^^ crcL (crcB b c) L
    have h : crcB (a ^^^ b) c = zeros a 1 ^^^ crcB b c := by
      unfold crcB zeros
      rw [Nat.xor_assoc, Tn_xor]
    rw [h, ih, ← zeros_add, List.length_cons, Nat.add_comm 1]

/-- Join. -/
theorem join_sum (x y : List UInt8) : zeros (sum x) y.length ^^^ sum y = sum (x ++ y) := by
  have h : sum (x ++ y) = inv (crcL (crcL (inv 0) x) y) := by unfold sum more; rw [crcL_append]
  have e : crcL (inv 0) x = sum x ^^^ inv 0 := by
    show crcL (inv 0) x = inv (crcL (inv 0) x) ^^^ inv 0
    unfold inv
    rw [Nat.zero_xor, Nat.xor_assoc, Nat.xor_self, Nat.xor_zero]
  rw [h, e, crcL_xor]
  show _ ^^^ inv (crcL (inv 0) y) = inv _
  unfold inv
  rw [Nat.xor_assoc]
end Go.Proofs.Ytdfdlkpljgpckaa.Crc
