/-
  Bytes that go as they are, digits; tables' names, keys, values: the program's, the document's.
-/
import Derived.Test.YtahpkgglkibikaaPt
import Derived.Test.YtahpkgglkibikaaC
import Derived.Lib.Bytealg
namespace Go.Proofs.Ytahpkgglkibikaa
open Go.RowKit Disk

/-- A text. -/
def Str (L : List UInt8) : Value := .string ⟨L.toArray⟩

theorem run_index9 (L : List UInt8) (k : Nat) (hk : k < L.length) (w : World) : (Instr.index 9 (.string ⟨L.toArray⟩) (.int .i64 k)).run Try.prog w = .ok (.int .u8 (L[k].toNat : Int)) w := by
  rw [run_index_string w 9 _ _ _ Try.underlying9]
  have hs : (⟨L.toArray⟩ : ByteArray).size = L.length := by simp [ByteArray.size]
  rw [dif_pos ⟨by omega, by rw [hs]; omega⟩]
  congr 3
theorem str_size (L : List UInt8) : (⟨L.toArray⟩ : ByteArray).size = L.length := by simp [ByteArray.size]

/-- What a byte is, as a number below 256. -/
theorem byte_lt (c : UInt8) : c.toNat < 256 := UInt8.toNat_lt c

set_option maxHeartbeats 1000000 in
theorem goes33 (c : UInt8) (w : World) : Calls Try.prog 33 #[.int .u8 (c.toNat : Int)] w fun e w' => e = .returned (.bool (plainB c)) ∧ w' = w := by
  obtain ⟨R, hR⟩ : ∃ R, plainB c = R := ⟨_, rfl⟩
  have HR : Hid (plainB c = R) := hR
  rw [hR]
  clear hR
  obtain ⟨x, hx⟩ : ∃ x, c.toNat = x := ⟨_, rfl⟩
  have hd := HR.out
  unfold plainB at hd
  rw [hx] at hd ⊢
  clear HR hx
  go_enter Try.func33, Try.ntmps33
  by_cases c1 : (x : Int) < 33
  · have e : R = false := by rw [← hd, decide_eq_false (by omega : ¬ 33 ≤ x)]; simp
    subst e
    clear hd
    go_wp2
    go_ret
    exact ⟨rfl, rfl⟩
  · by_cases c2 : (126 : Int) < x
    · have e : R = false := by rw [← hd, decide_eq_false (by omega : ¬ x ≤ 126)]; simp
      subst e
      clear hd
      go_wp2
      go_ret
      exact ⟨rfl, rfl⟩
    · by_cases c3 : (x : Int) = 37
      · have e : R = false := by rw [← hd]; simp; omega
        subst e
        rw [c3]
        clear hd
        go_wp2
        go_ret
        exact ⟨rfl, rfl⟩
      · by_cases c4 : (x : Int) = 44
        · have e : R = false := by rw [← hd]; simp; omega
          subst e
          rw [c4]
          clear hd
          go_wp2
          go_ret
          exact ⟨rfl, rfl⟩
        · by_cases c5 : (x : Int) = 59
          · have e : R = false := by rw [← hd]; simp; omega
            subst e
            rw [c5]
            clear hd
            go_wp2
            go_ret
            exact ⟨rfl, rfl⟩
          · have e : R = true := by rw [← hd]; simp; omega
            subst e
            clear hd
            go_wp2
            go_ret
            exact ⟨rfl, rfl⟩

set_option maxHeartbeats 1000000 in
theorem plain34 (c : UInt8) (w : World) : Calls Try.prog 34 #[.int .u8 (c.toNat : Int)] w fun e w' => e = .returned (.bool (plainB c)) ∧ w' = w := by
  obtain ⟨R, hR⟩ : ∃ R, plainB c = R := ⟨_, rfl⟩
  have HR : Hid (plainB c = R) := hR
  rw [hR]
  clear hR
  obtain ⟨x, hx⟩ : ∃ x, c.toNat = x := ⟨_, rfl⟩
  have hd := HR.out
  unfold plainB at hd
  rw [hx] at hd ⊢
  clear HR hx
  go_enter Try.func34, Try.ntmps34
  by_cases c1 : (33 : Int) ≤ x
  · by_cases c2 : (x : Int) ≤ 126
    · by_cases c3 : (x : Int) = 37
      · have e : R = false := by rw [← hd]; simp; omega
        subst e
        rw [c3]
        clear hd
        go_wp2
        go_ret
        exact ⟨rfl, rfl⟩
      · by_cases c4 : (x : Int) = 44
        · have e : R = false := by rw [← hd]; simp; omega
          subst e
          rw [c4]
          clear hd
          go_wp2
          go_ret
          exact ⟨rfl, rfl⟩
        · by_cases c5 : (x : Int) = 59
          · have e : R = false := by rw [← hd]; simp; omega
            subst e
            rw [c5]
            clear hd
            go_wp2
            go_ret
            exact ⟨rfl, rfl⟩
          · have e : R = true := by rw [← hd]; simp; omega
            subst e
            clear hd
            go_wp2
            go_ret
            exact ⟨by first | rfl | (simp; omega), rfl⟩
    · have e : R = false := by rw [← hd, decide_eq_false (by omega : ¬ x ≤ 126)]; simp
      subst e
      clear hd
      go_wp2
      go_ret
      exact ⟨rfl, rfl⟩
  · have e : R = false := by rw [← hd, decide_eq_false (by omega : ¬ 33 ≤ x)]; simp
    subst e
    clear hd
    go_wp2
    go_ret
    exact ⟨rfl, rfl⟩

set_option maxHeartbeats 400000 in
theorem digit35 (n : Nat) (hn : n < 16) (w : World) : Calls Try.prog 35 #[.int .u8 (n : Int)] w fun e w' => e = .returned (.int .u8 ((dig n).toNat : Int)) ∧ w' = w := by
  rw [dig_nat hn]
  go_enter Try.func35, Try.ntmps35
  by_cases c1 : (n : Int) < 10
  · rw [if_pos (by omega)]
    have i1 : IntKind.u8.wrap (48 + (n : Int)) = 48 + (n : Int) := by simp [IntKind.wrap, IntKind.bits, IntKind.signed]; omega
    go_wp2
    go_ret
    exact ⟨by first | rfl | (simp; try omega), rfl⟩
  · rw [if_neg (by omega)]
    have i1 : IntKind.u8.wrap (65 + (n : Int)) = 65 + (n : Int) := by simp [IntKind.wrap, IntKind.bits, IntKind.signed]; omega
    have i2 : IntKind.u8.wrap (65 + (n : Int) - 10) = 55 + (n : Int) := by simp [IntKind.wrap, IntKind.bits, IntKind.signed]; omega
    go_wp2
    go_ret
    exact ⟨by first | rfl | (simp; try omega), rfl⟩

set_option maxHeartbeats 400000 in
theorem value32 (c : UInt8) (w : World) : Calls Try.prog 32 #[.int .u8 (c.toNat : Int)] w fun e w' => e = .returned (.int .u8 (val c : Int)) ∧ w' = w := by
  have hv : val c = if 65 ≤ c.toNat ∧ c.toNat ≤ 70 then c.toNat - 55 else (c.toNat + 208) % 256 := rfl
  have hb := byte_lt c
  rw [hv]
  obtain ⟨x, hx⟩ : ∃ x, c.toNat = x := ⟨_, rfl⟩
  rw [hx] at hb ⊢
  clear hx hv
  go_enter Try.func32, Try.ntmps32
  by_cases c1 : (65 : Int) ≤ x ∧ (x : Int) ≤ 70
  · obtain ⟨c1, c2⟩ := c1
    rw [if_pos (by omega)]
    have i1 : IntKind.u8.wrap ((x : Int) - 65) = (x : Int) - 65 := by simp [IntKind.wrap, IntKind.bits, IntKind.signed]; omega
    have i2 : IntKind.u8.wrap ((x : Int) - 65 + 10) = ((x - 55 : Nat) : Int) := by simp [IntKind.wrap, IntKind.bits, IntKind.signed]; omega
    go_wp2
    go_ret
    exact ⟨by first | rfl | (simp; try omega), rfl⟩
  · rw [if_neg (by omega)]
    have i1 : IntKind.u8.wrap ((x : Int) - 48) = (((x + 208) % 256 : Nat) : Int) := by simp [IntKind.wrap, IntKind.bits, IntKind.signed]; omega
    have c3 : (¬ (65 : Int) ≤ x) ∨ ((65 : Int) ≤ x ∧ ¬ (x : Int) ≤ 70) := by omega
    rcases c3 with c3 | ⟨c3, c4⟩
    · go_wp2
      go_ret
      exact ⟨by first | rfl | (simp; try omega), rfl⟩
    · go_wp2
      go_ret
      exact ⟨by first | rfl | (simp; try omega), rfl⟩
end Go.Proofs.Ytahpkgglkibikaa
