/-
  The reader's digits: it scans a number's form, goes behind it, or stays.
-/
import Derived.Test.YtneppkbbnajpnaaA
namespace Go.Proofs.Ytneppkbbnajpnaa
open Go.RowKit

theorem scan_step (L : List UInt8) (p acc : Nat) (h : p < L.length) : scan p acc (L.drop p) = if (0 < p ∧ L[p].toNat = 0) ∨ (p = 9 ∧ 1 < L[p].toNat) then none else
      if L[p].toNat < 128 then some (acc + (L[p].toNat % 128) * 2 ^ (7 * p), p + 1) else scan (p + 1) (acc + (L[p].toNat % 128) * 2 ^ (7 * p)) (L.drop (p + 1)) := by
  rw [List.drop_eq_getElem_cons h, scan]

theorem digit_lt (acc p c : Nat) (hp : p ≤ 9) (ha : acc < 2 ^ (7 * p)) (h9 : ¬ (p = 9 ∧ 1 < c)) : acc + c % 128 * 2 ^ (7 * p) < 2 ^ 64 ∧ acc + c % 128 * 2 ^ (7 * p) < 2 ^ (7 * (p + 1)) := by
  have hs : (2 : Nat) ^ (7 * (p + 1)) = 128 * 2 ^ (7 * p) := by rw [show 7 * (p + 1) = 7 * p + 7 by omega, Nat.pow_add]; omega
  have hm : c % 128 < 128 := Nat.mod_lt _ (by omega)
  have hmul : (c % 128) * 2 ^ (7 * p) ≤ 127 * 2 ^ (7 * p) := Nat.mul_le_mul_right _ (by omega)
  have hnew : acc + (c % 128) * 2 ^ (7 * p) < 2 ^ (7 * (p + 1)) := by omega
  refine ⟨?_, hnew⟩
  by_cases e9 : p = 9
  · subst e9
    have : c % 128 ≤ 1 := by omega
    have : (c % 128) * 2 ^ (7 * 9) ≤ 1 * 2 ^ (7 * 9) := Nat.mul_le_mul_right _ this
    have e : (2 : Nat) ^ (7 * 9) = 9223372036854775808 := by decide
    have e2 : (2 : Nat) ^ 64 = 18446744073709551616 := by decide
    rw [e] at *
    omega
  · exact Nat.lt_of_lt_of_le hnew (Nat.pow_le_pow_right (by omega) (by omega))

theorem wrap_u64 (n : Nat) (h : n < 2 ^ 64) : IntKind.u64.wrap (n : Int) = n := by
  have e : (2 : Nat) ^ 64 = 18446744073709551616 := by decide
  simp only [IntKind.wrap, IntKind.bits, IntKind.signed]
  simp
  omega

theorem wrap_digit (acc p c : Nat) (h : acc + c % 128 * 2 ^ (7 * p) < 2 ^ 64) : IntKind.u64.wrap ((acc : Int) + IntKind.u64.wrap ((c : Int) % 128 * 2 ^ (p * 7))) = ((acc + c % 128 * 2 ^ (7 * p) : Nat) : Int) := by
  have e1 : ((c : Int) % 128 * 2 ^ (p * 7)) = ((c % 128 * 2 ^ (7 * p) : Nat) : Int) := by rw [Nat.mul_comm p 7]; push_cast; rfl
  rw [e1, wrap_u64 _ (by omega), show ((acc : Int) + ((c % 128 * 2 ^ (7 * p) : Nat) : Int)) = ((acc + c % 128 * 2 ^ (7 * p) : Nat) : Int) by push_cast; rfl, wrap_u64 _ h]

theorem wrap_nine (acc p c : Nat) (hp : p = 9) (h : acc + c % 128 * 2 ^ (7 * p) < 2 ^ 64) : IntKind.u64.wrap ((acc : Int) + (c : Int) % 128 * 9223372036854775808) = ((acc + c % 128 * 2 ^ (7 * p) : Nat) : Int) := by
  subst hp
  have e : (2 : Nat) ^ (7 * 9) = 9223372036854775808 := by decide
  rw [e] at *
  rw [show ((acc : Int) + (c : Int) % 128 * 9223372036854775808) = ((acc + c % 128 * 9223372036854775808 : Nat) : Int) by omega, wrap_u64 _ h]

theorem ret_two {k l : IntKind} {a b c : Int} (h : a = b) : Ending.returned (.tuple #[.int k a, .int l c]) = .returned (.tuple #[.int k b, .int l c]) := by rw [h]

set_option maxRecDepth 100000 in
set_option maxHeartbeats 1000000 in
theorem digits_none (b : Nat) (o : Bool) (s : Value) (L : List UInt8) (w : World) (hr : RdB w b o s) (hs : Seg w s L) (hn : scan 0 0 L = none) :
    Calls Try.prog 47 #[.pointer (some ⟨b, 0, none⟩)] w fun e w' => e = .returned (.tuple #[.int .u64 0, .int .i64 4]) ∧ w' = w := by
  have hlen := hs.len
  obtain ⟨ao, cap, rfl, h1, h2, h3, h4⟩ := hs
  have hc1 := hr.cell1
  have HN : Hid (scan 0 0 L = none) := hn
  have H4 : Hid _ := h4
  clear hn h4 h3
  go_enter Try.func47, Try.ntmps47
  go_wp2
  go_step3; go_wp2; go_step3; go_wp2
  go_loop [4, 12] (fun n i => ∃ p acc : Nat, p ≤ 9 ∧ p ≤ L.length ∧ i = .int .i64 p ∧ n = .int .u64 acc ∧ Hid (scan p acc (L.drop p) = none) ∧ Hid (acc < 2 ^ (7 * p))) (fun _ i => L.length - (intOf i).toNat)
  case atStart => exact ⟨0, 0, by omega, by omega, rfl, rfl, by simpa using HN, by simp [Hid]⟩
  case round =>
    obtain ⟨p, acc, hp9, hpl, rfl, rfl, Hs, HA⟩ := hrel
    by_cases hlt : p < L.length
    · obtain ⟨bb, off, rfl, hcell⟩ := H4.out p hlt
      have hstep := scan_step L p acc hlt
      obtain ⟨c, hc⟩ : ∃ c : Nat, c = L[p].toNat := ⟨_, rfl⟩
      have hc256 : c < 256 := by rw [hc]; exact L[p].toNat_lt
      rw [← hc] at hcell hstep
      rw [Hs.out] at hstep
      have HST : Hid _ := hstep
      clear hstep hc
      by_cases c1 : 0 < p ∧ c = 0
      · obtain ⟨c1, rfl⟩ := c1
        clear HST
        go_wp2
        first | rw [Exit.noGoto_ret] | skip
        go_ret2
        exact ⟨rfl, rfl⟩
      · by_cases c2 : p = 9 ∧ 1 < c
        · obtain ⟨rfl, c2⟩ := c2
          clear HST c1
          go_wp2
          all_goals first | rw [Exit.noGoto_ret] | skip
          all_goals go_ret2
          all_goals exact ⟨rfl, rfl⟩
        · have hst := HST.out
          rw [if_neg (by omega)] at hst
          by_cases c3 : c < 128
          · rw [if_pos c3] at hst; cases hst
          · rw [if_neg c3] at hst
            have hd := digit_lt acc p c hp9 HA.out c2
            have HW : Hid _ := wrap_digit acc p c hd.1
            have HD : Hid _ := hd
            have HST : Hid _ := hst
            have c0 : 128 ≤ c := by omega
            have p9 : p ≤ 8 := by omega
            clear c1 c2 c3 hst hd
            by_cases d1 : 0 < p
            all_goals
              go_wp2_with fail
              go_round
              case rel => exact ⟨p + 1, _, by omega, by omega, by go_num, by rw [HW.out], HST.out.symm, HD.out.2⟩
              case measure => simp [intOf]; omega
    · go_wp2
      go_ret2
      exact ⟨rfl, rfl⟩

set_option maxRecDepth 100000 in
set_option maxHeartbeats 1000000 in
theorem digits_some (b : Nat) (o : Bool) (s : Value) (L : List UInt8) (n k : Nat) (w : World) (hr : RdB w b o s) (hs : Seg w s L) (hn : scan 0 0 L = some (n, k)) :
    Calls Try.prog 47 #[.pointer (some ⟨b, 0, none⟩)] w fun e w' => e = .returned (.tuple #[.int .u64 n, .int .i64 0]) ∧ ∃ t, Seg w t (L.drop k) ∧ w' = w.setCell ⟨b, 1, none⟩ t := by
  have hlen := hs.len
  have hs0 := hs
  obtain ⟨ao, cap, rfl, h1, h2, h3, h4⟩ := hs
  have hc1 := hr.cell1
  have HN : Hid (scan 0 0 L = some (n, k)) := hn
  have H4 : Hid _ := h4
  clear hn h4 h3
  go_enter Try.func47, Try.ntmps47
  go_wp2
  go_step3; go_wp2; go_step3; go_wp2
  go_loop [4, 12] (fun m i => ∃ p acc : Nat, p ≤ 9 ∧ p ≤ L.length ∧ i = .int .i64 p ∧ m = .int .u64 acc ∧ Hid (scan p acc (L.drop p) = some (n, k)) ∧ Hid (acc < 2 ^ (7 * p))) (fun _ i => L.length - (intOf i).toNat)
  case atStart => exact ⟨0, 0, by omega, by omega, rfl, rfl, by simpa using HN, by simp [Hid]⟩
  case round =>
    obtain ⟨p, acc, hp9, hpl, rfl, rfl, Hs, HA⟩ := hrel
    by_cases hlt : p < L.length
    · obtain ⟨bb, off, rfl, hcell⟩ := H4.out p hlt
      have hstep := scan_step L p acc hlt
      obtain ⟨c, hc⟩ : ∃ c : Nat, c = L[p].toNat := ⟨_, rfl⟩
      have hc256 : c < 256 := by rw [hc]; exact L[p].toNat_lt
      rw [← hc] at hcell hstep
      rw [Hs.out] at hstep
      by_cases cc : (0 < p ∧ c = 0) ∨ (p = 9 ∧ 1 < c)
      · rw [if_pos cc] at hstep; cases hstep
      · rw [if_neg cc] at hstep
        have hd := digit_lt acc p c hp9 HA.out (by omega)
        have HW : Hid _ := wrap_digit acc p c hd.1
        have HD : Hid _ := hd
        clear hd hc
        by_cases c3 : c < 128
        · rw [if_pos c3] at hstep
          simp only [Option.some.injEq, Prod.mk.injEq] at hstep
          have e1 : Hid _ := hstep.1
          have e2 : Hid _ := hstep.2
          clear hstep Hs HN H4
          have k2 : p + 1 ≤ L.length := by omega
          have cases3 : (p ≤ 0) ∨ (0 < p ∧ p ≤ 8 ∧ 0 < c) ∨ (0 < p ∧ 9 ≤ p ∧ 0 < c ∧ c ≤ 1) := by omega
          clear cc
          rcases cases3 with d | ⟨d, d2, d3⟩ | ⟨d, d2, d3, d4⟩
          all_goals
            go_wp2_with fail
            refine (pass_int b o _ L _ (p + 1) _ (by omega) hr hs0 k2).mono ?_
            rintro e w' ⟨pp, rfl, _, t, ht, rfl⟩
            go_wp2_with fail
            first | rw [Exit.noGoto_ret] | skip
            go_ret2
            refine ⟨?_, t, by rw [e2.out]; exact ht, rfl⟩
            rw [e1.out]
            first | exact ret_two (HW.out) | exact ret_two (wrap_nine acc p c (by omega) HD.out.1)
        · rw [if_neg c3] at hstep
          have HST : Hid _ := hstep
          have c0 : 128 ≤ c := by omega
          have p9 : p ≤ 8 := by omega
          clear cc c3 hstep
          by_cases d1 : 0 < p
          all_goals
            go_wp2_with fail
            go_round
            case rel => exact ⟨p + 1, _, by omega, by omega, by go_num, by rw [HW.out], HST.out.symm, HD.out.2⟩
            case measure => simp [intOf]; omega
    · have := Hs.out
      rw [List.drop_eq_nil_of_le (by omega)] at this
      cases this
end Go.Proofs.Ytneppkbbnajpnaa
