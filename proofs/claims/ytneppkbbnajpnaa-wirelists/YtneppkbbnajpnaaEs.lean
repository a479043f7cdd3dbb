/-
  The document's reader: Number, where a number stands there.
-/
import Derived.Test.YtneppkbbnajpnaaE
namespace Go.Proofs.Ytneppkbbnajpnaa
open Go.RowKit

set_option maxRecDepth 100000 in
set_option maxHeartbeats 2000000 in
theorem number39_some (d : Nat) (ao : Option Addr) (cap k : Nat) (L : List UInt8) (n m : Nat) (w : World) (hr : RfB w d (.slice ao L.length cap) k) (hs : Seg w (.slice ao L.length cap) L) (hk : k ≤ L.length) (hn : scan 0 0 (L.drop k) = some (n, m)) :
    Calls Try.prog 39 #[.pointer (some ⟨d, 0, none⟩)] w fun e w' => e = .returned (.tuple #[.int .u64 n, .int .i64 0]) ∧ ∃ q, w' = (w.drewN q).setCell ⟨d, 1, none⟩ (.int .i64 ((k + m : Nat) : Int)) := by
  have hlen := hs.len
  have h0 := hr.cell0
  have h1 := hr.cell1
  have hfz := hr.free 1
  have HN : Hid (scan 0 0 (L.drop k) = some (n, m)) := hn
  obtain ⟨_, _, hv, _, _, _, h4⟩ := hs
  simp at hv
  obtain ⟨rfl, rfl⟩ := hv
  have H4 : Hid _ := h4
  clear hn h4 hr
  go_enter Try.func39, Try.ntmps39
  go_wp2
  go_loopw [4, 5] (fun x i wq => ∃ p acc : Nat, p ≤ 9 ∧ k + p ≤ L.length ∧ i = .int .i64 p ∧ x = .int .u64 acc ∧ Dr w wq ∧ Hid (scan p acc ((L.drop k).drop p) = some (n, m)) ∧ Hid (acc < 2 ^ (7 * p))) (fun _ i _ => L.length - (intOf i).toNat)
  case atStart => exact ⟨0, 0, by omega, by omega, rfl, rfl, Dr.of w 0, by simpa using HN, by simp [Hid]⟩
  case round =>
    obtain ⟨p, acc, hp9, hpl, rfl, rfl, ⟨q, rfl⟩, Hs, HA⟩ := hrel
    have i1 : (p : Int) < 10 := by omega
    have wr1 : IntKind.i64.wrap ((k : Int) + (p : Int)) = (k : Int) + (p : Int) := by
      simp only [IntKind.wrap, IntKind.bits, IntKind.signed]; simp; omega
    by_cases hlt : k + p < L.length
    · have i2 : (k : Int) + (p : Int) < (L.length : Int) := by omega
      have i3 : (0 : Int) ≤ (k : Int) + (p : Int) := by omega
      obtain ⟨bb, off, rfl, hcell⟩ := H4.out (k + p) hlt
      have hstep := scan_stepD L k p acc hlt
      obtain ⟨c, hc⟩ : ∃ c : Nat, c = L[k + p].toNat := ⟨_, rfl⟩
      have hc256 : c < 256 := by rw [hc]; exact L[k + p].toNat_lt
      rw [← hc] at hcell hstep
      rw [Hs.out] at hstep
      have HST : Hid _ := hstep
      have tn : ((k : Int) + (p : Int)).toNat = k + p := by omega
      clear hstep hc
      have cc : ¬ ((0 < p ∧ c = 0) ∨ (p = 9 ∧ 1 < c)) := by
        intro cc
        have := HST.out
        rw [if_pos cc] at this; cases this
      have hst := HST.out
      rw [if_neg cc] at hst
      clear HST
      by_cases c3 : c < 128
      · rw [if_pos c3] at hst
        simp only [Option.some.injEq, Prod.mk.injEq] at hst
        have E1 : Hid _ := hst.1
        have E2 : Hid _ := hst.2
        have hd := digit_lt acc p c hp9 HA.out (by omega)
        have HW : Hid _ := wrap_digit2 acc p c hd.1
        have HD : Hid _ := hd
        have wr2 : IntKind.i64.wrap ((k : Int) + (p : Int) + 1) = (k : Int) + (p : Int) + 1 := by
          simp only [IntKind.wrap, IntKind.bits, IntKind.signed]; simp; omega
        have cases3 : (p ≤ 0) ∨ (0 < p ∧ p ≤ 8 ∧ 0 < c) ∨ (0 < p ∧ 9 ≤ p ∧ 0 < c ∧ c ≤ 1) := by omega
        clear hst hd cc
        rcases cases3 with z1 | ⟨z1, z2, z3⟩ | ⟨z1, z2, z3, z4⟩
        rotate_left 2
        · obtain rfl : p = 9 := by omega
          obtain rfl : c = 1 := by omega
          go_wp2_with fail
          go_quiet (fail)
          go_wp2_with fail
          go_quiet (fail)
          go_wp2_with fail
          go_ret2
          have e3 : ((k + m : Nat) : Int) = (k : Int) + 9 + 1 := by rw [E2.out]; omega
          rw [e3]
          refine ⟨?_, ⟨_, rfl⟩⟩
          rw [E1.out]
          have h9 := wrap_nine acc 9 1 rfl HD.out.1
          exact ret_two h9
        all_goals
          go_wp2_with fail
          go_quiet (fail)
          go_wp2_with fail
          go_quiet (fail)
          go_wp2_with fail
          go_ret2
          have e3 : ((k + m : Nat) : Int) = (k : Int) + (p : Int) + 1 := by rw [E2.out]; omega
          rw [e3]
          refine ⟨?_, ⟨_, rfl⟩⟩
          rw [E1.out]
          first | exact ret_two (HW.out) | exact ret_two (wrap_nine acc p c (by omega) HD.out.1)
      · rw [if_neg c3] at hst
        have HST2 : Hid _ := hst
        clear hst
        have hd := digit_lt acc p c hp9 HA.out (by omega)
        have HW : Hid _ := wrap_digit2 acc p c hd.1
        have HD : Hid _ := hd
        have c0 : 128 ≤ c := by omega
        have p9 : p ≤ 8 := by omega
        clear hd
        by_cases d1 : 0 < p
        all_goals
          go_wp2_with fail
          go_quiet (fail)
          go_wp2_with fail
          go_quiet (fail)
          go_wp2_with fail
          go_roundw
          case rel => exact ⟨p + 1, _, by omega, by omega, by go_num, by rw [HW.out], by first | exact Dr.of w _ | exact ((Dr.of w q).more _).more _, HST2.out.symm, HD.out.2⟩
          case measure => simp [intOf]; omega
    · have := Hs.out
      rw [List.drop_eq_nil_of_le (by simp; omega)] at this
      cases this
end Go.Proofs.Ytneppkbbnajpnaa
