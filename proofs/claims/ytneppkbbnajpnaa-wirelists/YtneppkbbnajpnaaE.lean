/-
  The document's reader: Left and Number.
-/
import Derived.Test.YtneppkbbnajpnaaR
import Derived.Deep.QuietTactic
import Derived.BigQuiet
namespace Go.Proofs.Ytneppkbbnajpnaa
open Go.RowKit

/-- The document's reader's block. -/
def RfB (w : World) (d : Nat) (sv : Value) (at_ : Nat) : Prop := w.heap[d]? = some (.cells #[sv, .int .i64 at_] 40 (0, 0))

theorem RfB.cell0 {w : World} {d : Nat} {sv : Value} {k : Nat} (h : RfB w d sv k) : w.cell? ⟨d, 0, none⟩ = some sv := by rw [cell_of_row w d 0 _ _ _ h]; rfl
theorem RfB.cell1 {w : World} {d : Nat} {sv : Value} {k : Nat} (h : RfB w d sv k) : w.cell? ⟨d, 1, none⟩ = some (.int .i64 k) := by rw [cell_of_row w d 1 _ _ _ h]; rfl
theorem RfB.free {w : World} {d : Nat} {sv : Value} {k : Nat} (h : RfB w d sv k) (j : Nat) : w.frozen? ⟨d, j, none⟩ = false := frozen_of_row w d j _ _ h
theorem RfB.store {w : World} {d : Nat} {sv : Value} {k : Nat} (h : RfB w d sv k) (m : Nat) : RfB (w.setCell ⟨d, 1, none⟩ (.int .i64 m)) d sv m := heap_setCell_same w d 1 _ _ (.int .i64 m) h
theorem RfB.lt {w : World} {d : Nat} {sv : Value} {k : Nat} (h : RfB w d sv k) : d < w.heap.size := (Array.getElem?_eq_some_iff.1 h).1
theorem RfB.kept {w w' : World} {d : Nat} {sv : Value} {k : Nat} {r : Option Nat} (h : RfB w d sv k) (hg : w.grownBy w' r) (hr : r ≠ some d) : RfB w' d sv k :=
  (hg.block d h.lt (fun e => hr e.symm)).trans h

theorem grown_drewN (w : World) (q : Nat) (r : Option Nat) : w.grownBy (w.drewN q) r := ⟨rfl, rfl, rfl, Nat.le_refl _, fun _ _ _ => rfl⟩

/-- Writes to the document's reader's block touch no bytes. -/
theorem Seg.grownF {w w' : World} {v : Value} {L : List UInt8} {d : Nat} {ao : Option Addr} {n c k : Nat} (h : Seg w v L) (hr : RfB w d (.slice ao n c) k) (hg : w.grownBy w' (some d)) : Seg w' v L := by
  refine h.of_cells fun b j x hc => hg.cell hc ?_
  intro e
  simp at e; subst e
  rw [cell_of_row w _ _ _ _ _ hr] at hc
  match j, hc with
  | 0, hc => simp at hc
  | 1, hc => simp at hc
  | j + 2, hc => simp at hc

set_option maxHeartbeats 400000 in
theorem left22 (d : Nat) (ao : Option Addr) (cap k : Nat) (L : List UInt8) (w : World) (hr : RfB w d (.slice ao L.length cap) k) (hk : k ≤ L.length) (hl : L.length ≤ 9223372036854775807) :
    Calls Try.prog 22 #[.pointer (some ⟨d, 0, none⟩)] w fun e w' => e = .returned (.int .i64 ((L.length - k : Nat) : Int)) ∧ ∃ q, w' = w.drewN q := by
  have h0 := hr.cell0
  have h1 := hr.cell1
  have e : Hid ((L.length : Int) - (k : Int) = ((L.length - k : Nat) : Int)) := by unfold Hid; omega
  have hi : IntKind.i64.wrap ((L.length : Int) - (k : Int)) = (L.length : Int) - (k : Int) := by
    simp only [IntKind.wrap, IntKind.bits, IntKind.signed]
    simp
    omega
  clear hr
  go_enter Try.func22, Try.ntmps22
  go_wp2
  go_quiet (fail)
  go_wp2_with fail
  go_ret
  exact ⟨by rw [← e.out]; rfl, nq, rfl⟩

theorem scan_stepD (L : List UInt8) (k p acc : Nat) (h : k + p < L.length) : scan p acc ((L.drop k).drop p) = if (0 < p ∧ L[k + p].toNat = 0) ∨ (p = 9 ∧ 1 < L[k + p].toNat) then none else
      if L[k + p].toNat < 128 then some (acc + (L[k + p].toNat % 128) * 2 ^ (7 * p), p + 1) else scan (p + 1) (acc + (L[k + p].toNat % 128) * 2 ^ (7 * p)) ((L.drop k).drop (p + 1)) := by
  have h1 := scan_step (L.drop k) p acc (by simp; omega)
  simpa using h1

/-- Draws alone. -/
def Dr (w w' : World) : Prop := ∃ q, w' = w.drewN q
theorem Dr.more {w w' : World} (h : Dr w w') (n : Nat) : Dr w (w'.drewN n) := by
  obtain ⟨q, rfl⟩ := h; exact ⟨q + n, World.drewN_drewN _ _ _⟩
theorem Dr.of (w : World) (n : Nat) : Dr w (w.drewN n) := ⟨n, rfl⟩

theorem wrap_digit2 (acc p c : Nat) (h : acc + c % 128 * 2 ^ (7 * p) < 2 ^ 64) : IntKind.u64.wrap ((acc : Int) + IntKind.u64.wrap ((c : Int) % 128 * 2 ^ (7 * p))) = ((acc + c % 128 * 2 ^ (7 * p) : Nat) : Int) := by
  have h1 := wrap_digit acc p c h
  rw [Nat.mul_comm p 7] at h1
  exact h1

set_option maxRecDepth 100000 in
set_option maxHeartbeats 2000000 in
theorem number39_none (d : Nat) (ao : Option Addr) (cap k : Nat) (L : List UInt8) (w : World) (hr : RfB w d (.slice ao L.length cap) k) (hs : Seg w (.slice ao L.length cap) L) (hk : k ≤ L.length) (hn : scan 0 0 (L.drop k) = none) :
    Calls Try.prog 39 #[.pointer (some ⟨d, 0, none⟩)] w fun e w' => e = .returned (.tuple #[.int .u64 0, .int .i64 4]) ∧ Dr w w' := by
  have hlen := hs.len
  have h0 := hr.cell0
  have h1 := hr.cell1
  have hfz := hr.free 1
  have HN : Hid (scan 0 0 (L.drop k) = none) := hn
  obtain ⟨_, _, hv, _, _, _, h4⟩ := hs
  simp at hv
  obtain ⟨rfl, rfl⟩ := hv
  have H4 : Hid _ := h4
  clear hn h4 hr
  go_enter Try.func39, Try.ntmps39
  go_wp2
  go_loopw [4, 5] (fun x i wq => ∃ p acc : Nat, p ≤ 9 ∧ k + p ≤ L.length ∧ i = .int .i64 p ∧ x = .int .u64 acc ∧ Dr w wq ∧ Hid (scan p acc ((L.drop k).drop p) = none) ∧ Hid (acc < 2 ^ (7 * p))) (fun _ i _ => L.length - (intOf i).toNat)
  case atStart => exact ⟨0, 0, by omega, by omega, rfl, rfl, Dr.of w 0, by simpa using HN, by simp [Hid]⟩
  case round =>
    obtain ⟨p, acc, hp9, hpl, rfl, rfl, ⟨q, rfl⟩, Hs, HA⟩ := hrel
    have i1 : (p : Int) < 10 := by omega
    have wr1 : IntKind.i64.wrap ((k : Int) + (p : Int)) = (k : Int) + (p : Int) := by
      simp only [IntKind.wrap, IntKind.bits, IntKind.signed]; simp; omega
    by_cases hlt : k + p < L.length
    · have i2 : (k : Int) + (p : Int) < (L.length : Int) := by omega
      have i3 : (0 : Int) ≤ (k : Int) + (p : Int) := by omega
      obtain ⟨bb, off, rfl, hcell⟩ := H4.out (k + p) hlt
      have hstep := scan_stepD L k p acc hlt
      obtain ⟨c, hc⟩ : ∃ c : Nat, c = L[k + p].toNat := ⟨_, rfl⟩
      have hc256 : c < 256 := by rw [hc]; exact L[k + p].toNat_lt
      rw [← hc] at hcell hstep
      rw [Hs.out] at hstep
      have HST : Hid _ := hstep
      have tn : ((k : Int) + (p : Int)).toNat = k + p := by omega
      clear hstep hc
      by_cases cc : (0 < p ∧ c = 0) ∨ (p = 9 ∧ 1 < c)
      · have cases2 : (9 ≤ p ∧ 1 < c) ∨ (0 < p ∧ p ≤ 8 ∧ c ≤ 0) ∨ (9 ≤ p ∧ c ≤ 0) := by omega
        clear cc HST
        rcases cases2 with ⟨e1, e2⟩ | ⟨e1, e2, e3⟩ | ⟨e1, e2⟩
        rotate_left 2
        · obtain rfl : p = 9 := by omega
          obtain rfl : c = 0 := by omega
          go_wp2_with fail
          go_quiet (fail)
          go_wp2_with fail
          go_quiet (fail)
          go_wp2_with fail
          go_ret2
          exact ⟨rfl, by first | exact Dr.of w _ | exact ((Dr.of w q).more _).more _⟩
        all_goals
          go_wp2_with fail
          go_quiet (fail)
          go_wp2_with fail
          go_quiet (fail)
          go_wp2_with fail
          go_ret2
          exact ⟨rfl, by first | exact Dr.of w _ | exact ((Dr.of w q).more _).more _⟩
      · have hst := HST.out
        rw [if_neg cc] at hst
        by_cases c3 : c < 128
        · rw [if_pos c3] at hst; cases hst
        · rw [if_neg c3] at hst
          have HST2 : Hid _ := hst
          clear HST hst
          have hd := digit_lt acc p c hp9 HA.out (by omega)
          have HW : Hid _ := wrap_digit2 acc p c hd.1
          have HD : Hid _ := hd
          have c0 : 128 ≤ c := by omega
          have p9 : p ≤ 8 := by omega
          clear hd
          by_cases d1 : 0 < p
          all_goals
            go_wp2_with fail
            go_quiet (fail)
            go_wp2_with fail
            go_quiet (fail)
            go_wp2_with fail
            go_roundw
            case rel => exact ⟨p + 1, _, by omega, by omega, by go_num, by rw [HW.out], by first | exact Dr.of w _ | exact ((Dr.of w q).more _).more _, HST2.out.symm, HD.out.2⟩
            case measure => simp [intOf]; omega
    · have i2 : decide ((k : Int) + (p : Int) < (L.length : Int)) = false := by simp; omega
      go_wp2_with fail
      go_quiet (fail)
      go_wp2_with fail
      go_ret2
      exact ⟨rfl, by first | exact Dr.of w _ | exact (Dr.of w q).more _⟩
end Go.Proofs.Ytneppkbbnajpnaa
