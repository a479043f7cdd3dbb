/-
  The reader's scan once more, with the block in which its bytes lie.
-/
import Derived.Test.YtneppkbbnajpnaaT
namespace Go.Proofs.Ytneppkbbnajpnaa
open Go.RowKit

/-- The slice lies in block g, or nowhere. -/
def InB (g : Nat) (v : Value) : Prop := ∀ k, v.ownBlock = some k → k = g

theorem inB_map {g m n c n' c' : Nat} {ao : Option Addr} (h : InB g (.slice ao n c)) : InB g (.slice (Option.map (fun x => x.add m) ao) n' c') := by
  intro k hk
  cases ao with
  | none => simp [Value.ownBlock] at hk
  | some a =>
    have h1 : (a.add m).block = a.block := by unfold Addr.add; split <;> rfl
    simp [Value.ownBlock] at hk
    exact h k (by simp [Value.ownBlock, ← hk, h1])
theorem inB_same {g n c n' c' : Nat} {ao : Option Addr} (h : InB g (.slice ao n c)) : InB g (.slice ao n' c') := by
  intro k hk
  exact h k (by cases ao <;> simp [Value.ownBlock] at hk ⊢; exact hk)

set_option maxHeartbeats 400000 in
theorem pass_g (b : Nat) (o : Bool) (s : Value) (L : List UInt8) (m : Nat) (w : World) (hr : RdB w b o s) (hs : Seg w s L) (g : Nat) (hgs : InB g s) (hm : m ≤ L.length) :
    Calls Try.prog 51 #[.pointer (some ⟨b, 0, none⟩), .int .i64 m] w fun e w' => ∃ p, e = .returned p ∧ Seg w p (L.take m) ∧ ∃ t, Seg w t (L.drop m) ∧ InB g t ∧ w' = w.setCell ⟨b, 1, none⟩ t := by
  have hs' := hs
  obtain ⟨ao, cap, rfl, h1, h2, h3, h4⟩ := hs'
  have hc1 := hr.cell1
  have hf := hr.free 1
  have hmx := h2
  unfold maxLen at hmx
  have HI : Hid _ := hgs
  clear h3 h4 hgs
  go_enter Try.func51, Try.ntmps51
  go_wp2
  · go_ret
    have hcm : cap = m := by assumption
    subst hcm
    exact ⟨_, rfl, seg_take _ hm hs, _, seg_drop_all _ hm rfl hs, inB_same HI.out, rfl⟩
  · go_ret
    exact ⟨_, rfl, seg_take m hm hs, _, seg_drop m hm hs, inB_map HI.out, rfl⟩

theorem pass_gint (b : Nat) (o : Bool) (s : Value) (L : List UInt8) (mi : Int) (m : Nat) (w : World) (he : mi = m) (hr : RdB w b o s) (hs : Seg w s L) (g : Nat) (hgs : InB g s) (hm : m ≤ L.length) :
    Calls Try.prog 51 #[.pointer (some ⟨b, 0, none⟩), .int .i64 mi] w fun e w' => ∃ p, e = .returned p ∧ Seg w p (L.take m) ∧ ∃ t, Seg w t (L.drop m) ∧ InB g t ∧ w' = w.setCell ⟨b, 1, none⟩ t := by
  subst he; exact pass_g b o s L m w hr hs g hgs hm

set_option maxRecDepth 100000 in
set_option maxHeartbeats 1000000 in
theorem digits_g (b : Nat) (o : Bool) (s : Value) (L : List UInt8) (n k : Nat) (w : World) (hr : RdB w b o s) (hs : Seg w s L) (g : Nat) (hgs : InB g s) (hn : scan 0 0 L = some (n, k)) :
    Calls Try.prog 47 #[.pointer (some ⟨b, 0, none⟩)] w fun e w' => e = .returned (.tuple #[.int .u64 n, .int .i64 0]) ∧ ∃ t, Seg w t (L.drop k) ∧ InB g t ∧ w' = w.setCell ⟨b, 1, none⟩ t := by
  have hlen := hs.len
  have hs0 := hs
  obtain ⟨ao, cap, rfl, h1, h2, h3, h4⟩ := hs
  have hc1 := hr.cell1
  have HN : Hid (scan 0 0 L = some (n, k)) := hn
  have H4 : Hid _ := h4
  have HI : Hid _ := hgs
  clear hn h4 h3 hgs
  go_enter Try.func47, Try.ntmps47
  go_wp2
  go_step3; go_wp2; go_step3; go_wp2
  go_loop [4, 12] (fun m i => ∃ p acc : Nat, p ≤ 9 ∧ p ≤ L.length ∧ i = .int .i64 p ∧ m = .int .u64 acc ∧ Hid (scan p acc (L.drop p) = some (n, k)) ∧ Hid (acc < 2 ^ (7 * p))) (fun _ i => L.length - (intOf i).toNat)
  case atStart => exact ⟨0, 0, by omega, by omega, rfl, rfl, by simpa using HN, by simp [Hid]⟩
  case round =>
    obtain ⟨p, acc, hp9, hpl, rfl, rfl, Hs, HA⟩ := hrel
    by_cases hlt : p < L.length
    · obtain ⟨bb, off, rfl, hcell⟩ := H4.out p hlt
      have hstep := scan_step L p acc hlt
      obtain ⟨c, hc⟩ : ∃ c : Nat, c = L[p].toNat := ⟨_, rfl⟩
      have hc256 : c < 256 := by rw [hc]; exact L[p].toNat_lt
      rw [← hc] at hcell hstep
      rw [Hs.out] at hstep
      by_cases cc : (0 < p ∧ c = 0) ∨ (p = 9 ∧ 1 < c)
      · rw [if_pos cc] at hstep; cases hstep
      · rw [if_neg cc] at hstep
        have hd := digit_lt acc p c hp9 HA.out (by omega)
        have HW : Hid _ := wrap_digit acc p c hd.1
        have HD : Hid _ := hd
        clear hd hc
        by_cases c3 : c < 128
        · rw [if_pos c3] at hstep
          simp only [Option.some.injEq, Prod.mk.injEq] at hstep
          have e1 : Hid _ := hstep.1
          have e2 : Hid _ := hstep.2
          clear hstep Hs HN H4
          have k2 : p + 1 ≤ L.length := by omega
          have cases3 : (p ≤ 0) ∨ (0 < p ∧ p ≤ 8 ∧ 0 < c) ∨ (0 < p ∧ 9 ≤ p ∧ 0 < c ∧ c ≤ 1) := by omega
          clear cc
          rcases cases3 with d | ⟨d, d2, d3⟩ | ⟨d, d2, d3, d4⟩
          all_goals
            go_wp2_with fail
            refine (pass_gint b o _ L _ (p + 1) _ (by omega) hr hs0 g HI.out k2).mono ?_
            rintro e w' ⟨pp, rfl, _, t, ht, hit, rfl⟩
            have HIT : Hid _ := hit
            clear hit
            go_wp2_with fail
            first | rw [Exit.noGoto_ret] | skip
            go_ret2
            refine ⟨?_, t, by rw [e2.out]; exact ht, HIT.out, rfl⟩
            rw [e1.out]
            first | exact ret_two (HW.out) | exact ret_two (wrap_nine acc p c (by omega) HD.out.1)
        · rw [if_neg c3] at hstep
          have HST : Hid _ := hstep
          have c0 : 128 ≤ c := by omega
          have p9 : p ≤ 8 := by omega
          clear cc c3 hstep
          by_cases d1 : 0 < p
          all_goals
            go_wp2_with fail
            go_round
            case rel => exact ⟨p + 1, _, by omega, by omega, by go_num, by rw [HW.out], HST.out.symm, HD.out.2⟩
            case measure => simp [intOf]; omega
    · have := Hs.out
      rw [List.drop_eq_nil_of_le (by omega)] at this
      cases this
set_option maxHeartbeats 400000 in
theorem count50_g (b : Nat) (o : Bool) (s : Value) (L : List UInt8) (n k : Nat) (most : Int) (w : World) (hr : RdB w b o s) (hs : Seg w s L) (g : Nat) (hgs : InB g s) (h0 : 0 ≤ most) (hm : most ≤ 9223372036854775807) (hn : scan 0 0 L = some (n, k)) :
    Calls Try.prog 50 #[.pointer (some ⟨b, 0, none⟩), .int .i64 most] w fun e w' => e = .returned (.tuple #[.int .u64 (rdCount L most).1, .int .i64 (rdCount L most).2.1]) ∧ ∃ t, Seg w t (L.drop k) ∧ InB g t ∧ w' = w.setCell ⟨b, 1, none⟩ t := by
  have HC : Hid _ := digits_g b o s L n k w hr hs g hgs hn
  have hb := (scan_bound L 0 0 (by omega) (by simp) n k hn).1
  have hn64 : n ≤ 18446744073709551615 := by omega
  by_cases hlt : most < (n : Int)
  · have e1 : rdCount L most = (0, 3, L.drop k) := by simp [rdCount, hn, hlt, show ¬ most < 0 by omega]
    rw [e1]
    clear hr hs hn hb e1
    go_enter Try.func50, Try.ntmps50
    go_wp2_with fail
    refine Calls.mono HC.out ?_
    rintro e w' ⟨rfl, h1⟩
    have F : Hid _ := h1
    clear h1 HC
    go_wp2_with fail
    go_ret2
    exact ⟨rfl, F.out⟩
  · have e1 : rdCount L most = (n, 0, L.drop k) := by simp [rdCount, hn, hlt, show ¬ most < 0 by omega]
    rw [e1]
    clear hr hs hn hb e1
    go_enter Try.func50, Try.ntmps50
    go_wp2_with fail
    refine Calls.mono HC.out ?_
    rintro e w' ⟨rfl, h1⟩
    have F : Hid _ := h1
    clear h1 HC
    go_wp2_with fail
    go_ret2
    exact ⟨rfl, F.out⟩
/-- The reader at block b has L before it, its bytes in block g. -/
def RdG (w : World) (b g : Nat) (L : List UInt8) : Prop := ∃ s, RdB w b true s ∧ Seg w s L ∧ InB g s

theorem RdG.rd {w : World} {b g : Nat} {L : List UInt8} (h : RdG w b g L) : Rd w b L := by obtain ⟨s, h1, h2, _⟩ := h; exact ⟨s, h1, h2⟩

/-- A step that writes neither the reader nor its bytes. -/
theorem RdG.kept {w w' : World} {b g : Nat} {L : List UInt8} {r : Option Nat} (h : RdG w b g L) (hg : w.grownBy w' r) (hb : r ≠ some b) (hr : r ≠ some g) : RdG w' b g L := by
  obtain ⟨s, h1, h2, h3⟩ := h
  refine ⟨s, h1.kept hg hb, ?_, h3⟩
  obtain ⟨ao, cap, rfl, q1, q2, q3, q4⟩ := h2
  refine ⟨ao, cap, rfl, q1, q2, q3, fun j hj => ?_⟩
  obtain ⟨b', off, rfl, hc⟩ := q4 j hj
  have e : b' = g := h3 b' rfl
  subst e
  exact ⟨b', off, rfl, hg.cell hc (fun e => hr e.symm)⟩

theorem whole46_g (b g : Nat) (L : List UInt8) (w : World) (hr : RdG w b g L) :
    Calls Try.prog 46 #[.pointer (some ⟨b, 0, none⟩), .func (.func 47) #[] #[]] w fun e w' => e = .returned (.tuple #[.int .u64 (rdNum L).1, .int .i64 (rdNum L).2.1]) ∧ RdG w' b g (rdNum L).2.2 ∧ w.grownBy w' (some b) := by
  obtain ⟨s, hr, hs, hi⟩ := hr
  obtain ⟨ao, cap, rfl⟩ := hs.shape
  cases h : scan 0 0 L with
  | none =>
    rw [rdNum_none h]
    refine (whole46_err b ao L.length cap 4 w hr (by decide) ((digits_none b true _ L _ (rdb_alloc hr _) (seg_alloc hs _) h).mono ?_)).mono ?_
    · rintro e w2 ⟨rfl, rfl⟩
      exact ⟨_, rfl, ⟨_, rdb_alloc hr _⟩, grown_refl _ _⟩
    · rintro e w' ⟨rfl, h1, h2⟩
      exact ⟨rfl, ⟨_, h1, hs.grownR hr h2, hi⟩, h2⟩
  | some x =>
    obtain ⟨n, k⟩ := x
    rw [rdNum_some h]
    refine (whole46_ok b ao L.length cap w (fun v w' => v = .int .u64 n ∧ RdG w' b g (L.drop k) ∧ w.grownBy w' (some b)) hr ((digits_g b true _ L n k _ (rdb_alloc hr _) (seg_alloc hs _) g hi h).mono ?_)).mono ?_
    · rintro e w2 ⟨rfl, t, ht, hit, rfl⟩
      exact ⟨_, rfl, rfl, ⟨t, RdB.store (rdb_alloc hr _) t, ht.grownR (rdb_alloc hr _) (grown_setCell _ b 1 t), hit⟩, grown_trans (World.grownBy_alloc w _ _) (grown_setCell _ b 1 t)⟩
    · rintro e w' ⟨_, rfl, rfl, h1, h2⟩
      exact ⟨rfl, h1, h2⟩

set_option maxHeartbeats 400000 in
theorem number25_g (b g : Nat) (L : List UInt8) (w : World) (hr : RdG w b g L) :
    Calls Try.prog 25 #[.pointer (some ⟨b, 0, none⟩)] w fun e w' => e = .returned (.tuple #[.int .u64 (rdNum L).1, .int .i64 (rdNum L).2.1]) ∧ RdG w' b g (rdNum L).2.2 ∧ w.grownBy w' (some b) := by
  go_enter Try.func25, Try.ntmps25
  go_wp2_with fail
  refine (whole46_g b g L _ hr).mono ?_
  rintro e w' ⟨rfl, h1, h2⟩
  have F : Hid _ := And.intro h1 h2
  clear h1 h2
  go_wp2_with fail
  go_ret2
  exact ⟨rfl, F.out⟩
end Go.Proofs.Ytneppkbbnajpnaa
