/-
  WindowComes: the walk of its loop.
-/
import Derived.Test.YtignmnmhigncjaaEa
namespace Go.Proofs.Ytignmnmhigncjaa
open Go.RowKit Disk I

/-- What stands at the loop's head. -/
structure CmP (w wr : World) (b : Nat) (v : Value) (n : Nat) (L : List (Option Int)) (Q : Nat → Prop) (i mk : Nat) : Prop where
  win : Win Q wr b v n L (lead L)
  len : L.length ≤ i
  mark : lead L = mk
  gr : w.grownBy wr none
  new : ∀ j, FN b v j → w.heap.size ≤ j
theorem CmP.to {w wr w2 : World} {b : Nat} {v : Value} {n : Nat} {L L' : List (Option Int)} {Q Q' : Nat → Prop} {i i' mk mk' : Nat} (h : CmP w wr b v n L Q i mk) (hw : Win Q' w2 b v n L' (lead L')) (hf : Fr wr w2 (FN b v)) (hl : L'.length ≤ i') (hm : lead L' = mk') : CmP w w2 b v n L' Q' i' mk' :=
  ⟨hw, hl, hm, Fr.grown ((Fr.of (F := FN b v) h.gr (by simp)).trans hf fun i hi => .inl hi) h.new, h.new⟩

set_option maxRecDepth 100000 in
set_option maxHeartbeats 8000000 in
theorem comes4_no (z : Int) (ao : Option Addr) (on cap : Nat) (w : World) (hz : z < 1 ∨ 64 < z) : Calls Try.prog 4 #[.int .i64 z, .slice ao on cap] w fun e w' => e = .returned (.bool true) ∧ w.grownBy w' none := by
  rcases hz with hz | hz
  rotate_left
  have hz1 : ¬ z < 1 := by omega
  rotate_left
  all_goals
    go_enter Try.func4, Try.ntmps4
    go_wp2_with fail
    refine (known8 w).mono ?_
    rintro e w3 ⟨rfl, g3⟩
    have G3 : Hid (w.grownBy w3 none) := g3
    clear g3
    go_wp2_with fail
    refine (new_no z w3 (by omega)).mono ?_
    rintro e w1 ⟨rfl, rfl⟩
    go_wp2_with fail
    go_ret
    exact ⟨rfl, G3.out⟩

set_option maxRecDepth 100000 in
set_option maxHeartbeats 16000000 in
theorem comes4_yes (n : Nat) (h1 : 1 ≤ n) (h2 : n ≤ 64) (ao : Option Addr) (on cap : Nat) (os : List Int) (w : World) (hu : Rd w (.slice ao on cap) (os.map (Value.int .i64))) (hon : os.length = on) : Calls Try.prog 4 #[.int .i64 (n : Nat), .slice ao on cap] w fun e w' => e = .returned (.bool true) ∧ w.grownBy w' none := by
  have HU : Hid (Rd w (.slice ao on cap) (os.map (Value.int .i64)) ∧ os.length = on ∧ n ≤ 64) := ⟨hu, hon, h2⟩
  have hsb : on ≤ 9223372036854775807 := by have := hu.len; simp at this; omega
  clear hu hon
  go_enter Try.func4, Try.ntmps4
  go_wp2_with fail
  refine (known8 w).mono ?_
  rintro e w1 ⟨rfl, g1⟩
  have G1 : Hid (w.grownBy w1 none) := g1
  clear g1
  go_wp2_with fail
  refine (new_win n w1 h1 h2).mono ?_
  rintro e w2 ⟨b, v, rfl, hw, hg, hn⟩
  have HST : Hid (CmP w w2 b v n [] (fun _ => False) 0 0) := ⟨hw, Nat.le_refl _, rfl, grown_trans G1.out hg, fun j hj => Nat.le_trans G1.out.size (hn j hj)⟩
  clear hw hg hn h1 h2
  go_wp2_with fail
  go_loopw [7, 8] (fun pm pi wr => ∃ i mk : Nat, pi = .int .i64 (i : Nat) ∧ pm = .int .i64 (mk : Nat) ∧ i ≤ on ∧ i ≤ 200 ∧ Hid (∃ Q L, CmP w wr b v n L Q i mk)) (fun _ p _ => 200 - (intOf p).toNat)
  case atStart => exact ⟨0, 0, rfl, rfl, Nat.zero_le _, Nat.zero_le _, _, _, HST.out⟩
  case round =>
    obtain ⟨i, mk, rfl, rfl, hi, hi2, HS⟩ := hrel
    obtain ⟨Q, L, HC0⟩ : ∃ Q L, Hid (CmP w wr b v n L Q i mk) := HS.out
    obtain ⟨gb, hgb⟩ : ∃ gb : Bool, decide (i < on ∧ i < 200) = gb := ⟨_, rfl⟩
    have HGB : Hid (decide (i < on ∧ i < 200) = gb) := hgb
    clear hgb HS
    go_upto_region 8 with fail
    go_cut [37] (fun x wc => x = .bool gb ∧ wc = wr)
    case first =>
      by_cases hlt : i < on
      · have j1 : (i : Int) < (on : Int) := by omega
        by_cases hl2 : i < 200
        · have j2 : (i : Int) < 200 := by omega
          have hg : gb = true := by rw [← HGB.out]; simp [hlt, hl2]
          go_wp2_with fail
          go_meet
          case rel => exact ⟨by rw [hg], rfl⟩
        · have j2 : ¬ (i : Int) < 200 := by omega
          have hg : gb = false := by rw [← HGB.out]; simp [hl2]
          go_wp2_with fail
          go_meet
          case rel => exact ⟨by rw [hg], rfl⟩
      · have j1 : ¬ (i : Int) < (on : Int) := by omega
        have hg : gb = false := by rw [← HGB.out]; simp [hlt]
        go_wp2_with fail
        go_meet
        case rel => exact ⟨by rw [hg], rfl⟩
    case rest =>
      obtain ⟨rfl, rfl⟩ := hcut
      cases gb
      · go_wp2_with fail
        refine (emptied25 Q b v n L wc HC0.out.win (by have := HC0.out.len; omega)).mono ?_
        rintro e w5 ⟨rfl, hf⟩
        have HF : Hid (w.grownBy w5 none) := Fr.grown ((Fr.of (F := FN b v) HC0.out.gr (by simp)).trans hf fun i hi => .inl hi) HC0.out.new
        clear hf
        go_wp2_with fail
        go_ret
        exact ⟨rfl, HF.out⟩
      · have hij : i < on ∧ i < 200 := of_decide_eq_true HGB.out
        obtain ⟨ub, off, e1, cu⟩ := HU.out.1.at i (by have := HU.out; simp; omega)
        subst e1
        obtain ⟨o, ho⟩ : ∃ o, os[i]'(by have := HU.out; omega) = o := ⟨_, rfl⟩
        simp only [List.getElem_map, ho] at cu
        have HP : Hid (w.cell? ⟨ub, off + i, none⟩ = some (.int .i64 o) ∧ i < on ∧ i < 200) := ⟨cu, hij.1, hij.2⟩
        obtain ⟨ln, hln⟩ : ∃ ln, L.length = ln := ⟨_, rfl⟩
        have HC : Hid (CmP w wc b v n L Q i mk ∧ L.length = ln ∧ ln ≤ 200) := ⟨HC0.out, hln, by have := HC0.out.len; omega⟩
        have i1 : (i : Int) < (on : Int) := by omega
        have i2 : (0 : Int) ≤ (i : Int) := by omega
        clear cu ho hij hln HC0
        go_wp2_with fail
        refine (last_yes b v n L (lead L) wc HC.out.1.win).mono ?_
        rintro e w4 ⟨rfl, rfl⟩
        rw [HC.out.2.1]
        go_wp2_with fail
        refine (give_yes b v n L (lead L) (i : Int) w4 HC.out.1.win (by have := HC.out; omega)).mono ?_
        rintro e w5 hgp
        rcases hgp with ⟨hl, rfl, hw, hf⟩ | ⟨hl, rfl, hw, hf⟩
        · have H5 : Hid (CmP w w5 b v n L Q (i + 1) mk ∧ L.length = ln) := ⟨HC.out.1.to hw hf (by have := HC.out.1.len; omega) HC.out.1.mark, HC.out.2.1⟩
          obtain ⟨L1, hL1⟩ : ∃ L1, L = L1 := ⟨_, rfl⟩
          rw [hL1] at H5
          have H5 : Hid (∃ Q1 l1, CmP w w5 b v n L1 Q1 (i + 1) mk ∧ L1.length = l1) := ⟨_, _, H5.out⟩
          have HLL : Hid (L1.length = ln) := by rw [← hL1]; exact HC.out.2.1
          obtain ⟨Q1, l1, H5⟩ : ∃ Q1 l1, Hid (CmP w w5 b v n L1 Q1 (i + 1) mk ∧ L1.length = l1) := H5.out
          clear hw hf hL1
          have s1 : ((ln : Int) != (ln : Int)) = false := by simp
          go_wp2_with fail
          refine (num7 7 w5).mono ?_
          rintro e wa ⟨rfl, rfl⟩
          go_wp2_with fail
          refine (num7 7 wa).mono ?_
          rintro e wb ⟨rfl, rfl⟩
          go_wp2_with fail
          refine (last_yes b v n L1 (lead L1) wb H5.out.1.win).mono ?_
          rintro e wd ⟨rfl, rfl⟩
          rw [HLL.out]
          go_wp2_with fail
          refine (mark_yes b v n L1 (lead L1) wd H5.out.1.win).mono ?_
          rintro e wg ⟨rfl, rfl⟩
          rw [H5.out.1.mark]
          have HB : Hid (mk ≤ 200 ∧ n ≤ 64 ∧ 1 ≤ n ∧ l1 ≤ 200 ∧ mk ≤ l1) := ⟨by have := H5.out.1.win.top; have := H5.out.1.mark; have := H5.out.1.len; have := HP.out; omega, H5.out.1.win.size.2, H5.out.1.win.size.1, by have := H5.out.1.len; have := H5.out.2; have := HP.out; omega, by have := H5.out.1.win.top; have := H5.out.1.mark; have := H5.out.2; omega⟩
          have d1 : IntKind.i64.wrap ((mk : Int) + 1) = (mk : Int) + 1 := by have := HB.out; rw [IntKind.wrap_i64]; omega
          have cu := H5.out.1.gr.cell HP.out.1 (by simp)
          try clear s1
          try clear d0
          go_upto_if 79 with fail
          clear d1
          go_cut [12] (fun pk wx => ∃ kz : Int, pk = .int .i64 kz ∧ wx = wg)
          case first =>
            by_cases ho : 0 < o
            · have b3 : ((n : Int) == 0) = false := by have := HB.out; simp; omega
              have b4 : ((n : Int) = 0) = False := eq_false (by have := HB.out; omega)
              have b5 : (n = 0) = False := eq_false (by have := HB.out; omega)
              have d2 : IntKind.i64.wrap ((mk : Int) + 1 + o.tmod (n : Int)) = (mk : Int) + 1 + o.tmod (n : Int) := by
                have := HB.out
                have h1 := Int.lt_tmod_of_pos o (show (0 : Int) < (n : Int) by omega)
                have h2 := Int.tmod_lt_of_pos o (show (0 : Int) < (n : Int) by omega)
                rw [IntKind.wrap_i64]
                omega
              go_wp2_with fail
              go_meet
              case rel => exact ⟨_, rfl, rfl⟩
            · go_wp2_with fail
              go_meet
              case rel => exact ⟨_, rfl, rfl⟩
          case rest =>
            obtain ⟨kz, rfl, rfl⟩ := hcut
            clear cu
            go_wp2_with fail
            refine (back_yes b v n L1 kz wc (by have := H5.out.1.win; exact this) (by have := HB.out; have := H5.out.2; omega)).mono ?_
            rintro e w6 ⟨rfl, hw6, hf6⟩
            obtain ⟨L2, hL2⟩ : ∃ L2, putL L1 kz none = L2 := ⟨_, rfl⟩
            have hmono := lead_back L1 kz
            have hlen2 := putL_len L1 kz none
            rw [hL2] at hw6 hmono hlen2
            obtain ⟨Q2, hQ2⟩ : ∃ Q2, Q1 = Q2 := ⟨_, rfl⟩
            rw [hQ2] at hw6
            obtain ⟨m2, hm2⟩ : ∃ m2, lead L2 = m2 := ⟨_, rfl⟩
            obtain ⟨l2, hl2⟩ : ∃ l2, L2.length = l2 := ⟨_, rfl⟩
            have H6 : Hid (CmP w w6 b v n L2 Q2 (i + 1) m2 ∧ True) := ⟨(H5.out.1.to hw6 hf6 (by have := H5.out.1.len; omega) hm2), trivial⟩
            have HM : Hid (lead L2 = m2 ∧ L2.length = l2 ∧ mk ≤ m2 ∧ m2 ≤ l2 ∧ l2 ≤ m2 + n ∧ l2 ≤ 200 ∧ n ≤ 64) := ⟨hm2, hl2, by have := H5.out.1.mark; omega, by have := lead_le L2; omega, by have := hw6.room; omega, by have := HB.out; have := H5.out.2; omega, HB.out.2.1⟩
            have e1 : ¬ ((m2 : Int) < (mk : Int)) := by have := HM.out; omega
            have e2 : ¬ ((l2 : Int) < (m2 : Int)) := by have := HM.out; omega
            have e3 : ¬ ((n : Int) < (l2 : Int) - (m2 : Int)) := by have := HM.out; omega
            have e4 : ((n : Int) - ((l2 : Int) - (m2 : Int)) != (n : Int) - ((l2 : Int) - (m2 : Int))) = false := by simp
            have f1 : IntKind.i64.wrap ((l2 : Int) - (m2 : Int)) = (l2 : Int) - (m2 : Int) := by have := HM.out; rw [IntKind.wrap_i64]; omega
            have f2 : IntKind.i64.wrap ((n : Int) - ((l2 : Int) - (m2 : Int))) = (n : Int) - ((l2 : Int) - (m2 : Int)) := by have := HM.out; rw [IntKind.wrap_i64]; omega
            have f3 : IntKind.i64.wrap ((i : Int) + 1) = (i : Int) + 1 := by have := HP.out; rw [IntKind.wrap_i64]; omega
            have hg05 : (getD L1 kz).2 = 0 ∨ (getD L1 kz).2 = 5 := by
              unfold getD
              cases outD L1 kz
              · exact .inr rfl
              · exact .inl rfl
            obtain ⟨gs, hgs⟩ : ∃ y, (getD L1 kz).1 = y := ⟨_, rfl⟩
            obtain ⟨ge, hge2⟩ : ∃ y, (getD L1 kz).2 = y := ⟨_, rfl⟩
            rw [hge2] at hg05
            rw [hgs, hge2]
            clear hgs hge2 hw6 hf6 hmono hlen2 hL2 hQ2 hm2 hl2
            rcases hg05 with hge | hge
            · have HGE : Hid (ge = 0) := hge
              rw [hge]
              clear hge
              go_wp2_with fail
              refine (num7 0 w6).mono ?_
              rintro e w7 ⟨rfl, rfl⟩
              go_wp2_with fail
              obtain ⟨w8, hw8⟩ : ∃ y : World, y = w7 := ⟨_, rfl⟩
              subst hw8
              refine (mark_yes b v n L2 (lead L2) w8 H6.out.1.win).mono ?_
              rintro e w9 ⟨rfl, rfl⟩
              rw [HM.out.1]
              go_wp2_with fail
              refine (mark_yes b v n L2 (lead L2) w9 H6.out.1.win).mono ?_
              rintro e wa ⟨rfl, rfl⟩
              rw [HM.out.1]
              go_wp2_with fail
              refine (last_yes b v n L2 (lead L2) wa H6.out.1.win).mono ?_
              rintro e wb ⟨rfl, rfl⟩
              rw [HM.out.2.1]
              go_wp2_with fail
              refine (last_yes b v n L2 (lead L2) wb H6.out.1.win).mono ?_
              rintro e wd ⟨rfl, rfl⟩
              rw [HM.out.2.1]
              go_wp2_with fail
              refine (mark_yes b v n L2 (lead L2) wd H6.out.1.win).mono ?_
              rintro e we ⟨rfl, rfl⟩
              rw [HM.out.1]
              go_wp2_with fail
              refine (room_yes b v n L2 (lead L2) we H6.out.1.win (by have := HM.out; omega)).mono ?_
              rintro e wf ⟨rfl, gf⟩
              have GF : Hid (we.grownBy wf none) := gf
              rw [HM.out.1, HM.out.2.1, show ((m2 + n - l2 : Nat) : Int) = (n : Int) - ((l2 : Int) - (m2 : Int)) by have := HM.out; omega]
              clear gf
              go_wp2_with fail
              refine (last_yes b v n L2 (lead L2) wf (H6.out.1.win.grown GF.out)).mono ?_
              rintro e wg ⟨rfl, rfl⟩
              rw [HM.out.2.1]
              go_wp2_with fail
              refine (mark_yes b v n L2 (lead L2) wg (H6.out.1.win.grown GF.out)).mono ?_
              rintro e wh ⟨rfl, rfl⟩
              rw [HM.out.1]
              go_wp2_with fail
              refine (mark_yes b v n L2 (lead L2) wh (H6.out.1.win.grown GF.out)).mono ?_
              rintro e wi ⟨rfl, rfl⟩
              rw [HM.out.1]
              clear e1 e2 e3 e4 f1 f2 f3
              go_wp2_with fail
              go_roundw
              case rel => exact ⟨i + 1, m2, by go_num, rfl, by have := HP.out; omega, by have := HP.out; omega, Q2, L2, H6.out.1.win.grown GF.out, H6.out.1.len, HM.out.1, grown_trans H6.out.1.gr GF.out, H6.out.1.new⟩
              case measure => have := HP.out; simp [intOf]; omega
            · have HGE : Hid (ge = 5) := hge
              rw [hge]
              clear hge
              go_wp2_with fail
              refine (num7 5 w6).mono ?_
              rintro e w7 ⟨rfl, rfl⟩
              go_wp2_with fail
              refine (num7 5 w7).mono ?_
              rintro e w8 ⟨rfl, rfl⟩
              go_wp2_with fail
              refine (mark_yes b v n L2 (lead L2) w8 H6.out.1.win).mono ?_
              rintro e w9 ⟨rfl, rfl⟩
              rw [HM.out.1]
              go_wp2_with fail
              refine (mark_yes b v n L2 (lead L2) w9 H6.out.1.win).mono ?_
              rintro e wa ⟨rfl, rfl⟩
              rw [HM.out.1]
              go_wp2_with fail
              refine (last_yes b v n L2 (lead L2) wa H6.out.1.win).mono ?_
              rintro e wb ⟨rfl, rfl⟩
              rw [HM.out.2.1]
              go_wp2_with fail
              refine (last_yes b v n L2 (lead L2) wb H6.out.1.win).mono ?_
              rintro e wd ⟨rfl, rfl⟩
              rw [HM.out.2.1]
              go_wp2_with fail
              refine (mark_yes b v n L2 (lead L2) wd H6.out.1.win).mono ?_
              rintro e we ⟨rfl, rfl⟩
              rw [HM.out.1]
              go_wp2_with fail
              refine (room_yes b v n L2 (lead L2) we H6.out.1.win (by have := HM.out; omega)).mono ?_
              rintro e wf ⟨rfl, gf⟩
              have GF : Hid (we.grownBy wf none) := gf
              rw [HM.out.1, HM.out.2.1, show ((m2 + n - l2 : Nat) : Int) = (n : Int) - ((l2 : Int) - (m2 : Int)) by have := HM.out; omega]
              clear gf
              go_wp2_with fail
              refine (last_yes b v n L2 (lead L2) wf (H6.out.1.win.grown GF.out)).mono ?_
              rintro e wg ⟨rfl, rfl⟩
              rw [HM.out.2.1]
              go_wp2_with fail
              refine (mark_yes b v n L2 (lead L2) wg (H6.out.1.win.grown GF.out)).mono ?_
              rintro e wh ⟨rfl, rfl⟩
              rw [HM.out.1]
              go_wp2_with fail
              refine (mark_yes b v n L2 (lead L2) wh (H6.out.1.win.grown GF.out)).mono ?_
              rintro e wi ⟨rfl, rfl⟩
              rw [HM.out.1]
              clear e1 e2 e3 e4 f1 f2 f3
              go_wp2_with fail
              go_roundw
              case rel => exact ⟨i + 1, m2, by go_num, rfl, by have := HP.out; omega, by have := HP.out; omega, Q2, L2, H6.out.1.win.grown GF.out, H6.out.1.len, HM.out.1, grown_trans H6.out.1.gr GF.out, H6.out.1.new⟩
              case measure => have := HP.out; simp [intOf]; omega
        · have H5 : Hid (CmP w w5 b v n (L ++ [some (i : Int)]) _ (i + 1) mk ∧ (L ++ [some (i : Int)]).length = ln + 1) := ⟨HC.out.1.to (by rw [lead_push]; exact hw) hf (by have := HC.out.1.len; simp; omega) (by rw [lead_push]; exact HC.out.1.mark), by simp [HC.out.2.1]⟩
          obtain ⟨L1, hL1⟩ : ∃ L1, (L ++ [some (i : Int)]) = L1 := ⟨_, rfl⟩
          rw [hL1] at H5
          have H5 : Hid (∃ Q1 l1, CmP w w5 b v n L1 Q1 (i + 1) mk ∧ L1.length = l1) := ⟨_, _, H5.out⟩
          have HLL : Hid (True) := trivial
          obtain ⟨Q1, l1, H5⟩ : ∃ Q1 l1, Hid (CmP w w5 b v n L1 Q1 (i + 1) mk ∧ L1.length = l1) := H5.out
          clear hw hf hL1
          rw [HC.out.2.1]
          have s1 : (((ln : Int) + 1) != ((ln : Int) + 1)) = false := by simp
          have d0 : IntKind.i64.wrap ((ln : Int) + 1) = (ln : Int) + 1 := by have := HC.out; have := HP.out; have := HC.out.1.len; rw [IntKind.wrap_i64]; omega
          go_wp2_with fail
          refine (num7 0 w5).mono ?_
          rintro e wa ⟨rfl, rfl⟩
          go_wp2_with fail
          refine (num7 0 wa).mono ?_
          rintro e wd ⟨rfl, rfl⟩
          go_wp2_with fail
          refine (mark_yes b v n L1 (lead L1) wd H5.out.1.win).mono ?_
          rintro e wg ⟨rfl, rfl⟩
          rw [H5.out.1.mark]
          have HB : Hid (mk ≤ 200 ∧ n ≤ 64 ∧ 1 ≤ n ∧ l1 ≤ 200 ∧ mk ≤ l1) := ⟨by have := H5.out.1.win.top; have := H5.out.1.mark; have := H5.out.1.len; have := HP.out; omega, H5.out.1.win.size.2, H5.out.1.win.size.1, by have := H5.out.1.len; have := H5.out.2; have := HP.out; omega, by have := H5.out.1.win.top; have := H5.out.1.mark; have := H5.out.2; omega⟩
          have d1 : IntKind.i64.wrap ((mk : Int) + 1) = (mk : Int) + 1 := by have := HB.out; rw [IntKind.wrap_i64]; omega
          have cu := H5.out.1.gr.cell HP.out.1 (by simp)
          try clear s1
          try clear d0
          go_upto_if 79 with fail
          clear d1
          go_cut [12] (fun pk wx => ∃ kz : Int, pk = .int .i64 kz ∧ wx = wg)
          case first =>
            by_cases ho : 0 < o
            · have b3 : ((n : Int) == 0) = false := by have := HB.out; simp; omega
              have b4 : ((n : Int) = 0) = False := eq_false (by have := HB.out; omega)
              have b5 : (n = 0) = False := eq_false (by have := HB.out; omega)
              have d2 : IntKind.i64.wrap ((mk : Int) + 1 + o.tmod (n : Int)) = (mk : Int) + 1 + o.tmod (n : Int) := by
                have := HB.out
                have h1 := Int.lt_tmod_of_pos o (show (0 : Int) < (n : Int) by omega)
                have h2 := Int.tmod_lt_of_pos o (show (0 : Int) < (n : Int) by omega)
                rw [IntKind.wrap_i64]
                omega
              go_wp2_with fail
              go_meet
              case rel => exact ⟨_, rfl, rfl⟩
            · go_wp2_with fail
              go_meet
              case rel => exact ⟨_, rfl, rfl⟩
          case rest =>
            obtain ⟨kz, rfl, rfl⟩ := hcut
            clear cu
            go_wp2_with fail
            refine (back_yes b v n L1 kz wc (by have := H5.out.1.win; exact this) (by have := HB.out; have := H5.out.2; omega)).mono ?_
            rintro e w6 ⟨rfl, hw6, hf6⟩
            obtain ⟨L2, hL2⟩ : ∃ L2, putL L1 kz none = L2 := ⟨_, rfl⟩
            have hmono := lead_back L1 kz
            have hlen2 := putL_len L1 kz none
            rw [hL2] at hw6 hmono hlen2
            obtain ⟨Q2, hQ2⟩ : ∃ Q2, Q1 = Q2 := ⟨_, rfl⟩
            rw [hQ2] at hw6
            obtain ⟨m2, hm2⟩ : ∃ m2, lead L2 = m2 := ⟨_, rfl⟩
            obtain ⟨l2, hl2⟩ : ∃ l2, L2.length = l2 := ⟨_, rfl⟩
            have H6 : Hid (CmP w w6 b v n L2 Q2 (i + 1) m2 ∧ True) := ⟨(H5.out.1.to hw6 hf6 (by have := H5.out.1.len; omega) hm2), trivial⟩
            have HM : Hid (lead L2 = m2 ∧ L2.length = l2 ∧ mk ≤ m2 ∧ m2 ≤ l2 ∧ l2 ≤ m2 + n ∧ l2 ≤ 200 ∧ n ≤ 64) := ⟨hm2, hl2, by have := H5.out.1.mark; omega, by have := lead_le L2; omega, by have := hw6.room; omega, by have := HB.out; have := H5.out.2; omega, HB.out.2.1⟩
            have e1 : ¬ ((m2 : Int) < (mk : Int)) := by have := HM.out; omega
            have e2 : ¬ ((l2 : Int) < (m2 : Int)) := by have := HM.out; omega
            have e3 : ¬ ((n : Int) < (l2 : Int) - (m2 : Int)) := by have := HM.out; omega
            have e4 : ((n : Int) - ((l2 : Int) - (m2 : Int)) != (n : Int) - ((l2 : Int) - (m2 : Int))) = false := by simp
            have f1 : IntKind.i64.wrap ((l2 : Int) - (m2 : Int)) = (l2 : Int) - (m2 : Int) := by have := HM.out; rw [IntKind.wrap_i64]; omega
            have f2 : IntKind.i64.wrap ((n : Int) - ((l2 : Int) - (m2 : Int))) = (n : Int) - ((l2 : Int) - (m2 : Int)) := by have := HM.out; rw [IntKind.wrap_i64]; omega
            have f3 : IntKind.i64.wrap ((i : Int) + 1) = (i : Int) + 1 := by have := HP.out; rw [IntKind.wrap_i64]; omega
            have hg05 : (getD L1 kz).2 = 0 ∨ (getD L1 kz).2 = 5 := by
              unfold getD
              cases outD L1 kz
              · exact .inr rfl
              · exact .inl rfl
            obtain ⟨gs, hgs⟩ : ∃ y, (getD L1 kz).1 = y := ⟨_, rfl⟩
            obtain ⟨ge, hge2⟩ : ∃ y, (getD L1 kz).2 = y := ⟨_, rfl⟩
            rw [hge2] at hg05
            rw [hgs, hge2]
            clear hgs hge2 hw6 hf6 hmono hlen2 hL2 hQ2 hm2 hl2
            rcases hg05 with hge | hge
            · have HGE : Hid (ge = 0) := hge
              rw [hge]
              clear hge
              go_wp2_with fail
              refine (num7 0 w6).mono ?_
              rintro e w7 ⟨rfl, rfl⟩
              go_wp2_with fail
              obtain ⟨w8, hw8⟩ : ∃ y : World, y = w7 := ⟨_, rfl⟩
              subst hw8
              refine (mark_yes b v n L2 (lead L2) w8 H6.out.1.win).mono ?_
              rintro e w9 ⟨rfl, rfl⟩
              rw [HM.out.1]
              go_wp2_with fail
              refine (mark_yes b v n L2 (lead L2) w9 H6.out.1.win).mono ?_
              rintro e wa ⟨rfl, rfl⟩
              rw [HM.out.1]
              go_wp2_with fail
              refine (last_yes b v n L2 (lead L2) wa H6.out.1.win).mono ?_
              rintro e wb ⟨rfl, rfl⟩
              rw [HM.out.2.1]
              go_wp2_with fail
              refine (last_yes b v n L2 (lead L2) wb H6.out.1.win).mono ?_
              rintro e wd ⟨rfl, rfl⟩
              rw [HM.out.2.1]
              go_wp2_with fail
              refine (mark_yes b v n L2 (lead L2) wd H6.out.1.win).mono ?_
              rintro e we ⟨rfl, rfl⟩
              rw [HM.out.1]
              go_wp2_with fail
              refine (room_yes b v n L2 (lead L2) we H6.out.1.win (by have := HM.out; omega)).mono ?_
              rintro e wf ⟨rfl, gf⟩
              have GF : Hid (we.grownBy wf none) := gf
              rw [HM.out.1, HM.out.2.1, show ((m2 + n - l2 : Nat) : Int) = (n : Int) - ((l2 : Int) - (m2 : Int)) by have := HM.out; omega]
              clear gf
              go_wp2_with fail
              refine (last_yes b v n L2 (lead L2) wf (H6.out.1.win.grown GF.out)).mono ?_
              rintro e wg ⟨rfl, rfl⟩
              rw [HM.out.2.1]
              go_wp2_with fail
              refine (mark_yes b v n L2 (lead L2) wg (H6.out.1.win.grown GF.out)).mono ?_
              rintro e wh ⟨rfl, rfl⟩
              rw [HM.out.1]
              go_wp2_with fail
              refine (mark_yes b v n L2 (lead L2) wh (H6.out.1.win.grown GF.out)).mono ?_
              rintro e wi ⟨rfl, rfl⟩
              rw [HM.out.1]
              clear e1 e2 e3 e4 f1 f2 f3
              go_wp2_with fail
              go_roundw
              case rel => exact ⟨i + 1, m2, by go_num, rfl, by have := HP.out; omega, by have := HP.out; omega, Q2, L2, H6.out.1.win.grown GF.out, H6.out.1.len, HM.out.1, grown_trans H6.out.1.gr GF.out, H6.out.1.new⟩
              case measure => have := HP.out; simp [intOf]; omega
            · have HGE : Hid (ge = 5) := hge
              rw [hge]
              clear hge
              go_wp2_with fail
              refine (num7 5 w6).mono ?_
              rintro e w7 ⟨rfl, rfl⟩
              go_wp2_with fail
              refine (num7 5 w7).mono ?_
              rintro e w8 ⟨rfl, rfl⟩
              go_wp2_with fail
              refine (mark_yes b v n L2 (lead L2) w8 H6.out.1.win).mono ?_
              rintro e w9 ⟨rfl, rfl⟩
              rw [HM.out.1]
              go_wp2_with fail
              refine (mark_yes b v n L2 (lead L2) w9 H6.out.1.win).mono ?_
              rintro e wa ⟨rfl, rfl⟩
              rw [HM.out.1]
              go_wp2_with fail
              refine (last_yes b v n L2 (lead L2) wa H6.out.1.win).mono ?_
              rintro e wb ⟨rfl, rfl⟩
              rw [HM.out.2.1]
              go_wp2_with fail
              refine (last_yes b v n L2 (lead L2) wb H6.out.1.win).mono ?_
              rintro e wd ⟨rfl, rfl⟩
              rw [HM.out.2.1]
              go_wp2_with fail
              refine (mark_yes b v n L2 (lead L2) wd H6.out.1.win).mono ?_
              rintro e we ⟨rfl, rfl⟩
              rw [HM.out.1]
              go_wp2_with fail
              refine (room_yes b v n L2 (lead L2) we H6.out.1.win (by have := HM.out; omega)).mono ?_
              rintro e wf ⟨rfl, gf⟩
              have GF : Hid (we.grownBy wf none) := gf
              rw [HM.out.1, HM.out.2.1, show ((m2 + n - l2 : Nat) : Int) = (n : Int) - ((l2 : Int) - (m2 : Int)) by have := HM.out; omega]
              clear gf
              go_wp2_with fail
              refine (last_yes b v n L2 (lead L2) wf (H6.out.1.win.grown GF.out)).mono ?_
              rintro e wg ⟨rfl, rfl⟩
              rw [HM.out.2.1]
              go_wp2_with fail
              refine (mark_yes b v n L2 (lead L2) wg (H6.out.1.win.grown GF.out)).mono ?_
              rintro e wh ⟨rfl, rfl⟩
              rw [HM.out.1]
              go_wp2_with fail
              refine (mark_yes b v n L2 (lead L2) wh (H6.out.1.win.grown GF.out)).mono ?_
              rintro e wi ⟨rfl, rfl⟩
              rw [HM.out.1]
              clear e1 e2 e3 e4 f1 f2 f3
              go_wp2_with fail
              go_roundw
              case rel => exact ⟨i + 1, m2, by go_num, rfl, by have := HP.out; omega, by have := HP.out; omega, Q2, L2, H6.out.1.win.grown GF.out, H6.out.1.len, HM.out.1, grown_trans H6.out.1.gr GF.out, H6.out.1.new⟩
              case measure => have := HP.out; simp [intOf]; omega
theorem comes4 (z : Int) (u : Value) (os : List Int) (w : World) (hu : Rd w u (os.map (Value.int .i64))) : Calls Try.prog 4 #[.int .i64 z, u] w fun e w' => e = .returned (.bool true) ∧ w.grownBy w' none := by
  obtain ⟨ao, cap, rfl⟩ := hu.shape
  rw [List.length_map] at hu ⊢
  by_cases hz : z < 1 ∨ 64 < z
  · exact comes4_no z ao os.length cap w hz
  · obtain ⟨n, rfl⟩ : ∃ n : Nat, z = (n : Int) := ⟨z.toNat, by omega⟩
    exact comes4_yes n (by omega) (by omega) ao os.length cap os w hu rfl
end Go.Proofs.Ytignmnmhigncjaa
