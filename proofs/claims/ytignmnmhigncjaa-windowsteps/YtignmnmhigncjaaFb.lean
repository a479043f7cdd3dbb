/-
  WindowSteps: the walk of its loop.
-/
import Derived.Test.YtignmnmhigncjaaFa
namespace Go.Proofs.Ytignmnmhigncjaa
open Go.RowKit Disk S

set_option maxRecDepth 100000 in
set_option maxHeartbeats 8000000 in
theorem steps3_no (z : Int) (ao : Option Addr) (sn cap : Nat) (w : World) (hz : z < 1 ∨ 64 < z) : Calls Try.prog 3 #[.int .i64 z, .slice ao sn cap] w fun e w' => e = .returned (.bool true) ∧ w.grownBy w' none := by
  rcases hz with hz | hz
  rotate_left
  have hz1 : ¬ z < 1 := by omega
  rotate_left
  all_goals
    go_enter Try.func3, Try.ntmps3
    go_wp2_with fail
    refine (new_no z w (by omega)).mono ?_
    rintro e w1 ⟨rfl, rfl⟩
    go_wp2_with fail
    refine (num7 2 w1).mono ?_
    rintro e w2 ⟨rfl, rfl⟩
    go_wp2_with fail
    refine (known8 w2).mono ?_
    rintro e w3 ⟨rfl, g3⟩
    have G3 : Hid (w2.grownBy w3 none) := g3
    clear g3
    go_wp2_with fail
    go_ret
    exact ⟨rfl, G3.out⟩

set_option maxRecDepth 100000 in
set_option maxHeartbeats 16000000 in
theorem steps3_yes (n : Nat) (h1 : 1 ≤ n) (h2 : n ≤ 64) (ao : Option Addr) (sn cap : Nat) (ss : List PSt) (w : World) (hu : Stps w (.slice ao sn cap) ss) (hsn : ss.length = sn) : Calls Try.prog 3 #[.int .i64 (n : Nat), .slice ao sn cap] w fun e w' => e = .returned (.bool true) ∧ w.grownBy w' none := by
  have HU : Hid (Stps w (.slice ao sn cap) ss ∧ ss.length = sn ∧ n ≤ 64) := ⟨hu, hsn, h2⟩
  have hsb : sn ≤ 9223372036854775807 := by obtain ⟨_, _, _, h, _⟩ := hu; omega
  have i1 : ¬ ((n : Int) < 1) := by omega
  have i2 : ¬ ((64 : Int) < (n : Int)) := by omega
  clear hu hsn
  go_enter Try.func3, Try.ntmps3
  go_wp2_with fail
  refine (new_win n w h1 h2).mono ?_
  rintro e w1 ⟨b, v, rfl, hw, hg, hn⟩
  have HW : Hid (Win (fun _ => False) w1 b v n [] 0 ∧ w.grownBy w1 none ∧ ∀ i, FN b v i → w.heap.size ≤ i) := ⟨hw, hg, hn⟩
  clear hw hg hn h1 h2
  go_wp2_with fail
  refine (num7 0 w1).mono ?_
  rintro e w2 ⟨rfl, rfl⟩
  obtain ⟨w3, hw3, H3⟩ := al1 w2 #[.int .i64 (n : Nat), .slice none 0 0, .slice none 0 0] 33
  obtain ⟨rb, hrb⟩ : ∃ x, w2.heap.size = x := ⟨_, rfl⟩
  rw [hrb] at H3
  have HW3 : Hid (w2.alloc (.cells #[.int .i64 (n : Nat), .slice none 0 0, .slice none 0 0] 33) = w3 ∧ w2.heap.size = rb) := ⟨hw3, hrb⟩
  clear hw3 hrb
  go_wp2_with fail
  rw [HW3.out.1, HW3.out.2]
  have HST : Hid (StP w n 0 (.pointer (some ⟨b, 0, none⟩)) (.pointer (some ⟨rb, 0, none⟩)) (.pointer none) (.pointer none) w3) := stP_begin HW.out.1 HW.out.2.1 HW.out.2.2 H3.out.2.1 H3.out.1 (Nat.le_of_eq HW3.out.2)
  clear i1 i2 HW3 H3 HW
  go_loopw [5, 7, 8, 9, 10] (fun pw pr po pq pi wr => ∃ i : Nat, pi = .int .i64 (i : Nat) ∧ i ≤ sn ∧ i ≤ 200 ∧ Hid (StP w n i pw pr po pq wr)) (fun _ _ _ _ p _ => 200 - (intOf p).toNat)
  case atStart => exact ⟨0, rfl, Nat.zero_le _, Nat.zero_le _, HST.out⟩
  case round =>
    obtain ⟨i, rfl, hi, hi2, HS⟩ := hrel
    obtain ⟨b1, v1, rb1, tv1, bv1, L1, Q1, rfl, rfl, hc1, ho1⟩ := HS.out
    have HC1 : Hid (CurP w wr n b1 v1 rb1 tv1 bv1 L1 Q1 i) := hc1
    have HO1 : Hid (OldP wr n _ _ (FB b1 v1 rb1 tv1 bv1)) := ho1
    clear hc1 ho1
    obtain ⟨gb, hgb⟩ : ∃ gb : Bool, decide (i < sn ∧ i < 200) = gb := ⟨_, rfl⟩
    have HGB : Hid (decide (i < sn ∧ i < 200) = gb) := hgb
    clear hgb
    go_upto_region 10 with fail
    go_cut [49] (fun x wc => x = .bool gb ∧ wc = wr)
    case first =>
      by_cases hlt : i < sn
      · have j1 : (i : Int) < (sn : Int) := by omega
        by_cases hl2 : i < 200
        · have j2 : (i : Int) < 200 := by omega
          have hg : gb = true := by rw [← HGB.out]; simp [hlt, hl2]
          go_wp2_with fail
          go_meet
          case rel => exact ⟨by rw [hg], rfl⟩
        · have j2 : ¬ (i : Int) < 200 := by omega
          have hg : gb = false := by rw [← HGB.out]; simp [hl2]
          go_wp2_with fail
          go_meet
          case rel => exact ⟨by rw [hg], rfl⟩
      · have j1 : ¬ (i : Int) < (sn : Int) := by omega
        have hg : gb = false := by rw [← HGB.out]; simp [hlt]
        go_wp2_with fail
        go_meet
        case rel => exact ⟨by rw [hg], rfl⟩
    case rest =>
      obtain ⟨rfl, rfl⟩ := hcut
      cases gb
      · obtain ⟨T1, Ks1, hr1, hz1⟩ := HC1.out.two.ref
        have HR1 : Hid (Rw wc rb1 tv1 bv1 n T1 Ks1 ∧ zipL T1 Ks1 = L1 ∧ Goes (some ⟨b1, 0, none⟩) L1 wc) := ⟨hr1, hz1, HC1.out.two.win.goes (by have := HC1.out.len; omega)⟩
        clear hr1 hz1
        rcases HO1.out with ⟨rfl, rfl⟩ | ⟨ob, ov, orb, otv, obv, oL, oQ, rfl, rfl, ho, hol, _⟩
        · go_upto_region 19 with fail
          refine wp_region_noPanic ?_
          refine wp_region_hold 1000 (fun y => wc.grownBy y none) (by kernel_rfl) ?_
          have G0 : Hid (wc.grownBy wc.drew none) := grown_drew _ _
          generalize wc.drew = wd at G0 ⊢
          have J : Idx [0, 1] := trivial
          iterate 2 (refine tk J (G0.out) rfl rfl (fun wk hk => by skip; go_simp; try rfl) ?_; replace J := J.tl; try simp only [Act.put, List.setIfInBounds_toArray, List.set_cons_zero, List.set_cons_succ])
          clear J
          refine wpHold_one (i := 2) rfl (by kernel_rfl) (by rfl) (fun K hK => ?_)
          go_wp2_with fail
          refine (goes18 _ L1 rb1 tv1 bv1 n T1 Ks1 0 wd ((HC1.out.two.win.grown G0.out).goes (by have := HC1.out.len; omega)) (HR1.out.1.grown G0.out) HR1.out.2.1).mono ?_
          rintro e w4 ⟨rfl, g4⟩
          have G4 : Hid (wc.grownBy w4 none) := grown_trans G0.out g4
          clear g4
          go_wp2_with fail
          refine hK.out _ _ (fun _ => G4.out) ?_
          clear hK K
          try simp only [Act.put, List.setIfInBounds_toArray, List.set_cons_zero, List.set_cons_succ]
          have J : Idx [3, 4, 5, 6] := trivial
          iterate 4 (refine tk J (G4.out) rfl rfl (fun wk hk => by skip; go_simp; try rfl) ?_; replace J := J.tl; try simp only [Act.put, List.setIfInBounds_toArray, List.set_cons_zero, List.set_cons_succ])
          clear J
          have J : Idx [7, 8, 9, 10, 11, 12, 13, 14, 15, 16, 17, 18, 19] := trivial
          iterate 13 (refine sk J (G4.out) rfl rfl ?_; replace J := J.tl; try simp only [Act.put, List.setIfInBounds_toArray, List.set_cons_zero, List.set_cons_succ])
          clear J
          have J : Idx [20, 21, 22] := trivial
          iterate 3 (refine tk J (G4.out) rfl rfl (fun wk hk => by skip; go_simp; try rfl) ?_; replace J := J.tl; try simp only [Act.put, List.setIfInBounds_toArray, List.set_cons_zero, List.set_cons_succ])
          clear J
          refine wpHold_one (i := 23) rfl (by kernel_rfl) (by rfl) (fun K hK => ?_)
          go_wp2_with fail
          refine (known8 w4).mono ?_
          rintro e w5 ⟨rfl, g5⟩
          have G5 : Hid (wc.grownBy w5 none) := grown_trans G4.out g5
          clear g5
          go_wp2_with fail
          refine hK.out _ _ (fun _ => G5.out) ?_
          clear hK K
          try simp only [Act.put, List.setIfInBounds_toArray, List.set_cons_zero, List.set_cons_succ]
          have J : Idx [24, 25] := trivial
          iterate 2 (refine tk J (G5.out) rfl rfl (fun wk hk => by skip; go_simp; try rfl) ?_; replace J := J.tl; try simp only [Act.put, List.setIfInBounds_toArray, List.set_cons_zero, List.set_cons_succ])
          clear J
          refine wpHold_done (by kernel_rfl) ?_
          refine (‹∀ (a : Act) (w : World), Code.wp Try.prog _ _ a w → _› _ _ ?_)
          go_wp2_with fail
          go_ret
          exact ⟨rfl, grown_trans HC1.out.gr G5.out⟩
        · obtain ⟨oT, oK, hor, hoz⟩ := ho.ref
          obtain ⟨ta, tc, bo, bc, rfl, rfl⟩ := hor.sl
          obtain ⟨ln, hln⟩ : ∃ ln, oT.length = ln := ⟨_, rfl⟩
          rw [hln] at hor ho
          have HO2 : Hid (Win oQ wc ob ov n oL (lead oL) ∧ Rw wc orb (.slice ta ln tc) (.slice bo ln bc) n oT oK ∧ zipL oT oK = oL ∧ oL.length = ln ∧ oL.length ≤ 300) := ⟨ho.win, hor, hoz, by rw [← hoz, zipL_len hor.same, hln], hol⟩
          have q1 := hor.blk.cell 1
          simp at q1
          have s1 : ((ln : Int) == (ln : Int)) = true := by simp
          clear ho hol hor hoz hln
          go_upto_region 19 with fail
          refine wp_region_noPanic ?_
          refine wp_region_hold 1000 (fun y => wc.grownBy y none) (by kernel_rfl) ?_
          have G0 : Hid (wc.grownBy wc.drew none) := grown_drew _ _
          generalize wc.drew = wd at G0 ⊢
          have J : Idx [0, 1] := trivial
          iterate 2 (refine tk J (G0.out) rfl rfl (fun wk hk => by have k1 := hk.cell q1 (by simp); go_simp; try rfl) ?_; replace J := J.tl; try simp only [Act.put, List.setIfInBounds_toArray, List.set_cons_zero, List.set_cons_succ])
          clear J
          refine wpHold_one (i := 2) rfl (by kernel_rfl) (by rfl) (fun K hK => ?_)
          go_wp2_with fail
          refine (goes18 _ L1 rb1 tv1 bv1 n T1 Ks1 0 wd ((HC1.out.two.win.grown G0.out).goes (by have := HC1.out.len; omega)) (HR1.out.1.grown G0.out) HR1.out.2.1).mono ?_
          rintro e w4 ⟨rfl, g4⟩
          have G4 : Hid (wc.grownBy w4 none) := grown_trans G0.out g4
          clear g4
          go_wp2_with fail
          refine hK.out _ _ (fun _ => G4.out) ?_
          clear hK K
          try simp only [Act.put, List.setIfInBounds_toArray, List.set_cons_zero, List.set_cons_succ]
          have J : Idx [3, 4, 5, 6, 7, 8] := trivial
          iterate 6 (refine tk J (G4.out) rfl rfl (fun wk hk => by have k1 := hk.cell q1 (by simp); go_simp; try rfl) ?_; replace J := J.tl; try simp only [Act.put, List.setIfInBounds_toArray, List.set_cons_zero, List.set_cons_succ])
          clear J
          refine wpHold_one (i := 9) rfl (by kernel_rfl) (by rfl) (fun K hK => ?_)
          go_wp2_with fail
          refine (goes18 _ oL orb _ _ n oT oK 0 w4 ((HO2.out.1.grown G4.out).goes (by have := HO2.out; omega)) (HO2.out.2.1.grown G4.out) HO2.out.2.2.1).mono ?_
          rintro e w6 ⟨rfl, g6⟩
          have G6 : Hid (wc.grownBy w6 none) := grown_trans G4.out g6
          clear g6
          go_wp2_with fail
          refine hK.out _ _ (fun _ => G6.out) ?_
          clear hK K
          try simp only [Act.put, List.setIfInBounds_toArray, List.set_cons_zero, List.set_cons_succ]
          have J : Idx [10, 11, 13, 14, 15, 16, 17] := trivial
          iterate 7 (refine tk J (G6.out) rfl rfl (fun wk hk => by have k1 := hk.cell q1 (by simp); go_simp; try rfl) ?_; replace J := J.tl; try simp only [Act.put, List.setIfInBounds_toArray, List.set_cons_zero, List.set_cons_succ])
          clear J
          refine wpHold_one (i := 12) rfl (by kernel_rfl) (by rfl) (fun K hK => ?_)
          go_wp2_with fail
          refine (last_yes ob ov n oL (lead oL) w6 (HO2.out.1.grown G6.out)).mono ?_
          rintro e w7 ⟨rfl, rfl⟩
          rw [HO2.out.2.2.2.1]
          go_wp2_with fail
          refine hK.out _ _ (fun _ => G6.out) ?_
          clear hK K
          try simp only [Act.put, List.setIfInBounds_toArray, List.set_cons_zero, List.set_cons_succ]
          have J : Idx [18, 19, 20, 21, 22] := trivial
          iterate 5 (refine tk J (G6.out) rfl rfl (fun wk hk => by have k1 := hk.cell q1 (by simp); go_simp; try rfl) ?_; replace J := J.tl; try simp only [Act.put, List.setIfInBounds_toArray, List.set_cons_zero, List.set_cons_succ])
          clear J
          refine wpHold_one (i := 23) rfl (by kernel_rfl) (by rfl) (fun K hK => ?_)
          go_wp2_with fail
          refine (known8 w7).mono ?_
          rintro e w5 ⟨rfl, g5⟩
          have G5 : Hid (wc.grownBy w5 none) := grown_trans G6.out g5
          clear g5
          go_wp2_with fail
          refine hK.out _ _ (fun _ => G5.out) ?_
          clear hK K
          try simp only [Act.put, List.setIfInBounds_toArray, List.set_cons_zero, List.set_cons_succ]
          have J : Idx [24, 25] := trivial
          iterate 2 (refine tk J (G5.out) rfl rfl (fun wk hk => by have k1 := hk.cell q1 (by simp); go_simp; try rfl) ?_; replace J := J.tl; try simp only [Act.put, List.setIfInBounds_toArray, List.set_cons_zero, List.set_cons_succ])
          clear J
          refine wpHold_done (by kernel_rfl) ?_
          refine (‹∀ (a : Act) (w : World), Code.wp Try.prog _ _ a w → _› _ _ ?_)
          go_wp2_with fail
          go_ret
          exact ⟨rfl, grown_trans HC1.out.gr G5.out⟩
      · have hij : i < sn ∧ i < 200 := of_decide_eq_true HGB.out
        obtain ⟨pb, off, e1, q0, q1, q2⟩ := stps_at (stps_grown HU.out.1 HC1.out.gr) i (by have := HU.out; omega)
        subst e1
        obtain ⟨st, hst⟩ : ∃ s, ss[i]'(by have := HU.out; omega) = s := ⟨_, rfl⟩
        rw [hst] at q0 q1 q2
        obtain ⟨kd, zn, xt⟩ := st
        dsimp only at q0 q1 q2
        have HP : Hid (wc.cell? ⟨pb, off + i * 3, none⟩ = some (.int .i64 kd) ∧ wc.cell? ⟨pb, off + i * 3 + 1, none⟩ = some (.int .i64 zn) ∧ wc.cell? ⟨pb, off + i * 3 + 2, none⟩ = some (.string xt) ∧ i < sn ∧ i < 200 ∧ w.cell? ⟨pb, off + i * 3, none⟩ = some (.int .i64 kd) ∧ w.cell? ⟨pb, off + i * 3 + 1, none⟩ = some (.int .i64 zn) ∧ w.cell? ⟨pb, off + i * 3 + 2, none⟩ = some (.string xt)) := by
          obtain ⟨pb', off', e2, p0, p1, p2⟩ := stps_at HU.out.1 i (by have := HU.out; omega)
          simp at e2
          obtain ⟨rfl, rfl⟩ := e2
          rw [hst] at p0 p1 p2
          exact ⟨q0, q1, q2, hij.1, hij.2, p0, p1, p2⟩
        clear q1 q2 hst hij
        have j1 : (i : Int) < (sn : Int) := by have := HP.out; omega
        have j2 : (0 : Int) ≤ (i : Int) := by omega
        go_upto_if 57 with fail
        go_cut [5, 7, 8, 9] (fun pw pr po pq wx => Hid (StP w n i pw pr po pq wx))
        case first =>
          by_cases h6 : kd = 6
          · have k6 : (kd == 6) = true := by simp [h6]
            have HH6 : Hid (kd = 6) := h6
            clear h6
            go_wp2_with fail
            refine (copy_yes b1 v1 n L1 (lead L1) wc HC1.out.two.win).mono ?_
            rintro e w4 ⟨b2, v2, rfl, hw4, g4, n4⟩
            have H4 : Hid (Win Q1 w4 b2 v2 n L1 (lead L1) ∧ wc.grownBy w4 none ∧ ∀ j, FN b2 v2 j → wc.heap.size ≤ j) := ⟨hw4, g4, n4⟩
            obtain ⟨T, Ks, hr, hz⟩ := HC1.out.two.ref
            have HR : Hid (Rw wc rb1 tv1 bv1 n T Ks ∧ zipL T Ks = L1) := ⟨hr, hz⟩
            clear hw4 g4 n4 hr hz q0
            go_wp2_with fail
            refine (rcopy10 rb1 tv1 bv1 n T Ks w4 (HR.out.1.grown H4.out.2.1)).mono ?_
            rintro e w5 ⟨rb2, tv2, bv2, T2, K2, rfl, hr5, hz5, g5, n5⟩
            have H5 : Hid (StP w n i (.pointer (some ⟨b2, 0, none⟩)) (.pointer (some ⟨rb2, 0, none⟩)) (.pointer (some ⟨b1, 0, none⟩)) (.pointer (some ⟨rb1, 0, none⟩)) w5) := stP_copy HC1.out (by have := HP.out; omega) H4.out.1 H4.out.2.1 H4.out.2.2 hr5 (hz5.trans HR.out.2) g5 n5
            clear hr5 hz5 g5 n5
            go_wp2_with fail
            go_meet
            case rel => exact H5.out
          · have k6 : (kd == 6) = false := by simp [h6]
            have l6 : (kd = 6) = False := eq_false h6
            clear h6
            go_wp2_with fail
            go_meet
            case rel => exact HS.out
        case rest =>
          obtain ⟨b3, v3, rb3, tv3, bv3, L3, Q3, rfl, rfl, hc3, ho3⟩ := hcut.out
          have HC3 : Hid (CurP w wc n b3 v3 rb3 tv3 bv3 L3 Q3 i) := hc3
          have HO3 : Hid (OldP wc n _ _ (FB b3 v3 rb3 tv3 bv3)) := ho3
          clear hc3 ho3 q0
          go_upto_region 17 with fail
          refine wp_region_noPanic ?_
          refine wp_region_hold 1000 (fun y => w.grownBy y none) (by kernel_rfl) ?_
          have G0 : Hid (w.grownBy wc.drew none ∧ wc.grownBy wc.drew none) := ⟨grown_trans HC3.out.gr (grown_drew _ _), grown_drew _ _⟩
          generalize wc.drew = wd at G0 ⊢
          have J : Idx [0, 1, 2, 3, 4, 5] := trivial
          iterate 6 (refine tk J (G0.out.1) rfl rfl (fun wk hk => by have k0 := hk.cell HP.out.2.2.2.2.2.1 (by simp); have k1 := hk.cell HP.out.2.2.2.2.2.2.1 (by simp); have k2 := hk.cell HP.out.2.2.2.2.2.2.2 (by simp); go_simp; try rfl) ?_; replace J := J.tl; try simp only [Act.put, List.setIfInBounds_toArray, List.set_cons_zero, List.set_cons_succ])
          clear J
          refine wpHold_one (i := 6) rfl (by kernel_rfl) (by rfl) (fun K hK => ?_)
          go_wp2_with fail
          refine (do11 Q3 b3 v3 n rb3 tv3 bv3 L3 kd zn xt wd (HC3.out.two.grown G0.out.2) (by have := HC3.out.len; have := HP.out; omega)).mono ?_
          rintro e w6 ⟨rfl, Q6, tv6, bv6, L6, hT, hl6, hf6, hfr6, hq6⟩
          obtain ⟨hC6, hO6⟩ := stP_do (HC3.out.grown G0.out.2) (HO3.out.grown G0.out.2) hT hl6 hf6 hfr6 hq6
          obtain ⟨T6, K6, hr6, hz6⟩ := hT.ref
          obtain ⟨ta, tc, bo, bc, rfl, rfl⟩ := hr6.sl
          obtain ⟨ln, hln⟩ : ∃ ln, T6.length = ln := ⟨_, rfl⟩
          obtain ⟨m, hm⟩ : ∃ m, lead L6 = m := ⟨_, rfl⟩
          obtain ⟨c, hc⟩ : ∃ c, outN L6 L6.length = c := ⟨_, rfl⟩
          rw [hln] at hr6 hC6 hO6
          have hlen : L6.length = ln := by rw [← hz6, zipL_len hr6.same, hln]
          have H6 : Hid (CurP w w6 n b3 v3 rb3 (.slice ta ln tc) (.slice bo ln bc) L6 Q6 (i + 1) ∧ OldP w6 n _ _ (FB b3 v3 rb3 (.slice ta ln tc) (.slice bo ln bc)) ∧ Rw w6 rb3 (.slice ta ln tc) (.slice bo ln bc) n T6 K6 ∧ zipL T6 K6 = L6) := ⟨hC6, hO6, hr6, hz6⟩
          have HM : Hid (lead L6 = m ∧ L6.length = ln ∧ outN L6 L6.length = c ∧ m ≤ ln ∧ ln ≤ 201 ∧ ln ≤ m + n ∧ n ≤ 64) := ⟨hm, hlen, hc, by have := lead_le L6; omega, by have := hC6.len; have := HP.out; omega, by have := hC6.two.win.room; omega, HU.out.2.2⟩
          have q1 := hr6.blk.cell 1
          simp at q1
          have s1 : ((m : Int) != (m : Int)) = false := by simp
          have s2 : ((ln : Int) != (ln : Int)) = false := by simp
          have s3 : ((c : Int) != (c : Int)) = false := by simp
          have s4 : ((n : Int) - (ln : Int) + (m : Int) != (n : Int) - (ln : Int) + (m : Int)) = false := by simp
          have d1 : IntKind.i64.wrap ((n : Int) - (ln : Int)) = (n : Int) - (ln : Int) := by have := HM.out; rw [IntKind.wrap_i64]; omega
          have d2 : IntKind.i64.wrap ((n : Int) - (ln : Int) + (m : Int)) = (n : Int) - (ln : Int) + (m : Int) := by have := HM.out; rw [IntKind.wrap_i64]; omega
          clear hC6 hO6 hr6 hz6 hT hl6 hf6 hfr6 hq6 hln hm hc hlen
          go_wp2_with fail
          refine hK.out _ _ (fun _ => H6.out.1.gr) ?_
          clear hK K
          refine wpHold_weak (H' := fun y => w6.grownBy y none) (fun y hy => grown_trans H6.out.1.gr hy) _ _ _ _ ?_
          have G6 : Hid (w6.grownBy w6 none) := grown_refl _ _
          try simp only [Act.put, List.setIfInBounds_toArray, List.set_cons_zero, List.set_cons_succ]
          have J : Idx [7, 8, 9, 11] := trivial
          iterate 4 (refine tk J (G6.out) rfl rfl (fun wk hk => by have k1 := hk.cell q1 (by simp); go_simp; try rfl) ?_; replace J := J.tl; try simp only [Act.put, List.setIfInBounds_toArray, List.set_cons_zero, List.set_cons_succ])
          clear J
          refine wpHold_one (i := 10) rfl (by kernel_rfl) (by rfl) (fun K hK => ?_)
          go_wp2_with fail
          refine (mark_yes b3 v3 n L6 (lead L6) w6 H6.out.1.two.win).mono ?_
          rintro e w7 ⟨rfl, rfl⟩
          rw [HM.out.1]
          go_wp2_with fail
          refine hK.out _ _ (fun _ => G6.out) ?_
          clear hK K
          try simp only [Act.put, List.setIfInBounds_toArray, List.set_cons_zero, List.set_cons_succ]
          refine wpHold_one (i := 12) rfl (by kernel_rfl) (by rfl) (fun K hK => ?_)
          go_wp2_with fail
          refine (rmark13 rb3 _ _ n T6 K6 w7 H6.out.2.2.1).mono ?_
          rintro e w8 ⟨rfl, rfl⟩
          rw [H6.out.2.2.2, HM.out.1]
          go_wp2_with fail
          refine hK.out _ _ (fun _ => G6.out) ?_
          clear hK K
          try simp only [Act.put, List.setIfInBounds_toArray, List.set_cons_zero, List.set_cons_succ]
          have J : Idx [13, 14, 15, 16, 18, 19, 20, 21, 22] := trivial
          iterate 9 (refine tk J (G6.out) rfl rfl (fun wk hk => by have k1 := hk.cell q1 (by simp); go_simp; try rfl) ?_; replace J := J.tl; try simp only [Act.put, List.setIfInBounds_toArray, List.set_cons_zero, List.set_cons_succ])
          clear J
          refine wpHold_one (i := 17) rfl (by kernel_rfl) (by rfl) (fun K hK => ?_)
          go_wp2_with fail
          refine (last_yes b3 v3 n L6 (lead L6) w8 H6.out.1.two.win).mono ?_
          rintro e w9 ⟨rfl, rfl⟩
          rw [HM.out.2.1]
          go_wp2_with fail
          refine hK.out _ _ (fun _ => G6.out) ?_
          clear hK K
          try simp only [Act.put, List.setIfInBounds_toArray, List.set_cons_zero, List.set_cons_succ]
          have J : Idx [23, 24, 25, 26, 28] := trivial
          iterate 5 (refine tk J (G6.out) rfl rfl (fun wk hk => by have k1 := hk.cell q1 (by simp); go_simp; try rfl) ?_; replace J := J.tl; try simp only [Act.put, List.setIfInBounds_toArray, List.set_cons_zero, List.set_cons_succ])
          clear J
          refine wpHold_one (i := 27) rfl (by kernel_rfl) (by rfl) (fun K hK => ?_)
          go_wp2_with fail
          refine (len_yes b3 v3 n L6 (lead L6) w9 H6.out.1.two.win (by have := HM.out; omega)).mono ?_
          rintro e wa ⟨rfl, ga⟩
          have GA : Hid (w9.grownBy wa none) := ga
          rw [HM.out.2.2.1]
          clear ga
          go_wp2_with fail
          refine hK.out _ _ (fun _ => GA.out) ?_
          clear hK K
          try simp only [Act.put, List.setIfInBounds_toArray, List.set_cons_zero, List.set_cons_succ]
          refine wpHold_one (i := 29) rfl (by kernel_rfl) (by rfl) (fun K hK => ?_)
          go_wp2_with fail
          refine (rlen16 rb3 _ _ n T6 K6 wa (H6.out.2.2.1.grown GA.out)).mono ?_
          rintro e wb ⟨rfl, rfl⟩
          rw [H6.out.2.2.2, HM.out.2.2.1]
          go_wp2_with fail
          refine hK.out _ _ (fun _ => GA.out) ?_
          clear hK K
          try simp only [Act.put, List.setIfInBounds_toArray, List.set_cons_zero, List.set_cons_succ]
          have J : Idx [30, 31, 32, 33, 35, 36, 37, 38, 39, 40, 41, 42] := trivial
          iterate 12 (refine tk J (GA.out) rfl rfl (fun wk hk => by have k1 := hk.cell q1 (by simp); go_simp; try rfl) ?_; replace J := J.tl; try simp only [Act.put, List.setIfInBounds_toArray, List.set_cons_zero, List.set_cons_succ])
          clear J
          refine wpHold_one (i := 34) rfl (by kernel_rfl) (by rfl) (fun K hK => ?_)
          go_wp2_with fail
          refine (room_yes b3 v3 n L6 (lead L6) wb (H6.out.1.two.win.grown GA.out) (by have := HM.out; omega)).mono ?_
          rintro e we ⟨rfl, ge⟩
          have GE : Hid (w9.grownBy we none) := grown_trans GA.out ge
          rw [HM.out.1, HM.out.2.1, show ((m + n - ln : Nat) : Int) = (n : Int) - (ln : Int) + (m : Int) by have := HM.out; omega]
          clear ge
          go_wp2_with fail
          refine hK.out _ _ (fun _ => GE.out) ?_
          clear hK K
          try simp only [Act.put, List.setIfInBounds_toArray, List.set_cons_zero, List.set_cons_succ]
          refine wpHold_one (i := 43) rfl (by kernel_rfl) (by rfl) (fun K hK => ?_)
          go_wp2_with fail
          refine (rmark13 rb3 _ _ n T6 K6 we (H6.out.2.2.1.grown GE.out)).mono ?_
          rintro e wf ⟨rfl, rfl⟩
          rw [H6.out.2.2.2, HM.out.1]
          go_wp2_with fail
          refine hK.out _ _ (fun _ => GE.out) ?_
          clear hK K
          try simp only [Act.put, List.setIfInBounds_toArray, List.set_cons_zero, List.set_cons_succ]
          have J : Idx [44, 45, 46] := trivial
          iterate 3 (refine tk J (GE.out) rfl rfl (fun wk hk => by have k1 := hk.cell q1 (by simp); go_simp; try rfl) ?_; replace J := J.tl; try simp only [Act.put, List.setIfInBounds_toArray, List.set_cons_zero, List.set_cons_succ])
          clear J
          refine wpHold_done (by kernel_rfl) ?_
          refine (‹∀ (a : Act) (w : World), Code.wp Try.prog _ _ a w → _› _ _ ?_)
          clear s1 s2 s3 s4 d1 d2 q1
          have HS2 : Hid (StP w n (i + 1) (.pointer (some ⟨b3, 0, none⟩)) (.pointer (some ⟨rb3, 0, none⟩)) _ _ wf) := ⟨b3, v3, rb3, _, _, L6, Q6, rfl, rfl, H6.out.1.grown GE.out, H6.out.2.1.grown GE.out⟩
          go_wp2_with fail
          go_roundw
          case rel => exact ⟨i + 1, by go_num, by have := HP.out; omega, by have := HP.out; omega, HS2.out⟩
          case measure => have := HP.out; simp [intOf]; omega
theorem steps3 (z : Int) (u : Value) (ss : List PSt) (w : World) (hu : Stps w u ss) : Calls Try.prog 3 #[.int .i64 z, u] w fun e w' => e = .returned (.bool true) ∧ w.grownBy w' none := by
  obtain ⟨ao, cap, rfl, hl, hj⟩ := hu
  by_cases hz : z < 1 ∨ 64 < z
  · exact steps3_no z ao ss.length cap w hz
  · obtain ⟨n, rfl⟩ : ∃ n : Nat, z = (n : Int) := ⟨z.toNat, by omega⟩
    exact steps3_yes n (by omega) (by omega) ao ss.length cap ss w ⟨ao, cap, rfl, hl, hj⟩ rfl
end Go.Proofs.Ytignmnmhigncjaa
