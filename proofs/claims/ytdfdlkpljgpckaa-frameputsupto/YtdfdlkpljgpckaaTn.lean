/-
  FrameTorn's walk.
-/
import Derived.Test.YtdfdlkpljgpckaaOt
import Derived.Test.YtdfdlkpljgpckaaSm
namespace Go.Proofs.Ytdfdlkpljgpckaa
open Go.RowKit Disk

theorem run_min60 (ts : Array TypeId) (t : TypeId) (m : Nat) (w : World) : (Builtin.min_ ts t #[.int .i64 (m : Int), .int .i64 60000]).run Try.prog w = .ok (.int .i64 ((min m 60000 : Nat) : Int)) w := by
  by_cases h : m ≤ 60000
  · rw [Nat.min_eq_left h]
    simp [Builtin.min_, Builtin.min2]
    try omega
  · rw [Nat.min_eq_right (by omega)]
    simp [Builtin.min_, Builtin.min2]
    try omega
attribute [local go_sem ↓] run_min60

/-- The frames of the law's argument, where it is small. -/
structure Small (l : Frs) : Prop where
  len : l.length ≤ 1048576
  bod : ∀ f ∈ l, f.2.length ≤ 1048576
  flat : (flat l).length ≤ 16777216

theorem Small.bodies {l : Frs} (h : Small l) : Bodies l := fun f hf => by have := h.bod f hf; omega
theorem Small.may {l : Frs} (h : Small l) (hk : Kinds l) : May l := fun f hf => ⟨(hk f hf).1, (hk f hf).2, h.bodies f hf⟩

set_option maxRecDepth 100000 in
set_option maxHeartbeats 8000000 in
theorem torn5 (v : Value) (l : Frs) (cut bit : Int) (w : World) (h : FSeg w v l) (hsm : Small l) (hc : -9223372036854775808 ≤ cut ∧ cut ≤ 9223372036854775807) (hb : -9223372036854775808 ≤ bit ∧ bit ≤ 9223372036854775807) : Calls Try.prog 5 #[v, .int .i64 cut, .int .i64 bit] w fun e w' => e = .returned (.bool true) ∧ w.grownBy w' none := by
  have HF : Hid (FSeg w v l) := h
  obtain ⟨ao, cap, hv⟩ := h.shape
  subst hv
  have HSM : Hid (Small l) := hsm
  have hln := hsm.len
  have HB : Hid _ := hb
  have HCT : Hid _ := hc
  clear h hsm hb hc
  have HCELL : Hid (∀ (x : World), w.grownBy x none → ∀ k (hk : k < l.length), ∃ b off u, ao = some ⟨b, off, none⟩ ∧ x.cell? ⟨b, off + k * 2, none⟩ = some (.int .i64 l[k].1) ∧ x.cell? ⟨b, off + k * 2 + 1, none⟩ = some u ∧ Seg x u l[k].2) := by
    intro x hx k hk
    obtain ⟨ao', cap', hv, _, hcells⟩ := HF.out
    simp at hv
    obtain ⟨rfl, rfl⟩ := hv
    obtain ⟨b, off, u, e, c0, c1, hs⟩ := hcells k hk
    exact ⟨b, off, u, e, hx.cell c0 (by simp), hx.cell c1 (by simp), hs.grown hx⟩
  obtain ⟨nl, hnl⟩ : ∃ nl, l.length = nl := ⟨_, rfl⟩
  have HNL : Hid (l.length = nl) := hnl
  have HF2 : Hid (FSeg w (.slice ao nl cap) l) := by rw [← hnl]; exact HF.out
  rw [hnl] at hln ⊢
  clear hnl
  go_enter Try.func5, Try.ntmps5
  go_wp2_with fail
  refine (known7 _).mono ?_
  rintro e w1 ⟨rfl, g1⟩
  have G1 : Hid (w.grownBy w1 none) := g1
  clear g1
  go_wp2_with fail
  go_loopw [7, 8] (fun s i wr => ∃ k n : Nat, k ≤ nl ∧ n ≤ k * 60000 ∧ s = .int .i64 n ∧ i = .int .i64 k ∧ wr = w1 ∧ ∀ j (hj : j < l.length), j < k → 0 ≤ l[j].1 ∧ l[j].1 ≤ 255) (fun _ i _ => nl - (intOf i).toNat)
  case atStart => exact ⟨0, 0, Nat.zero_le _, Nat.zero_le _, rfl, rfl, rfl, fun j _ h => absurd h (by omega)⟩
  case round =>
    obtain ⟨k, n, hk, hn, rfl, rfl, rfl, hok⟩ := hrel
    have HOK : Hid _ := hok
    clear hok
    by_cases hlt : k < nl
    · have hkl : k < l.length := by rw [HNL.out]; exact hlt
      obtain ⟨b, off, u, rfl, d0, d1, hs⟩ := HCELL.out wr G1.out k hkl
      obtain ⟨au, cu, hu⟩ := hs.shape
      subst hu
      clear hs
      obtain ⟨m, hm⟩ : ∃ m, l[k].2.length = m := ⟨_, rfl⟩
      obtain ⟨kd, hkd⟩ : ∃ kd, l[k].1 = kd := ⟨_, rfl⟩
      have HKD : Hid _ := hkd
      rw [hm] at d1
      rw [hkd] at d0
      clear hm hkd
      have i1 : (0 : Int) ≤ (k : Int) := by omega
      have i2 : (k : Int) < (nl : Int) := by omega
      have hmn : min m 60000 ≤ 60000 := Nat.min_le_right _ _
      obtain ⟨mm, hmm⟩ : ∃ mm, min m 60000 = mm := ⟨_, rfl⟩
      rw [hmm] at hmn
      have HMM : Hid _ := hmm
      by_cases hk0 : kd < 0
      · go_wp2_with fail
        go_ret
        exact ⟨rfl, G1.out⟩
      · by_cases hk1 : 255 < kd
        · go_wp2_with fail
          go_ret
          exact ⟨rfl, G1.out⟩
        · go_wp2_with fail
          go_roundw
          case rel =>
            refine ⟨k + 1, n + mm, by omega, by omega, by go_num, by go_num, trivial, fun j hj hjk => ?_⟩
            by_cases hjk2 : j < k
            · exact HOK.out j hj hjk2
            · obtain rfl : j = k := by omega
              rw [HKD.out]
              omega
          case measure => simp [intOf]; omega
    · obtain rfl : k = nl := by omega
      have HK : Hid (Kinds l) := by
        intro f hf
        obtain ⟨j, hj, rfl⟩ := List.getElem_of_mem hf
        exact HOK.out j hj (by have := HNL.out; omega)
      clear HOK
      by_cases hbig : 60000 < n
      · have hbi : (60000 : Int) < (n : Int) := by omega
        go_wp2_with fail
        go_ret
        exact ⟨rfl, G1.out⟩
      · have hbi : ¬ (60000 : Int) < (n : Int) := by omega
        go_wp2_with fail
        refine (putall12 _ l _ (HF2.out.grown G1.out) HSM.out.bodies (by have := HSM.out.len; omega) (by have := HSM.out.flat; omega)).mono ?_
        rintro e w2 ⟨g2, _, hok⟩
        obtain ⟨u, rfl, ou⟩ := hok HK.out
        obtain ⟨N, hN⟩ : ∃ N, (flat l).length = N := ⟨_, rfl⟩
        have HN : Hid _ := hN
        have hNs : N ≤ 16777216 := by rw [← hN]; exact HSM.out.flat
        obtain ⟨au, cu, hu⟩ := ou.seg.shape
        rw [hN] at hu
        subst hu
        have H2 : Hid (Disk.Own w2 wr.heap.size (.slice au N cu) (flat l) ∧ w.grownBy w2 none) := ⟨ou, grown_trans G1.out g2⟩
        have hNc : N ≤ cu := by
          obtain ⟨a', c', hv, h1, _⟩ := ou.seg
          simp at hv
          rw [hN] at h1
          omega
        have HMY : Hid (May l) := HSM.out.may HK.out
        clear g2 hok ou hN
        go_wp2_with (first | (go_at_call 10; refine (num10 _ _).mono ?_; rintro e wx ⟨rfl, hx⟩; rw [hx]; clear hx))
        refine (scan13 _ (flat l) _ H2.out.1.seg (by rw [HN.out]; omega)).mono ?_
        rintro e w3 ⟨fs, R, vl, vs, hsc, rfl, hrow, g3⟩
        obtain ⟨rfl, rfl⟩ := sc_unique _ hsc (sc_flat HMY.out)
        rw [HN.out, show ends [] = 0 from rfl]
        have H3 : Hid (FRow w3 w2.heap.size vl vs fs ∧ w2.grownBy w3 none) := ⟨hrow, g3⟩
        obtain ⟨al, cl, hvl⟩ := hrow.shape
        rw [HNL.out] at hvl
        subst hvl
        clear hsc hrow g3
        have G3 : Hid (w.grownBy w3 none) := grown_trans H2.out.2 H3.out.2
        go_upto_region 18 with (first | (go_at_call 10; refine (num10 _ _).mono ?_; rintro e wx ⟨rfl, hx⟩; rw [hx]; clear hx))
        have HNLT : Hid ((flat (fs.take k)).length = N) := by rw [← HNL.out, List.take_length]; exact HN.out
        go_wp2_with fail
        go_loopw [14, 15] (fun a i wr => ∃ j : Nat, j ≤ k ∧ a = .int .i64 ((flat (fs.take j)).length : Nat) ∧ i = .int .i64 j ∧ w3.grownBy wr none) (fun _ i _ => k - (intOf i).toNat)
        case atStart => exact ⟨0, Nat.zero_le _, rfl, rfl, grown_refl _ _⟩
        case round =>
          obtain ⟨j, hj, rfl, rfl, hg⟩ := hrel
          have HGQ : Hid _ := hg
          by_cases hlt2 : j < k
          · have hjl : j < fs.length := by have := HNL.out; omega
            have hjt : j < fs.length := by rw [HNL.out]; exact hlt2
            have hrw := H3.out.1.grown hg
            have hjv : j < vs.length := by rw [hrw.len]; exact hjt
            obtain ⟨g, c, e1, x0, x1, _⟩ := hrw.cell j hjt hjv
            obtain ⟨b, off, uu, e2, y0, y1, hs⟩ := HCELL.out wr (grown_trans G3.out hg) j hjl
            have ho := hrw.each j hjv hjt
            skip
            obtain ⟨xa, xc, hx⟩ := ho.seg.shape
            obtain ⟨ya, yc, hy⟩ := hs.shape
            subst hy
            rw [hx] at x1
            obtain ⟨m, hm⟩ : ∃ m, fs[j].2.length = m := ⟨_, rfl⟩
            have HM : Hid _ := hm
            obtain ⟨kd, hkd⟩ : ∃ kd, fs[j].1 = kd := ⟨_, rfl⟩
            have hml : m ≤ 1048576 := by rw [← hm]; exact HSM.out.bod fs[j] (List.getElem_mem hjl)
            rw [hm] at x1 y1 hx
            rw [hkd] at x0 y0
            have HSG : Hid (Seg wr (.slice xa m xc) fs[j].2 ∧ Seg wr (.slice ya m yc) fs[j].2) := by
              refine ⟨?_, ?_⟩
              · rw [← hx]; exact ho.seg
              · rw [← hm]; exact hs
            have e1a := (Value.slice.inj e1).1
            clear e1
            subst e1a
            first | subst e2 | (have e2a := Option.some.inj e2; injection e2a with q1 q2; subst q1; subst q2)
            obtain ⟨pl, hpl⟩ : ∃ pl, (flat (fs.take j)).length = pl := ⟨_, rfl⟩
            have HPL : Hid _ := hpl
            have hpn : pl ≤ 16777216 := by rw [← hpl]; exact Nat.le_trans (flat_take_le fs j) HSM.out.flat
            rw [hpl]
            have HQ : Hid (∀ x : World, wr.grownBy x none → x.cell? ⟨g, j * 2, none⟩ = some (.int .i64 kd) ∧ x.cell? ⟨g, j * 2 + 1, none⟩ = some (.slice xa m xc) ∧ x.cell? ⟨b, off + j * 2, none⟩ = some (.int .i64 kd) ∧ x.cell? ⟨b, off + j * 2 + 1, none⟩ = some (.slice ya m yc)) := fun x hx => ⟨hx.cell x0 (by simp), hx.cell x1 (by simp), hx.cell y0 (by simp), hx.cell y1 (by simp)⟩
            clear x0 x1 y0 y1 hs ho hrw hg hpl hm hkd hx
            have i1 : (0 : Int) ≤ (j : Int) := by omega
            have i2 : (j : Int) < (k : Int) := by omega
            have i3 : (j : Int) < (k : Int) := by omega
            have i4 : j < k := by omega
            skip
            go_wp2_with fail
            refine wp_region_noPanic ?_
            refine wp_region_hold 1000 (fun x => wr.grownBy x none) (by kernel_rfl) ?_
            refine wpHold_take (i := 0) (v := _) (grown_drew _ _) rfl rfl (by kernel_rfl) (by kernel_rfl) (by kernel_rfl) (by kernel_rfl) (by kernel_rfl) (fun _ _ _ h => h) (by rfl) (fun wk hk => by obtain ⟨k0, k1, k2, k3⟩ := HQ.out wk hk; go_simp; try rfl) ?_
            try simp only [Act.put, List.setIfInBounds_toArray, List.set_cons_zero, List.set_cons_succ]
            refine wpHold_take (i := 1) (v := _) (grown_drew _ _) rfl rfl (by kernel_rfl) (by kernel_rfl) (by kernel_rfl) (by kernel_rfl) (by kernel_rfl) (fun _ _ _ h => h) (by rfl) (fun wk hk => by obtain ⟨k0, k1, k2, k3⟩ := HQ.out wk hk; go_simp; try rfl) ?_
            try simp only [Act.put, List.setIfInBounds_toArray, List.set_cons_zero, List.set_cons_succ]
            refine wpHold_take (i := 2) (v := _) (grown_drew _ _) rfl rfl (by kernel_rfl) (by kernel_rfl) (by kernel_rfl) (by kernel_rfl) (by kernel_rfl) (fun _ _ _ h => h) (by rfl) (fun wk hk => by obtain ⟨k0, k1, k2, k3⟩ := HQ.out wk hk; go_simp; try rfl) ?_
            try simp only [Act.put, List.setIfInBounds_toArray, List.set_cons_zero, List.set_cons_succ]
            refine wpHold_take (i := 3) (v := _) (grown_drew _ _) rfl rfl (by kernel_rfl) (by kernel_rfl) (by kernel_rfl) (by kernel_rfl) (by kernel_rfl) (fun _ _ _ h => h) (by rfl) (fun wk hk => by obtain ⟨k0, k1, k2, k3⟩ := HQ.out wk hk; go_simp; try rfl) ?_
            try simp only [Act.put, List.setIfInBounds_toArray, List.set_cons_zero, List.set_cons_succ]
            refine wpHold_take (i := 4) (v := _) (grown_drew _ _) rfl rfl (by kernel_rfl) (by kernel_rfl) (by kernel_rfl) (by kernel_rfl) (by kernel_rfl) (fun _ _ _ h => h) (by rfl) (fun wk hk => by obtain ⟨k0, k1, k2, k3⟩ := HQ.out wk hk; go_simp; try rfl) ?_
            try simp only [Act.put, List.setIfInBounds_toArray, List.set_cons_zero, List.set_cons_succ]
            refine wpHold_take (i := 5) (v := _) (grown_drew _ _) rfl rfl (by kernel_rfl) (by kernel_rfl) (by kernel_rfl) (by kernel_rfl) (by kernel_rfl) (fun _ _ _ h => h) (by rfl) (fun wk hk => by obtain ⟨k0, k1, k2, k3⟩ := HQ.out wk hk; go_simp; try rfl) ?_
            try simp only [Act.put, List.setIfInBounds_toArray, List.set_cons_zero, List.set_cons_succ]
            refine wpHold_take (i := 6) (v := _) (grown_drew _ _) rfl rfl (by kernel_rfl) (by kernel_rfl) (by kernel_rfl) (by kernel_rfl) (by kernel_rfl) (fun _ _ _ h => h) (by rfl) (fun wk hk => by obtain ⟨k0, k1, k2, k3⟩ := HQ.out wk hk; go_simp; try rfl) ?_
            try simp only [Act.put, List.setIfInBounds_toArray, List.set_cons_zero, List.set_cons_succ]
            refine wpHold_take (i := 7) (v := _) (grown_drew _ _) rfl rfl (by kernel_rfl) (by kernel_rfl) (by kernel_rfl) (by kernel_rfl) (by kernel_rfl) (fun _ _ _ h => h) (by rfl) (fun wk hk => by obtain ⟨k0, k1, k2, k3⟩ := HQ.out wk hk; go_simp; try rfl) ?_
            try simp only [Act.put, List.setIfInBounds_toArray, List.set_cons_zero, List.set_cons_succ]
            refine wpHold_one (i := 8) rfl (by kernel_rfl) (by rfl) (fun K hK => ?_)
            go_simp
            refine (same16 kd kd (.slice xa m xc) (.slice ya m yc) fs[j].2 fs[j].2 _ (HSG.out.1.grown (grown_drew _ _)) (HSG.out.2.grown (grown_drew _ _))).mono ?_
            rintro e w6 ⟨rfl, g6⟩
            have G6 : Hid (wr.grownBy w6 none) := grown_trans (grown_drew _ _) g6
            clear g6
            have dt : decide (kd = kd ∧ fs[j].2 = fs[j].2) = true := by simp
            rw [dt]
            clear dt
            go_wp2_with fail
            refine hK.out _ _ (fun _ => G6.out) ?_
            clear hK K
            try simp only [Act.put, List.setIfInBounds_toArray, List.set_cons_zero, List.set_cons_succ]
            refine wpHold_take (i := 9) (v := _) (G6.out) rfl rfl (by kernel_rfl) (by kernel_rfl) (by kernel_rfl) (by kernel_rfl) (by kernel_rfl) (fun _ _ _ h => h) (by rfl) (fun wk hk => by obtain ⟨k0, k1, k2, k3⟩ := HQ.out wk hk; go_simp; try rfl) ?_
            try simp only [Act.put, List.setIfInBounds_toArray, List.set_cons_zero, List.set_cons_succ]
            refine wpHold_done (by kernel_rfl) ?_
            refine (‹∀ (a : Act) (w : World), Code.wp Try.prog _ _ a w → _› _ _ ?_)
            obtain ⟨k0, k1, k2, k3⟩ := HQ.out w6 G6.out
            have HP : Hid ((flat (fs.take (j + 1))).length = pl + (9 + m)) := by unfold Hid; rw [flat_take_len fs j hjl, HPL.out, HM.out]
            go_wp2_with (go_at_call 9; refine (size9s _ m _ _ (by omega)).mono ?_; rintro e wx ⟨rfl, hx⟩; rw [hx]; clear hx)
            go_roundw
            case rel =>
              first
                | refine ⟨j + 1, by omega, ?_, ?_, grown_trans HGQ.out G6.out⟩
                | refine ⟨_, _, _, _, _, _, _, _, _, _, _, _, _, _, _, _, _, _, _, _, _, _, _, _, _, _, _, ⟨j + 1, by omega, ?_, ?_, grown_trans HGQ.out G6.out⟩, rfl⟩
              · rw [HP.out]; go_num
              · go_num
            case measure => simp [intOf]; omega
          · obtain rfl : k = j := by omega
            clear hg
            rw [HNLT.out]
            go_upto_region 27 with fail
            by_cases hcut : 0 ≤ cut ∧ cut < (N : Int)
            · obtain ⟨ct, rfl⟩ : ∃ ct : Nat, cut = (ct : Int) := ⟨cut.toNat, by omega⟩
              have hc0 : (0 : Int) ≤ (ct : Int) := hcut.1
              have hc1 : (ct : Int) < (N : Int) := hcut.2
              have hc2 : ct < N := by omega
              have hc3 : (ct : Int) ≤ (cu : Int) := by omega
              have hc4 : ct ≤ cu := by omega
              clear hcut
              have HS4 : Hid (Seg wr (.slice au ct cu) ((flat fs).take ct)) := by
                have h1 : Seg wr (.slice au (flat fs).length cu) (flat fs) := by rw [HN.out]; exact (H2.out.1.seg.grown H3.out.2).grown HGQ.out
                exact seg_take ct (by rw [HN.out]; omega) h1
              go_wp2_with fail
              try go_simp
              try go_wp2_with fail
              refine (scan13 _ ((flat fs).take ct) _ HS4.out (by rw [List.length_take, HN.out]; omega)).mono ?_
              rintro e w5 ⟨fs2, R2, vl2, vs2, hsc2, rfl, hrow2, g5⟩
              obtain ⟨n2, R3, hn2, hsc3, hcd, hnx⟩ := sc_take fs ct HMY.out (by rw [HN.out]; omega)
              obtain ⟨rfl, rfl⟩ := sc_unique _ hsc2 hsc3
              have hlen := hsc3.len
              rw [List.length_take, HN.out, Nat.min_eq_left (by omega)] at hlen
              have hn2k : n2 ≤ k := by have := HNL.out; omega
              have htl : (fs.take n2).length = n2 := by rw [List.length_take]; omega
              have HTL : Hid _ := htl
              have HNX : Hid _ := hnx
              obtain ⟨p2, hp2⟩ : ∃ p2, (flat (fs.take n2)).length = p2 := ⟨_, rfl⟩
              have HP2 : Hid _ := hp2
              have H5 : Hid (FRow w5 wr.heap.size vl2 vs2 (fs.take n2) ∧ wr.grownBy w5 none) := ⟨hrow2, g5⟩
              have G5 : Hid (w.grownBy w5 none) := grown_trans (grown_trans G3.out HGQ.out) g5
              obtain ⟨al2, cl2, hvl2⟩ := hrow2.shape
              rw [htl] at hvl2
              subst hvl2
              have hwhy : (ends R2 = 0 ∧ ct = p2) ∨ (ends R2 = 140 ∧ p2 < ct) := by
                rw [hp2] at hlen
                by_cases hR : R2 = []
                · exact .inl ⟨by unfold ends; rw [if_pos hR], by rw [hR] at hlen; simp at hlen; omega⟩
                · refine .inr ⟨by unfold ends; rw [if_neg hR]; exact hcd hR, ?_⟩
                  have := List.length_pos_iff.2 hR
                  omega
              rw [hp2]
              have hp2s : p2 ≤ 16777216 := by omega
              have hk2 : ¬ (k : Int) < (n2 : Int) := by omega
              have hk3 : ¬ k < n2 := by omega
              clear hsc2 hsc3 hcd hnx hlen hrow2 g5 htl hp2
              rcases hwhy with ⟨hw, rfl⟩ | ⟨hw, hpc⟩
              · rw [hw]
                clear hw
                go_upto_region 31 with (first | (go_at_call 10; refine (num10 _ _).mono ?_; rintro e wx ⟨rfl, hx⟩; rw [hx]; clear hx))
                clear hc0 hc1 hc2 hc3 hc4 hk2 hk3 hn2
                try clear hpi hpj hpk hpl2 hpc hq1 hq2
                go_wp2_with fail
                go_loopw [19, 20] (fun a i wr => ∃ j : Nat, j ≤ n2 ∧ a = .int .i64 ((flat (fs.take j)).length : Nat) ∧ i = .int .i64 j ∧ w5.grownBy wr none) (fun _ i _ => n2 - (intOf i).toNat)
                case atStart => exact ⟨0, Nat.zero_le _, rfl, rfl, grown_refl _ _⟩
                case round =>
                  obtain ⟨j, hj, rfl, rfl, hg⟩ := hrel
                  have HGQ : Hid _ := hg
                  by_cases hlt2 : j < n2
                  · have hjl : j < fs.length := by have := HNL.out; omega
                    have hjt : j < (fs.take n2).length := by rw [HTL.out]; exact hlt2
                    have hrw := H5.out.1.grown hg
                    have hjv : j < vs2.length := by rw [hrw.len]; exact hjt
                    obtain ⟨g, c, e1, x0, x1, _⟩ := hrw.cell j hjt hjv
                    obtain ⟨b, off, uu, e2, y0, y1, hs⟩ := HCELL.out wr (grown_trans G5.out hg) j hjl
                    have ho := hrw.each j hjv hjt
                    rw [List.getElem_take] at ho x0
                    obtain ⟨xa, xc, hx⟩ := ho.seg.shape
                    obtain ⟨ya, yc, hy⟩ := hs.shape
                    subst hy
                    rw [hx] at x1
                    obtain ⟨m, hm⟩ : ∃ m, fs[j].2.length = m := ⟨_, rfl⟩
                    have HM : Hid _ := hm
                    obtain ⟨kd, hkd⟩ : ∃ kd, fs[j].1 = kd := ⟨_, rfl⟩
                    have hml : m ≤ 1048576 := by rw [← hm]; exact HSM.out.bod fs[j] (List.getElem_mem hjl)
                    rw [hm] at x1 y1 hx
                    rw [hkd] at x0 y0
                    have HSG : Hid (Seg wr (.slice xa m xc) fs[j].2 ∧ Seg wr (.slice ya m yc) fs[j].2) := by
                      refine ⟨?_, ?_⟩
                      · rw [← hx]; exact ho.seg
                      · rw [← hm]; exact hs
                    have e1a := (Value.slice.inj e1).1
                    clear e1
                    subst e1a
                    first | subst e2 | (have e2a := Option.some.inj e2; injection e2a with q1 q2; subst q1; subst q2)
                    obtain ⟨pl, hpl⟩ : ∃ pl, (flat (fs.take j)).length = pl := ⟨_, rfl⟩
                    have HPL : Hid _ := hpl
                    have hpn : pl ≤ 16777216 := by rw [← hpl]; exact Nat.le_trans (flat_take_le fs j) HSM.out.flat
                    rw [hpl]
                    have HQ : Hid (∀ x : World, wr.grownBy x none → x.cell? ⟨g, j * 2, none⟩ = some (.int .i64 kd) ∧ x.cell? ⟨g, j * 2 + 1, none⟩ = some (.slice xa m xc) ∧ x.cell? ⟨b, off + j * 2, none⟩ = some (.int .i64 kd) ∧ x.cell? ⟨b, off + j * 2 + 1, none⟩ = some (.slice ya m yc)) := fun x hx => ⟨hx.cell x0 (by simp), hx.cell x1 (by simp), hx.cell y0 (by simp), hx.cell y1 (by simp)⟩
                    clear x0 x1 y0 y1 hs ho hrw hg hpl hm hkd hx
                    have i1 : (0 : Int) ≤ (j : Int) := by omega
                    have i2 : (j : Int) < (n2 : Int) := by omega
                    have i3 : (j : Int) < (k : Int) := by omega
                    have i4 : j < k := by omega
                    clear hn2k hp2s hlt2
                    go_wp2_with fail
                    refine wp_region_noPanic ?_
                    refine wp_region_hold 1000 (fun x => wr.grownBy x none) (by kernel_rfl) ?_
                    refine wpHold_take (i := 0) (v := _) (grown_drew _ _) rfl rfl (by kernel_rfl) (by kernel_rfl) (by kernel_rfl) (by kernel_rfl) (by kernel_rfl) (fun _ _ _ h => h) (by rfl) (fun wk hk => by obtain ⟨k0, k1, k2, k3⟩ := HQ.out wk hk; go_simp; try rfl) ?_
                    try simp only [Act.put, List.setIfInBounds_toArray, List.set_cons_zero, List.set_cons_succ]
                    refine wpHold_take (i := 1) (v := _) (grown_drew _ _) rfl rfl (by kernel_rfl) (by kernel_rfl) (by kernel_rfl) (by kernel_rfl) (by kernel_rfl) (fun _ _ _ h => h) (by rfl) (fun wk hk => by obtain ⟨k0, k1, k2, k3⟩ := HQ.out wk hk; go_simp; try rfl) ?_
                    try simp only [Act.put, List.setIfInBounds_toArray, List.set_cons_zero, List.set_cons_succ]
                    refine wpHold_take (i := 2) (v := _) (grown_drew _ _) rfl rfl (by kernel_rfl) (by kernel_rfl) (by kernel_rfl) (by kernel_rfl) (by kernel_rfl) (fun _ _ _ h => h) (by rfl) (fun wk hk => by obtain ⟨k0, k1, k2, k3⟩ := HQ.out wk hk; go_simp; try rfl) ?_
                    try simp only [Act.put, List.setIfInBounds_toArray, List.set_cons_zero, List.set_cons_succ]
                    refine wpHold_take (i := 3) (v := _) (grown_drew _ _) rfl rfl (by kernel_rfl) (by kernel_rfl) (by kernel_rfl) (by kernel_rfl) (by kernel_rfl) (fun _ _ _ h => h) (by rfl) (fun wk hk => by obtain ⟨k0, k1, k2, k3⟩ := HQ.out wk hk; go_simp; try rfl) ?_
                    try simp only [Act.put, List.setIfInBounds_toArray, List.set_cons_zero, List.set_cons_succ]
                    refine wpHold_take (i := 4) (v := _) (grown_drew _ _) rfl rfl (by kernel_rfl) (by kernel_rfl) (by kernel_rfl) (by kernel_rfl) (by kernel_rfl) (fun _ _ _ h => h) (by rfl) (fun wk hk => by obtain ⟨k0, k1, k2, k3⟩ := HQ.out wk hk; go_simp; try rfl) ?_
                    try simp only [Act.put, List.setIfInBounds_toArray, List.set_cons_zero, List.set_cons_succ]
                    refine wpHold_take (i := 5) (v := _) (grown_drew _ _) rfl rfl (by kernel_rfl) (by kernel_rfl) (by kernel_rfl) (by kernel_rfl) (by kernel_rfl) (fun _ _ _ h => h) (by rfl) (fun wk hk => by obtain ⟨k0, k1, k2, k3⟩ := HQ.out wk hk; go_simp; try rfl) ?_
                    try simp only [Act.put, List.setIfInBounds_toArray, List.set_cons_zero, List.set_cons_succ]
                    refine wpHold_take (i := 6) (v := _) (grown_drew _ _) rfl rfl (by kernel_rfl) (by kernel_rfl) (by kernel_rfl) (by kernel_rfl) (by kernel_rfl) (fun _ _ _ h => h) (by rfl) (fun wk hk => by obtain ⟨k0, k1, k2, k3⟩ := HQ.out wk hk; go_simp; try rfl) ?_
                    try simp only [Act.put, List.setIfInBounds_toArray, List.set_cons_zero, List.set_cons_succ]
                    refine wpHold_take (i := 7) (v := _) (grown_drew _ _) rfl rfl (by kernel_rfl) (by kernel_rfl) (by kernel_rfl) (by kernel_rfl) (by kernel_rfl) (fun _ _ _ h => h) (by rfl) (fun wk hk => by obtain ⟨k0, k1, k2, k3⟩ := HQ.out wk hk; go_simp; try rfl) ?_
                    try simp only [Act.put, List.setIfInBounds_toArray, List.set_cons_zero, List.set_cons_succ]
                    refine wpHold_one (i := 8) rfl (by kernel_rfl) (by rfl) (fun K hK => ?_)
                    go_simp
                    refine (same16 kd kd (.slice xa m xc) (.slice ya m yc) fs[j].2 fs[j].2 _ (HSG.out.1.grown (grown_drew _ _)) (HSG.out.2.grown (grown_drew _ _))).mono ?_
                    rintro e w6 ⟨rfl, g6⟩
                    have G6 : Hid (wr.grownBy w6 none) := grown_trans (grown_drew _ _) g6
                    clear g6
                    have dt : decide (kd = kd ∧ fs[j].2 = fs[j].2) = true := by simp
                    rw [dt]
                    clear dt
                    go_wp2_with fail
                    refine hK.out _ _ (fun _ => G6.out) ?_
                    clear hK K
                    try simp only [Act.put, List.setIfInBounds_toArray, List.set_cons_zero, List.set_cons_succ]
                    refine wpHold_take (i := 9) (v := _) (G6.out) rfl rfl (by kernel_rfl) (by kernel_rfl) (by kernel_rfl) (by kernel_rfl) (by kernel_rfl) (fun _ _ _ h => h) (by rfl) (fun wk hk => by obtain ⟨k0, k1, k2, k3⟩ := HQ.out wk hk; go_simp; try rfl) ?_
                    try simp only [Act.put, List.setIfInBounds_toArray, List.set_cons_zero, List.set_cons_succ]
                    refine wpHold_done (by kernel_rfl) ?_
                    refine (‹∀ (a : Act) (w : World), Code.wp Try.prog _ _ a w → _› _ _ ?_)
                    obtain ⟨k0, k1, k2, k3⟩ := HQ.out w6 G6.out
                    have HP : Hid ((flat (fs.take (j + 1))).length = pl + (9 + m)) := by unfold Hid; rw [flat_take_len fs j hjl, HPL.out, HM.out]
                    go_wp2_with (go_at_call 9; refine (size9s _ m _ _ (by omega)).mono ?_; rintro e wx ⟨rfl, hx⟩; rw [hx]; clear hx)
                    go_roundw
                    case rel =>
                      first
                        | refine ⟨j + 1, by omega, ?_, ?_, grown_trans HGQ.out G6.out⟩
                        | refine ⟨_, _, _, _, _, _, _, _, _, _, _, _, _, _, _, _, _, _, _, _, _, _, _, _, _, _, _, ⟨j + 1, by omega, ?_, ?_, grown_trans HGQ.out G6.out⟩, rfl⟩
                      · rw [HP.out]; go_num
                      · go_num
                    case measure => simp [intOf]; omega
                  · obtain rfl : n2 = j := by omega
                    clear hg
                    rw [HP2.out]
                    by_cases hnk : n2 < k
                    · have hnl : n2 < fs.length := by have := HNL.out; omega
                      have hni : (n2 : Int) < (k : Int) := by omega
                      have hn0 : (0 : Int) ≤ (n2 : Int) := by omega
                      obtain ⟨b, off, uu, e2, y0, y1, hs⟩ := HCELL.out wr (grown_trans G5.out HGQ.out) n2 hnl
                      first | subst e2 | (have e2a := Option.some.inj e2; injection e2a with q1 q2; subst q1; subst q2)
                      obtain ⟨ya, yc, hy⟩ := hs.shape
                      subst hy
                      obtain ⟨m3, hm3⟩ : ∃ m3, fs[n2].2.length = m3 := ⟨_, rfl⟩
                      have hm3l : m3 ≤ 1048576 := by rw [← hm3]; exact HSM.out.bod fs[n2] (List.getElem_mem hnl)
                      have hnx2 := HNX.out (by have := HNL.out; omega)
                      rw [flat_take_len fs n2 hnl, HP2.out, hm3] at hnx2
                      rw [hm3] at y1
                      have hle : ¬ ((ct : Int) + (9 + (m3 : Int))) ≤ (ct : Int) := by omega
                      have hle2 : ¬ (ct + (9 + m3)) ≤ ct := by omega
                      clear hs hm3 hnx2
                      go_upto_region 40 with (go_at_call 9; refine (size9s _ m3 _ _ (by omega)).mono ?_; rintro e wx ⟨rfl, hx⟩; rw [hx]; clear hx)
                      by_cases hz : k = 0
                      · subst hz
                        go_wp2_with fail
                        go_ret
                        exact ⟨rfl, grown_trans G5.out HGQ.out⟩
                      · have hz2 : ¬ (k : Int) = 0 := by omega
                        have hz3 : (0 : Int) < (k : Int) := by omega
                        have hz4 : 0 < k := by omega
                        have h0l : 0 < fs.length := by have := HNL.out; omega
                        obtain ⟨b, off, uu, e2, y0, y1, hs⟩ := HCELL.out wr (grown_trans G5.out HGQ.out) 0 h0l
                        first | subst e2 | (have e2a := Option.some.inj e2; injection e2a with q1 q2; subst q1; subst q2)
                        obtain ⟨ya, yc, hy⟩ := hs.shape
                        have HSG : Hid (Seg wr uu fs[0].2) := hs
                        have hk0 := HK.out fs[0] (List.getElem_mem h0l)
                        have hb0 := HSM.out.bod fs[0] (List.getElem_mem h0l)
                        simp only [Nat.zero_mul, Nat.add_zero] at y0 y1
                        subst hy
                        obtain ⟨m0, hm0⟩ : ∃ m0, fs[0].2.length = m0 := ⟨_, rfl⟩
                        rw [hm0] at y1 HSG hb0
                        obtain ⟨kd0, hkd0⟩ : ∃ kd0, fs[0].1 = kd0 := ⟨_, rfl⟩
                        rw [hkd0] at y0 hk0
                        have HK0 : Hid _ := hk0
                        have HB0 : Hid (fs[0].2.length ≤ 1048576) := by rw [hm0]; exact hb0
                        clear hs hm0 hkd0 hk0 hb0
                        go_wp2_with fail
                        refine (other19 kd0 bit _ fs[0].2 _ HSG.out HB0.out HK0.out HB.out).mono ?_
                        rintro e w9 ⟨rfl, g9⟩
                        have G9 : Hid (w.grownBy w9 none) := grown_trans (grown_trans G5.out HGQ.out) g9
                        clear g9
                        go_wp2_with fail
                        go_ret
                        exact ⟨rfl, G9.out⟩
                    · obtain rfl : k = n2 := by omega
                      go_upto_region 40 with fail
                      by_cases hz : k = 0
                      · subst hz
                        go_wp2_with fail
                        go_ret
                        exact ⟨rfl, grown_trans G5.out HGQ.out⟩
                      · have hz2 : ¬ (k : Int) = 0 := by omega
                        have hz3 : (0 : Int) < (k : Int) := by omega
                        have hz4 : 0 < k := by omega
                        have h0l : 0 < fs.length := by have := HNL.out; omega
                        obtain ⟨b, off, uu, e2, y0, y1, hs⟩ := HCELL.out wr (grown_trans G5.out HGQ.out) 0 h0l
                        first | subst e2 | (have e2a := Option.some.inj e2; injection e2a with q1 q2; subst q1; subst q2)
                        obtain ⟨ya, yc, hy⟩ := hs.shape
                        have HSG : Hid (Seg wr uu fs[0].2) := hs
                        have hk0 := HK.out fs[0] (List.getElem_mem h0l)
                        have hb0 := HSM.out.bod fs[0] (List.getElem_mem h0l)
                        simp only [Nat.zero_mul, Nat.add_zero] at y0 y1
                        subst hy
                        obtain ⟨m0, hm0⟩ : ∃ m0, fs[0].2.length = m0 := ⟨_, rfl⟩
                        rw [hm0] at y1 HSG hb0
                        obtain ⟨kd0, hkd0⟩ : ∃ kd0, fs[0].1 = kd0 := ⟨_, rfl⟩
                        rw [hkd0] at y0 hk0
                        have HK0 : Hid _ := hk0
                        have HB0 : Hid (fs[0].2.length ≤ 1048576) := by rw [hm0]; exact hb0
                        clear hs hm0 hkd0 hk0 hb0
                        go_wp2_with fail
                        refine (other19 kd0 bit _ fs[0].2 _ HSG.out HB0.out HK0.out HB.out).mono ?_
                        rintro e w9 ⟨rfl, g9⟩
                        have G9 : Hid (w.grownBy w9 none) := grown_trans (grown_trans G5.out HGQ.out) g9
                        clear g9
                        go_wp2_with fail
                        go_ret
                        exact ⟨rfl, G9.out⟩
              · rw [hw]
                clear hw
                have hpi : ¬ (ct : Int) < (p2 : Int) := by omega
                have hpj : ¬ (p2 : Int) = (ct : Int) := by omega
                have hpk : ¬ p2 = ct := by omega
                have hpl2 : ¬ ct < p2 := by omega
                have hq1 : ((p2 : Int) == (ct : Int)) = false := by rw [beq_eq_false_iff_ne]; omega
                have hq2 : (p2 == ct) = false := by rw [beq_eq_false_iff_ne]; omega
                go_upto_region 31 with (first | (go_at_call 10; refine (num10 _ _).mono ?_; rintro e wx ⟨rfl, hx⟩; rw [hx]; clear hx))
                clear hc0 hc1 hc2 hc3 hc4 hk2 hk3 hn2
                try clear hpi hpj hpk hpl2 hpc hq1 hq2
                go_wp2_with fail
                go_loopw [19, 20] (fun a i wr => ∃ j : Nat, j ≤ n2 ∧ a = .int .i64 ((flat (fs.take j)).length : Nat) ∧ i = .int .i64 j ∧ w5.grownBy wr none) (fun _ i _ => n2 - (intOf i).toNat)
                case atStart => exact ⟨0, Nat.zero_le _, rfl, rfl, grown_refl _ _⟩
                case round =>
                  obtain ⟨j, hj, rfl, rfl, hg⟩ := hrel
                  have HGQ : Hid _ := hg
                  by_cases hlt2 : j < n2
                  · have hjl : j < fs.length := by have := HNL.out; omega
                    have hjt : j < (fs.take n2).length := by rw [HTL.out]; exact hlt2
                    have hrw := H5.out.1.grown hg
                    have hjv : j < vs2.length := by rw [hrw.len]; exact hjt
                    obtain ⟨g, c, e1, x0, x1, _⟩ := hrw.cell j hjt hjv
                    obtain ⟨b, off, uu, e2, y0, y1, hs⟩ := HCELL.out wr (grown_trans G5.out hg) j hjl
                    have ho := hrw.each j hjv hjt
                    rw [List.getElem_take] at ho x0
                    obtain ⟨xa, xc, hx⟩ := ho.seg.shape
                    obtain ⟨ya, yc, hy⟩ := hs.shape
                    subst hy
                    rw [hx] at x1
                    obtain ⟨m, hm⟩ : ∃ m, fs[j].2.length = m := ⟨_, rfl⟩
                    have HM : Hid _ := hm
                    obtain ⟨kd, hkd⟩ : ∃ kd, fs[j].1 = kd := ⟨_, rfl⟩
                    have hml : m ≤ 1048576 := by rw [← hm]; exact HSM.out.bod fs[j] (List.getElem_mem hjl)
                    rw [hm] at x1 y1 hx
                    rw [hkd] at x0 y0
                    have HSG : Hid (Seg wr (.slice xa m xc) fs[j].2 ∧ Seg wr (.slice ya m yc) fs[j].2) := by
                      refine ⟨?_, ?_⟩
                      · rw [← hx]; exact ho.seg
                      · rw [← hm]; exact hs
                    have e1a := (Value.slice.inj e1).1
                    clear e1
                    subst e1a
                    first | subst e2 | (have e2a := Option.some.inj e2; injection e2a with q1 q2; subst q1; subst q2)
                    obtain ⟨pl, hpl⟩ : ∃ pl, (flat (fs.take j)).length = pl := ⟨_, rfl⟩
                    have HPL : Hid _ := hpl
                    have hpn : pl ≤ 16777216 := by rw [← hpl]; exact Nat.le_trans (flat_take_le fs j) HSM.out.flat
                    rw [hpl]
                    have HQ : Hid (∀ x : World, wr.grownBy x none → x.cell? ⟨g, j * 2, none⟩ = some (.int .i64 kd) ∧ x.cell? ⟨g, j * 2 + 1, none⟩ = some (.slice xa m xc) ∧ x.cell? ⟨b, off + j * 2, none⟩ = some (.int .i64 kd) ∧ x.cell? ⟨b, off + j * 2 + 1, none⟩ = some (.slice ya m yc)) := fun x hx => ⟨hx.cell x0 (by simp), hx.cell x1 (by simp), hx.cell y0 (by simp), hx.cell y1 (by simp)⟩
                    clear x0 x1 y0 y1 hs ho hrw hg hpl hm hkd hx
                    have i1 : (0 : Int) ≤ (j : Int) := by omega
                    have i2 : (j : Int) < (n2 : Int) := by omega
                    have i3 : (j : Int) < (k : Int) := by omega
                    have i4 : j < k := by omega
                    clear hn2k hp2s hlt2
                    go_wp2_with fail
                    refine wp_region_noPanic ?_
                    refine wp_region_hold 1000 (fun x => wr.grownBy x none) (by kernel_rfl) ?_
                    refine wpHold_take (i := 0) (v := _) (grown_drew _ _) rfl rfl (by kernel_rfl) (by kernel_rfl) (by kernel_rfl) (by kernel_rfl) (by kernel_rfl) (fun _ _ _ h => h) (by rfl) (fun wk hk => by obtain ⟨k0, k1, k2, k3⟩ := HQ.out wk hk; go_simp; try rfl) ?_
                    try simp only [Act.put, List.setIfInBounds_toArray, List.set_cons_zero, List.set_cons_succ]
                    refine wpHold_take (i := 1) (v := _) (grown_drew _ _) rfl rfl (by kernel_rfl) (by kernel_rfl) (by kernel_rfl) (by kernel_rfl) (by kernel_rfl) (fun _ _ _ h => h) (by rfl) (fun wk hk => by obtain ⟨k0, k1, k2, k3⟩ := HQ.out wk hk; go_simp; try rfl) ?_
                    try simp only [Act.put, List.setIfInBounds_toArray, List.set_cons_zero, List.set_cons_succ]
                    refine wpHold_take (i := 2) (v := _) (grown_drew _ _) rfl rfl (by kernel_rfl) (by kernel_rfl) (by kernel_rfl) (by kernel_rfl) (by kernel_rfl) (fun _ _ _ h => h) (by rfl) (fun wk hk => by obtain ⟨k0, k1, k2, k3⟩ := HQ.out wk hk; go_simp; try rfl) ?_
                    try simp only [Act.put, List.setIfInBounds_toArray, List.set_cons_zero, List.set_cons_succ]
                    refine wpHold_take (i := 3) (v := _) (grown_drew _ _) rfl rfl (by kernel_rfl) (by kernel_rfl) (by kernel_rfl) (by kernel_rfl) (by kernel_rfl) (fun _ _ _ h => h) (by rfl) (fun wk hk => by obtain ⟨k0, k1, k2, k3⟩ := HQ.out wk hk; go_simp; try rfl) ?_
                    try simp only [Act.put, List.setIfInBounds_toArray, List.set_cons_zero, List.set_cons_succ]
                    refine wpHold_take (i := 4) (v := _) (grown_drew _ _) rfl rfl (by kernel_rfl) (by kernel_rfl) (by kernel_rfl) (by kernel_rfl) (by kernel_rfl) (fun _ _ _ h => h) (by rfl) (fun wk hk => by obtain ⟨k0, k1, k2, k3⟩ := HQ.out wk hk; go_simp; try rfl) ?_
                    try simp only [Act.put, List.setIfInBounds_toArray, List.set_cons_zero, List.set_cons_succ]
                    refine wpHold_take (i := 5) (v := _) (grown_drew _ _) rfl rfl (by kernel_rfl) (by kernel_rfl) (by kernel_rfl) (by kernel_rfl) (by kernel_rfl) (fun _ _ _ h => h) (by rfl) (fun wk hk => by obtain ⟨k0, k1, k2, k3⟩ := HQ.out wk hk; go_simp; try rfl) ?_
                    try simp only [Act.put, List.setIfInBounds_toArray, List.set_cons_zero, List.set_cons_succ]
                    refine wpHold_take (i := 6) (v := _) (grown_drew _ _) rfl rfl (by kernel_rfl) (by kernel_rfl) (by kernel_rfl) (by kernel_rfl) (by kernel_rfl) (fun _ _ _ h => h) (by rfl) (fun wk hk => by obtain ⟨k0, k1, k2, k3⟩ := HQ.out wk hk; go_simp; try rfl) ?_
                    try simp only [Act.put, List.setIfInBounds_toArray, List.set_cons_zero, List.set_cons_succ]
                    refine wpHold_take (i := 7) (v := _) (grown_drew _ _) rfl rfl (by kernel_rfl) (by kernel_rfl) (by kernel_rfl) (by kernel_rfl) (by kernel_rfl) (fun _ _ _ h => h) (by rfl) (fun wk hk => by obtain ⟨k0, k1, k2, k3⟩ := HQ.out wk hk; go_simp; try rfl) ?_
                    try simp only [Act.put, List.setIfInBounds_toArray, List.set_cons_zero, List.set_cons_succ]
                    refine wpHold_one (i := 8) rfl (by kernel_rfl) (by rfl) (fun K hK => ?_)
                    go_simp
                    refine (same16 kd kd (.slice xa m xc) (.slice ya m yc) fs[j].2 fs[j].2 _ (HSG.out.1.grown (grown_drew _ _)) (HSG.out.2.grown (grown_drew _ _))).mono ?_
                    rintro e w6 ⟨rfl, g6⟩
                    have G6 : Hid (wr.grownBy w6 none) := grown_trans (grown_drew _ _) g6
                    clear g6
                    have dt : decide (kd = kd ∧ fs[j].2 = fs[j].2) = true := by simp
                    rw [dt]
                    clear dt
                    go_wp2_with fail
                    refine hK.out _ _ (fun _ => G6.out) ?_
                    clear hK K
                    try simp only [Act.put, List.setIfInBounds_toArray, List.set_cons_zero, List.set_cons_succ]
                    refine wpHold_take (i := 9) (v := _) (G6.out) rfl rfl (by kernel_rfl) (by kernel_rfl) (by kernel_rfl) (by kernel_rfl) (by kernel_rfl) (fun _ _ _ h => h) (by rfl) (fun wk hk => by obtain ⟨k0, k1, k2, k3⟩ := HQ.out wk hk; go_simp; try rfl) ?_
                    try simp only [Act.put, List.setIfInBounds_toArray, List.set_cons_zero, List.set_cons_succ]
                    refine wpHold_done (by kernel_rfl) ?_
                    refine (‹∀ (a : Act) (w : World), Code.wp Try.prog _ _ a w → _› _ _ ?_)
                    obtain ⟨k0, k1, k2, k3⟩ := HQ.out w6 G6.out
                    have HP : Hid ((flat (fs.take (j + 1))).length = pl + (9 + m)) := by unfold Hid; rw [flat_take_len fs j hjl, HPL.out, HM.out]
                    go_wp2_with (go_at_call 9; refine (size9s _ m _ _ (by omega)).mono ?_; rintro e wx ⟨rfl, hx⟩; rw [hx]; clear hx)
                    go_roundw
                    case rel =>
                      first
                        | refine ⟨j + 1, by omega, ?_, ?_, grown_trans HGQ.out G6.out⟩
                        | refine ⟨_, _, _, _, _, _, _, _, _, _, _, _, _, _, _, _, _, _, _, _, _, _, _, _, _, _, _, ⟨j + 1, by omega, ?_, ?_, grown_trans HGQ.out G6.out⟩, rfl⟩
                      · rw [HP.out]; go_num
                      · go_num
                    case measure => simp [intOf]; omega
                  · obtain rfl : n2 = j := by omega
                    clear hg
                    rw [HP2.out]
                    by_cases hnk : n2 < k
                    · have hnl : n2 < fs.length := by have := HNL.out; omega
                      have hni : (n2 : Int) < (k : Int) := by omega
                      have hn0 : (0 : Int) ≤ (n2 : Int) := by omega
                      obtain ⟨b, off, uu, e2, y0, y1, hs⟩ := HCELL.out wr (grown_trans G5.out HGQ.out) n2 hnl
                      first | subst e2 | (have e2a := Option.some.inj e2; injection e2a with q1 q2; subst q1; subst q2)
                      obtain ⟨ya, yc, hy⟩ := hs.shape
                      subst hy
                      obtain ⟨m3, hm3⟩ : ∃ m3, fs[n2].2.length = m3 := ⟨_, rfl⟩
                      have hm3l : m3 ≤ 1048576 := by rw [← hm3]; exact HSM.out.bod fs[n2] (List.getElem_mem hnl)
                      have hnx2 := HNX.out (by have := HNL.out; omega)
                      rw [flat_take_len fs n2 hnl, HP2.out, hm3] at hnx2
                      rw [hm3] at y1
                      have hle : ¬ ((p2 : Int) + (9 + (m3 : Int))) ≤ (ct : Int) := by omega
                      have hle2 : ¬ (p2 + (9 + m3)) ≤ ct := by omega
                      clear hs hm3 hnx2
                      go_upto_region 40 with (go_at_call 9; refine (size9s _ m3 _ _ (by omega)).mono ?_; rintro e wx ⟨rfl, hx⟩; rw [hx]; clear hx)
                      by_cases hz : k = 0
                      · subst hz
                        go_wp2_with fail
                        go_ret
                        exact ⟨rfl, grown_trans G5.out HGQ.out⟩
                      · have hz2 : ¬ (k : Int) = 0 := by omega
                        have hz3 : (0 : Int) < (k : Int) := by omega
                        have hz4 : 0 < k := by omega
                        have h0l : 0 < fs.length := by have := HNL.out; omega
                        obtain ⟨b, off, uu, e2, y0, y1, hs⟩ := HCELL.out wr (grown_trans G5.out HGQ.out) 0 h0l
                        first | subst e2 | (have e2a := Option.some.inj e2; injection e2a with q1 q2; subst q1; subst q2)
                        obtain ⟨ya, yc, hy⟩ := hs.shape
                        have HSG : Hid (Seg wr uu fs[0].2) := hs
                        have hk0 := HK.out fs[0] (List.getElem_mem h0l)
                        have hb0 := HSM.out.bod fs[0] (List.getElem_mem h0l)
                        simp only [Nat.zero_mul, Nat.add_zero] at y0 y1
                        subst hy
                        obtain ⟨m0, hm0⟩ : ∃ m0, fs[0].2.length = m0 := ⟨_, rfl⟩
                        rw [hm0] at y1 HSG hb0
                        obtain ⟨kd0, hkd0⟩ : ∃ kd0, fs[0].1 = kd0 := ⟨_, rfl⟩
                        rw [hkd0] at y0 hk0
                        have HK0 : Hid _ := hk0
                        have HB0 : Hid (fs[0].2.length ≤ 1048576) := by rw [hm0]; exact hb0
                        clear hs hm0 hkd0 hk0 hb0
                        go_wp2_with fail
                        refine (other19 kd0 bit _ fs[0].2 _ HSG.out HB0.out HK0.out HB.out).mono ?_
                        rintro e w9 ⟨rfl, g9⟩
                        have G9 : Hid (w.grownBy w9 none) := grown_trans (grown_trans G5.out HGQ.out) g9
                        clear g9
                        go_wp2_with fail
                        go_ret
                        exact ⟨rfl, G9.out⟩
                    · obtain rfl : k = n2 := by omega
                      go_upto_region 40 with fail
                      by_cases hz : k = 0
                      · subst hz
                        go_wp2_with fail
                        go_ret
                        exact ⟨rfl, grown_trans G5.out HGQ.out⟩
                      · have hz2 : ¬ (k : Int) = 0 := by omega
                        have hz3 : (0 : Int) < (k : Int) := by omega
                        have hz4 : 0 < k := by omega
                        have h0l : 0 < fs.length := by have := HNL.out; omega
                        obtain ⟨b, off, uu, e2, y0, y1, hs⟩ := HCELL.out wr (grown_trans G5.out HGQ.out) 0 h0l
                        first | subst e2 | (have e2a := Option.some.inj e2; injection e2a with q1 q2; subst q1; subst q2)
                        obtain ⟨ya, yc, hy⟩ := hs.shape
                        have HSG : Hid (Seg wr uu fs[0].2) := hs
                        have hk0 := HK.out fs[0] (List.getElem_mem h0l)
                        have hb0 := HSM.out.bod fs[0] (List.getElem_mem h0l)
                        simp only [Nat.zero_mul, Nat.add_zero] at y0 y1
                        subst hy
                        obtain ⟨m0, hm0⟩ : ∃ m0, fs[0].2.length = m0 := ⟨_, rfl⟩
                        rw [hm0] at y1 HSG hb0
                        obtain ⟨kd0, hkd0⟩ : ∃ kd0, fs[0].1 = kd0 := ⟨_, rfl⟩
                        rw [hkd0] at y0 hk0
                        have HK0 : Hid _ := hk0
                        have HB0 : Hid (fs[0].2.length ≤ 1048576) := by rw [hm0]; exact hb0
                        clear hs hm0 hkd0 hk0 hb0
                        go_wp2_with fail
                        refine (other19 kd0 bit _ fs[0].2 _ HSG.out HB0.out HK0.out HB.out).mono ?_
                        rintro e w9 ⟨rfl, g9⟩
                        have G9 : Hid (w.grownBy w9 none) := grown_trans (grown_trans G5.out HGQ.out) g9
                        clear g9
                        go_wp2_with fail
                        go_ret
                        exact ⟨rfl, G9.out⟩
            · by_cases hneg : 0 ≤ cut
              · have hc1 : ¬ cut < (N : Int) := fun h => hcut ⟨hneg, h⟩
                go_upto_region 40 with fail
                by_cases hz : k = 0
                · subst hz
                  go_wp2_with fail
                  go_ret
                  exact ⟨rfl, grown_trans G3.out HGQ.out⟩
                · have hz2 : ¬ (k : Int) = 0 := by omega
                  have hz3 : (0 : Int) < (k : Int) := by omega
                  have hz4 : 0 < k := by omega
                  have h0l : 0 < fs.length := by have := HNL.out; omega
                  obtain ⟨b, off, uu, e2, y0, y1, hs⟩ := HCELL.out wr (grown_trans G3.out HGQ.out) 0 h0l
                  first | subst e2 | (have e2a := Option.some.inj e2; injection e2a with q1 q2; subst q1; subst q2)
                  obtain ⟨ya, yc, hy⟩ := hs.shape
                  have HSG : Hid (Seg wr uu fs[0].2) := hs
                  have hk0 := HK.out fs[0] (List.getElem_mem h0l)
                  have hb0 := HSM.out.bod fs[0] (List.getElem_mem h0l)
                  simp only [Nat.zero_mul, Nat.add_zero] at y0 y1
                  subst hy
                  obtain ⟨m0, hm0⟩ : ∃ m0, fs[0].2.length = m0 := ⟨_, rfl⟩
                  rw [hm0] at y1 HSG hb0
                  obtain ⟨kd0, hkd0⟩ : ∃ kd0, fs[0].1 = kd0 := ⟨_, rfl⟩
                  rw [hkd0] at y0 hk0
                  have HK0 : Hid _ := hk0
                  have HB0 : Hid (fs[0].2.length ≤ 1048576) := by rw [hm0]; exact hb0
                  clear hs hm0 hkd0 hk0 hb0
                  go_wp2_with fail
                  refine (other19 kd0 bit _ fs[0].2 _ HSG.out HB0.out HK0.out HB.out).mono ?_
                  rintro e w9 ⟨rfl, g9⟩
                  have G9 : Hid (w.grownBy w9 none) := grown_trans (grown_trans G3.out HGQ.out) g9
                  clear g9
                  go_wp2_with fail
                  go_ret
                  exact ⟨rfl, G9.out⟩
              · have hc1 : ¬ 0 ≤ cut := hneg
                go_upto_region 40 with fail
                by_cases hz : k = 0
                · subst hz
                  go_wp2_with fail
                  go_ret
                  exact ⟨rfl, grown_trans G3.out HGQ.out⟩
                · have hz2 : ¬ (k : Int) = 0 := by omega
                  have hz3 : (0 : Int) < (k : Int) := by omega
                  have hz4 : 0 < k := by omega
                  have h0l : 0 < fs.length := by have := HNL.out; omega
                  obtain ⟨b, off, uu, e2, y0, y1, hs⟩ := HCELL.out wr (grown_trans G3.out HGQ.out) 0 h0l
                  first | subst e2 | (have e2a := Option.some.inj e2; injection e2a with q1 q2; subst q1; subst q2)
                  obtain ⟨ya, yc, hy⟩ := hs.shape
                  have HSG : Hid (Seg wr uu fs[0].2) := hs
                  have hk0 := HK.out fs[0] (List.getElem_mem h0l)
                  have hb0 := HSM.out.bod fs[0] (List.getElem_mem h0l)
                  simp only [Nat.zero_mul, Nat.add_zero] at y0 y1
                  subst hy
                  obtain ⟨m0, hm0⟩ : ∃ m0, fs[0].2.length = m0 := ⟨_, rfl⟩
                  rw [hm0] at y1 HSG hb0
                  obtain ⟨kd0, hkd0⟩ : ∃ kd0, fs[0].1 = kd0 := ⟨_, rfl⟩
                  rw [hkd0] at y0 hk0
                  have HK0 : Hid _ := hk0
                  have HB0 : Hid (fs[0].2.length ≤ 1048576) := by rw [hm0]; exact hb0
                  clear hs hm0 hkd0 hk0 hb0
                  go_wp2_with fail
                  refine (other19 kd0 bit _ fs[0].2 _ HSG.out HB0.out HK0.out HB.out).mono ?_
                  rintro e w9 ⟨rfl, g9⟩
                  have G9 : Hid (w.grownBy w9 none) := grown_trans (grown_trans G3.out HGQ.out) g9
                  clear g9
                  go_wp2_with fail
                  go_ret
                  exact ⟨rfl, G9.out⟩
end Go.Proofs.Ytdfdlkpljgpckaa
